import PyProof.Rows.All
import Wide.All
import OpenK.AllK
import Wide.FinOn
import HandS.ForMost
import HandS.ForSpec
import HandS.Flow
import HandS.TupAny
import HandS.TupMul
import HandS.TryOnly
import HandS.CallSlots
import HandS.RevRange
import HandS.Rev
import HandS.Zip
import HandS.Star
import HandS.Wide
import HandS.IsInst
import HandS.Defaults
import HandS.ExcBuiltin
import HandS.HeadHook2
import HandS.Head2
import HandS.HeadEnd
import KE.DataCmp
import KE.DataEq
import KE.DataFind
import HandS.ExcIs
import KE.GoesMore
import HandS.Dict
import HandS.DictComp
import HandS.Style
import HandS.Text
import HandS.FStr
import HandS.RaiseMore
import KE.KUnpackStar
import HandS.WrittenGet
import KE.GoesComp
import HandS.Head1
import HandS.Words
import HandS.HeadHook3
import PySem.Challenge.RW_treegarb_k03_notation
set_option Elab.async false
set_option linter.all false
set_option maxRecDepth 100000
namespace TL
open PySem PySem.Spec
open PyProof.Rows L2

abbrev D := PyData
/-- things that change no more: data, a dict, an object by its class's name -/
inductive Fv where
  | d (x : D)
  | dct (kvs : List (Key × D))
  | obj (c : Str) (fs : List (Str × Fv))
/-- a value of the mirror: data; a mutable object by its number; a list that is only read; a caught error; what changes no more -/
inductive Vl where
  | d (x : D)
  | loc (n : Nat)
  | ro (xs : List D)
  | ex (c : Str)
  | fz (f : Fv)
/-- a list; a list that is sealed; an object while it is made -/
inductive Cell where
  | lst (xs : List D)
  | sld (xs : List D)
  | ins (c : Str) (fs : List (Str × Fv))
  | dct (kvs : List (Key × D))
/-- where the cells are: their addresses, those that are sealed -/
structure Fm where
  l : List Addr
  s : List Addr
instance : Membership Addr Fm := ⟨fun φ a => a ∈ φ.l ∧ a ∉ φ.s⟩
abbrev Fm.push (φ : Fm) (p : Addr) : Fm := ⟨φ.l ++ [p], φ.s⟩
abbrev Fm.cut (φ : Fm) (n : Nat) : Fm := ⟨φ.l.take n, φ.s⟩
theorem Fm.mem {φ : Fm} {a : Addr} : a ∈ φ ↔ a ∈ φ.l ∧ a ∉ φ.s := Iff.rfl
theorem Fm.nl {φ : Fm} {a : Addr} (h : a ∉ φ.l) : a ∉ φ := fun q => h q.1
abbrev Store := List Cell
abbrev Rho := List (Option Vl)

/-! ### data on the abstract heap -/
def WT (K : PySem.W.Frag) (a : Addr) (xs : List V) : Prop :=
  ∃ (o : Obj) (its : Array Value) (n : Nat), K.lookup a = some o ∧ o.cls = .type "tuple" ∧ o.data = .seq its n ∧ its.size ≤ sizeLine ∧ Vals xs its.toList
def WL (K : PySem.W.Frag) (a : Addr) (xs : List V) : Prop :=
  ∃ (o : Obj) (its : Array Value) (n : Nat), K.lookup a = some o ∧ o.cls = .type "list" ∧ o.dict = none ∧ o.data = .seq its n ∧ its.size ≤ sizeLine ∧ Vals xs its.toList
section
variable (K : PySem.W.Frag) (φ : Fm) (H : Hp)
def NT (a : Addr) (vs : List V) : Prop := (H a = some (.tup vs) ∧ a ∉ φ) ∨ WT K a vs
def NR (a : Addr) (vs : List V) : Prop := ((∃ o, H a = some (.frz o (.lst vs))) ∧ a ∉ φ) ∨ WL K a vs
mutual
def DR : D → V → Prop
  | .none, v => v = .non
  | .bool b, v => v = .bl b
  | .int i, v => v = .int i
  | .str x, v => v = .str x
  | .list xs, v => ∃ a vs, v = .ref a ∧ H a = some (.lst vs) ∧ a ∉ φ ∧ DRs xs vs
  | .tuple xs, v => ∃ a vs, v = .ref a ∧ NT K φ H a vs ∧ DRs xs vs
  | .dict _, _ => False
def DRs : List D → List V → Prop
  | [], vs => vs = []
  | x :: xs, vs => ∃ v r, vs = v :: r ∧ DR x v ∧ DRs xs r
end
/-- xa: which addresses hold a caught exception, of which class -/
def KR (kvs : List (Key × D)) (ws : List (Key × V)) : Prop := ws.map (·.1) = kvs.map (·.1) ∧ DRs K φ H (kvs.map (·.2)) (ws.map (·.2))
mutual
def FR : Fv → V → Prop
  | .d x, v => DR K φ H x v
  | .dct kvs, v => ∃ a ws, v = .ref a ∧ H a = some (.dK ws) ∧ a ∉ φ ∧ KR K φ H kvs ws
  | .obj c fs, v => ∃ a dx ws, v = .ref a ∧ H a = some (.ins (He.ga K c) dx ws) ∧ a ∉ φ ∧ FRs fs ws
def FRs : List (Str × Fv) → List (Str × V) → Prop
  | [], ws => ws = []
  | f :: fs, ws => ∃ v r, ws = (f.1, v) :: r ∧ FR f.2 v ∧ FRs fs r
end
def VR (xa : Addr → Str → Prop) : Vl → V → Prop
  | .d x, v => DR K φ H x v
  | .loc n, v => ∃ a, v = .ref a ∧ φ.l[n]? = some a
  | .ro xs, v => ∃ a vs, v = .ref a ∧ NR K φ H a vs ∧ DRs K φ H xs vs
  | .ex c, v => ∃ a, v = .ref a ∧ xa a c
  | .fz f, v => FR K φ H f v
def VRs (xa : Addr → Str → Prop) : List Vl → List V → Prop
  | [], vs => vs = []
  | x :: xs, vs => ∃ v r, vs = v :: r ∧ VR K φ H xa x v ∧ VRs xa xs r
def CR (a : Addr) : Cell → Prop
  | .lst xs => (∃ vs, H a = some (.lst vs) ∧ DRs K φ H xs vs) ∧ a ∉ φ.s
  | .sld xs => (∃ vs, H a = some (.lst vs) ∧ DRs K φ H xs vs) ∧ a ∈ φ.s
  | .ins c fs => (∃ dx ws, H a = some (.ins (He.ga K c) dx ws) ∧ FRs K φ H fs ws) ∧ a ∉ φ.s
  | .dct kvs => (∃ ws, H a = some (.dK ws) ∧ KR K φ H kvs ws) ∧ a ∉ φ.s
end
/-- sizes -/
def Sz (H : Hp) : Prop := ∀ a xs, (Rd H a (.lst xs) ∨ Rd H a (.tup xs)) → xs.length ≤ sizeLine
structure Sto (K : PySem.W.Frag) (φ : Fm) (M : Store) (H : Hp) : Prop where
  sz : Sz H
  nd : φ.l.Nodup
  ln : φ.l.length = M.length
  cl : ∀ (n : Nat) (c : Cell) (a : Addr), M[n]? = some c → φ.l[n]? = some a → CR K φ H a c
  sx : ∀ a ∈ φ.s, H a ≠ none
def EnvR (K : PySem.W.Frag) (xa : Addr → Str → Prop) (φ : Fm) (H : Hp) (ρ : Rho) (σ : L2.St) : Prop :=
  ρ.length = σ.length ∧ ∀ (i : Nat) (x : Vl), ρ[i]? = some (some x) → ∃ v, σ[i]? = some (some v) ∧ VR K φ H xa x v
abbrev Keep (φ : Fm) (H : Hp) (φ' : Fm) (H' : Hp) : Prop := ∀ a o, H a = some o → a ∉ φ → H' a = some o ∧ a ∉ φ'
structure Ext (φ : Fm) (H : Hp) (φ' : Fm) (H' : Hp) : Prop where
  pre : φ.l <+: φ'.l
  keep : Keep φ H φ' H'
theorem Ext.refl {φ : Fm} {H : Hp} : Ext φ H φ H := ⟨List.prefix_refl _, fun _ _ h n => ⟨h, n⟩⟩
theorem Ext.trans {φ φ1 φ2 : Fm} {H H1 H2 : Hp} (a : Ext φ H φ1 H1) (b : Ext φ1 H1 φ2 H2) : Ext φ H φ2 H2 :=
  ⟨a.pre.trans b.pre, fun x o h n => let ⟨h1, n1⟩ := a.keep x o h n; b.keep x o h1 n1⟩
theorem Ext.at {φ φ' : Fm} {H H' : Hp} (e : Ext φ H φ' H') {n : Nat} {a : Addr} (h : φ.l[n]? = some a) : φ'.l[n]? = some a := by
  obtain ⟨t, ht⟩ := e.pre
  obtain ⟨hl, _⟩ := List.getElem?_eq_some_iff.mp h
  rw [← ht, List.getElem?_append_left hl]
  exact h
section
variable {K : PySem.W.Frag} {φ φ' : Fm} {H H' : Hp}
theorem NT.kp {a : Addr} {vs : List V} (e : Keep φ H φ' H') (h : NT K φ H a vs) : NT K φ' H' a vs := by
  rcases h with ⟨h, n⟩ | h
  · exact .inl (e a _ h n)
  · exact .inr h
theorem NR.kp {a : Addr} {vs : List V} (e : Keep φ H φ' H') (h : NR K φ H a vs) : NR K φ' H' a vs := by
  rcases h with ⟨⟨o, h⟩, n⟩ | h
  · exact .inl ⟨⟨o, (e a _ h n).1⟩, (e a _ h n).2⟩
  · exact .inr h
theorem NT.sq {a : Addr} {vs : List V} (h : NT K φ H a vs) : SqT K H a vs := by
  rcases h with ⟨h, _⟩ | h
  · exact .inl (.inl h)
  · exact .inr h
theorem NR.sq {a : Addr} {vs : List V} (h : NR K φ H a vs) : SqL K H a vs := by
  rcases h with ⟨⟨o, h⟩, _⟩ | h
  · exact .inl (.inr ⟨o, h⟩)
  · exact .inr h
mutual
theorem DR.kp (e : Keep φ H φ' H') : ∀ (x : D) (v : V), DR K φ H x v → DR K φ' H' x v
  | .none, _, h => by simpa [DR] using h
  | .bool _, _, h => by simpa [DR] using h
  | .int _, _, h => by simpa [DR] using h
  | .str _, _, h => by simpa [DR] using h
  | .list xs, v, h => by
    simp only [DR] at h ⊢
    obtain ⟨a, vs, rfl, h1, h2, h3⟩ := h
    exact ⟨a, vs, rfl, (e a _ h1 h2).1, (e a _ h1 h2).2, DRs.kp e xs vs h3⟩
  | .tuple xs, v, h => by
    simp only [DR] at h ⊢
    obtain ⟨a, vs, rfl, h1, h3⟩ := h
    exact ⟨a, vs, rfl, h1.kp e, DRs.kp e xs vs h3⟩
  | .dict _, _, h => by simp only [DR] at h
theorem DRs.kp (e : Keep φ H φ' H') : ∀ (xs : List D) (vs : List V), DRs K φ H xs vs → DRs K φ' H' xs vs
  | [], _, h => by simpa [DRs] using h
  | x :: xs, vs, h => by
    simp only [DRs] at h ⊢
    obtain ⟨v, r, rfl, h1, h2⟩ := h
    exact ⟨v, r, rfl, DR.kp e x v h1, DRs.kp e xs r h2⟩
end
theorem DR.ext (e : Ext φ H φ' H') (x : D) (v : V) (h : DR K φ H x v) : DR K φ' H' x v := DR.kp e.keep x v h
theorem DRs.ext (e : Ext φ H φ' H') (xs : List D) (vs : List V) (h : DRs K φ H xs vs) : DRs K φ' H' xs vs := DRs.kp e.keep xs vs h
theorem KR.kp (e : Keep φ H φ' H') {kvs : List (Key × D)} {ws : List (Key × V)} (h : KR K φ H kvs ws) : KR K φ' H' kvs ws := ⟨h.1, DRs.kp e _ _ h.2⟩
mutual
theorem FR.kp (e : Keep φ H φ' H') : ∀ (f : Fv) (v : V), FR K φ H f v → FR K φ' H' f v
  | .d x, v, h => by simp only [FR] at h ⊢; exact DR.kp e x v h
  | .dct kvs, v, h => by
    simp only [FR] at h ⊢
    obtain ⟨a, ws, rfl, h1, h2, h3⟩ := h
    exact ⟨a, ws, rfl, (e a _ h1 h2).1, (e a _ h1 h2).2, h3.kp e⟩
  | .obj c fs, v, h => by
    simp only [FR] at h ⊢
    obtain ⟨a, dx, ws, rfl, h1, h2, h3⟩ := h
    exact ⟨a, dx, ws, rfl, (e a _ h1 h2).1, (e a _ h1 h2).2, FRs.kp e fs ws h3⟩
theorem FRs.kp (e : Keep φ H φ' H') : ∀ (fs : List (Str × Fv)) (ws : List (Str × V)), FRs K φ H fs ws → FRs K φ' H' fs ws
  | [], _, h => by simpa [FRs] using h
  | f :: fs, ws, h => by
    simp only [FRs] at h ⊢
    obtain ⟨v, r, rfl, h1, h2⟩ := h
    exact ⟨v, r, rfl, FR.kp e f.2 v h1, FRs.kp e fs r h2⟩
end
theorem VR.ext {xa : Addr → Str → Prop} (e : Ext φ H φ' H') {x : Vl} {v : V} (h : VR K φ H xa x v) : VR K φ' H' xa x v := by
  cases x with
  | d x => exact DR.ext e x v h
  | loc n => obtain ⟨a, rfl, h⟩ := h; exact ⟨a, rfl, e.at h⟩
  | ro xs => obtain ⟨a, vs, rfl, h1, h2⟩ := h; exact ⟨a, vs, rfl, h1.kp e.keep, DRs.ext e xs vs h2⟩
  | ex c => exact h
  | fz f => exact FR.kp e.keep f v h
theorem VRs.ext {xa : Addr → Str → Prop} (e : Ext φ H φ' H') : ∀ {xs : List Vl} {vs : List V}, VRs K φ H xa xs vs → VRs K φ' H' xa xs vs
  | [], _, h => h
  | x :: xs, vs, h => by
    obtain ⟨v, r, rfl, h1, h2⟩ := h
    exact ⟨v, r, rfl, h1.ext e, VRs.ext e h2⟩
theorem EnvR.ext {xa : Addr → Str → Prop} (e : Ext φ H φ' H') {ρ : Rho} {σ : L2.St} (h : EnvR K xa φ H ρ σ) : EnvR K xa φ' H' ρ σ :=
  ⟨h.1, fun i x q => let ⟨v, h1, h2⟩ := h.2 i x q; ⟨v, h1, h2.ext e⟩⟩
mutual
theorem DR.dp : ∀ (x : D) (v : V), DR K φ H x v → Dp K H v x
  | .none, _, h => by simp only [DR] at h; subst h; exact .non
  | .bool _, _, h => by simp only [DR] at h; subst h; exact .bl _
  | .int _, _, h => by simp only [DR] at h; subst h; exact .int _
  | .str _, _, h => by simp only [DR] at h; subst h; exact .str _
  | .list xs, v, h => by
    simp only [DR] at h
    obtain ⟨a, vs, rfl, h1, h2, h3⟩ := h
    exact .lst (SqL.of h1) (DRs.dp xs vs h3)
  | .tuple xs, v, h => by
    simp only [DR] at h
    obtain ⟨a, vs, rfl, h1, h3⟩ := h
    exact .tup h1.sq (DRs.dp xs vs h3)
  | .dict _, _, h => by simp only [DR] at h
theorem DRs.dp : ∀ (xs : List D) (vs : List V), DRs K φ H xs vs → DpAll K H vs xs
  | [], _, h => by simp only [DRs] at h; subst h; exact .nil
  | x :: xs, vs, h => by
    simp only [DRs] at h
    obtain ⟨v, r, rfl, h1, h2⟩ := h
    exact .cons (DR.dp x v h1) (DRs.dp xs r h2)
end
mutual
theorem DR.plain : ∀ (x : D) (v : V), DR K φ H x v → x.plain = true
  | .none, _, h => rfl
  | .bool _, _, h => rfl
  | .int _, _, h => rfl
  | .str _, _, h => rfl
  | .list xs, v, h => by
    simp only [DR] at h
    obtain ⟨a, vs, rfl, h1, h2, h3⟩ := h
    simp only [PyData.plain]
    exact DRs.plain xs vs h3
  | .tuple xs, v, h => by
    simp only [DR] at h
    obtain ⟨a, vs, rfl, h1, h3⟩ := h
    simp only [PyData.plain]
    exact DRs.plain xs vs h3
  | .dict _, _, h => by simp only [DR] at h
theorem DRs.plain : ∀ (xs : List D) (vs : List V), DRs K φ H xs vs → PyData.plainAll xs = true
  | [], _, h => rfl
  | x :: xs, vs, h => by
    simp only [DRs] at h
    obtain ⟨v, r, rfl, h1, h2⟩ := h
    simp only [PyData.plainAll, DR.plain x v h1, DRs.plain xs r h2, Bool.and_self]
end
/-! ### rows of data -/
theorem DRs.nil : DRs K φ H [] [] := by simp [DRs]
theorem DRs.cons {x : D} {v : V} {xs : List D} {vs : List V} (h : DR K φ H x v) (t : DRs K φ H xs vs) : DRs K φ H (x :: xs) (v :: vs) := by
  simp only [DRs]; exact ⟨v, vs, rfl, h, t⟩
theorem DRs.length : ∀ {xs : List D} {vs : List V}, DRs K φ H xs vs → vs.length = xs.length
  | [], _, h => by simp only [DRs] at h; subst h; rfl
  | x :: xs, vs, h => by
    simp only [DRs] at h
    obtain ⟨v, r, rfl, h1, h2⟩ := h
    simp [DRs.length h2]
theorem DRs.get : ∀ {xs : List D} {vs : List V}, DRs K φ H xs vs → ∀ {i : Nat} {x : D}, xs[i]? = some x → ∃ v, vs[i]? = some v ∧ DR K φ H x v
  | [], _, h, i, x, e => by simp at e
  | y :: xs, vs, h, i, x, e => by
    simp only [DRs] at h
    obtain ⟨v, r, rfl, h1, h2⟩ := h
    cases i with
    | zero => simp at e; subst e; exact ⟨v, rfl, h1⟩
    | succ i => exact DRs.get h2 (i := i) (by simpa using e)
theorem DRs.get' : ∀ {xs : List D} {vs : List V}, DRs K φ H xs vs → ∀ {i : Nat} {v : V}, vs[i]? = some v → ∃ x, xs[i]? = some x ∧ DR K φ H x v
  | [], _, h, i, x, e => by simp only [DRs] at h; subst h; simp at e
  | y :: xs, vs, h, i, x, e => by
    simp only [DRs] at h
    obtain ⟨v, r, rfl, h1, h2⟩ := h
    cases i with
    | zero => simp at e; subst e; exact ⟨y, rfl, h1⟩
    | succ i => exact DRs.get' h2 (i := i) (by simpa using e)
theorem DRs.append : ∀ {xs : List D} {vs : List V} {ys : List D} {ws : List V}, DRs K φ H xs vs → DRs K φ H ys ws → DRs K φ H (xs ++ ys) (vs ++ ws)
  | [], _, _, _, h, t => by simp only [DRs] at h; subst h; exact t
  | y :: xs, vs, _, _, h, t => by
    simp only [DRs] at h
    obtain ⟨v, r, rfl, h1, h2⟩ := h
    exact DRs.cons h1 (DRs.append h2 t)
theorem DRs.take : ∀ {xs : List D} {vs : List V} (n : Nat), DRs K φ H xs vs → DRs K φ H (xs.take n) (vs.take n)
  | [], _, n, h => by simp only [DRs] at h; subst h; simpa using DRs.nil
  | y :: xs, vs, 0, h => by simpa using DRs.nil
  | y :: xs, vs, n + 1, h => by
    simp only [DRs] at h
    obtain ⟨v, r, rfl, h1, h2⟩ := h
    simpa using DRs.cons h1 (DRs.take n h2)
theorem DRs.drop : ∀ {xs : List D} {vs : List V} (n : Nat), DRs K φ H xs vs → DRs K φ H (xs.drop n) (vs.drop n)
  | [], _, n, h => by simp only [DRs] at h; subst h; simpa using DRs.nil
  | y :: xs, vs, 0, h => by simpa using h
  | y :: xs, vs, n + 1, h => by
    simp only [DRs] at h
    obtain ⟨v, r, rfl, h1, h2⟩ := h
    simpa using DRs.drop n h2
theorem DRs.set : ∀ {xs : List D} {vs : List V} {x : D} {v : V} (n : Nat), DRs K φ H xs vs → DR K φ H x v → DRs K φ H (xs.set n x) (vs.set n v)
  | [], _, _, _, n, h, _ => by simp only [DRs] at h; subst h; simpa using DRs.nil
  | y :: xs, vs, _, _, 0, h, q => by
    simp only [DRs] at h
    obtain ⟨v, r, rfl, h1, h2⟩ := h
    exact DRs.cons q h2
  | y :: xs, vs, _, _, n + 1, h, q => by
    simp only [DRs] at h
    obtain ⟨v, r, rfl, h1, h2⟩ := h
    exact DRs.cons h1 (DRs.set n h2 q)
theorem DRs.eraseIdx : ∀ {xs : List D} {vs : List V} (n : Nat), DRs K φ H xs vs → DRs K φ H (xs.eraseIdx n) (vs.eraseIdx n)
  | [], _, n, h => by simp only [DRs] at h; subst h; simpa using DRs.nil
  | y :: xs, vs, 0, h => by
    simp only [DRs] at h
    obtain ⟨v, r, rfl, h1, h2⟩ := h
    exact h2
  | y :: xs, vs, n + 1, h => by
    simp only [DRs] at h
    obtain ⟨v, r, rfl, h1, h2⟩ := h
    exact DRs.cons h1 (DRs.eraseIdx n h2)
theorem DRs.dropLast {xs : List D} {vs : List V} (h : DRs K φ H xs vs) : DRs K φ H xs.dropLast vs.dropLast := by
  rw [List.dropLast_eq_take, List.dropLast_eq_take, h.length]
  exact h.take _
theorem DRs.reverse : ∀ {xs : List D} {vs : List V}, DRs K φ H xs vs → DRs K φ H xs.reverse vs.reverse
  | [], _, h => by simp only [DRs] at h; subst h; simpa using DRs.nil
  | y :: xs, vs, h => by
    simp only [DRs] at h
    obtain ⟨v, r, rfl, h1, h2⟩ := h
    rw [List.reverse_cons, List.reverse_cons]
    exact (DRs.reverse h2).append (DRs.cons h1 DRs.nil)
theorem DRs.rep {xs : List D} {vs : List V} (h : DRs K φ H xs vs) : ∀ k : Nat, DRs K φ H (List.replicate k xs).flatten (List.replicate k vs).flatten
  | 0 => by simpa using DRs.nil
  | k + 1 => by
    rw [List.replicate_succ, List.replicate_succ, List.flatten_cons, List.flatten_cons]
    exact h.append (DRs.rep h k)
theorem DRs.one {x : D} {v : V} (h : DR K φ H x v) : DRs K φ H [x] [v] := DRs.cons h DRs.nil
theorem DRs.ints : ∀ (ns : List Int), DRs K φ H (ns.map .int) (ns.map V.int)
  | [] => DRs.nil
  | n :: ns => DRs.cons (by simp [DR]) (DRs.ints ns)
/-! ### the store -/
theorem CR.obj {a : Addr} {c : Cell} (h : CR K φ H a c) : H a ≠ none := by
  cases c with
  | lst xs => obtain ⟨⟨vs, e, _⟩, _⟩ := h; rw [e]; simp
  | sld xs => obtain ⟨⟨vs, e, _⟩, _⟩ := h; rw [e]; simp
  | ins c fs => obtain ⟨⟨dx, ws, e, _⟩, _⟩ := h; rw [e]; simp
  | dct kvs => obtain ⟨⟨ws, e, _⟩, _⟩ := h; rw [e]; simp
theorem Sto.mem {M : Store} (s : Sto K φ M H) {a : Addr} (h : a ∈ φ.l) : H a ≠ none := by
  obtain ⟨n, hn, e⟩ := List.getElem_of_mem h
  have h1 : φ.l[n]? = some a := by rw [List.getElem?_eq_getElem hn, e]
  have h2 : n < M.length := by rw [← s.ln]; exact hn
  exact (s.cl n M[n] a (List.getElem?_eq_getElem h2) h1).obj
theorem Sto.freshl {M : Store} (s : Sto K φ M H) {p : Addr} (h : H p = none) : p ∉ φ.l := fun hm => s.mem hm h
theorem Sto.freshs {M : Store} (s : Sto K φ M H) {p : Addr} (h : H p = none) : p ∉ φ.s := fun hm => s.sx p hm h
theorem Sto.fresh {M : Store} (s : Sto K φ M H) {p : Addr} (h : H p = none) : p ∉ φ := Fm.nl (s.freshl h)
/-- a new object that is no cell -/
theorem Ext.new {M : Store} (s : Sto K φ M H) {p : Addr} {o : HO} (h : H p = none) : Ext φ H φ (upd H p o) :=
  ⟨List.prefix_refl _, fun a u e n => ⟨by rw [upd_ne (ne_of_none e h)]; exact e, n⟩⟩
/-- a new cell -/
theorem Ext.alloc {M : Store} (s : Sto K φ M H) {p : Addr} {o : HO} (h : H p = none) : Ext φ H (φ.push p) (upd H p o) :=
  ⟨List.prefix_append _ _, fun a u e n => ⟨by rw [upd_ne (ne_of_none e h)]; exact e, by
    rintro ⟨h1, h2⟩
    rcases List.mem_append.mp h1 with h1 | h1
    · exact n ⟨h1, h2⟩
    · rw [List.mem_singleton] at h1
      exact ne_of_none e h h1⟩⟩
/-- a cell is written -/
theorem Ext.write {M : Store} (s : Sto K φ M H) {a : Addr} {o : HO} (h : a ∈ φ) : Ext φ H φ (upd H a o) :=
  ⟨List.prefix_refl _, fun b u e n => ⟨by rw [upd_ne (fun z : b = a => n (by rw [z]; exact h))]; exact e, n⟩⟩
def szO : HO → Prop
  | .lst xs => xs.length ≤ sizeLine
  | .tup xs => xs.length ≤ sizeLine
  | .frz _ (.lst xs) => xs.length ≤ sizeLine
  | .frz _ (.tup xs) => xs.length ≤ sizeLine
  | _ => True
theorem Sz.upd (s : Sz H) {p : Addr} {o : HO} (h : szO o) : Sz (L2.upd H p o) := by
  intro a xs r
  by_cases e : a = p
  · subst e
    rcases r with (r | ⟨u, r⟩) | (r | ⟨u, r⟩) <;> (rw [upd_same] at r; cases r; exact h)
  · refine s a xs ?_
    rcases r with (r | ⟨u, r⟩) | (r | ⟨u, r⟩) <;> rw [upd_ne e] at r
    · exact .inl (.inl r)
    · exact .inl (.inr ⟨u, r⟩)
    · exact .inr (.inl r)
    · exact .inr (.inr ⟨u, r⟩)
theorem CR.kp (e : Keep φ H φ' H') (es : φ'.s = φ.s) {a : Addr} (k : H' a = H a) {c : Cell} (h : CR K φ H a c) : CR K φ' H' a c := by
  cases c with
  | lst xs =>
    obtain ⟨⟨vs, h1, h2⟩, h3⟩ := h
    exact ⟨⟨vs, k.trans h1, DRs.kp e xs vs h2⟩, by rw [es]; exact h3⟩
  | sld xs =>
    obtain ⟨⟨vs, h1, h2⟩, h3⟩ := h
    exact ⟨⟨vs, k.trans h1, DRs.kp e xs vs h2⟩, by rw [es]; exact h3⟩
  | ins c fs =>
    obtain ⟨⟨dx, ws, h1, h2⟩, h3⟩ := h
    exact ⟨⟨dx, ws, k.trans h1, FRs.kp e fs ws h2⟩, by rw [es]; exact h3⟩
  | dct kvs =>
    obtain ⟨⟨ws, h1, h2⟩, h3⟩ := h
    exact ⟨⟨ws, k.trans h1, h2.kp e⟩, by rw [es]; exact h3⟩
theorem Sto.new {M : Store} (s : Sto K φ M H) {p : Addr} {o : HO} (h : H p = none) (z : szO o) : Sto K φ M (upd H p o) :=
  ⟨s.sz.upd z, s.nd, s.ln, fun n c a e1 e2 => (s.cl n c a e1 e2).kp (Ext.new s h).keep rfl (upd_ne fun q => s.mem (List.mem_of_getElem? e2) (by rw [q]; exact h)),
    fun a ha => by
      by_cases q : a = p
      · subst q; rw [upd_same]; simp
      · rw [upd_ne q]; exact s.sx a ha⟩
/-- a new cell, any kind -/
theorem Sto.allocC {M : Store} (s : Sto K φ M H) {p : Addr} {o : HO} {c : Cell} (h : H p = none) (z : szO o) (hc : CR K (φ.push p) (upd H p o) p c) : Sto K (φ.push p) (M ++ [c]) (upd H p o) where
  sz := s.sz.upd z
  nd := by
    show (φ.l ++ [p]).Nodup
    rw [List.nodup_append]
    refine ⟨s.nd, by simp, fun a h1 b h2 => ?_⟩
    rw [List.mem_singleton] at h2
    subst h2
    intro q; subst q
    exact s.mem h1 h
  ln := by simp [s.ln]
  cl := fun n c' a e1 e2 => by
    have x := Ext.alloc (o := o) s h
    by_cases hn : n < M.length
    · rw [List.getElem?_append_left hn] at e1
      rw [List.getElem?_append_left (by rw [s.ln]; exact hn)] at e2
      exact (s.cl n c' a e1 e2).kp x.keep rfl (upd_ne fun q => s.mem (List.mem_of_getElem? e2) (by rw [q]; exact h))
    · have hl : n < (M ++ [c]).length := (List.getElem?_eq_some_iff.mp e1).1
      have : n = M.length := by simp at hl; omega
      subst this
      rw [List.getElem?_append_right (Nat.le_refl _)] at e1
      rw [← s.ln, List.getElem?_append_right (Nat.le_refl _)] at e2
      simp at e1 e2
      subst e1; subst e2
      exact hc
  sx := fun a ha => by
    by_cases q : a = p
    · subst q; rw [upd_same]; simp
    · rw [upd_ne q]; exact s.sx a ha
theorem Sto.alloc {M : Store} (s : Sto K φ M H) {p : Addr} {xs : List D} {vs : List V} (h : H p = none) (r : DRs K φ H xs vs) (z : xs.length ≤ sizeLine) : Sto K (φ.push p) (M ++ [.lst xs]) (upd H p (.lst vs)) :=
  s.allocC h (by show vs.length ≤ sizeLine; rw [r.length]; exact z) ⟨⟨vs, upd_same, DRs.ext (Ext.alloc s h) xs vs r⟩, s.freshs h⟩
/-- a cell is written, any kind -/
theorem Sto.writeC {M : Store} (s : Sto K φ M H) {n : Nat} {a : Addr} {o : HO} {c : Cell} (h : φ.l[n]? = some a) (ha : a ∉ φ.s) (z : szO o) (hc : CR K φ (upd H a o) a c) : Sto K φ (M.set n c) (upd H a o) where
  sz := s.sz.upd z
  nd := s.nd
  ln := by simp [s.ln]
  cl := fun m c' b e1 e2 => by
    have x := Ext.write (o := o) s (a := a) ⟨List.mem_of_getElem? h, ha⟩
    by_cases hm : n = m
    · subst hm
      rw [h] at e2; cases e2
      have hl : n < M.length := by rw [← s.ln]; exact (List.getElem?_eq_some_iff.mp h).1
      rw [List.getElem?_set_self hl] at e1
      cases e1
      exact hc
    · rw [List.getElem?_set_ne hm] at e1
      refine (s.cl m c' b e1 e2).kp x.keep rfl (upd_ne fun q => ?_)
      subst q
      have h1 := List.getElem?_eq_some_iff.mp h
      have h2 := List.getElem?_eq_some_iff.mp e2
      obtain ⟨l1, q1⟩ := h1
      obtain ⟨l2, q2⟩ := h2
      exact hm ((List.getElem_inj s.nd).mp (q1.trans q2.symm))
  sx := fun b hb => by
    by_cases q : b = a
    · subst q; rw [upd_same]; simp
    · rw [upd_ne q]; exact s.sx b hb
theorem Sto.uns {M : Store} (s : Sto K φ M H) {n : Nat} {a : Addr} {xs : List D} (e : M[n]? = some (.lst xs)) (h : φ.l[n]? = some a) : a ∈ φ := ⟨List.mem_of_getElem? h, (s.cl n _ a e h).2⟩
theorem Sto.write {M : Store} (s : Sto K φ M H) {n : Nat} {a : Addr} {xs ys : List D} {vs : List V} (e : M[n]? = some (.lst ys)) (h : φ.l[n]? = some a) (r : DRs K φ H xs vs) (z : xs.length ≤ sizeLine) : Sto K φ (M.set n (.lst xs)) (upd H a (.lst vs)) :=
  s.writeC h (s.uns e h).2 (by show vs.length ≤ sizeLine; rw [r.length]; exact z) ⟨⟨vs, upd_same, DRs.ext (Ext.write s (s.uns e h)) xs vs r⟩, (s.uns e h).2⟩
theorem Sto.at {M : Store} (s : Sto K φ M H) {n : Nat} {a : Addr} {xs : List D} (e : M[n]? = some (.lst xs)) (h : φ.l[n]? = some a) : ∃ vs, H a = some (.lst vs) ∧ DRs K φ H xs vs := (s.cl n _ a e h).1
theorem Sto.lenOf {M : Store} (s : Sto K φ M H) {a : Addr} {vs : List V} {xs : List D} (h : H a = some (.lst vs)) (r : DRs K φ H xs vs) : xs.length ≤ sizeLine := by
  rw [← r.length]; exact s.sz a vs (.inl (.inl h))
theorem Sto.trunc {M : Store} (s : Sto K φ M H) (n : Nat) : Sto K (φ.cut n) (M.take n) H where
  sz := s.sz
  nd := s.nd.sublist (List.take_sublist _ _)
  ln := by simp [s.ln]
  cl := fun m c a e1 e2 => by
    have e1' : M[m]? = some c := by
      rw [List.getElem?_take] at e1
      split at e1 <;> first | exact e1 | cases e1
    have e2' : φ.l[m]? = some a := by
      rw [List.getElem?_take] at e2
      split at e2 <;> first | exact e2 | cases e2
    exact (s.cl m _ a e1' e2').kp (φ' := φ.cut n) (H' := H) (fun b o h k => ⟨h, fun q => k ⟨List.mem_of_mem_take q.1, q.2⟩⟩) rfl rfl
  sx := s.sx
/-- a list is sealed -/
abbrev Fm.slo (φ : Fm) (a : Addr) : Fm := ⟨φ.l, a :: φ.s⟩
theorem Ext.slo {a : Addr} : Ext φ H (φ.slo a) H := ⟨List.prefix_refl _, fun b o h n => ⟨h, fun q => n ⟨q.1, fun z => q.2 (List.mem_cons_of_mem _ z)⟩⟩⟩
theorem Sto.slo {M : Store} (s : Sto K φ M H) {n : Nat} {a : Addr} {xs : List D} (e : M[n]? = some (.lst xs)) (h : φ.l[n]? = some a) : Sto K (φ.slo a) (M.set n (.sld xs)) H where
  sz := s.sz
  nd := s.nd
  ln := by simp [s.ln]
  cl := fun m c b e1 e2 => by
    by_cases hm : n = m
    · subst hm
      have e2' : φ.l[n]? = some b := e2
      rw [h] at e2'; cases e2'
      have hl : n < M.length := by rw [← s.ln]; exact (List.getElem?_eq_some_iff.mp h).1
      rw [List.getElem?_set_self hl] at e1
      cases e1
      obtain ⟨vs, h1, h2⟩ := s.at e h
      exact ⟨⟨vs, h1, DRs.ext Ext.slo xs vs h2⟩, List.mem_cons_self⟩
    · rw [List.getElem?_set_ne hm] at e1
      have e2' : φ.l[m]? = some b := e2
      have nb : b ≠ a := by
        intro q; subst q
        obtain ⟨l1, q1⟩ := List.getElem?_eq_some_iff.mp h
        obtain ⟨l2, q2⟩ := List.getElem?_eq_some_iff.mp e2'
        exact hm ((List.getElem_inj s.nd).mp (q1.trans q2.symm))
      have c0 := s.cl m c b e1 e2'
      cases c with
      | lst ys =>
        obtain ⟨⟨vs, h1, h2⟩, h3⟩ := c0
        exact ⟨⟨vs, h1, DRs.ext Ext.slo ys vs h2⟩, fun z => by
          rcases List.mem_cons.mp z with z | z
          · exact nb z
          · exact h3 z⟩
      | sld ys =>
        obtain ⟨⟨vs, h1, h2⟩, h3⟩ := c0
        exact ⟨⟨vs, h1, DRs.ext Ext.slo ys vs h2⟩, List.mem_cons_of_mem _ h3⟩
      | ins c fs =>
        obtain ⟨⟨dx, ws, h1, h2⟩, h3⟩ := c0
        exact ⟨⟨dx, ws, h1, FRs.kp Ext.slo.keep fs ws h2⟩, fun z => by
          rcases List.mem_cons.mp z with z | z
          · exact nb z
          · exact h3 z⟩
      | dct kvs =>
        obtain ⟨⟨ws, h1, h2⟩, h3⟩ := c0
        exact ⟨⟨ws, h1, h2.kp Ext.slo.keep⟩, fun z => by
          rcases List.mem_cons.mp z with z | z
          · exact nb z
          · exact h3 z⟩
  sx := fun b hb => by
    rcases List.mem_cons.mp hb with z | z
    · subst z
      obtain ⟨vs, h1, _⟩ := s.at e h
      rw [h1]; simp
    · exact s.sx b z
end
end TL

namespace TL
open PySem PySem.Spec
open PyProof.Rows L2

inductive Res (α : Type) where
  | ok (a : α) (M : Store)
  | exc (c : Str) (M : Store)
  | bad
def Res.bind {α β : Type} (r : Res α) (k : α → Store → Res β) : Res β :=
  match r with
  | .ok a M => k a M
  | .exc c M => .exc c M
  | .bad => .bad
@[simp] theorem Res.bind_ok {α β : Type} (a : α) (M : Store) (k : α → Store → Res β) : (Res.ok a M).bind k = k a M := rfl
@[simp] theorem Res.bind_exc {α β : Type} (c : Str) (M : Store) (k : α → Store → Res β) : (Res.exc c M : Res α).bind k = .exc c M := rfl
@[simp] theorem Res.bind_bad {α β : Type} (k : α → Store → Res β) : (Res.bad : Res α).bind k = .bad := rfl
def ofO {α : Type} (o : Option α) (M : Store) : Res α :=
  match o with
  | some a => .ok a M
  | none => .bad
@[simp] theorem ofO_some {α : Type} (a : α) (M : Store) : ofO (some a) M = .ok a M := rfl
@[simp] theorem ofO_none {α : Type} (M : Store) : ofO (none : Option α) M = .bad := rfl

abbrev RF (α : Type) := Rho → Store → Res α
abbrev CallF := Str → List Vl → Store → Res Vl
abbrev XA := Addr → Str → Prop
abbrev noxa : XA := fun _ _ => False
abbrev WQ := Str → L2.St → Hp → Prop

/-! ### what an outcome promises -/
section
variable (K : PySem.W.Frag) (W : WQ) (σ : L2.St)
def RP {α β : Type} (φ : Fm) (H : Hp) (rel : Fm → Hp → α → β → Prop) (Q : β → Hp → Prop) : Res α → Prop
  | .ok x M' => ∀ φ' H' v, Sto K φ' M' H' → Ext φ H φ' H' → rel φ' H' x v → Q v H'
  | .exc c M' => ∀ φ' H', Sto K φ' M' H' → Ext φ H φ' H' → W c σ H'
  | .bad => False
end
section
variable {K : PySem.W.Frag} {W : WQ} {σ : L2.St} {φ φ1 : Fm} {H H1 : Hp} {α β γ δ : Type} {rel : Fm → Hp → α → β → Prop} {rel2 : Fm → Hp → γ → δ → Prop} {Q Q' : β → Hp → Prop} {Q2 : δ → Hp → Prop}
theorem RP.shift {r : Res α} (h : RP K W σ φ H rel Q r) (e : Ext φ H φ1 H1) : RP K W σ φ1 H1 rel Q r := by
  cases r with
  | ok x M => exact fun φ' H' v s e' q => h φ' H' v s (e.trans e') q
  | exc c M => exact fun φ' H' s e' => h φ' H' s (e.trans e')
  | bad => exact h
theorem RP.mono {r : Res α} (h : RP K W σ φ H rel Q r) (k : ∀ v H', Q v H' → Q' v H') : RP K W σ φ H rel Q' r := by
  cases r with
  | ok x M => exact fun φ' H' v s e' q => k _ _ (h φ' H' v s e' q)
  | exc c M => exact h
  | bad => exact h
theorem RP.bind {r : Res γ} {k : γ → Store → Res α} (h : RP K W σ φ H rel Q (r.bind k))
    (n : ∀ φ1 H1 x M1 v, Sto K φ1 M1 H1 → Ext φ H φ1 H1 → rel2 φ1 H1 x v → RP K W σ φ1 H1 rel Q (k x M1) → Q2 v H1) : RP K W σ φ H rel2 Q2 r := by
  cases r with
  | ok x M => exact fun φ' H' v s e' q => n φ' H' x M v s e' q (RP.shift (r := k x M) h e')
  | exc c M => exact h
  | bad => exact h
theorem RP.ofO {o : Option α} {M : Store} (h : RP K W σ φ H rel Q (TL.ofO o M)) : ∃ z, o = some z ∧ ∀ φ' H' v, Sto K φ' M H' → Ext φ H φ' H' → rel φ' H' z v → Q v H' := by
  cases o with
  | none => exact h.elim
  | some z => exact ⟨z, rfl, h⟩
end
abbrev relV (K : PySem.W.Frag) (xa : XA) : Fm → Hp → Vl → V → Prop := fun φ H x v => VR K φ H xa x v
abbrev relVs (K : PySem.W.Frag) (xa : XA) : Fm → Hp → List Vl → List V → Prop := fun φ H x v => VRs K φ H xa x v
abbrev relB : Fm → Hp → Bool → Bool → Prop := fun _ _ x v => x = v

/-! ### statements -/
inductive SR where
  | nx (ρ : Rho) (M : Store)
  | rt (x : Vl) (M : Store)
  | bk (ρ : Rho) (M : Store)
  | ct (ρ : Rho) (M : Store)
  | exc (c : Str) (ρ : Rho) (M : Store)
  | bad
def SR.seq (r : SR) (k : Rho → Store → SR) : SR :=
  match r with
  | .nx ρ M => k ρ M
  | r => r
@[simp] theorem SR.seq_nx (ρ : Rho) (M : Store) (k : Rho → Store → SR) : (SR.nx ρ M).seq k = k ρ M := rfl
@[simp] theorem SR.seq_rt (x : Vl) (M : Store) (k : Rho → Store → SR) : (SR.rt x M).seq k = .rt x M := rfl
@[simp] theorem SR.seq_bk (ρ : Rho) (M : Store) (k : Rho → Store → SR) : (SR.bk ρ M).seq k = .bk ρ M := rfl
@[simp] theorem SR.seq_ct (ρ : Rho) (M : Store) (k : Rho → Store → SR) : (SR.ct ρ M).seq k = .ct ρ M := rfl
@[simp] theorem SR.seq_exc (c : Str) (ρ : Rho) (M : Store) (k : Rho → Store → SR) : (SR.exc c ρ M).seq k = .exc c ρ M := rfl
@[simp] theorem SR.seq_bad (k : Rho → Store → SR) : (SR.bad).seq k = .bad := rfl
/-- an expression's outcome, then a statement -/
def Res.then {α : Type} (r : Res α) (ρ : Rho) (k : α → Store → SR) : SR :=
  match r with
  | .ok a M => k a M
  | .exc c M => .exc c ρ M
  | .bad => .bad
@[simp] theorem Res.then_ok {α : Type} (a : α) (M : Store) (ρ : Rho) (k : α → Store → SR) : (Res.ok a M).then ρ k = k a M := rfl
@[simp] theorem Res.then_exc {α : Type} (c : Str) (M : Store) (ρ : Rho) (k : α → Store → SR) : (Res.exc c M : Res α).then ρ k = .exc c ρ M := rfl
@[simp] theorem Res.then_bad {α : Type} (ρ : Rho) (k : α → Store → SR) : (Res.bad : Res α).then ρ k = .bad := rfl
abbrev SF := Rho → Store → SR
def SPo (K : PySem.W.Frag) (xa : XA) (W : WQ) (φ : Fm) (H : Hp) (D : Ends) : SR → Prop
  | .nx ρ' M' => ∀ φ' H' σ', Sto K φ' M' H' → Ext φ H φ' H' → EnvR K xa φ' H' ρ' σ' → D.nx σ' H'
  | .rt x M' => ∀ φ' H' v, Sto K φ' M' H' → Ext φ H φ' H' → VR K φ' H' xa x v → D.rt v H'
  | .bk ρ' M' => ∀ φ' H' σ', Sto K φ' M' H' → Ext φ H φ' H' → EnvR K xa φ' H' ρ' σ' → D.bk σ' H'
  | .ct ρ' M' => ∀ φ' H' σ', Sto K φ' M' H' → Ext φ H φ' H' → EnvR K xa φ' H' ρ' σ' → D.ct σ' H'
  | .exc c ρ' M' => ∀ φ' H' σ', Sto K φ' M' H' → Ext φ H φ' H' → EnvR K xa φ' H' ρ' σ' → W c σ' H'
  | .bad => False
section
variable {K : PySem.W.Frag} {xa : XA} {W : WQ} {φ φ1 : Fm} {H H1 : Hp} {D D' : Ends}
theorem SPo.shift {r : SR} (h : SPo K xa W φ H D r) (e : Ext φ H φ1 H1) : SPo K xa W φ1 H1 D r := by
  cases r with
  | nx ρ M => exact fun φ' H' v s e' q => h φ' H' v s (e.trans e') q
  | rt ρ M => exact fun φ' H' v s e' q => h φ' H' v s (e.trans e') q
  | bk ρ M => exact fun φ' H' v s e' q => h φ' H' v s (e.trans e') q
  | ct ρ M => exact fun φ' H' v s e' q => h φ' H' v s (e.trans e') q
  | exc c ρ M => exact fun φ' H' v s e' q => h φ' H' v s (e.trans e') q
  | bad => exact h
end

/-! ### readings, judgements -/
section
variable (K : PySem.W.Frag) (xa : XA) (W : WQ)
def tEx (f : RF Vl) : TE := fun σ H Q => ∃ φ ρ M, EnvR K xa φ H ρ σ ∧ Sto K φ M H ∧ RP K W σ φ H (relV K xa) Q (f ρ M)
def tTx (f : RF Bool) : TT := fun σ H Q => ∃ φ ρ M, EnvR K xa φ H ρ σ ∧ Sto K φ M H ∧ RP K W σ φ H relB Q (f ρ M)
def tAx (f : RF (List Vl)) : TA := fun σ H Q => ∃ φ ρ M, EnvR K xa φ H ρ σ ∧ Sto K φ M H ∧ RP K W σ φ H (relVs K xa) Q (f ρ M)
def tSx (f : SF) : TS := fun D σ H => ∃ φ ρ M, EnvR K xa φ H ρ σ ∧ Sto K φ M H ∧ SPo K xa W φ H D (f ρ M)
end
/-- the wish about exceptions, by names of classes -/
def wx (mg : Str → Option Value) (W : WQ) : WX := fun cls d σ H => d = none ∧ ∃ c C, mg c = some (.ref C) ∧ cls = .ref C ∧ W c σ H
abbrev Tk (X : Cx) (W : WQ) : Prop := Takes X (wx X.mg W)
def SE (X : Cx) (xa : XA) (e : Expr) (f : RF Vl) : Prop := ∀ W, Tk X W → PE X e (tEx X.K xa W f)
def ST (X : Cx) (xa : XA) (e : Expr) (f : RF Bool) : Prop := ∀ W, Tk X W → PT X e (tTx X.K xa W f)
def SA (X : Cx) (xa : XA) (es : List Expr) (f : RF (List Vl)) : Prop := ∀ W, Tk X W → PA X es (tAx X.K xa W f)
def SS (X : Cx) (xa : XA) (st : Stmt) (f : SF) : Prop := ∀ W, Tk X W → PS X st (tSx X.K xa W f)
def SSs (X : Cx) (xa : XA) (st : List Stmt) (f : SF) : Prop := ∀ W, Tk X W → PSs X st (tSx X.K xa W f)
theorem PE.weak {X : Cx} {e : Expr} {t t' : TE} (h : PE X e t) (k : ∀ σ H Q, t' σ H Q → t σ H Q) : PE X e t' := ⟨fun pins s σ H Q I q => h.run pins s σ H Q I (k σ H Q q)⟩
theorem PT.weak {X : Cx} {e : Expr} {t t' : TT} (h : PT X e t) (k : ∀ σ H Q, t' σ H Q → t σ H Q) : PT X e t' := ⟨fun pins s σ H Q I q => h.run pins s σ H Q I (k σ H Q q)⟩
theorem PW.weak {X : Cx} {e : Expr} {t t' : TT} (h : PW X e t) (k : ∀ σ H Q, t' σ H Q → t σ H Q) : PW X e t' := ⟨fun wh pins s σ H Q I q => h.run wh pins s σ H Q I (k σ H Q q)⟩
theorem PA.weak {X : Cx} {e : List Expr} {t t' : TA} (h : PA X e t) (k : ∀ σ H Q, t' σ H Q → t σ H Q) : PA X e t' := ⟨fun pos pins s σ H Q I q => h.run pos pins s σ H Q I (k σ H Q q)⟩
theorem PS.weak {X : Cx} {st : Stmt} {t t' : TS} (h : PS X st t) (k : ∀ D σ H, t' D σ H → t D σ H) : PS X st t' := ⟨fun pins s σ H D I q => h.run pins s σ H D I (k D σ H q)⟩
theorem PSs.weak {X : Cx} {st : List Stmt} {t t' : TS} (h : PSs X st t) (k : ∀ D σ H, t' D σ H → t D σ H) : PSs X st t' := ⟨fun pins s σ H D I q => h.run pins s σ H D I (k D σ H q)⟩
theorem PI.weak {X : Cx} {tg e : Expr} {t t' : TI} (h : PI X tg e t) (k : ∀ σ H Q, t' σ H Q → t σ H Q) : PI X tg e t' := ⟨fun pins s σ H R I q => h.run pins s σ H R I (k σ H R q)⟩

/-! ### two expressions, an operation -/
section
variable {X : Cx} {xa : XA} {a b : Expr} {fa fb : RF Vl} {pos : Pos}
def fBin (g : Vl → Vl → Store → Option Vl) (fa fb : RF Vl) : RF Vl := fun ρ M => (fa ρ M).bind fun x M1 => (fb ρ M1).bind fun y M2 => ofO (g x y M2) M2
/-- an operation's answer, on values -/
def GR (K : PySem.W.Frag) (xa : XA) (g : Vl → Vl → Store → Option Vl) : R2 := fun v w H Q => ∃ φ M x y z, Sto K φ M H ∧ VR K φ H xa x v ∧ VR K φ H xa y w ∧ g x y M = some z ∧
  ∀ φ' H' u, Sto K φ' M H' → Ext φ H φ' H' → VR K φ' H' xa z u → Q u H'
theorem fBin_read {K : PySem.W.Frag} {W : WQ} {g : Vl → Vl → Store → Option Vl} {σ : L2.St} {H : Hp} {Q : VK} (h : tEx K xa W (fBin g fa fb) σ H Q) : tOp (GR K xa g) (tEx K xa W fa) (tEx K xa W fb) σ H Q := by
  obtain ⟨φ, ρ, M, env, sto, h⟩ := h
  refine ⟨φ, ρ, M, env, sto, RP.bind h fun φ1 H1 x M1 v s1 e1 r1 h1 => ?_⟩
  refine ⟨φ1, ρ, M1, env.ext e1, s1, RP.bind h1 fun φ2 H2 y M2 w s2 e2 r2 h2 => ?_⟩
  obtain ⟨z, hz, h3⟩ := RP.ofO h2
  exact ⟨φ2, M2, x, y, z, s2, r1.ext e2, r2, hz, h3⟩
theorem se_bin {op : Operator} {g : Vl → Vl → Store → Option Vl} (ho : OpR X (binaryOp op) (GR X.K xa g)) (ha : SE X xa a fa) (hb : SE X xa b fb) : SE X xa (.BinOp a op b pos) (fBin g fa fb) := fun W tk =>
  PE.weak (pe_op ho (ha W tk) (hb W tk)) fun σ H Q h => fBin_read h
theorem se_cmp {op : CmpOp} {g : Vl → Vl → Store → Option Vl} (ho : OpR X (compareOp op) (GR X.K xa g)) (hm : behindInMarks op b = false) (ha : SE X xa a fa) (hb : SE X xa b fb) : SE X xa (.Compare a [op] [b] pos) (fBin g fa fb) := fun W tk =>
  PE.weak (pe_cmpR ho (ha W tk) (hb W tk) hm) fun σ H Q h => fBin_read h
end
end TL

namespace TL
open PySem PySem.Spec
open PyProof.Rows L2

/-! ### reading values -/
def dat : Vl → Store → Option D
  | .d x, _ => some x
  | .loc n, M => match M[n]? with
    | some (.lst xs) => some (.list xs)
    | _ => none
  | _, _ => none
/-- a list that stands by itself -/
def lsq : Vl → Store → Option (List D)
  | .d (.list xs), _ => some xs
  | .loc n, M => match M[n]? with
    | some (.lst xs) => some xs
    | _ => none
  | _, _ => none
/-- any list or tuple -/
def sqn : Vl → Store → Option (List D)
  | .d (.list xs), _ => some xs
  | .d (.tuple xs), _ => some xs
  | .ro xs, _ => some xs
  | .loc n, M => match M[n]? with
    | some (.lst xs) => some xs
    | _ => none
  | _, _ => none
section
variable {K : PySem.W.Frag} {xa : XA} {φ : Fm} {M : Store} {H : Hp} {x : Vl} {v : V}
theorem lsq_ok {xs : List D} (s : Sto K φ M H) (r : VR K φ H xa x v) (h : lsq x M = some xs) : ∃ a vs, v = .ref a ∧ H a = some (.lst vs) ∧ DRs K φ H xs vs := by
  cases x with
  | d x =>
    cases x with
    | list ys =>
      cases h
      have r' : DR K φ H (.list xs) v := r
      simp only [DR] at r'
      obtain ⟨a, vs, e, h1, _, h2⟩ := r'
      exact ⟨a, vs, e, h1, h2⟩
    | _ => cases h
  | loc n =>
    obtain ⟨a, e, ha⟩ := r
    simp only [lsq] at h
    cases q : M[n]? with
    | none => rw [q] at h; cases h
    | some c =>
      cases c with
      | lst ys =>
        rw [q] at h; cases h
        obtain ⟨vs, h1, h2⟩ := s.at q ha
        exact ⟨a, vs, e, h1, h2⟩
      | _ => rw [q] at h; cases h
  | _ => cases h
theorem sqn_ok {xs : List D} (s : Sto K φ M H) (r : VR K φ H xa x v) (h : sqn x M = some xs) : ∃ a vs, v = .ref a ∧ (SqL K H a vs ∨ SqT K H a vs) ∧ DRs K φ H xs vs := by
  cases x with
  | d x =>
    cases x with
    | list ys =>
      cases h
      obtain ⟨a, vs, e, h1, h2⟩ := lsq_ok s r (show lsq (.d (.list xs)) M = some xs from rfl)
      exact ⟨a, vs, e, .inl (SqL.of h1), h2⟩
    | tuple ys =>
      cases h
      have r' : DR K φ H (.tuple xs) v := r
      simp only [DR] at r'
      obtain ⟨a, vs, e, h1, h2⟩ := r'
      exact ⟨a, vs, e, .inr h1.sq, h2⟩
    | _ => cases h
  | loc n =>
    obtain ⟨a, vs, e, h1, h2⟩ := lsq_ok s r (show lsq (.loc n) M = some xs from h)
    exact ⟨a, vs, e, .inl (SqL.of h1), h2⟩
  | ro ys =>
    cases h
    obtain ⟨a, vs, e, h1, h2⟩ := r
    exact ⟨a, vs, e, .inl h1.sq, h2⟩
  | _ => cases h
theorem dat_ok {d : D} (s : Sto K φ M H) (r : VR K φ H xa x v) (h : dat x M = some d) : Dp K H v d ∧ d.plain = true := by
  cases x with
  | d x => cases h; exact ⟨DR.dp _ _ r, DR.plain _ _ r⟩
  | loc n =>
    simp only [dat] at h
    cases q : M[n]? with
    | none => rw [q] at h; cases h
    | some c =>
      cases c with
      | lst ys =>
        rw [q] at h; cases h
        obtain ⟨a, vs, e, h1, h2⟩ := lsq_ok (xs := ys) s r (by simp [lsq, q])
        subst e
        exact ⟨.lst (SqL.of h1) (DRs.dp _ _ h2), by simp only [PyData.plain]; exact DRs.plain _ _ h2⟩
      | _ => rw [q] at h; cases h
  | _ => cases h
end

/-! ### operations -/
inductive Op where | add | sub | mul | fdiv | mod | pow | band | bor | shl
def cat2 (x y : Vl) (M : Store) : Option Vl :=
  match lsq x M, lsq y M with
  | some xs, some ys => if xs.length + ys.length ≤ sizeLine then some (.d (.list (xs ++ ys))) else none
  | _, _ => none
def rep2 (x : Vl) (k : Int) (M : Store) : Option Vl :=
  match lsq x M with
  | some xs => if -(2 ^ 63) ≤ k ∧ k < 2 ^ 63 ∧ xs.length * k.toNat ≤ sizeLine then some (.d (.list (List.replicate k.toNat xs).flatten)) else none
  | none => none
def mulSOk (x : Str) (k : Int) : Bool := decide (1 ≤ k) && decide (k ≤ 1000) && decide (x.length ≤ 1000)
def bin2 : Op → Vl → Vl → Store → Option Vl
  | .add, .d (.int i), .d (.int j), _ => some (.d (.int (i + j)))
  | .add, .d (.str a), .d (.str b), _ => if a.length + b.length ≤ sizeLine then some (.d (.str (a ++ b))) else none
  | .add, .d (.tuple xs), .d (.tuple ys), _ => if xs.length + ys.length ≤ sizeLine then some (.d (.tuple (xs ++ ys))) else none
  | .add, x, y, M => cat2 x y M
  | .sub, .d (.int i), .d (.int j), _ => some (.d (.int (i - j)))
  | .mul, .d (.int i), .d (.int j), _ => if (-(2 ^ 64) < i ∧ i < 2 ^ 64) ∨ (-(2 ^ 64) < j ∧ j < 2 ^ 64) then some (.d (.int (i * j))) else none
  | .mul, .d (.str a), .d (.int k), _ => if mulSOk a k = true then some (.d (.str (Txt.mul a k))) else none
  | .mul, .d (.tuple xs), .d (.int k), _ => if xs = [] ∧ 0 ≤ k ∧ k ≤ 1000 then some (.d (.tuple [])) else if xs ≠ [] ∧ 2 ≤ k ∧ k ≤ 1000 ∧ xs.length ≤ 1000 then some (.d (.tuple (List.replicate k.toNat xs).flatten)) else none
  | .mul, x, .d (.int k), M => rep2 x k M
  | .fdiv, .d (.int i), .d (.int j), _ => if 0 < j ∧ j < 1073741824 then some (.d (.int (i / j))) else none
  | .mod, .d (.int i), .d (.int j), _ => if 0 < j then some (.d (.int (i % j))) else none
  | .pow, .d (.int i), .d (.int j), _ => if 0 ≤ j ∧ j ≤ 1000000 ∧ i.natAbs < 2 ^ 64 then some (.d (.int (i ^ j.toNat))) else none
  | .band, .d (.int i), .d (.int j), _ => some (.d (.int (Builtin.bitAnd i j)))
  | .bor, .d (.int i), .d (.int j), _ => some (.d (.int (Builtin.bitOr i j)))
  | .shl, .d (.int i), .d (.int j), _ => if 0 ≤ j ∧ j ≤ 1000000 ∧ i.natAbs < 2 ^ 64 then some (.d (.int (i * 2 ^ j.toNat))) else none
  | _, _, _, _ => none
def Op.op : Op → Operator
  | .add => .Add | .sub => .Sub | .mul => .Mult | .fdiv => .FloorDiv | .mod => .Mod | .pow => .Pow | .band => .BitAnd | .bor => .BitOr | .shl => .LShift
section
variable {X : Cx} {xa : XA}
theorem drI {K : PySem.W.Frag} {φ : Fm} {H : Hp} {i : Int} {v : V} (h : VR K φ H xa (.d (.int i)) v) : v = .int i := by
  have h' : DR K φ H (.int i) v := h
  simpa [DR] using h'
theorem drS {K : PySem.W.Frag} {φ : Fm} {H : Hp} {i : Str} {v : V} (h : VR K φ H xa (.d (.str i)) v) : v = .str i := by
  have h' : DR K φ H (.str i) v := h
  simpa [DR] using h'
theorem drB {K : PySem.W.Frag} {φ : Fm} {H : Hp} {i : Bool} {v : V} (h : VR K φ H xa (.d (.bool i)) v) : v = .bl i := by
  have h' : DR K φ H (.bool i) v := h
  simpa [DR] using h'
theorem drN {K : PySem.W.Frag} {φ : Fm} {H : Hp} {v : V} (h : VR K φ H xa (.d .none) v) : v = .non := by
  have h' : DR K φ H .none v := h
  simpa [DR] using h'
theorem drT {K : PySem.W.Frag} {φ : Fm} {H : Hp} {xs : List D} {v : V} (h : VR K φ H xa (.d (.tuple xs)) v) : ∃ a vs, v = .ref a ∧ NT K φ H a vs ∧ DRs K φ H xs vs := by
  have h' : DR K φ H (.tuple xs) v := h
  simpa only [DR] using h'
theorem vrI {K : PySem.W.Frag} {φ : Fm} {H : Hp} {i : Int} : VR K φ H xa (.d (.int i)) (.int i) := by
  show DR K φ H (.int i) (.int i)
  simp [DR]
theorem vrS {K : PySem.W.Frag} {φ : Fm} {H : Hp} {i : Str} : VR K φ H xa (.d (.str i)) (.str i) := by
  show DR K φ H (.str i) (.str i)
  simp [DR]
theorem vrB {K : PySem.W.Frag} {φ : Fm} {H : Hp} {i : Bool} : VR K φ H xa (.d (.bool i)) (.bl i) := by
  show DR K φ H (.bool i) (.bl i)
  simp [DR]
theorem vrN {K : PySem.W.Frag} {φ : Fm} {H : Hp} : VR K φ H xa (.d .none) .non := by
  show DR K φ H .none .non
  simp [DR]
/-- a new tuple's value, a new list's -/
theorem vrT {K : PySem.W.Frag} {φ : Fm} {M : Store} {H : Hp} {p : Addr} {xs : List D} {vs : List V} (s : Sto K φ M H) (h : H p = none) (r : DRs K φ H xs vs) : VR K φ (upd H p (.tup vs)) xa (.d (.tuple xs)) (.ref p) := by
  show DR K φ (upd H p (.tup vs)) (.tuple xs) (.ref p)
  simp only [DR]
  exact ⟨p, vs, rfl, .inl ⟨upd_same, s.fresh h⟩, DRs.ext (Ext.new s h) xs vs r⟩
theorem vrL {K : PySem.W.Frag} {φ : Fm} {M : Store} {H : Hp} {p : Addr} {xs : List D} {vs : List V} (s : Sto K φ M H) (h : H p = none) (r : DRs K φ H xs vs) : VR K φ (upd H p (.lst vs)) xa (.d (.list xs)) (.ref p) := by
  show DR K φ (upd H p (.lst vs)) (.list xs) (.ref p)
  simp only [DR]
  exact ⟨p, vs, rfl, upd_same, s.fresh h, DRs.ext (Ext.new s h) xs vs r⟩
theorem op_add2 : OpR X (binaryOp .Add) (GR X.K xa (bin2 .add)) := by
  intro pins s σ H v w u u' Q I ru rw' ⟨φ, M, x, y, z, st, rx, ry, hz, q⟩
  unfold bin2 at hz
  split at hz
  case h_1 => cases hz; cases drI rx; cases drI ry; exact op_add pins s σ H _ _ u u' Q I ru rw' ⟨_, _, rfl, rfl, q φ H _ st .refl vrI⟩
  case h_2 =>
    split at hz
    · cases hz; cases drS rx; cases drS ry; exact op_add_str pins s σ H _ _ u u' Q I ru rw' ⟨_, _, rfl, rfl, by assumption, q φ H _ st .refl vrS⟩
    · cases hz
  case h_3 =>
    rename_i xs ys _
    split at hz
    · rename_i hl
      cases hz
      obtain ⟨a, vs, rfl, h1, h2⟩ := drT rx
      obtain ⟨b, ws, rfl, h3, h4⟩ := drT ry
      refine op_catA pins s σ H _ _ u u' Q I ru rw' ⟨a, b, vs, ws, rfl, rfl, h1.sq, h3.sq, by rw [h2.length, h4.length]; exact hl, fun e => ?_, fun _ e => ?_, fun _ _ p hp => ?_⟩
      · subst e
        have e : xs = [] := List.eq_nil_of_length_eq_zero h2.length.symm
        subst e
        exact q φ H _ st .refl ry
      · subst e
        have e : ys = [] := List.eq_nil_of_length_eq_zero h4.length.symm
        subst e
        refine q φ H _ st .refl ?_
        rw [List.append_nil]
        exact rx
      · refine q φ _ _ (st.new hp ?_) (Ext.new st hp) (vrT st hp (h2.append h4))
        show (vs ++ ws).length ≤ sizeLine
        rw [List.length_append, h2.length, h4.length]; exact hl
    · cases hz
  case h_4 =>
    unfold cat2 at hz
    split at hz
    · rename_i xs ys e1 e2
      split at hz
      · rename_i hl
        cases hz
        obtain ⟨a, vs, rfl, h1, h2⟩ := lsq_ok st rx e1
        obtain ⟨b, ws, rfl, h3, h4⟩ := lsq_ok st ry e2
        refine op_cat pins s σ H _ _ u u' Q I ru rw' ⟨a, b, vs, ws, rfl, rfl, h1, h3, by rw [h2.length, h4.length]; exact hl, fun p hp => ?_⟩
        refine q φ _ _ (st.new hp ?_) (Ext.new st hp) (vrL st hp (h2.append h4))
        show (vs ++ ws).length ≤ sizeLine
        rw [List.length_append, h2.length, h4.length]; exact hl
      · cases hz
    · cases hz
  all_goals first | contradiction | cases hz
theorem op_sub2 : OpR X (binaryOp .Sub) (GR X.K xa (bin2 .sub)) := by
  intro pins s σ H v w u u' Q I ru rw' ⟨φ, M, x, y, z, st, rx, ry, hz, q⟩
  unfold bin2 at hz
  split at hz
  case h_5 => cases hz; cases drI rx; cases drI ry; exact op_sub pins s σ H _ _ u u' Q I ru rw' ⟨_, _, rfl, rfl, q φ H _ st .refl vrI⟩
  all_goals first | contradiction | cases hz
theorem mulS_ok {x : Str} {k : Int} (h : mulSOk x k = true) : MulOk x k := by
  unfold mulSOk at h
  simp only [Bool.and_eq_true, decide_eq_true_eq] at h
  obtain ⟨⟨h1, h2⟩, h3⟩ := h
  refine ⟨?_, fun _ _ z => ?_, fun _ _ => ?_⟩
  · have a1 : ¬ k < -(2 ^ 63 : Int) := by omega
    have a2 : ¬ k ≥ 2 ^ 63 := by omega
    rw [decide_eq_false a1, decide_eq_false a2]; rfl
  · have h4 : (2 ^ 63 - 1 : Int) / k ≥ 1000 := by
      refine (Int.le_ediv_iff_mul_le (by omega)).mpr ?_
      omega
    omega
  · show decide (x.length * k.toNat > sizeLine) = false
    have h5 : x.length * k.toNat ≤ 1000 * 1000 := Nat.mul_le_mul h3 (by omega)
    have := sizeLine_eq
    first
      | exact decide_eq_false (by omega)
      | (simp; omega)
/-- an empty tuple, so many times -/
theorem tup0_mulW (l : Addr) (n : Nat) (dd : Option Addr) (sl : Array (Option Value)) (x : Int) (u : Tok) (c0 : (decide (x < -(2 ^ 63)) || decide (x ≥ 2 ^ 63)) = false) :
    Meets (Builtin.«tuple.__mul__» ⟨[.ref l, .int x u], []⟩) (fun _ R s => s.heap.get? l = some { cls := .type "tuple", dict := dd, data := .seq #[] n, slots := sl } ∧ R (.ok (.ret (Value.ref l))) s) :=
  .of_wp fun prog w A R s h => by
    obtain ⟨hp, g, d, tk, os⟩ := s
    obtain ⟨hl, h⟩ := h
    have f1 := AutoSeq1.idx_int
    have c1 : ((#[] : Array Value).isEmpty || x == 1) = true := rfl
    wp_walk using wpAny_loadPart' hl
    repeat (first
      | (refine wpAny_ite_false (decide_eq_false (by rw [c0]; exact Bool.false_ne_true)) ?_; wp_walk using wpAny_loadPart' hl)
      | (refine wpAny_ite_true (decide_eq_true (by rw [c1])) ?_; wp_walk using wpAny_loadPart' hl))
    exact ⟨_, rfl, h⟩
theorem op_rep0 : OpR X (binaryOp .Mult) (fun x y H Q => ∃ l k, x = .ref l ∧ y = .int k ∧ SqT X.K H l [] ∧ -(2 ^ 63) ≤ k ∧ k < 2 ^ 63 ∧ Q (.ref l) H) := by
  intro pins s σ H x y v u Q I rx ry h
  obtain ⟨l, k, rfl, rfl, hT, h1, h2, q⟩ := h
  cases rx
  obtain ⟨t, rfl⟩ := ry
  obtain ⟨its, r, ⟨⟨cls, dd, data, sl⟩, ho, hc, n, hd⟩, hs⟩ := I.tuple hT
  simp only at hc hd
  subst hc hd
  cases r
  have c0 : (decide (k < -(2 ^ 63)) || decide (k ≥ 2 ^ 63)) = false := by
    rw [decide_eq_false (by omega), decide_eq_false (by omega)] <;> rfl
  refine wpAny_binaryOp_repeat_ref (T := "tuple") (U := "int") (by decide) ⟨_, ho, rfl⟩ (fun s' => typeIs_int s' k t) noFill_tuple_mul F.fills_int_mul F.slot_int_rmul repeat_tuple F.slot_int_index.lookup ?_
  refine call_meets F.slot_int_rmul (typeIs_int s k t) F.entry_int_rmul (F.args_int_rmul_2 _ _) (int_rmul_tuple k t l _ n dd sl) ⟨ho, rfl, ⟨_, ho, rfl⟩, ?_⟩
  exact call_meets F.slot_tuple_mul ⟨_, ho, rfl⟩ F.entry_tuple_mul (F.args_tuple_mul_2 _ _) (tup0_mulW l n dd sl k t c0) ⟨ho, .ref l, H, I, rfl, q⟩
theorem op_mul2 : OpR X (binaryOp .Mult) (GR X.K xa (bin2 .mul)) := by
  intro pins s σ H v w u u' Q I ru rw' ⟨φ, M, x, y, z, st, rx, ry, hz, q⟩
  unfold bin2 at hz
  split at hz
  case h_6 =>
    split at hz
    · cases hz; cases drI rx; cases drI ry; exact op_mul pins s σ H _ _ u u' Q I ru rw' ⟨_, _, rfl, rfl, by assumption, q φ H _ st .refl vrI⟩
    · cases hz
  case h_7 =>
    split at hz
    · rename_i hk
      cases hz; cases drS rx; cases drI ry
      obtain ⟨t, rfl⟩ := ru
      obtain ⟨t', rfl⟩ := rw'
      exact SB.mul (mulS_ok hk) fun t' k => ⟨.str _, H, I.tok _, ⟨_, rfl⟩, q φ H _ st .refl vrS⟩
    · cases hz
  case h_8 =>
    rename_i xs k _
    split at hz
    · rename_i hl
      obtain ⟨rfl, l2, l3⟩ := hl
      cases hz
      have rx' := rx
      obtain ⟨a, vs, rfl, h1, h2⟩ := drT rx
      cases drI ry
      simp only [DRs] at h2
      subst h2
      exact op_rep0 pins s σ H _ _ u u' Q I ru rw' ⟨a, k, rfl, rfl, h1.sq, by omega, by omega, q φ H _ st .refl rx'⟩
    split at hz
    · rename_i hl
      obtain ⟨l1, l2, l3, l4⟩ := hl
      cases hz
      obtain ⟨a, vs, rfl, h1, h2⟩ := drT rx
      cases drI ry
      refine op_repT pins s σ H _ _ u u' Q I ru rw' ⟨a, k, vs, rfl, rfl, h1.sq, fun e => ?_, l2, l3, by rw [h2.length]; exact l4, fun p hp => ?_⟩
      · subst e
        exact l1 (List.eq_nil_of_length_eq_zero h2.length.symm)
      · refine q φ _ _ (st.new hp ?_) (Ext.new st hp) (vrT st hp (h2.rep _))
        show (List.replicate k.toNat vs).flatten.length ≤ sizeLine
        rw [List.length_flatten, List.map_replicate, List.sum_replicate_nat, h2.length]
        have h5 : k.toNat * xs.length ≤ 1000 * 1000 := Nat.mul_le_mul (by omega) l4
        have := sizeLine_eq
        omega
    · cases hz
  case h_9 =>
    unfold rep2 at hz
    split at hz
    · rename_i xs e1
      split at hz
      · rename_i hl
        obtain ⟨l1, l2, l3⟩ := hl
        cases hz
        obtain ⟨a, vs, rfl, h1, h2⟩ := lsq_ok st rx e1
        cases drI ry
        refine op_rep pins s σ H _ _ u u' Q I ru rw' ⟨a, _, vs, rfl, rfl, h1, l1, l2, by rw [h2.length]; exact l3, fun p hp => ?_⟩
        refine q φ _ _ (st.new hp ?_) (Ext.new st hp) (vrL st hp (h2.rep _))
        show (List.replicate _ vs).flatten.length ≤ sizeLine
        rw [List.length_flatten, List.map_replicate, List.sum_replicate_nat, h2.length, Nat.mul_comm]
        exact l3
      · cases hz
    · cases hz
  all_goals first | contradiction | cases hz
theorem op_fdiv2 : OpR X (binaryOp .FloorDiv) (GR X.K xa (bin2 .fdiv)) := by
  intro pins s σ H v w u u' Q I ru rw' ⟨φ, M, x, y, z, st, rx, ry, hz, q⟩
  unfold bin2 at hz
  split at hz
  case h_10 =>
    split at hz
    · cases hz; cases drI rx; cases drI ry; exact op_fdiv pins s σ H _ _ u u' Q I ru rw' ⟨_, _, rfl, rfl, by assumption, q φ H _ st .refl vrI⟩
    · cases hz
  all_goals first | contradiction | cases hz
theorem op_mod2 : OpR X (binaryOp .Mod) (GR X.K xa (bin2 .mod)) := by
  intro pins s σ H v w u u' Q I ru rw' ⟨φ, M, x, y, z, st, rx, ry, hz, q⟩
  unfold bin2 at hz
  split at hz
  case h_11 =>
    split at hz
    · cases hz; cases drI rx; cases drI ry; exact op_mod pins s σ H _ _ u u' Q I ru rw' ⟨_, _, rfl, rfl, by assumption, q φ H _ st .refl vrI⟩
    · cases hz
  all_goals first | contradiction | cases hz
theorem op_pow2 : OpR X (binaryOp .Pow) (GR X.K xa (bin2 .pow)) := by
  intro pins s σ H v w u u' Q I ru rw' ⟨φ, M, x, y, z, st, rx, ry, hz, q⟩
  unfold bin2 at hz
  split at hz
  case h_12 =>
    split at hz
    · cases hz; cases drI rx; cases drI ry; exact op_pow pins s σ H _ _ u u' Q I ru rw' ⟨_, _, rfl, rfl, by assumption, q φ H _ st .refl vrI⟩
    · cases hz
  all_goals first | contradiction | cases hz
theorem op_band2 : OpR X (binaryOp .BitAnd) (GR X.K xa (bin2 .band)) := by
  intro pins s σ H v w u u' Q I ru rw' ⟨φ, M, x, y, z, st, rx, ry, hz, q⟩
  unfold bin2 at hz
  split at hz
  case h_13 => cases hz; cases drI rx; cases drI ry; exact op_and pins s σ H _ _ u u' Q I ru rw' ⟨_, _, rfl, rfl, q φ H _ st .refl vrI⟩
  all_goals first | contradiction | cases hz
theorem op_bor2 : OpR X (binaryOp .BitOr) (GR X.K xa (bin2 .bor)) := by
  intro pins s σ H v w u u' Q I ru rw' ⟨φ, M, x, y, z, st, rx, ry, hz, q⟩
  unfold bin2 at hz
  split at hz
  case h_14 => cases hz; cases drI rx; cases drI ry; exact op_or pins s σ H _ _ u u' Q I ru rw' ⟨_, _, rfl, rfl, q φ H _ st .refl vrI⟩
  all_goals first | contradiction | cases hz
theorem op_shl2 : OpR X (binaryOp .LShift) (GR X.K xa (bin2 .shl)) := by
  intro pins s σ H v w u u' Q I ru rw' ⟨φ, M, x, y, z, st, rx, ry, hz, q⟩
  unfold bin2 at hz
  split at hz
  case h_15 =>
    split at hz
    · cases hz; cases drI rx; cases drI ry; exact op_shl pins s σ H _ _ u u' Q I ru rw' ⟨_, _, rfl, rfl, by assumption, q φ H _ st .refl vrI⟩
    · cases hz
  all_goals first | contradiction | cases hz
theorem op_bin2 (o : Op) : OpR X (binaryOp o.op) (GR X.K xa (bin2 o)) := by
  cases o
  · exact op_add2
  · exact op_sub2
  · exact op_mul2
  · exact op_fdiv2
  · exact op_mod2
  · exact op_pow2
  · exact op_band2
  · exact op_bor2
  · exact op_shl2
end

/-! ### comparisons -/
inductive Cm where | eq | ne | lt | le | gt | ge | isN | notN | in_ | notIn
def Cm.op : Cm → CmpOp
  | .eq => .Eq | .ne => .NotEq | .lt => .Lt | .le => .LtE | .gt => .Gt | .ge => .GtE | .isN => .Is | .notN => .IsNot | .in_ => .In | .notIn => .NotIn
def dOk (x y : D) : Bool := decide (min x.depth y.depth ≤ 63)
def isNone : Vl → Bool
  | .d .none => true
  | _ => false
def ordOk (x y : D) : Bool := PySem.W.alike x y && dOk x y && (match x with | .none => false | _ => true)
def isNN : D → Bool
  | .none => true
  | _ => false
/-- y's items, for «in» -/
def inItems : D → Option (List D)
  | .list xs => some xs
  | .tuple xs => some xs
  | _ => none
def inV2 (x y : D) : Option Bool :=
  match inItems y with
  | some xs => if PyData.depthAll xs ≤ 63 then some (xs.any fun z => PyData.eqv z x) else none
  | none => match x, y with
    | .str a, .str b => some (!(Builtin.Str.occurrences b a 0 b.length 1).isEmpty)
    | _, _ => none
def cmpD : Cm → D → D → Option Bool
  | .eq, x, y => if dOk x y = true then some (PyData.eqv x y) else none
  | .ne, x, y => if dOk x y = true then some (!PyData.eqv x y) else none
  | .lt, x, y => if ordOk x y = true then some (PySem.W.dataLt x y) else none
  | .gt, x, y => if ordOk x y = true then some (PySem.W.dataLt y x) else none
  | .le, x, y => if ordOk x y = true then some (!PySem.W.dataLt y x) else none
  | .ge, x, y => if ordOk x y = true then some (!PySem.W.dataLt x y) else none
  | .isN, x, y => if isNN y = true then some (isNN x) else none
  | .notN, x, y => if isNN y = true then some (!isNN x) else none
  | .in_, x, y => inV2 x y
  | .notIn, x, y => (inV2 x y).map (!·)
def cmp2 (o : Cm) (x y : Vl) (M : Store) : Option Bool :=
  match dat x M, dat y M with
  | some a, some b => cmpD o a b
  | _, _ => none
def cmpV (o : Cm) (x y : Vl) (M : Store) : Option Vl := (cmp2 o x y M).map fun b => .d (.bool b)
section
variable {X : Cx} {xa : XA}
theorem dp_isN {K : PySem.W.Frag} {H : Hp} {v : V} {d : D} (h : Dp K H v d) : decide (v = .non) = isNN d := by
  cases h <;> simp [isNN]
theorem op_cmp2 (o : Cm) (hu : X.A.units + 64 < cLine) : OpR X (compareOp o.op) (GR X.K xa (cmpV o)) := by
  intro pins s σ H v w u u' Q I ru rw' ⟨φ, M, x, y, z, st, rx, ry, hz, q⟩
  unfold cmpV cmp2 at hz
  split at hz
  · rename_i a b e1 e2
    obtain ⟨d1, p1⟩ := dat_ok st rx e1
    obtain ⟨d2, p2⟩ := dat_ok st ry e2
    obtain ⟨as, r1⟩ := Dp.reads I _ _ u d1 ru
    obtain ⟨bs, r2⟩ := Dp.reads I _ _ u' d2 rw'
    have fin : ∀ {k : Bool} {s' : Shared}, Inv X pins σ H s' → z = .d (.bool k) → EP X pins σ Q (.bool k) s' := fun {k s'} I' e => by
      subst e
      exact ⟨.bl k, H, I', rfl, q φ H _ st .refl vrB⟩
    have dep : ∀ {a b : D}, dOk a b = true → X.A.units + min a.depth b.depth < cLine := fun {a b} h => by
      have := of_decide_eq_true h
      omega
    cases o with
    | eq =>
      simp only [cmpD] at hz
      split at hz
      · rename_i h
        simp at hz
        exact PySem.SeqAt.eq_plain r1 r2 p1 p2 (dep h) (fin I hz.symm)
      · simp at hz
    | ne =>
      simp only [cmpD] at hz
      split at hz
      · rename_i h
        simp at hz
        exact PySem.SeqAt.ne_plain r1 r2 p1 p2 (dep h) (fin I hz.symm)
      · simp at hz
    | lt =>
      simp only [cmpD] at hz
      split at hz
      · rename_i h
        simp at hz
        simp only [ordOk, Bool.and_eq_true] at h
        exact PySem.W.lt_data r1 r2 h.1.1 (fun e => by rw [e] at h; simp at h) (dep h.1.2) (fin I hz.symm)
      · simp at hz
    | gt =>
      simp only [cmpD] at hz
      split at hz
      · rename_i h
        simp at hz
        simp only [ordOk, Bool.and_eq_true] at h
        exact PySem.W.gt_data r1 r2 h.1.1 (fun e => by rw [e] at h; simp at h) (dep h.1.2) (fin I hz.symm)
      · simp at hz
    | le =>
      simp only [cmpD] at hz
      split at hz
      · rename_i h
        simp at hz
        simp only [ordOk, Bool.and_eq_true] at h
        exact PySem.W.le_data r1 r2 h.1.1 (fun e => by rw [e] at h; simp at h) (dep h.1.2) (fin I hz.symm)
      · simp at hz
    | ge =>
      simp only [cmpD] at hz
      split at hz
      · rename_i h
        simp at hz
        simp only [ordOk, Bool.and_eq_true] at h
        exact PySem.W.ge_data r1 r2 h.1.1 (fun e => by rw [e] at h; simp at h) (dep h.1.2) (fin I hz.symm)
      · simp at hz
    | isN =>
      simp only [cmpD] at hz
      split at hz
      · rename_i h
        simp at hz
        refine op_isN pins s σ H v w u u' Q I ru rw' ⟨?_, ?_⟩
        · have := dp_isN d2
          rw [h] at this
          exact of_decide_eq_true this
        · rw [dp_isN d1]
          rw [← hz] at q
          exact q φ H _ st .refl vrB
      · simp at hz
    | notN =>
      simp only [cmpD] at hz
      split at hz
      · rename_i h
        simp at hz
        refine op_notN pins s σ H v w u u' Q I ru rw' ⟨?_, ?_⟩
        · have := dp_isN d2
          rw [h] at this
          exact of_decide_eq_true this
        · rw [dp_isN d1]
          rw [← hz] at q
          exact q φ H _ st .refl vrB
      · simp at hz
    | in_ =>
      simp only [cmpD, inV2] at hz
      split at hz
      · rename_i xs hi
        split at hz
        · rename_i hd
          simp at hz
          have hu2 : X.A.units + 1 + min (PyData.depthAll xs) a.depth < cLine := by omega
          cases b with
          | list ys =>
            cases hi
            simp only [PyData.plain] at p2
            exact PySem.SeqAt.in_list_data r2 r1 p2 p1 hu2 (fin I hz.symm)
          | tuple ys =>
            cases hi
            simp only [PyData.plain] at p2
            exact PySem.SeqAt.in_tuple_data r2 r1 p2 p1 hu2 (fin I hz.symm)
          | _ => cases hi
        · simp at hz
      · split at hz
        · simp at hz
          cases d1; cases d2
          exact op_in_str pins s σ H _ _ u u' Q I ru rw' ⟨_, _, rfl, rfl, by rw [← hz] at q; simpa using q φ H _ st .refl vrB⟩
        · simp at hz
    | notIn =>
      simp only [cmpD, inV2] at hz
      split at hz
      · rename_i xs hi
        split at hz
        · rename_i hd
          simp at hz
          have hu2 : X.A.units + 1 + min (PyData.depthAll xs) a.depth < cLine := by omega
          cases b with
          | list ys =>
            cases hi
            simp only [PyData.plain] at p2
            exact PySem.SeqAt.notIn_list_data r2 r1 p2 p1 hu2 (fin I hz.symm)
          | tuple ys =>
            cases hi
            simp only [PyData.plain] at p2
            exact PySem.SeqAt.notIn_tuple_data r2 r1 p2 p1 hu2 (fin I hz.symm)
          | _ => cases hi
        · simp at hz
      · split at hz
        · simp at hz
          cases d1; cases d2
          exact op_notin_str pins s σ H _ _ u u' Q I ru rw' ⟨_, _, rfl, rfl, by rw [← hz] at q; simpa using q φ H _ st .refl vrB⟩
        · simp at hz
  · cases hz
end
end TL

namespace TL
open PySem PySem.Spec
open PyProof.Rows L2

/-! ### truth -/
def tru : Vl → Store → Option Bool
  | .d .none, _ => some false
  | .d (.bool b), _ => some b
  | .d (.int i), _ => some (i != 0)
  | .d (.str x), _ => if x.length ≤ sizeLine then some ((x.length : Int) != 0) else none
  | .d (.list xs), _ => some (!xs.isEmpty)
  | .d (.tuple xs), _ => some (!xs.isEmpty)
  | .ro xs, _ => some (!xs.isEmpty)
  | .loc n, M => match M[n]? with
    | some (.lst xs) => some (!xs.isEmpty)
    | _ => none
  | _, _ => none
section
variable {K : PySem.W.Frag} {xa : XA} {φ : Fm} {M : Store} {H : Hp} {x : Vl} {v : V}
theorem DRs.isEmpty {xs : List D} {vs : List V} (h : DRs K φ H xs vs) : vs.isEmpty = xs.isEmpty := by
  cases xs with
  | nil => simp only [DRs] at h; subst h; rfl
  | cons x xs => simp only [DRs] at h; obtain ⟨v, r, rfl, _, _⟩ := h; rfl
theorem tru_ok {k : Bool} (s : Sto K φ M H) (r : VR K φ H xa x v) (h : tru x M = some k) : TruV K v H k := by
  have sq : ∀ {xs : List D}, sqn x M = some xs → k = (!xs.isEmpty) → TruV K v H k := fun {xs} e e2 => by
    obtain ⟨a, vs, rfl, h1, h2⟩ := sqn_ok s r e
    rw [← h2.isEmpty] at e2
    rcases h1 with h1 | h1
    · exact .inl ⟨vs, h1, e2⟩
    · exact .inr (.inl ⟨vs, h1, e2⟩)
  cases x with
  | d x =>
    cases x with
    | none => cases drN r; cases h; rfl
    | bool b => cases drB r; cases h; rfl
    | int b => cases drI r; cases h; rfl
    | str b =>
      cases drS r
      simp only [tru] at h
      split at h
      · cases h; exact ⟨by assumption, rfl⟩
      · cases h
    | list xs => cases h; exact sq rfl rfl
    | tuple xs => cases h; exact sq rfl rfl
    | dict _ => cases h
  | loc n =>
    simp only [tru] at h
    cases q : M[n]? with
    | none => rw [q] at h; cases h
    | some c =>
      cases c with
      | lst xs => rw [q] at h; cases h; exact sq (xs := xs) (by simp [sqn, q]) rfl
      | _ => rw [q] at h; cases h
  | ro xs => cases h; exact sq rfl rfl
  | ex c => cases h
  | fz f => cases h
end
section
variable {X : Cx} {xa : XA} {e a b c : Expr} {fe fa fb : RF Vl} {ta tb tc : RF Bool} {pos : Pos} {rest : List Expr}
def fTru (fe : RF Vl) : RF Bool := fun ρ M => (fe ρ M).bind fun x M1 => ofO (tru x M1) M1
theorem st_truth (he : SE X xa e fe) (hp : ∀ whole, isTrue e X.env whole = (do let v ← whole; standAt e.pos; holding [v] (truthy v))) : ST X xa e (fTru fe) := fun W tk =>
  PT.weak (pt_truth (he W tk) hp) fun σ H Q h => by
    obtain ⟨φ, ρ, M, env, sto, h⟩ := h
    refine ⟨φ, ρ, M, env, sto, RP.bind h fun φ1 H1 x M1 v s1 e1 r1 h1 => ?_⟩
    obtain ⟨z, hz, h3⟩ := RP.ofO h1
    exact ⟨z, tru_ok s1 r1 hz, h3 φ1 H1 z s1 .refl rfl⟩
def fCmpT (o : Cm) (fa fb : RF Vl) : RF Bool := fun ρ M => (fa ρ M).bind fun x M1 => (fb ρ M1).bind fun y M2 => ofO (cmp2 o x y M2) M2
theorem fCmpT_read {K : PySem.W.Frag} {W : WQ} {o : Cm} {σ : L2.St} {H : Hp} {Q : Bool → Hp → Prop} (h : tTx K xa W (fCmpT o fa fb) σ H Q) :
    tOp (GR K xa (cmpV o)) (tEx K xa W fa) (tEx K xa W fb) σ H (fun x H' => ∃ k, x = .bl k ∧ Q k H') := by
  obtain ⟨φ, ρ, M, env, sto, h⟩ := h
  refine ⟨φ, ρ, M, env, sto, RP.bind h fun φ1 H1 x M1 v s1 e1 r1 h1 => ?_⟩
  refine ⟨φ1, ρ, M1, env.ext e1, s1, RP.bind h1 fun φ2 H2 y M2 w s2 e2 r2 h2 => ?_⟩
  obtain ⟨z, hz, h3⟩ := RP.ofO h2
  refine ⟨φ2, M2, x, y, .d (.bool z), s2, r1.ext e2, r2, by unfold cmpV; rw [hz]; rfl, fun φ' H' u s' e' r' => ?_⟩
  cases drB r'
  exact ⟨z, rfl, h3 φ' H' z s' e' rfl⟩
theorem st_cmp (o : Cm) (hu : X.A.units + 64 < cLine) (hm : behindInMarks o.op b = false) (ha : SE X xa a fa) (hb : SE X xa b fb) : ST X xa (.Compare a [o.op] [b] pos) (fCmpT o fa fb) := fun W tk =>
  PT.weak (pt_cmpR (op_cmp2 o hu) (ha W tk) (hb W tk) hm) fun σ H Q h => fCmpT_read h
/-- a op b op c -/
def fCh (o o' : Cm) (fa fb fc : RF Vl) : RF Bool := fun ρ M => (fa ρ M).bind fun x M1 => (fb ρ M1).bind fun y M2 => (ofO (cmp2 o x y M2) M2).bind fun k M3 =>
  if k = true then (fc ρ M3).bind fun z M4 => ofO (cmp2 o' y z M4) M4 else .ok false M3
def fBl (f : RF Bool) : RF Vl := fun ρ M => (f ρ M).bind fun k M1 => .ok (.d (.bool k)) M1
theorem fCh_read {K : PySem.W.Frag} {W : WQ} {o o' : Cm} {fc : RF Vl} {σ : L2.St} {H : Hp} {Q : Bool → Hp → Prop} (h : tTx K xa W (fCh o o' fa fb fc) σ H Q) :
    tChain (GR K xa (cmpV o)) (GR K xa (cmpV o')) (tEx K xa W fa) (tEx K xa W fb) (tEx K xa W fc) σ H (fun x H' => ∃ k, x = .bl k ∧ Q k H') := by
  obtain ⟨φ, ρ, M, env, sto, h⟩ := h
  refine ⟨φ, ρ, M, env, sto, RP.bind h fun φ1 H1 x M1 v s1 e1 r1 h1 => ?_⟩
  refine ⟨φ1, ρ, M1, env.ext e1, s1, RP.bind h1 fun φ2 H2 y M2 w s2 e2 r2 h2 => ?_⟩
  cases hz : cmp2 o x y M2 with
  | none => rw [hz] at h2; exact h2.elim
  | some z =>
    rw [hz] at h2
    simp only [ofO_some, Res.bind_ok] at h2
    refine ⟨φ2, M2, x, y, .d (.bool z), s2, r1.ext e2, r2, by unfold cmpV; rw [hz]; rfl, fun φ3 H3 u s3 e3 r3 => ?_⟩
    cases drB r3
    refine ⟨z, rfl, ?_⟩
    have h3 := RP.shift h2 e3
    cases z with
    | false =>
      rw [if_neg Bool.false_ne_true] at h3 ⊢
      exact ⟨false, rfl, h3 φ3 H3 false s3 .refl rfl⟩
    | true =>
      rw [if_pos rfl] at h3 ⊢
      refine ⟨φ3, ρ, M2, ((env.ext e1).ext e2).ext e3, s3, RP.bind h3 fun φ4 H4 z M4 w' s4 e4 r4 h4 => ?_⟩
      obtain ⟨q, hq, h5⟩ := RP.ofO h4
      refine ⟨φ4, M4, y, z, .d (.bool q), s4, (r2.ext e3).ext e4, r4, by unfold cmpV; rw [hq]; rfl, fun φ' H' u s' e' r' => ?_⟩
      cases drB r'
      exact ⟨q, rfl, h5 φ' H' q s' e' rfl⟩
theorem st_chain (o o' : Cm) {fc : RF Vl} (hu : X.A.units + 64 < cLine) (hm : lastMarks [o.op, o'.op] [b, c] = false) (ha : SE X xa a fa) (hb : SE X xa b fb) (hc : SE X xa c fc) : ST X xa (.Compare a [o.op, o'.op] [b, c] pos) (fCh o o' fa fb fc) := fun W tk =>
  PT.weak (pt_chain (op_cmp2 o hu) (op_cmp2 o' hu) (ha W tk) (hb W tk) (hc W tk) hm) fun σ H Q h => fCh_read h
/-- a test's reading as a value's -/
theorem fBl_read {K : PySem.W.Frag} {W : WQ} {f : RF Bool} {σ : L2.St} {H : Hp} {Q : VK} (h : tEx K xa W (fBl f) σ H Q) : tTx K xa W f σ H (fun k H' => Q (.bl k) H') := by
  obtain ⟨φ, ρ, M, env, sto, h⟩ := h
  exact ⟨φ, ρ, M, env, sto, RP.bind h fun φ1 H1 x M1 v s1 e1 r1 h1 => by
    have r1 : x = v := r1
    subst r1
    exact h1 φ1 H1 _ s1 .refl vrB⟩
theorem se_cmpB (o : Cm) (hu : X.A.units + 64 < cLine) (hm : behindInMarks o.op b = false) (ha : SE X xa a fa) (hb : SE X xa b fb) : SE X xa (.Compare a [o.op] [b] pos) (fBl (fCmpT o fa fb)) := fun W tk =>
  PE.weak (pe_cmpR (op_cmp2 o hu) (ha W tk) (hb W tk) hm) fun σ H Q h => by
    obtain ⟨φ, ρ, M, env, sto, h⟩ := fBl_read h
    refine ⟨φ, ρ, M, env, sto, RP.bind h fun φ1 H1 x M1 v s1 e1 r1 h1 => ?_⟩
    refine ⟨φ1, ρ, M1, env.ext e1, s1, RP.bind h1 fun φ2 H2 y M2 w s2 e2 r2 h2 => ?_⟩
    obtain ⟨z, hz, h3⟩ := RP.ofO h2
    refine ⟨φ2, M2, x, y, .d (.bool z), s2, r1.ext e2, r2, by unfold cmpV; rw [hz]; rfl, fun φ' H' u s' e' r' => ?_⟩
    cases drB r'
    exact h3 φ' H' z s' e' rfl
theorem tChain_mono {K : PySem.W.Frag} {W : WQ} {o o' : Cm} {fc : RF Vl} {σ : L2.St} {H : Hp} {Q : VK} (h : tEx K xa W (fBl (fCh o o' fa fb fc)) σ H Q) :
    tChain (GR K xa (cmpV o)) (GR K xa (cmpV o')) (tEx K xa W fa) (tEx K xa W fb) (tEx K xa W fc) σ H Q := by
  obtain ⟨φ, ρ, M, env, sto, h⟩ := fBl_read h
  refine ⟨φ, ρ, M, env, sto, RP.bind h fun φ1 H1 x M1 v s1 e1 r1 h1 => ?_⟩
  refine ⟨φ1, ρ, M1, env.ext e1, s1, RP.bind h1 fun φ2 H2 y M2 w s2 e2 r2 h2 => ?_⟩
  cases hz : cmp2 o x y M2 with
  | none => rw [hz] at h2; exact h2.elim
  | some z =>
    rw [hz] at h2
    simp only [ofO_some, Res.bind_ok] at h2
    refine ⟨φ2, M2, x, y, .d (.bool z), s2, r1.ext e2, r2, by unfold cmpV; rw [hz]; rfl, fun φ3 H3 u s3 e3 r3 => ?_⟩
    cases drB r3
    refine ⟨z, rfl, ?_⟩
    have h3 := RP.shift h2 e3
    cases z with
    | false =>
      rw [if_neg Bool.false_ne_true] at h3 ⊢
      exact h3 φ3 H3 false s3 .refl rfl
    | true =>
      rw [if_pos rfl] at h3 ⊢
      refine ⟨φ3, ρ, M2, ((env.ext e1).ext e2).ext e3, s3, RP.bind h3 fun φ4 H4 z M4 w' s4 e4 r4 h4 => ?_⟩
      obtain ⟨q, hq, h5⟩ := RP.ofO h4
      refine ⟨φ4, M4, y, z, .d (.bool q), s4, (r2.ext e3).ext e4, r4, by unfold cmpV; rw [hq]; rfl, fun φ' H' u s' e' r' => ?_⟩
      cases drB r'
      exact h5 φ' H' q s' e' rfl
theorem se_chain (o o' : Cm) {fc : RF Vl} (hu : X.A.units + 64 < cLine) (hm : lastMarks [o.op, o'.op] [b, c] = false) (ha : SE X xa a fa) (hb : SE X xa b fb) (hc : SE X xa c fc) : SE X xa (.Compare a [o.op, o'.op] [b, c] pos) (fBl (fCh o o' fa fb fc)) := fun W tk =>
  PE.weak (pe_chain (op_cmp2 o hu) (op_cmp2 o' hu) (ha W tk) (hb W tk) (hc W tk) hm) fun σ H Q h => tChain_mono h

/-! ### and, or, not, if-else -/
def fAndT (ta tb : RF Bool) : RF Bool := fun ρ M => (ta ρ M).bind fun k M1 => if k = true then tb ρ M1 else .ok false M1
def fOrT (ta tb : RF Bool) : RF Bool := fun ρ M => (ta ρ M).bind fun k M1 => if k = true then .ok true M1 else tb ρ M1
def fNotT (ta : RF Bool) : RF Bool := fun ρ M => (ta ρ M).bind fun k M1 => .ok (!k) M1
def fAndV (fa fb : RF Vl) : RF Vl := fun ρ M => (fa ρ M).bind fun x M1 => (ofO (tru x M1) M1).bind fun k M2 => if k = true then fb ρ M2 else .ok x M2
def fOrV (fa fb : RF Vl) : RF Vl := fun ρ M => (fa ρ M).bind fun x M1 => (ofO (tru x M1) M1).bind fun k M2 => if k = true then .ok x M2 else fb ρ M2
def fIf (tc : RF Bool) (fa fb : RF Vl) : RF Vl := fun ρ M => (tc ρ M).bind fun k M1 => if k = true then fa ρ M1 else fb ρ M1
/-- a test whatever its whole is -/
def SW (X : Cx) (xa : XA) (e : Expr) (f : RF Bool) : Prop := ∀ W, Tk X W → PW X e (tTx X.K xa W f)
theorem SW.st (h : SW X xa e tc) : ST X xa e tc := fun W tk => PW.pt (h W tk)
theorem sw_and1 (ha : ST X xa a ta) : SW X xa (.BoolOp .And [a] pos) ta := fun W tk => pw_and1 (ha W tk)
theorem sw_or1 (ha : ST X xa a ta) : SW X xa (.BoolOp .Or [a] pos) ta := fun W tk => pw_or1 (ha W tk)
theorem sw_and (ha : ST X xa a ta) (hb : SW X xa (.BoolOp .And (b :: rest) pos) tb) : SW X xa (.BoolOp .And (a :: b :: rest) pos) (fAndT ta tb) := fun W tk =>
  PW.weak (pw_and (ha W tk) (hb W tk)) fun σ H Q h => by
    obtain ⟨φ, ρ, M, env, sto, h⟩ := h
    refine ⟨φ, ρ, M, env, sto, RP.bind h fun φ1 H1 k M1 v s1 e1 r1 h1 => ?_⟩
    have r1 : k = v := r1
    subst r1
    cases k with
    | false => rw [if_neg Bool.false_ne_true] at h1 ⊢; exact h1 φ1 H1 false s1 .refl rfl
    | true => rw [if_pos rfl] at h1 ⊢; exact ⟨φ1, ρ, M1, env.ext e1, s1, h1⟩
theorem sw_or (ha : ST X xa a ta) (hb : SW X xa (.BoolOp .Or (b :: rest) pos) tb) : SW X xa (.BoolOp .Or (a :: b :: rest) pos) (fOrT ta tb) := fun W tk =>
  PW.weak (pw_or (ha W tk) (hb W tk)) fun σ H Q h => by
    obtain ⟨φ, ρ, M, env, sto, h⟩ := h
    refine ⟨φ, ρ, M, env, sto, RP.bind h fun φ1 H1 k M1 v s1 e1 r1 h1 => ?_⟩
    have r1 : k = v := r1
    subst r1
    cases k with
    | true => rw [if_pos rfl] at h1 ⊢; exact h1 φ1 H1 true s1 .refl rfl
    | false => rw [if_neg Bool.false_ne_true] at h1 ⊢; exact ⟨φ1, ρ, M1, env.ext e1, s1, h1⟩
theorem st_not (ha : ST X xa a ta) : ST X xa (.UnaryOp .Not a pos) (fNotT ta) := fun W tk =>
  PT.weak (pt_not (ha W tk)) fun σ H Q h => by
    obtain ⟨φ, ρ, M, env, sto, h⟩ := h
    refine ⟨φ, ρ, M, env, sto, RP.bind h fun φ1 H1 k M1 v s1 e1 r1 h1 => ?_⟩
    have r1 : k = v := r1
    subst r1
    exact h1 φ1 H1 _ s1 .refl rfl
theorem se_one {op : BoolOp} (ha : SE X xa a fa) : SE X xa (.BoolOp op [a] pos) fa := fun W tk => pe_one (ha W tk)
theorem se_and (ha : SE X xa a fa) (hb : SE X xa (.BoolOp .And (b :: rest) pos) fb) : SE X xa (.BoolOp .And (a :: b :: rest) pos) (fAndV fa fb) := fun W tk =>
  PE.weak (pe_andT (ha W tk) (hb W tk)) fun σ H Q h => by
    obtain ⟨φ, ρ, M, env, sto, h⟩ := h
    refine ⟨φ, ρ, M, env, sto, RP.bind h fun φ1 H1 x M1 v s1 e1 r1 h1 => ?_⟩
    cases hz : tru x M1 with
    | none => rw [hz] at h1; exact h1.elim
    | some k =>
      rw [hz] at h1
      simp only [ofO_some, Res.bind_ok] at h1
      refine ⟨k, tru_ok s1 r1 hz, ?_⟩
      cases k with
      | true => rw [if_pos rfl] at h1 ⊢; exact ⟨φ1, ρ, M1, env.ext e1, s1, h1⟩
      | false => rw [if_neg Bool.false_ne_true] at h1 ⊢; exact h1 φ1 H1 v s1 .refl r1
theorem se_or (ha : SE X xa a fa) (hb : SE X xa (.BoolOp .Or (b :: rest) pos) fb) : SE X xa (.BoolOp .Or (a :: b :: rest) pos) (fOrV fa fb) := fun W tk =>
  PE.weak (pe_orT (ha W tk) (hb W tk)) fun σ H Q h => by
    obtain ⟨φ, ρ, M, env, sto, h⟩ := h
    refine ⟨φ, ρ, M, env, sto, RP.bind h fun φ1 H1 x M1 v s1 e1 r1 h1 => ?_⟩
    cases hz : tru x M1 with
    | none => rw [hz] at h1; exact h1.elim
    | some k =>
      rw [hz] at h1
      simp only [ofO_some, Res.bind_ok] at h1
      refine ⟨k, tru_ok s1 r1 hz, ?_⟩
      cases k with
      | false => rw [if_neg Bool.false_ne_true] at h1 ⊢; exact ⟨φ1, ρ, M1, env.ext e1, s1, h1⟩
      | true => rw [if_pos rfl] at h1 ⊢; exact h1 φ1 H1 v s1 .refl r1
theorem se_not (ha : SE X xa a fa) : SE X xa (.UnaryOp .Not a pos) (fBl (fNotT (fTru fa))) := fun W tk =>
  PE.weak (pe_notT (ha W tk)) fun σ H Q h => by
    obtain ⟨φ, ρ, M, env, sto, h⟩ := fBl_read h
    refine ⟨φ, ρ, M, env, sto, ?_⟩
    unfold fNotT fTru at h
    cases hf : fa ρ M with
    | bad => rw [hf] at h; exact h.elim
    | exc c M' => rw [hf] at h; exact h
    | ok x M1 =>
      rw [hf] at h
      simp only [Res.bind_ok] at h
      cases hz : tru x M1 with
      | none => rw [hz] at h; exact h.elim
      | some k =>
        rw [hz] at h
        intro φ1 H1 v s1 e1 r1
        exact ⟨k, tru_ok s1 r1 hz, h φ1 H1 (!k) s1 e1 rfl⟩
theorem se_ife (hc : ST X xa c tc) (ha : SE X xa a fa) (hb : SE X xa b fb) : SE X xa (.IfExp c a b pos) (fIf tc fa fb) := fun W tk =>
  PE.weak (pe_ifExp (hc W tk) (ha W tk) (hb W tk)) fun σ H Q h => by
    obtain ⟨φ, ρ, M, env, sto, h⟩ := h
    refine ⟨φ, ρ, M, env, sto, RP.bind h fun φ1 H1 k M1 v s1 e1 r1 h1 => ?_⟩
    have r1 : k = v := r1
    subst r1
    cases k with
    | true => rw [if_pos rfl] at h1 ⊢; exact ⟨φ1, ρ, M1, env.ext e1, s1, h1⟩
    | false => rw [if_neg Bool.false_ne_true] at h1 ⊢; exact ⟨φ1, ρ, M1, env.ext e1, s1, h1⟩

/-! ### names, constants -/
def fVar (i : Nat) : RF Vl := fun ρ M => match ρ[i]? with
  | some (some x) => .ok x M
  | _ => .bad
def fCon (x : D) : RF Vl := fun _ M => .ok (.d x) M
theorem se_var {i : Nat} {x : Str} (hN : X.N[i]? = some x) (hv : Vis X.env.scope x) (hd : (x == ("__debug__" : Str)) = false) (hcd : (x == ("__classdict__" : Str)) = false) : SE X xa (.Name x pos) (fVar i) := fun W tk =>
  PE.weak (pe_var hN hv hd hcd) fun σ H Q h => by
    obtain ⟨φ, ρ, M, env, sto, h⟩ := h
    unfold fVar at h
    split at h
    · rename_i y e
      obtain ⟨v, h1, h2⟩ := env.2 i y e
      exact ⟨v, h1, h φ H v sto .refl h2⟩
    · exact h.elim
theorem fCon_read {K : PySem.W.Frag} {W : WQ} {d : D} {v : V} {σ : L2.St} {H : Hp} {Q : VK} (h : tEx K xa W (fCon d) σ H Q) (r : ∀ φ H, DR K φ H d v) : Q v H := by
  obtain ⟨φ, ρ, M, env, sto, h⟩ := h
  exact h φ H v sto .refl (r φ H)
theorem se_int {i : Int} {j : Nat} : SE X xa (.Constant (.int i) j pos) (fCon (.int i)) := fun W tk => PE.weak pe_int fun σ H Q h => fCon_read h fun _ _ => by simp [DR]
theorem se_bl {i : Bool} {j : Nat} : SE X xa (.Constant (.bool i) j pos) (fCon (.bool i)) := fun W tk => PE.weak pe_bl fun σ H Q h => fCon_read h fun _ _ => by simp [DR]
theorem se_str {i : Str} {j : Nat} : SE X xa (.Constant (.str i) j pos) (fCon (.str i)) := fun W tk => PE.weak pe_str fun σ H Q h => fCon_read h fun _ _ => by simp [DR]
theorem se_non {j : Nat} : SE X xa (.Constant .none j pos) (fCon .none) := fun W tk => PE.weak pe_non fun σ H Q h => fCon_read h fun _ _ => by simp [DR]
theorem se_glob {x : Str} {d : D} {u : Value} {v : V} (hg : Gl X x) (hm : X.mg x = some u) (r : RelV v u) (hd : ∀ φ H, DR X.K φ H d v) (hdb : (x == ("__debug__" : Str)) = false) : SE X xa (.Name x pos) (fCon d) := fun W tk =>
  PE.weak (pe_glob hg hm r hdb) fun σ H Q h => fCon_read h hd
def fNeg (fa : RF Vl) : RF Vl := fun ρ M => (fa ρ M).bind fun x M1 => match x with
  | .d (.int i) => .ok (.d (.int (-i))) M1
  | _ => .bad
theorem se_neg (ha : SE X xa a fa) : SE X xa (.UnaryOp .USub a pos) (fNeg fa) := fun W tk =>
  PE.weak (pe_un un_neg (ha W tk)) fun σ H Q h => by
    obtain ⟨φ, ρ, M, env, sto, h⟩ := h
    refine ⟨φ, ρ, M, env, sto, RP.bind h fun φ1 H1 x M1 v s1 e1 r1 h1 => ?_⟩
    split at h1
    · cases drI r1
      exact ⟨_, rfl, h1 φ1 H1 _ s1 .refl vrI⟩
    · exact h1.elim

/-! ### arguments, displays -/
def fNil : RF (List Vl) := fun _ M => .ok [] M
def fCons (fa : RF Vl) (fr : RF (List Vl)) : RF (List Vl) := fun ρ M => (fa ρ M).bind fun x M1 => (fr ρ M1).bind fun xs M2 => .ok (x :: xs) M2
theorem sa_nil : SA X xa [] fNil := fun W tk => PA.weak pa_nil fun σ H Q h => by
  obtain ⟨φ, ρ, M, env, sto, h⟩ := h
  exact h φ H [] sto .refl rfl
theorem sa_cons {es : List Expr} {fr : RF (List Vl)} (ha : SE X xa e fe) (hr : SA X xa es fr) (hs : starEach (e :: es) X.env = (false, eval e X.env) :: starEach es X.env) : SA X xa (e :: es) (fCons fe fr) := fun W tk =>
  PA.weak (pa_cons (ha W tk) (hr W tk) hs) fun σ H Q h => by
    obtain ⟨φ, ρ, M, env, sto, h⟩ := h
    refine ⟨φ, ρ, M, env, sto, RP.bind h fun φ1 H1 x M1 v s1 e1 r1 h1 => ?_⟩
    refine ⟨φ1, ρ, M1, env.ext e1, s1, RP.bind h1 fun φ2 H2 xs M2 vs s2 e2 r2 h2 => ?_⟩
    exact h2 φ2 H2 (v :: vs) s2 .refl ⟨v, vs, rfl, r1.ext e2, r2⟩
def allD : List Vl → Option (List D)
  | [] => some []
  | .d x :: r => (allD r).map (x :: ·)
  | _ :: _ => none
theorem allD_ok {K : PySem.W.Frag} {φ : Fm} {H : Hp} : ∀ {as : List Vl} {vs : List V} {ds : List D}, VRs K φ H xa as vs → allD as = some ds → DRs K φ H ds vs
  | [], vs, ds, r, h => by cases h; cases r; exact DRs.nil
  | a :: as, vs, ds, r, h => by
    obtain ⟨v, ws, rfl, r1, r2⟩ := r
    cases a with
    | d x =>
      simp only [allD] at h
      cases q : allD as with
      | none => rw [q] at h; cases h
      | some es => rw [q] at h; cases h; exact DRs.cons r1 (allD_ok r2 q)
    | _ => cases h
def tupG (as : List Vl) : Option Vl := (allD as).bind fun ds => if ds.length ≤ sizeLine then some (.d (.tuple ds)) else none
def lstG (as : List Vl) : Option Vl := (allD as).bind fun ds => if ds.length ≤ sizeLine then some (.d (.list ds)) else none
def fTup (fl : RF (List Vl)) : RF Vl := fun ρ M => (fl ρ M).bind fun as M1 => ofO (tupG as) M1
def fLst (fl : RF (List Vl)) : RF Vl := fun ρ M => (fl ρ M).bind fun as M1 => ofO (lstG as) M1
/-- a list that will be changed -/
def fCls (fl : RF (List Vl)) : RF Vl := fun ρ M => (fl ρ M).bind fun as M1 => match lstG as with
  | some (.d (.list ds)) => .ok (.loc M1.length) (M1 ++ [.lst ds])
  | _ => .bad
variable {es : List Expr} {fl : RF (List Vl)}
theorem some_of_bind {ds : Option (List D)} {z : Vl} {g : List D → Vl} (h : (ds.bind fun ds => if ds.length ≤ sizeLine then some (g ds) else none) = some z) : ∃ es, ds = some es ∧ es.length ≤ sizeLine ∧ z = g es := by
  cases ds with
  | none => cases h
  | some es =>
    simp only [Option.bind_some] at h
    split at h
    · cases h; exact ⟨es, rfl, by assumption, rfl⟩
    · cases h
theorem se_tup {x1 : Nat} (hl : SA X xa es fl) : SE X xa (.Tuple es x1 pos) (fTup fl) := fun W tk =>
  PE.weak (pe_tup (hl W tk)) fun σ H Q h => by
    obtain ⟨φ, ρ, M, env, sto, h⟩ := h
    refine ⟨φ, ρ, M, env, sto, RP.bind h fun φ1 H1 as M1 vs s1 e1 r1 h1 => ?_⟩
    obtain ⟨z, hz, h3⟩ := RP.ofO h1
    obtain ⟨ds, hd, hl, rfl⟩ := some_of_bind hz
    have r := allD_ok r1 hd
    have hl' : vs.length ≤ sizeLine := by rw [r.length]; exact hl
    exact ⟨hl', fun p hp => h3 φ1 _ _ (s1.new hp hl') (Ext.new s1 hp) (vrT s1 hp r)⟩
theorem se_lst (hl : SA X xa es fl) : SE X xa (.List es pos) (fLst fl) := fun W tk =>
  PE.weak (pe_lst (hl W tk)) fun σ H Q h => by
    obtain ⟨φ, ρ, M, env, sto, h⟩ := h
    refine ⟨φ, ρ, M, env, sto, RP.bind h fun φ1 H1 as M1 vs s1 e1 r1 h1 => ?_⟩
    obtain ⟨z, hz, h3⟩ := RP.ofO h1
    obtain ⟨ds, hd, hl, rfl⟩ := some_of_bind hz
    have r := allD_ok r1 hd
    have hl' : vs.length ≤ sizeLine := by rw [r.length]; exact hl
    exact ⟨hl', fun p hp => h3 φ1 _ _ (s1.new hp hl') (Ext.new s1 hp) (vrL s1 hp r)⟩
theorem vrC {K : PySem.W.Frag} {φ : Fm} {M : Store} {H : Hp} {p : Addr} (s : Sto K φ M H) {H' : Hp} : VR K (φ.push p) H' xa (.loc M.length) (.ref p) :=
  ⟨p, rfl, by rw [← s.ln, List.getElem?_append_right (Nat.le_refl _)]; simp⟩
theorem se_cls (hl : SA X xa es fl) : SE X xa (.List es pos) (fCls fl) := fun W tk =>
  PE.weak (pe_lst (hl W tk)) fun σ H Q h => by
    obtain ⟨φ, ρ, M, env, sto, h⟩ := h
    refine ⟨φ, ρ, M, env, sto, RP.bind h fun φ1 H1 as M1 vs s1 e1 r1 h1 => ?_⟩
    split at h1
    · rename_i ds hz
      obtain ⟨ds', hd, hl, e⟩ := some_of_bind hz
      cases e
      have r := allD_ok r1 hd
      have hl' : vs.length ≤ sizeLine := by rw [r.length]; exact hl
      exact ⟨hl', fun p hp => h1 (φ1.push p) _ _ (s1.alloc hp r hl) (Ext.alloc s1 hp) (vrC s1)⟩
    · exact h1.elim
end
end TL

namespace TL
open PySem PySem.Spec
open PyProof.Rows L2

/-! ### subscripts, slices -/
def ix2 (x y : Vl) (M : Store) : Option Vl :=
  match y with
  | .d (.int i) => match sqn x M with
    | some xs => (atI xs i).map .d
    | none => match x with
      | .d (.str z) => if z.length ≤ sizeLine then (atI z.cps.toList i).map fun c => .d (.str ⟨#[c]⟩) else none
      | _ => none
  | _ => none
def cutD (xs : List D) (lo hi : Option Int) : List D := (xs.drop (HT.sIx xs.length 0 lo)).take (HT.sIx xs.length xs.length hi - HT.sIx xs.length 0 lo)
/-- cell: the new list will be changed -/
def sl2 (cell : Bool) (x : Vl) (lo hi : Option Int) (M : Store) : Option (Vl × Store) :=
  match x with
  | .d (.str z) => if z.length ≤ sizeLine then some (.d (.str (cutS z lo hi)), M) else none
  | .d (.tuple xs) => some (.d (.tuple (cutD xs lo hi)), M)
  | x => match sqn x M with
    | some xs => if cell = true then some (.loc M.length, M ++ [.lst (cutD xs lo hi)]) else some (.d (.list (cutD xs lo hi)), M)
    | none => none
section
variable {K : PySem.W.Frag} {xa : XA} {φ : Fm} {M : Store} {H : Hp} {x : Vl} {v : V}
theorem DRs.atI {xs : List D} {vs : List V} (h : DRs K φ H xs vs) {i : Int} {y : D} (e : atI xs i = some y) : ∃ v, L2.atI vs i = some v ∧ DR K φ H y v := by
  unfold L2.atI at e ⊢
  rw [h.length]
  cases q : ixN xs.length i with
  | none => rw [q] at e; cases e
  | some j =>
    rw [q] at e
    exact h.get e
theorem DRs.cut {xs : List D} {vs : List V} (h : DRs K φ H xs vs) (lo hi : Option Int) : DRs K φ H (cutD xs lo hi) (cutV vs lo hi) := by
  unfold cutD cutV
  rw [h.length]
  exact (h.drop _).take _
theorem cutD_length (xs : List D) (lo hi : Option Int) : (cutD xs lo hi).length ≤ xs.length := by
  unfold cutD
  rw [List.length_take, List.length_drop]
  omega
theorem sq_len {a : Addr} {vs : List V} (I : Sz H) (h : SqL K H a vs ∨ SqT K H a vs) : vs.length ≤ sizeLine := by
  rcases h with (h | ⟨o, its, n, _, _, _, _, hz, r⟩) | (h | ⟨o, its, n, _, _, _, hz, r⟩)
  · exact I a vs (.inl h)
  · exact Nat.le_trans (Nat.le_of_eq (r.length.trans Array.length_toList)) hz
  · exact I a vs (.inr h)
  · exact Nat.le_trans (Nat.le_of_eq (r.length.trans Array.length_toList)) hz
end
section
variable {X : Cx} {xa : XA} {e a b c : Expr} {fe fa fb : RF Vl} {pos p2 : Pos}
theorem ixR2 : IxR X (GR X.K xa ix2) := by
  intro value slice pins s σ H v w u u' Q I ru rw' ⟨φ, M, x, y, z, st, rx, ry, hz, q⟩ hs
  unfold ix2 at hz
  split at hz
  · cases drI ry
    split at hz
    · rename_i xs e1
      obtain ⟨a, vs, rfl, h1, h2⟩ := sqn_ok st rx e1
      cases e2 : atI xs _ with
      | none => rw [e2] at hz; cases hz
      | some d =>
        rw [e2] at hz; cases hz
        obtain ⟨v', e3, r3⟩ := h2.atI e2
        rcases h1 with h1 | h1
        · exact ix_seq value slice pins s σ H _ _ u u' Q I ru rw' (.inl ⟨a, vs, _, v', rfl, rfl, h1, e3, q φ H v' st .refl r3⟩) hs
        · exact ix_seq value slice pins s σ H _ _ u u' Q I ru rw' (.inr (.inl ⟨a, vs, _, v', rfl, rfl, h1, e3, q φ H v' st .refl r3⟩)) hs
    · split at hz
      · rename_i z0 _
        split at hz
        · cases drS rx
          rename_i hl
          cases e2 : atI z0.cps.toList _ with
          | none => rw [e2] at hz; cases hz
          | some d =>
            rw [e2] at hz; cases hz
            exact ix_seq value slice pins s σ H _ _ u u' Q I ru rw' (.inr (.inr ⟨_, _, d, rfl, rfl, hl, e2, q φ H _ st .refl vrS⟩)) hs
        · cases hz
      · cases hz
  · cases hz
theorem se_ix (ha : SE X xa a fa) (hb : SE X xa b fb) (hs : PlainIx b) : SE X xa (.Subscript a b pos) (fBin ix2 fa fb) := fun W tk =>
  PE.weak (pe_ix ixR2 (ha W tk) (hb W tk) hs) fun σ H Q h => fBin_read h
/-- a part of a slice -/
def SO (X : Cx) (xa : XA) (e : Option Expr) (f : RF (Option Int)) : Prop := ∀ W, Tk X W → PO X e (fun σ H Q => ∃ φ ρ M, EnvR X.K xa φ H ρ σ ∧ Sto X.K φ M H ∧ RP X.K W σ φ H (fun _ _ x v => x = v) Q (f ρ M))
def fNoPart : RF (Option Int) := fun _ M => .ok none M
def fPart (fa : RF Vl) : RF (Option Int) := fun ρ M => (fa ρ M).bind fun x M1 => match x with
  | .d (.int i) => .ok (some i) M1
  | _ => .bad
theorem PO.weak {e : Option Expr} {t t' : TO} (h : PO X e t) (k : ∀ σ H Q, t' σ H Q → t σ H Q) : PO X e t' := ⟨fun pins s σ H Q I q => h.run pins s σ H Q I (k σ H Q q)⟩
theorem so_none : SO X xa none fNoPart := fun W tk => PO.weak po_none fun σ H Q h => by
  obtain ⟨φ, ρ, M, env, sto, h⟩ := h
  exact h φ H none sto .refl rfl
theorem so_some (ha : SE X xa a fa) : SO X xa (some a) (fPart fa) := fun W tk => PO.weak (po_some (ha W tk)) fun σ H Q h => by
  obtain ⟨φ, ρ, M, env, sto, h⟩ := h
  refine ⟨φ, ρ, M, env, sto, RP.bind h fun φ1 H1 x M1 v s1 e1 r1 h1 => ?_⟩
  split at h1
  · rename_i i
    cases drI r1
    exact ⟨i, rfl, h1 φ1 H1 (some i) s1 .refl rfl⟩
  · exact h1.elim
def GS (K : PySem.W.Frag) (xa : XA) (cell : Bool) : V → Option Int → Option Int → Hp → VK → Prop := fun v lo hi H Q => ∃ φ M x z M', Sto K φ M H ∧ VR K φ H xa x v ∧ sl2 cell x lo hi M = some (z, M') ∧
  ∀ φ' H' u, Sto K φ' M' H' → Ext φ H φ' H' → VR K φ' H' xa z u → Q u H'
theorem slR2 (cell : Bool) : SlR X (GS X.K xa cell) := by
  intro pins s σ H v u vl vu lo hi sl Q I ru hs pl pu ⟨φ, M, x, z, M', st, rx, hz, q⟩
  have lst : ∀ {xs : List D}, sqn x M = some xs → (∀ y, x ≠ .d (.tuple y)) → (if cell = true then some (Vl.loc M.length, M ++ [.lst (cutD xs lo hi)]) else some (.d (.list (cutD xs lo hi)), M)) = some (z, M') →
      ∃ T id, typeLookup (.type T) "__getitem__" = pure (some (.builtin id)) ∧ s.TypeIs u T ∧ wpAny (model X.prog X.w) X.A (getItem u (.ref sl)) (EP X pins σ Q) X.xe s := fun {xs} e1 nt hz => by
    obtain ⟨a, vs, rfl, h1, h2⟩ := sqn_ok st rx e1
    have hL : SqL X.K H a vs := by
      cases x with
      | d x =>
        cases x with
        | list ys =>
          cases e1
          obtain ⟨a', vs', e, k1, k2⟩ := lsq_ok (xs := xs) st rx rfl
          cases e
          rcases h1 with h1 | h1
          · exact h1
          · have := I.list_inj (SqL.of k1) (SqL.of k1)
            obtain ⟨its, r, pl1, _⟩ := I.list (SqL.of k1)
            obtain ⟨its2, r2, pl2, _⟩ := I.tuple h1
            obtain ⟨o, n, e1, c1, _, _⟩ := pl1
            obtain ⟨o2, e2, c2, _⟩ := pl2
            rw [e1] at e2; cases e2
            rw [c1] at c2; exact absurd c2 (by decide +kernel)
        | tuple ys => exact absurd rfl (nt ys)
        | _ => cases e1
      | loc n =>
        obtain ⟨a', vs', e, k1, k2⟩ := lsq_ok (xs := xs) st rx e1
        cases e
        rcases h1 with h1 | h1
        · exact h1
        · obtain ⟨its, r, pl1, _⟩ := I.list (SqL.of k1)
          obtain ⟨its2, r2, pl2, _⟩ := I.tuple h1
          obtain ⟨o, n, e1, c1, _, _⟩ := pl1
          obtain ⟨o2, e2, c2, _⟩ := pl2
          rw [e1] at e2; cases e2
          rw [c1] at c2; exact absurd c2 (by decide +kernel)
      | ro ys =>
        obtain ⟨a', vs', e, k1, k2⟩ := rx
        cases e
        rcases h1 with h1 | h1
        · exact h1
        · obtain ⟨its, r, pl1, _⟩ := I.list k1.sq
          obtain ⟨its2, r2, pl2, _⟩ := I.tuple h1
          obtain ⟨o, n, e1, c1, _, _⟩ := pl1
          obtain ⟨o2, e2, c2, _⟩ := pl2
          rw [e1] at e2; cases e2
          rw [c1] at c2; exact absurd c2 (by decide +kernel)
      | ex c => cases e1
      | fz f => cases e1
    have hl : (cutV vs lo hi).length ≤ sizeLine := Nat.le_trans (cutV_length vs lo hi) (sq_len st.sz (.inl hL))
    have r := h2.cut lo hi
    have hl2 : (cutD xs lo hi).length ≤ sizeLine := by rw [← r.length]; exact hl
    refine sl_list pins s σ H _ u vl vu lo hi sl Q I ru hs pl pu ⟨a, vs, rfl, hL, fun p hp => ?_⟩
    split at hz
    · cases hz
      exact q (φ.push p) _ _ (st.alloc hp r hl2) (Ext.alloc st hp) (vrC st)
    · cases hz
      exact q φ _ _ (st.new hp hl) (Ext.new st hp) (vrL st hp r)
  unfold sl2 at hz
  split at hz
  · split at hz
    · cases hz; cases drS rx
      exact sl_str pins s σ H _ u vl vu lo hi sl Q I ru hs pl pu ⟨_, rfl, by assumption, q φ H _ st .refl vrS⟩
    · cases hz
  · cases hz
    rename_i xs
    obtain ⟨a, vs, rfl, h1, h2⟩ := drT rx
    refine sl_tupA pins s σ H _ u vl vu lo hi sl Q I ru hs pl pu ⟨a, vs, rfl, h1.sq, fun e => ?_, fun _ p hp => ?_⟩
    · refine q φ H _ st .refl ?_
      have e2 : cutD xs lo hi = xs := by
        unfold cutD
        rw [h2.length] at e
        rw [e.1, e.2, List.drop_zero, Nat.sub_zero, List.take_length]
      rw [e2]; exact rx
    · have hl : (cutV vs lo hi).length ≤ sizeLine := Nat.le_trans (cutV_length vs lo hi) (sq_len st.sz (.inr h1.sq))
      exact q φ _ _ (st.new hp hl) (Ext.new st hp) (vrT st hp (h2.cut lo hi))
  · rename_i n1 n2
    split at hz
    · rename_i xs e1
      exact lst e1 (fun y e => n2 y e) hz
    · cases hz
def fSl (cell : Bool) (fe : RF Vl) (fl fh : RF (Option Int)) : RF Vl := fun ρ M => (fe ρ M).bind fun x M1 => (fl ρ M1).bind fun lo M2 => (fh ρ M2).bind fun hi M3 => match sl2 cell x lo hi M3 with
  | some (z, M4) => .ok z M4
  | none => .bad
theorem se_slice (cell : Bool) {lo hi : Option Expr} {fl fh : RF (Option Int)} (he : SE X xa e fe) (hl : SO X xa lo fl) (hh : SO X xa hi fh) : SE X xa (.Subscript e (.Slice lo hi none p2) pos) (fSl cell fe fl fh) := fun W tk =>
  PE.weak (pe_slice (slR2 cell) (he W tk) (hl W tk) (hh W tk)) fun σ H Q h => by
    obtain ⟨φ, ρ, M, env, sto, h⟩ := h
    refine ⟨φ, ρ, M, env, sto, RP.bind h fun φ1 H1 x M1 v s1 e1 r1 h1 => ?_⟩
    refine ⟨φ1, ρ, M1, env.ext e1, s1, RP.bind h1 fun φ2 H2 l M2 lv s2 e2 r2 h2 => ?_⟩
    refine ⟨φ2, ρ, M2, (env.ext e1).ext e2, s2, RP.bind h2 fun φ3 H3 g M3 gv s3 e3 r3 h3 => ?_⟩
    have r2 : l = lv := r2
    have r3 : g = gv := r3
    subst r2; subst r3
    split at h3
    · rename_i z M4 hz
      exact ⟨φ3, M3, x, z, M4, s3, (r1.ext e2).ext e3, hz, h3⟩
    · exact h3.elim
end

/-! ### built-in functions -/
def intsOf : List D → Option (List Int)
  | [] => some []
  | .int i :: r => (intsOf r).map (i :: ·)
  | _ :: _ => none
def boolsOf : List D → Option (List Bool)
  | [] => some []
  | .bool i :: r => (boolsOf r).map (i :: ·)
  | _ :: _ => none
theorem intsOf_ok {K : PySem.W.Frag} {φ : Fm} {H : Hp} : ∀ {xs : List D} {vs : List V} {ns : List Int}, DRs K φ H xs vs → intsOf xs = some ns → vs = ns.map V.int
  | [], vs, ns, r, h => by cases h; simp only [DRs] at r; subst r; rfl
  | x :: xs, vs, ns, r, h => by
    simp only [DRs] at r
    obtain ⟨v, ws, rfl, r1, r2⟩ := r
    cases x with
    | int i =>
      simp only [intsOf] at h
      cases q : intsOf xs with
      | none => rw [q] at h; cases h
      | some es =>
        rw [q] at h; cases h
        simp only [DR] at r1
        subst r1
        rw [intsOf_ok r2 q]; rfl
    | _ => cases h
theorem boolsOf_ok {K : PySem.W.Frag} {φ : Fm} {H : Hp} : ∀ {xs : List D} {vs : List V} {ns : List Bool}, DRs K φ H xs vs → boolsOf xs = some ns → vs = ns.map V.bl
  | [], vs, ns, r, h => by cases h; simp only [DRs] at r; subst r; rfl
  | x :: xs, vs, ns, r, h => by
    simp only [DRs] at r
    obtain ⟨v, ws, rfl, r1, r2⟩ := r
    cases x with
    | bool i =>
      simp only [boolsOf] at h
      cases q : boolsOf xs with
      | none => rw [q] at h; cases h
      | some es =>
        rw [q] at h; cases h
        simp only [DR] at r1
        subst r1
        rw [boolsOf_ok r2 q]; rfl
    | _ => cases h
/-- what a built-in function or class makes of values: the value, the store behind -/
abbrev BF := List Vl → Store → Option (Vl × Store)
def CRr (K : PySem.W.Frag) (xa : XA) (g : BF) : List V → Hp → VK → Prop := fun vs H Q => ∃ φ M as z M', Sto K φ M H ∧ VRs K φ H xa as vs ∧ g as M = some (z, M') ∧
  ∀ φ' H' u, Sto K φ' M' H' → Ext φ H φ' H' → VR K φ' H' xa z u → Q u H'
def fApp (g : BF) (fl : RF (List Vl)) : RF Vl := fun ρ M => (fl ρ M).bind fun as M1 => match g as M1 with
  | some (z, M2) => .ok z M2
  | none => .bad
def lenG : BF
  | [.d (.str z)], M => if z.length ≤ sizeLine then some (.d (.int z.length), M) else none
  | [x], M => (sqn x M).map fun xs => (.d (.int xs.length), M)
  | _, _ => none
def absG : BF
  | [.d (.int i)], M => some (.d (.int (if i < 0 then -i else i)), M)
  | _, _ => none
def intG : BF
  | [.d (.int i)], M => some (.d (.int i), M)
  | [.d (.bool b)], M => some (.d (.int (if b then 1 else 0)), M)
  | _, _ => none
def tupleG : BF
  | [.d (.tuple xs)], M => some (.d (.tuple xs), M)
  | [x], M => (sqn x M).map fun xs => (.d (.tuple xs), M)
  | _, _ => none
def listG (cell : Bool) : BF
  | [x], M => (sqn x M).map fun xs => if cell = true then (.loc M.length, M ++ [.lst xs]) else (.d (.list xs), M)
  | _, _ => none
def allG : BF
  | [x], M => (lsq x M).bind fun xs => (boolsOf xs).map fun bs => (.d (.bool (bs.all id)), M)
  | _, _ => none
def anyG : BF
  | [x], M => (lsq x M).bind fun xs => (boolsOf xs).map fun bs => (.d (.bool (bs.any id)), M)
  | _, _ => none
def sumG : BF
  | [x], M => (lsq x M).bind fun xs => (intsOf xs).map fun ns => (.d (.int ns.sum), M)
  | _, _ => none
def max2G : BF
  | [.d (.int i), .d (.int j)], M => some (.d (.int (if j > i then j else i)), M)
  | _, _ => none
def min2G : BF
  | [.d (.int i), .d (.int j)], M => some (.d (.int (if j < i then j else i)), M)
  | _, _ => none
section
variable {X : Cx} {xa : XA}
theorem vrs1 {K : PySem.W.Frag} {φ : Fm} {H : Hp} {x : Vl} {vs : List V} (h : VRs K φ H xa [x] vs) : ∃ v, vs = [v] ∧ VR K φ H xa x v := by
  obtain ⟨v, r, rfl, h1, h2⟩ := h
  cases h2
  exact ⟨v, rfl, h1⟩
theorem vrs2 {K : PySem.W.Frag} {φ : Fm} {H : Hp} {x y : Vl} {vs : List V} (h : VRs K φ H xa [x, y] vs) : ∃ v w, vs = [v, w] ∧ VR K φ H xa x v ∧ VR K φ H xa y w := by
  obtain ⟨v, r, rfl, h1, h2⟩ := h
  obtain ⟨w, rfl, h3⟩ := vrs1 h2
  exact ⟨v, w, rfl, h1, h3⟩
theorem cr_len : CallR X (.builtin "len") (CRr X.K xa lenG) := by
  intro pins s σ H vs us Q I rs ⟨φ, M, as, z, M', st, ra, hz, q⟩
  unfold lenG at hz
  split at hz
  · obtain ⟨v, rfl, r⟩ := vrs1 ra
    cases drS r
    split at hz
    · cases hz
      exact call_len_str pins s σ H _ us Q I rs ⟨_, rfl, by assumption, q φ H _ st .refl vrI⟩
    · cases hz
  · obtain ⟨v, rfl, r⟩ := vrs1 ra
    rename_i x _
    cases e : sqn x M with
    | none => rw [e] at hz; cases hz
    | some xs =>
      rw [e] at hz; cases hz
      obtain ⟨a, ws, rfl, h1, h2⟩ := sqn_ok st r e
      refine call_len_seq pins s σ H _ us Q I rs ⟨a, ws, rfl, h1, ?_⟩
      rw [h2.length]
      exact q φ H _ st .refl vrI
  · cases hz
theorem cr_abs : CallR X (.builtin "abs") (CRr X.K xa absG) := by
  intro pins s σ H vs us Q I rs ⟨φ, M, as, z, M', st, ra, hz, q⟩
  unfold absG at hz
  split at hz
  · obtain ⟨v, rfl, r⟩ := vrs1 ra
    cases drI r; cases hz
    exact call_abs pins s σ H _ us Q I rs ⟨_, rfl, q φ H _ st .refl vrI⟩
  · cases hz
theorem cr_int : CallR X (.type "int") (CRr X.K xa intG) := by
  intro pins s σ H vs us Q I rs ⟨φ, M, as, z, M', st, ra, hz, q⟩
  unfold intG at hz
  split at hz
  · obtain ⟨v, rfl, r⟩ := vrs1 ra
    cases drI r; cases hz
    exact call_int1 pins s σ H _ us Q I rs (.inl ⟨_, rfl, q φ H _ st .refl vrI⟩)
  · obtain ⟨v, rfl, r⟩ := vrs1 ra
    cases drB r; cases hz
    exact call_int1 pins s σ H _ us Q I rs (.inr ⟨_, rfl, q φ H _ st .refl vrI⟩)
  · cases hz
theorem cr_list (cell : Bool) : CallR X (.type "list") (CRr X.K xa (listG cell)) := by
  intro pins s σ H vs us Q I rs ⟨φ, M, as, z, M', st, ra, hz, q⟩
  unfold listG at hz
  split at hz
  · obtain ⟨v, rfl, r⟩ := vrs1 ra
    rename_i x
    cases e : sqn x M with
    | none => rw [e] at hz; cases hz
    | some xs =>
      rw [e] at hz
      obtain ⟨a, ws, rfl, h1, h2⟩ := sqn_ok st r e
      have hl := sq_len st.sz h1
      have hl2 : xs.length ≤ sizeLine := by rw [← h2.length]; exact hl
      refine call_list_of pins s σ H _ us Q I rs ⟨a, ws, rfl, h1, fun p hp => ?_⟩
      cases cell with
      | true => cases hz; exact q (φ.push p) _ _ (st.alloc hp h2 hl2) (Ext.alloc st hp) (vrC st)
      | false => cases hz; exact q φ _ _ (st.new hp hl) (Ext.new st hp) (vrL st hp h2)
  · cases hz
theorem cr_tuple : CallR X (.type "tuple") (CRr X.K xa tupleG) := by
  intro pins s σ H vs us Q I rs ⟨φ, M, as, z, M', st, ra, hz, q⟩
  unfold tupleG at hz
  split at hz
  · obtain ⟨v, rfl, r⟩ := vrs1 ra
    cases hz
    obtain ⟨a, ws, rfl, h1, h2⟩ := drT r
    exact call_tuple_of pins s σ H _ us Q I rs ⟨a, ws, rfl, .inr ⟨h1.sq, q φ H _ st .refl r⟩⟩
  · obtain ⟨v, rfl, r⟩ := vrs1 ra
    rename_i x nt
    cases e : sqn x M with
    | none => rw [e] at hz; cases hz
    | some xs =>
      rw [e] at hz; cases hz
      have hL : ∃ a ws, v = .ref a ∧ SqL X.K H a ws ∧ DRs X.K φ H xs ws := by
        cases x with
        | d x =>
          cases x with
          | list ys => cases e; obtain ⟨a, ws, e, k1, k2⟩ := lsq_ok (xs := xs) st r rfl; exact ⟨a, ws, e, SqL.of k1, k2⟩
          | tuple ys => exact absurd rfl (nt ys)
          | _ => cases e
        | loc n => obtain ⟨a, ws, e, k1, k2⟩ := lsq_ok (xs := xs) st r e; exact ⟨a, ws, e, SqL.of k1, k2⟩
        | ro ys => cases e; obtain ⟨a, ws, e, k1, k2⟩ := r; exact ⟨a, ws, e, k1.sq, k2⟩
        | ex c => cases e
        | fz f => cases e
      obtain ⟨a, ws, rfl, h1, h2⟩ := hL
      have hl := sq_len st.sz (.inl h1)
      refine call_tuple_of pins s σ H _ us Q I rs ⟨a, ws, rfl, .inl ⟨h1, fun p hp => ?_⟩⟩
      exact q φ _ _ (st.new hp hl) (Ext.new st hp) (vrT st hp h2)
  · cases hz
theorem cr_all2 (hc : X.calm = true) : CallR X (.builtin "all") (CRr X.K xa allG) := by
  intro pins s σ H vs us Q I rs ⟨φ, M, as, z, M', st, ra, hz, q⟩
  unfold allG at hz
  split at hz
  · obtain ⟨v, rfl, r⟩ := vrs1 ra
    rename_i x
    cases e : lsq x M with
    | none => rw [e] at hz; cases hz
    | some xs =>
      rw [e] at hz
      simp only [Option.bind_some] at hz
      cases e2 : boolsOf xs with
      | none => rw [e2] at hz; cases hz
      | some bs =>
        rw [e2] at hz; cases hz
        obtain ⟨a, ws, rfl, h1, h2⟩ := lsq_ok st r e
        have := boolsOf_ok h2 e2
        subst this
        exact cr_all hc pins s σ H _ us Q I rs ⟨a, bs, rfl, SqL.of h1, q φ H _ st .refl vrB⟩
  · cases hz
theorem cr_any2 (hc : X.calm = true) : CallR X (.builtin "any") (CRr X.K xa anyG) := by
  intro pins s σ H vs us Q I rs ⟨φ, M, as, z, M', st, ra, hz, q⟩
  unfold anyG at hz
  split at hz
  · obtain ⟨v, rfl, r⟩ := vrs1 ra
    rename_i x
    cases e : lsq x M with
    | none => rw [e] at hz; cases hz
    | some xs =>
      rw [e] at hz
      simp only [Option.bind_some] at hz
      cases e2 : boolsOf xs with
      | none => rw [e2] at hz; cases hz
      | some bs =>
        rw [e2] at hz; cases hz
        obtain ⟨a, ws, rfl, h1, h2⟩ := lsq_ok st r e
        have := boolsOf_ok h2 e2
        subst this
        exact cr_any hc pins s σ H _ us Q I rs ⟨a, bs, rfl, SqL.of h1, q φ H _ st .refl vrB⟩
  · cases hz
theorem cr_sum2 (hc : X.calm = true) : CallR X (.builtin "sum") (CRr X.K xa sumG) := by
  intro pins s σ H vs us Q I rs ⟨φ, M, as, z, M', st, ra, hz, q⟩
  unfold sumG at hz
  split at hz
  · obtain ⟨v, rfl, r⟩ := vrs1 ra
    rename_i x
    cases e : lsq x M with
    | none => rw [e] at hz; cases hz
    | some xs =>
      rw [e] at hz
      simp only [Option.bind_some] at hz
      cases e2 : intsOf xs with
      | none => rw [e2] at hz; cases hz
      | some bs =>
        rw [e2] at hz; cases hz
        obtain ⟨a, ws, rfl, h1, h2⟩ := lsq_ok st r e
        have := intsOf_ok h2 e2
        subst this
        exact cr_sum hc pins s σ H _ us Q I rs ⟨a, bs, rfl, SqL.of h1, q φ H _ st .refl vrI⟩
  · cases hz
theorem cr_max2 (hc : X.calm = true) : CallR X (.builtin "max") (CRr X.K xa max2G) := by
  intro pins s σ H vs us Q I rs ⟨φ, M, as, z, M', st, ra, hz, q⟩
  unfold max2G at hz
  split at hz
  · obtain ⟨v, w, rfl, r, r'⟩ := vrs2 ra
    cases drI r; cases drI r'; cases hz
    exact call_max2 hc pins s σ H _ us Q I rs ⟨_, _, rfl, q φ H _ st .refl vrI⟩
  · cases hz
theorem cr_min2 (hc : X.calm = true) : CallR X (.builtin "min") (CRr X.K xa min2G) := by
  intro pins s σ H vs us Q I rs ⟨φ, M, as, z, M', st, ra, hz, q⟩
  unfold min2G at hz
  split at hz
  · obtain ⟨v, w, rfl, r, r'⟩ := vrs2 ra
    cases drI r; cases drI r'; cases hz
    exact call_min2 hc pins s σ H _ us Q I rs ⟨_, _, rfl, q φ H _ st .refl vrI⟩
  · cases hz
variable {x : Str} {p pos : Pos} {e : Expr} {es : List Expr} {fl : RF (List Vl)} {g : BF} {id T : String}
theorem fApp_read {W : WQ} {σ : L2.St} {H : Hp} {Q : VK} (h : tEx X.K xa W (fApp g fl) σ H Q) : tCB (CRr X.K xa g) (tAx X.K xa W fl) σ H Q := by
  obtain ⟨φ, ρ, M, env, sto, h⟩ := h
  refine ⟨φ, ρ, M, env, sto, RP.bind h fun φ1 H1 as M1 vs s1 e1 r1 h1 => ?_⟩
  split at h1
  · rename_i z M2 hz
    exact ⟨φ1, M1, as, z, M2, s1, r1, hz, h1⟩
  · exact h1.elim
theorem se_callB (hc : CallR X (.builtin id) (CRr X.K xa g)) (hg : Gl X x) (hm : X.mg x = none) (hv : bootBuiltins x = some (.builtin id)) (ha : SA X xa (e :: es) fl) (hn : x ≠ "__name__") (hdb : (x == ("__debug__" : Str)) = false)
    (he : starEach (e :: es) X.env = (false, eval e X.env) :: starEach es X.env) (hpl : (backTo pos (starEach es X.env)).any (·.1) = false) : SE X xa (.Call (.Name x p) (e :: es) [] pos) (fApp g fl) := fun W tk =>
  PE.weak (pe_callB hc hg hm hv (ha W tk) hn hdb he hpl) fun σ H Q h => fApp_read h
theorem se_callTy (hc : CallR X (.type T) (CRr X.K xa g)) (hg : Gl X x) (hm : X.mg x = none) (hv : bootBuiltins x = some (.type T)) (ha : SA X xa (e :: es) fl) (hn : x ≠ "__name__") (hdb : (x == ("__debug__" : Str)) = false)
    (he : starEach (e :: es) X.env = (false, eval e X.env) :: starEach es X.env) (hpl : (backTo pos (starEach es X.env)).any (·.1) = false) : SE X xa (.Call (.Name x p) (e :: es) [] pos) (fApp g fl) := fun W tk =>
  PE.weak (pe_callTy hc hg hm hv (ha W tk) hn hdb he hpl) fun σ H Q h => fApp_read h
end
end TL

namespace TL
open PySem PySem.Spec
open PyProof.Rows L2

/-! ### methods of lists -/
abbrev MF := Vl → List Vl → Store → Option (Vl × Store)
def MRr (K : PySem.W.Frag) (xa : XA) (g : MF) : V → List V → Hp → VK → Prop := fun v vs H Q => ∃ φ M x as z M', Sto K φ M H ∧ VR K φ H xa x v ∧ VRs K φ H xa as vs ∧ g x as M = some (z, M') ∧
  ∀ φ' H' u, Sto K φ' M' H' → Ext φ H φ' H' → VR K φ' H' xa z u → Q u H'
def isLst (x : Vl) (M : Store) : Bool := (lsq x M).isSome
def fMeth (g : MF) (fo : RF Vl) (fl : RF (List Vl)) : RF Vl := fun ρ M => (fo ρ M).bind fun x M1 => if isLst x M1 = true then (fl ρ M1).bind fun as M2 => match g x as M2 with
  | some (z, M3) => .ok z M3
  | none => .bad
  else .bad
def appendM : MF
  | .loc n, [.d y], M => match M[n]? with
    | some (.lst xs) => if xs.length < sizeLine then some (.d .none, M.set n (.lst (xs ++ [y]))) else none
    | _ => none
  | _, _, _ => none
def popM : MF
  | .loc n, [], M => match M[n]? with
    | some (.lst xs) => match xs[xs.length - 1]? with
      | some y => some (.d y, M.set n (.lst xs.dropLast))
      | none => none
    | _ => none
  | _, _, _ => none
def popAtM : MF
  | .loc n, [.d (.int i)], M => match M[n]? with
    | some (.lst xs) => if -(2 ^ 63) ≤ i ∧ i < 2 ^ 63 then match ixN xs.length i with
      | some k => match xs[k]? with
        | some y => some (.d y, M.set n (.lst (xs.eraseIdx k)))
        | none => none
      | none => none
      else none
    | _ => none
  | _, _, _ => none
def extendM : MF
  | .loc n, [y], M => match M[n]?, lsq y M with
    | some (.lst xs), some zs => if xs.length + zs.length ≤ sizeLine then some (.d .none, M.set n (.lst (xs ++ zs))) else none
    | _, _ => none
  | _, _, _ => none
def reverseM : MF
  | .loc n, [], M => match M[n]? with
    | some (.lst xs) => some (.d .none, M.set n (.lst xs.reverse))
    | _ => none
  | _, _, _ => none
def clearM : MF
  | .loc n, [], M => match M[n]? with
    | some (.lst _) => some (.d .none, M.set n (.lst []))
    | _ => none
  | _, _, _ => none
def countM : MF
  | x, [.d y], M => match lsq x M with
    | some xs => if PyData.depthAll xs ≤ 62 then some (.d (.int (xs.countP fun z => PyData.eqv z y : Nat)), M) else none
    | none => none
  | _, _, _ => none
section
variable {X : Cx} {xa : XA}
theorem vr_loc {K : PySem.W.Frag} {φ : Fm} {M : Store} {H : Hp} {n : Nat} {v : V} {xs : List D} (st : Sto K φ M H) (r : VR K φ H xa (.loc n) v) (e : M[n]? = some (.lst xs)) : ∃ a vs, v = .ref a ∧ φ.l[n]? = some a ∧ H a = some (.lst vs) ∧ DRs K φ H xs vs := by
  obtain ⟨a, rfl, h⟩ := r
  obtain ⟨vs, h1, h2⟩ := st.at e h
  exact ⟨a, vs, rfl, h, h1, h2⟩
theorem mt_append2 : MtR X "list.append" (MRr X.K xa appendM) := by
  intro pins s σ H v vs u us Q I ru rs ⟨φ, M, x, as, z, M', st, rx, ra, hz, q⟩
  unfold appendM at hz
  split at hz
  · split at hz
    · rename_i n y _ xs e
      split at hz
      · rename_i hl
        cases hz
        obtain ⟨a, ws, rfl, h1, h2, h3⟩ := vr_loc st rx e
        obtain ⟨w, rfl, r⟩ := vrs1 ra
        refine mt_append pins s σ H _ _ u us Q I ru rs ⟨a, ws, w, rfl, rfl, h2, by rw [h3.length]; exact hl, ?_⟩
        exact q φ _ _ (st.write e h1 (h3.append (DRs.one r)) (by rw [List.length_append]; exact hl)) (Ext.write st (st.uns e h1)) vrN
      · cases hz
    · cases hz
  · cases hz
theorem mt_pop2 : MtR X "list.pop" (MRr X.K xa popM) := by
  intro pins s σ H v vs u us Q I ru rs ⟨φ, M, x, as, z, M', st, rx, ra, hz, q⟩
  unfold popM at hz
  split at hz
  · split at hz
    · rename_i n _ xs e
      split at hz
      · rename_i y ey
        cases hz
        obtain ⟨a, ws, rfl, h1, h2, h3⟩ := vr_loc st rx e
        cases ra
        obtain ⟨w, e2, r⟩ := h3.get ey
        refine mt_pop pins s σ H _ _ u us Q I ru rs ⟨a, ws, w, rfl, rfl, h2, by rw [h3.length]; exact e2, ?_⟩
        have hl := st.lenOf h2 h3
        have x := Ext.write (o := .lst ws.dropLast) st (st.uns e h1)
        exact q φ _ _ (st.write e h1 h3.dropLast (by rw [List.length_dropLast]; omega)) x (VR.ext (x := .d _) x r)
      · cases hz
    · cases hz
  · cases hz
theorem mt_popAt2 : MtR X "list.pop" (MRr X.K xa popAtM) := by
  intro pins s σ H v vs u us Q I ru rs ⟨φ, M, x, as, z, M', st, rx, ra, hz, q⟩
  unfold popAtM at hz
  split at hz
  · split at hz
    · rename_i n i _ xs e
      split at hz
      · rename_i hb
        split at hz
        · rename_i k ek
          split at hz
          · rename_i y ey
            cases hz
            obtain ⟨a, ws, rfl, h1, h2, h3⟩ := vr_loc st rx e
            obtain ⟨w0, rfl, r0⟩ := vrs1 ra
            cases drI r0
            obtain ⟨w, e2, r⟩ := h3.get ey
            obtain ⟨s1, s2, s3, s4⟩ := ixN_seq ek
            refine mt_popAt pins s σ H _ _ u us Q I ru rs ⟨a, ws, i, k, w, rfl, rfl, h2, hb.1, hb.2, by rw [h3.length]; exact s1, e2, ?_⟩
            have hl := st.lenOf h2 h3
            have x := Ext.write (o := .lst (ws.eraseIdx k)) st (st.uns e h1)
            refine q φ _ _ (st.write e h1 (h3.eraseIdx k) ?_) x (VR.ext (x := .d _) x r)
            exact Nat.le_trans (len_erase xs k) hl
          · cases hz
        · cases hz
      · cases hz
    · cases hz
  · cases hz
theorem mt_extend2 : MtR X "list.extend" (MRr X.K xa extendM) := by
  intro pins s σ H v vs u us Q I ru rs ⟨φ, M, x, as, z, M', st, rx, ra, hz, q⟩
  unfold extendM at hz
  split at hz
  · split at hz
    · rename_i n y _ xs zs e ey
      split at hz
      · rename_i hl
        cases hz
        obtain ⟨a, ws, rfl, h1, h2, h3⟩ := vr_loc st rx e
        obtain ⟨w, rfl, r⟩ := vrs1 ra
        obtain ⟨b, zs', rfl, h4, h5⟩ := lsq_ok st r ey
        refine mt_extend pins s σ H _ _ u us Q I ru rs ⟨a, b, ws, zs', rfl, rfl, h2, h4, by rw [h3.length, h5.length]; exact hl, ?_⟩
        exact q φ _ _ (st.write e h1 (h3.append h5) (by rw [List.length_append]; exact hl)) (Ext.write st (st.uns e h1)) vrN
      · cases hz
    · cases hz
  · cases hz
theorem mt_reverse2 : MtR X "list.reverse" (MRr X.K xa reverseM) := by
  intro pins s σ H v vs u us Q I ru rs ⟨φ, M, x, as, z, M', st, rx, ra, hz, q⟩
  unfold reverseM at hz
  split at hz
  · split at hz
    · rename_i n _ xs e
      cases hz
      obtain ⟨a, ws, rfl, h1, h2, h3⟩ := vr_loc st rx e
      cases ra
      refine mt_reverse pins s σ H _ _ u us Q I ru rs ⟨a, ws, rfl, rfl, h2, ?_⟩
      have hl := st.lenOf h2 h3
      exact q φ _ _ (st.write e h1 h3.reverse (by rw [List.length_reverse]; exact hl)) (Ext.write st (st.uns e h1)) vrN
    · cases hz
  · cases hz
theorem mt_clear2 : MtR X "list.clear" (MRr X.K xa clearM) := by
  intro pins s σ H v vs u us Q I ru rs ⟨φ, M, x, as, z, M', st, rx, ra, hz, q⟩
  unfold clearM at hz
  split at hz
  · split at hz
    · rename_i n _ xs e
      cases hz
      obtain ⟨a, ws, rfl, h1, h2, h3⟩ := vr_loc st rx e
      cases ra
      refine mt_clear pins s σ H _ _ u us Q I ru rs ⟨a, ws, rfl, rfl, h2, ?_⟩
      exact q φ _ _ (st.write e h1 DRs.nil (Nat.zero_le _)) (Ext.write st (st.uns e h1)) vrN
    · cases hz
  · cases hz
theorem mt_count2 (hu : X.A.units + 64 < cLine) : MtR X "list.count" (MRr X.K xa countM) := by
  intro pins s σ H v vs u us Q I ru rs ⟨φ, M, x, as, z, M', st, rx, ra, hz, q⟩
  unfold countM at hz
  split at hz
  · split at hz
    · rename_i y _ xs e
      split at hz
      · rename_i hd
        cases hz
        obtain ⟨a, ws, rfl, h2, h3⟩ := lsq_ok st rx e
        obtain ⟨w, rfl, r⟩ := vrs1 ra
        obtain ⟨u1, rfl, r1⟩ := L2.vals1 rs
        cases ru
        obtain ⟨bs, rd⟩ := Dp.reads I _ _ u1 (DR.dp _ _ r) r1
        obtain ⟨its, rv, pl, _⟩ := I.list (SqL.of h2)
        obtain ⟨cs, rl⟩ := Dp.readsAll I _ _ its (DRs.dp _ _ h3) rv
        exact PySem.SeqAt.count_list_data (vs := its.toArray) pl.isList rl rd (DRs.plain _ _ h3) (DR.plain _ _ r) (by omega) ⟨.int _, H, I.tok _, ⟨_, rfl⟩, q φ H _ st .refl vrI⟩
      · cases hz
    · cases hz
  · cases hz
theorem vrs0 {K : PySem.W.Frag} {φ : Fm} {H : Hp} {vs : List V} (h : VRs K φ H xa [] vs) : vs = [] := h
variable {o e : Expr} {es : List Expr} {fo : RF Vl} {fl : RF (List Vl)} {name : Str} {apos cpos : Pos} {id : String} {g : MF}
theorem tyL {K : PySem.W.Frag} {φ : Fm} {M : Store} {H : Hp} {x : Vl} {v : V} (st : Sto K φ M H) (r : VR K φ H xa x v) (h : isLst x M = true) : tyV K "list" v H := by
  unfold isLst at h
  obtain ⟨xs, e⟩ := Option.isSome_iff_exists.mp h
  obtain ⟨a, vs, rfl, h1, h2⟩ := lsq_ok st r e
  exact .inl ⟨rfl, vs, SqL.of h1⟩
theorem se_meth (slot : Slot "list" name id) (hty : typeOf (.builtin id) = pure (.type "method_descriptor")) (hm : MtR X id (MRr X.K xa g)) (ho : SE X xa o fo) (ha : SA X xa (e :: es) fl)
    (hbase : attributeBase o name X.env (eval o X.env) = eval o X.env)
    (hfew : ((backTo cpos (starEach (e :: es) X.env)).all (fun x => !x.1) && (backToKw cpos (keywordEach [] X.env)).all (fun x => x.1.isSome)
      && decide ((e :: es).length + ([] : List Keyword).length + (if ([] : List Keyword).isEmpty then 0 else 1) < 30)) = true)
    (hline : (apos.endLine == cpos.line) = true) (hs : starEach (e :: es) X.env = (false, eval e X.env) :: starEach es X.env) (hplain : (backTo cpos (starEach es X.env)).any (·.1) = false) :
    SE X xa (.Call (.Attribute o name apos) (e :: es) [] cpos) (fMeth g fo fl) := fun W tk =>
  PE.weak (pe_bm PySem.F.plainAttrs_list slot hty hm (ho W tk) (ha W tk) hbase hfew hline hs hplain) fun σ H Q h => by
    obtain ⟨φ, ρ, M, env, sto, h⟩ := h
    refine ⟨φ, ρ, M, env, sto, RP.bind h fun φ1 H1 x M1 v s1 e1 r1 h1 => ?_⟩
    split at h1
    · rename_i hi
      refine ⟨tyL s1 r1 hi, φ1, ρ, M1, env.ext e1, s1, RP.bind h1 fun φ2 H2 as M2 vs s2 e2 r2 h2 => ?_⟩
      split at h2
      · rename_i z M3 hz
        exact ⟨φ2, M2, x, as, z, M3, s2, r1.ext e2, r2, hz, h2⟩
      · exact h2.elim
    · exact h1.elim
theorem se_meth0 (slot : Slot "list" name id) (hty : typeOf (.builtin id) = pure (.type "method_descriptor")) (hm : MtR X id (MRr X.K xa g)) (ho : SE X xa o fo)
    (hbase : attributeBase o name X.env (eval o X.env) = eval o X.env) (hline : (apos.endLine == cpos.line) = true) :
    SE X xa (.Call (.Attribute o name apos) [] [] cpos) (fMeth g fo fNil) := fun W tk =>
  PE.weak (pe_bm0 PySem.F.plainAttrs_list slot hty hm (ho W tk) hbase hline) fun σ H Q h => by
    obtain ⟨φ, ρ, M, env, sto, h⟩ := h
    refine ⟨φ, ρ, M, env, sto, RP.bind h fun φ1 H1 x M1 v s1 e1 r1 h1 => ?_⟩
    split at h1
    · rename_i hi
      refine ⟨tyL s1 r1 hi, ?_⟩
      unfold fNil at h1
      simp only [Res.bind_ok] at h1
      split at h1
      · rename_i z M3 hz
        exact ⟨φ1, M1, x, [], z, M3, s1, r1, rfl, hz, h1⟩
      · exact h1.elim
    · exact h1.elim
end

/-! ### isinstance -/
def tyName : Vl → Store → Option String
  | .d .none, _ => some "NoneType"
  | .d (.bool _), _ => some "bool"
  | .d (.int _), _ => some "int"
  | .d (.str _), _ => some "str"
  | .d (.list _), _ => some "list"
  | .d (.tuple _), _ => some "tuple"
  | .loc n, M => match M[n]? with
    | some (.lst _) => some "list"
    | _ => none
  | _, _ => none
/-- the answer for built-in classes -/
def isTy (a b : String) : Bool := a == b || (a == "bool" && b == "int")
def knownTy : List String := ["str", "tuple", "list", "int", "bool", "dict"]
def knownTn : List String := ["NoneType", "bool", "int", "str", "list", "tuple"]
theorem isTy_ok : ∀ a ∈ knownTn, ∀ b ∈ knownTy, kitB a b = some (isTy a b) := by decide +kernel
section
variable {X : Cx} {xa : XA}
theorem tyName_ok {K : PySem.W.Frag} {φ : Fm} {M : Store} {H : Hp} {x : Vl} {v : V} {a : String} (st : Sto K φ M H) (r : VR K φ H xa x v) (h : tyName x M = some a) : a ∈ knownTn ∧ TyX K H v (.type a) := by
  cases x with
  | d x =>
    cases x with
    | none => cases drN r; cases h; exact ⟨by decide, .base .non⟩
    | bool b => cases drB r; cases h; exact ⟨by decide, .base (.bl _)⟩
    | int b => cases drI r; cases h; exact ⟨by decide, .base (.int _)⟩
    | str b => cases drS r; cases h; exact ⟨by decide, .base (.str _)⟩
    | list xs =>
      cases h
      obtain ⟨a, vs, rfl, h1, h2⟩ := lsq_ok (xs := xs) st r rfl
      exact ⟨by decide, .base (.lst h1)⟩
    | tuple xs =>
      cases h
      obtain ⟨a, vs, rfl, h1, h2⟩ := drT r
      rcases h1 with ⟨h1, _⟩ | ⟨o, its, n, h1, h3, _⟩
      · exact ⟨by decide, .base (.tup h1)⟩
      · exact ⟨by decide, .kTuple h1 h3⟩
    | dict _ => cases h
  | loc n =>
    simp only [tyName] at h
    cases q : M[n]? with
    | none => rw [q] at h; cases h
    | some c =>
      cases c with
      | lst xs =>
        rw [q] at h; cases h
        obtain ⟨a, vs, rfl, _, h1, h2⟩ := vr_loc st r q
        exact ⟨by decide, .base (.lst h1)⟩
      | _ => rw [q] at h; cases h
  | _ => cases h
def isiG (T : String) (x : Vl) (M : Store) : Option Vl := (tyName x M).map fun a => .d (.bool (isTy a T))
def fIsi (T : String) (fe : RF Vl) : RF Vl := fun ρ M => (fe ρ M).bind fun x M1 => ofO (isiG T x M1) M1
variable {e : Expr} {fe : RF Vl} {T : String} {t : Str} {p p2 pos : Pos}
theorem se_isi (hT : T ∈ knownTy) (hg : Gl X "isinstance") (hm : X.mg "isinstance" = none) (hg2 : Gl X t) (hm2 : X.mg t = none) (hv2 : bootBuiltins t = some (.type T)) (hn2 : t ≠ "__name__") (hd2 : (t == ("__debug__" : Str)) = false)
    (he : SE X xa e fe) (hs : starEach [e, .Name t p2] X.env = (false, eval e X.env) :: starEach [.Name t p2] X.env) : SE X xa (.Call (.Name "isinstance" p) [e, .Name t p2] [] pos) (fIsi T fe) := fun W tk =>
  PE.weak (pe_callB call_isi hg hm boot_isinstance (pa_cons (he W tk) (pa_cons (pe_bltn (v := .ty T) hg2 hm2 hv2 rfl hn2 hd2) pa_nil rfl) hs) (by decide) (by decide) hs rfl) fun σ H Q h => by
    obtain ⟨φ, ρ, M, env, sto, h⟩ := h
    refine ⟨φ, ρ, M, env, sto, RP.bind h fun φ1 H1 x M1 v s1 e1 r1 h1 => ?_⟩
    obtain ⟨z, hz, h3⟩ := RP.ofO h1
    unfold isiG at hz
    cases q : tyName x M1 with
    | none => rw [q] at hz; cases hz
    | some a =>
      rw [q] at hz; cases hz
      obtain ⟨k1, k2⟩ := tyName_ok s1 r1 q
      exact ⟨v, .ty T, .type a, .type T, isTy a T, rfl, .ty T, k2, kit_ty (isTy_ok a k1 T hT), h3 φ1 H1 _ s1 .refl vrB⟩
end

/-! ### calls of own functions -/
def spOf (K : PySem.W.Frag) (mg : Str → Option Value) (n : Nat) (F : List Vl → Store → Res Vl) : Sp := fun vs H Q E => ∃ φ M as, as.length = n ∧ Sto K φ M H ∧ VRs K φ H noxa as vs ∧
  match F as M with
  | .ok r M' => ∀ φ' H' v, Sto K φ' M' H' → Ext φ H φ' H' → VR K φ' H' noxa r v → Q v H'
  | .exc c M' => ∀ φ' H' C, Sto K φ' M' H' → Ext φ H φ' H' → mg c = some (.ref C) → E (.ref C) none H'
  | .bad => False
/-- what comes back: the callee's own lists are data from here on; keep: the new list that it hands back stays one that is changed -/
def fin (keep : Bool) (n : Nat) (r : Vl) (M' : Store) : Res Vl :=
  match r with
  | .d x => .ok (.d x) (M'.take n)
  | .loc k => if k < n then .ok (.loc k) (M'.take n) else match M'[k]? with
    | some (.lst xs) => if keep = true then .ok (.loc n) (M'.take n ++ [.lst xs]) else .ok (.d (.list xs)) (M'.take n)
    | _ => .bad
  | .ro xs => .ok (.ro xs) (M'.take n)
  | .fz f => .ok (.fz f) (M'.take n)
  | .ex _ => .bad
def callR (keep : Bool) (F : List Vl → Store → Res Vl) (as : List Vl) (M : Store) : Res Vl :=
  match F as M with
  | .ok r M' => fin keep M.length r M'
  | .exc c M' => .exc c (M'.take M.length)
  | .bad => .bad
def fCall (C : CallF) (f : Str) (keep : Bool) (fl : RF (List Vl)) : RF Vl := fun ρ M => (fl ρ M).bind fun as M1 => callR keep (C f) as M1
section
variable {K : PySem.W.Frag} {xa : XA} {φ φ' : Fm} {M M' : Store} {H H' : Hp}
theorem Ext.back (s : Sto K φ M H) (e : Ext φ H φ' H') : Ext φ H (φ'.cut M.length) H' ∧ Keep φ' H' (φ'.cut M.length) H' := by
  refine ⟨⟨?_, fun a o h n => ⟨(e.keep a o h n).1, fun q => (e.keep a o h n).2 ⟨List.mem_of_mem_take q.1, q.2⟩⟩⟩, fun a o h n => ⟨h, fun q => n ⟨List.mem_of_mem_take q.1, q.2⟩⟩⟩
  obtain ⟨t, ht⟩ := e.pre
  show φ.l <+: φ'.l.take M.length
  rw [← ht, ← s.ln, List.take_left]
  exact List.prefix_refl _
/-- a cell of the callee's goes to the place behind the caller's -/
theorem Sto.pick (s' : Sto K φ' M' H') {n k : Nat} {a : Addr} {c : Cell} (hk : n ≤ k) (hc : M'[k]? = some c) (ha : φ'.l[k]? = some a) : Sto K ((φ'.cut n).push a) (M'.take n ++ [c]) H' := by
  have t := s'.trunc n
  have kp : Keep φ' H' ((φ'.cut n).push a) H' := fun b o q z => ⟨q, fun w => z ⟨by
    rcases List.mem_append.mp w.1 with w1 | w1
    · exact List.mem_of_mem_take w1
    · rw [List.mem_singleton] at w1
      exact w1 ▸ List.mem_of_getElem? ha, w.2⟩⟩
  refine ⟨s'.sz, ?_, ?_, fun m c' b e1 e2 => ?_, s'.sx⟩
  · show (φ'.l.take n ++ [a]).Nodup
    rw [List.nodup_append]
    refine ⟨t.nd, by simp, fun b hb c hc => ?_⟩
    rw [List.mem_singleton] at hc
    subst hc
    intro q; subst q
    obtain ⟨j, hj, ej⟩ := List.getElem_of_mem hb
    have hjn : j < n := by simp only [List.length_take] at hj; omega
    rw [List.getElem_take] at ej
    obtain ⟨l2, q2⟩ := List.getElem?_eq_some_iff.mp ha
    have := (List.getElem_inj s'.nd).mp (ej.trans q2.symm)
    omega
  · have := t.ln
    simp only [List.length_append, List.length_singleton]
    exact congrArg (· + 1) this
  · by_cases hm : m < (M'.take n).length
    · rw [List.getElem?_append_left hm] at e1
      have e2 : ((φ'.l.take n) ++ [a])[m]? = some b := e2
      rw [List.getElem?_append_left (by have := t.ln; exact this ▸ hm)] at e2
      have e1' : M'[m]? = some c' := by
        rw [List.getElem?_take] at e1
        split at e1 <;> first | exact e1 | cases e1
      have e2' : φ'.l[m]? = some b := by
        rw [List.getElem?_take] at e2
        split at e2 <;> first | exact e2 | cases e2
      exact (s'.cl m c' b e1' e2').kp (φ' := (φ'.cut n).push a) (H' := H') kp rfl rfl
    · have hl : m < (M'.take n ++ [c]).length := (List.getElem?_eq_some_iff.mp e1).1
      have em : m = (M'.take n).length := by simp only [List.length_append, List.length_singleton] at hl; omega
      subst em
      rw [List.getElem?_append_right (Nat.le_refl _)] at e1
      have e2 : ((φ'.l.take n) ++ [a])[(M'.take n).length]? = some b := e2
      have tl : (φ'.l.take n).length = (M'.take n).length := t.ln
      rw [← tl, List.getElem?_append_right (Nat.le_refl _)] at e2
      simp at e1 e2
      subst e1; subst e2
      exact (s'.cl k c a hc ha).kp (φ' := (φ'.cut n).push a) (H' := H') kp rfl rfl
/-- a place of the callee's own is none of the caller's -/
theorem Sto.own (s : Sto K φ M H) (s' : Sto K φ' M' H') (e : Ext φ H φ' H') {k : Nat} {a : Addr} (hk : M.length ≤ k) (ha : φ'.l[k]? = some a) : a ∉ φ.l ∧ a ∉ (φ'.cut M.length).l := by
  have gen : ∀ j : Nat, j < M.length → φ'.l[j]? ≠ some a := fun j hj q => by
    obtain ⟨l1, q1⟩ := List.getElem?_eq_some_iff.mp q
    obtain ⟨l2, q2⟩ := List.getElem?_eq_some_iff.mp ha
    have := (List.getElem_inj s'.nd).mp (q1.trans q2.symm)
    omega
  constructor
  · intro hm
    obtain ⟨j, hj, ej⟩ := List.getElem_of_mem hm
    have hl := s.ln
    exact gen j (by omega) (e.at (by rw [List.getElem?_eq_getElem hj, ej]))
  · intro hm
    obtain ⟨j, hj, ej⟩ := List.getElem_of_mem hm
    have hjn : j < M.length := by
      have hj' := hj
      simp only [Fm.cut, List.length_take] at hj'
      omega
    refine gen j hjn ?_
    have e3 : (φ'.l.take M.length)[j]? = some a := by rw [List.getElem?_eq_getElem hj, ej]
    rw [List.getElem?_take] at e3
    split at e3 <;> first | exact e3 | cases e3
theorem VR.noxa {x : Vl} {v : V} (h : VR K φ H noxa x v) : VR K φ H xa x v := by
  cases x with
  | ex c => obtain ⟨a, _, q⟩ := h; exact q.elim
  | _ => exact h
theorem VRs.noxa : ∀ {xs : List Vl} {vs : List V}, (∀ a c, ¬ xa a c) → VRs K φ H xa xs vs → VRs K φ H TL.noxa xs vs
  | [], _, _, h => h
  | x :: xs, _, n, h => by
    obtain ⟨v, r, rfl, h1, h2⟩ := h
    refine ⟨v, r, rfl, ?_, VRs.noxa n h2⟩
    cases x with
    | ex c => obtain ⟨a, e, q⟩ := h1; exact (n a c q).elim
    | _ => exact h1
/-- the callee's end, as the caller takes it -/
theorem fin_ok {keep : Bool} {r : Vl} {v : V} {W : WQ} {σ : L2.St} {Q : VK} (s : Sto K φ M H) (s' : Sto K φ' M' H') (e : Ext φ H φ' H') (rv : VR K φ' H' noxa r v)
    (h : RP K W σ φ H (relV K xa) Q (fin keep M.length r M')) : Q v H' := by
  obtain ⟨x, kp⟩ := Ext.back s e
  have t := s'.trunc M.length
  cases r with
  | d y => exact h _ H' v t x (DR.kp kp y v rv)
  | fz f => exact h _ H' v t x (FR.kp kp f v rv)
  | ro xs =>
    obtain ⟨a, vs, rfl, h1, h2⟩ := rv
    exact h _ H' _ t x ⟨a, vs, rfl, h1.kp kp, DRs.kp kp xs vs h2⟩
  | ex c => exact h.elim
  | loc k =>
    obtain ⟨a, rfl, ha⟩ := rv
    simp only [fin] at h
    split at h
    · rename_i hk
      refine h _ H' _ t x ⟨a, rfl, ?_⟩
      show (φ'.l.take M.length)[k]? = some a
      rw [List.getElem?_take, if_pos hk]
      exact ha
    · rename_i hk
      obtain ⟨o1, o2⟩ := Sto.own s s' e (Nat.le_of_not_lt hk) ha
      split at h
      · rename_i xs hx
        obtain ⟨vs, h1, h2⟩ := s'.at hx ha
        split at h
        · refine h ((φ'.cut M.length).push a) H' _ (s'.pick (Nat.le_of_not_lt hk) hx ha) ⟨?_, fun b o q n => ⟨(x.keep b o q n).1, fun z => ?_⟩⟩ ⟨a, rfl, ?_⟩
          · exact x.pre.trans (List.prefix_append _ _)
          · rcases List.mem_append.mp z.1 with z1 | z1
            · exact (x.keep b o q n).2 ⟨z1, z.2⟩
            · rw [List.mem_singleton] at z1
              exact (e.keep b o q n).2 ⟨z1 ▸ List.mem_of_getElem? ha, z.2⟩
          · have tl : (φ'.l.take M.length).length = M.length := by
              have hl := (List.getElem?_eq_some_iff.mp ha).1
              rw [List.length_take]; omega
            show (φ'.l.take M.length ++ [a])[M.length]? = some a
            rw [List.getElem?_append_right (by omega), tl]
            simp
        · refine h _ H' _ t x ?_
          show DR K (φ'.cut M.length) H' (.list xs) (.ref a)
          simp only [DR]
          exact ⟨a, vs, rfl, h1, fun q => o2 q.1, DRs.kp kp xs vs h2⟩
      · exact h.elim
end
section
variable {X : Cx} {xa : XA} {f : Addr} {fd : FuncData} {ps : List Str} {n k : Nat} {x : Str} {F : List Vl → Store → Res Vl} {p pos : Pos} {e : Expr} {es : List Expr} {fl : RF (List Vl)}
theorem call_read {W : WQ} {σ : L2.St} {H : Hp} {Q : VK} {keep : Bool} {as : List Vl} {M : Store} {vs : List V} {φ : Fm} (hx : ∀ a c, ¬ xa a c) (s : Sto X.K φ M H) (r : VRs X.K φ H xa as vs) (hl : as.length = n)
    (hc : ∀ as M c M', F as M = .exc c M' → ∃ C, X.mg c = some (.ref C)) (h : RP X.K W σ φ H (relV X.K xa) Q (callR keep F as M)) : spOf X.K X.mg n F (vs ++ []) H Q (WE (wx X.mg W) σ) := by
  rw [List.append_nil]
  refine ⟨φ, M, as, hl, s, VRs.noxa hx r, ?_⟩
  unfold callR at h
  cases hF : F as M with
  | ok y M' =>
    rw [hF] at h
    exact fun φ' H' v s' e' r' => fin_ok s s' e' r' h
  | exc c M' =>
    rw [hF] at h
    intro φ' H' C s' e' hm
    obtain ⟨x, kp⟩ := Ext.back s e'
    have t := s'.trunc M.length
    exact ⟨rfl, c, C, hm, rfl, h _ H' t x⟩
  | bad => rw [hF] at h; exact h
theorem se_call (C : CallF) (keep : Bool) (G : FnOk X.prog X.w X.K X.mg X.base (L2.CX X.prog X.w) k f fd ps (spOf X.K X.mg n (C x))) (hr : Room k X.A) (hg : Gl X x) (hm : X.mg x = some (.ref f)) (hk : PySem.W.keepIn X.K (.ref f) = true)
    (hb : Binds X.K fd ps []) (hx : ∀ a c, ¬ xa a c) (hl : ∀ ρ M as M', fl ρ M = .ok as M' → as.length = n) (hc : ∀ as M c M', C x as M = .exc c M' → ∃ C, X.mg c = some (.ref C)) (ha : SA X xa (e :: es) fl) (hdb : (x == ("__debug__" : Str)) = false)
    (he : starEach (e :: es) X.env = (false, eval e X.env) :: starEach es X.env) (hpl : (backTo pos (starEach es X.env)).any (·.1) = false) :
    SE X xa (.Call (.Name x p) (e :: es) [] pos) (fCall C x keep fl) := fun W tk =>
  PE.weak (pe_callSD G hr hg hm hk hb .nil (fun σ => passAt tk σ) (ha W tk) hdb he hpl) fun σ H Q h => by
    obtain ⟨φ, ρ, M, env, sto, h⟩ := h
    refine ⟨φ, ρ, M, env, sto, ?_⟩
    unfold fCall at h
    cases hf : fl ρ M with
    | bad => rw [hf] at h; exact h.elim
    | exc c M' => rw [hf] at h; exact h
    | ok as M1 =>
      rw [hf] at h
      intro φ1 H1 vs s1 e1 r1
      exact call_read hx s1 r1 (hl _ _ _ _ hf) hc (RP.shift h e1)
end
end TL

namespace TL
open PySem PySem.Spec
open PyProof.Rows L2

/-! ### enumerate over a tuple -/
theorem meets_enumT (l : Addr) (items : Array Value) (n : Nat) (dct : Option Addr) (sl : Array (Option Value)) :
    Meets (Builtin.«enumerate.__new__» ⟨[.type "enumerate", .ref l], []⟩) (fun _ R s => s.heap.get? l = some { cls := .type "tuple", dict := dct, data := .seq items n, slots := sl } ∧
      R (.ok (.ret (.ref (s.heap.push { cls := .type "tuple_iterator", data := .fields #[.ref l, .int 0 0] }).objs.size)))
        { s with heap := (s.heap.push { cls := .type "tuple_iterator", data := .fields #[.ref l, .int 0 0] }).push { cls := .type "enumerate", data := .fields #[.none, .bool false, .ref s.heap.objs.size, rawInt 0, .none, .none] } }) :=
  .of_wp fun prog w A R s h => by
    obtain ⟨hp, g, d, tk, os⟩ := s; obtain ⟨hl, h⟩ := h
    have hsub := sub_enumerate
    have hL : Heap.IsTuple (Shared.heap ⟨hp, g, d, tk, os⟩) l items := ⟨_, hl, rfl, n, rfl⟩
    wp_walk using AutoSeq1.wpAny_loadPart' hl
    refine wpAny_stack_any fun st => wpAny_pure ?_
    split
    · rename_i c _ _ _ _ _
      cases (c == Value.type "enumerate")
      · wp_walk using AutoSeq1.wpAny_loadPart' hl, wpAny_pyIter_tuple hL
        exact ⟨_, rfl, h⟩
      · wp_walk using AutoSeq1.wpAny_loadPart' hl, wpAny_pyIter_tuple hL
        exact ⟨_, rfl, h⟩
    · wp_walk using AutoSeq1.wpAny_loadPart' hl, wpAny_pyIter_tuple hL
      exact ⟨_, rfl, h⟩
section
variable {prog : Program} {w : World} {A : Around} {E : Value → Shared → Prop} {s : Shared}
theorem call_enumT {l : Addr} {items : Array Value} {Q : Value → Shared → Prop} (hL : s.heap.IsTuple l items)
    (h : ∀ h', IsEnum h' (s.heap.objs.size + 1) s.heap.objs.size 0 .none → h'.IsTupleIter s.heap.objs.size l 0 → h'.objs.size = s.heap.objs.size + 2 →
      (∀ b o, s.heap.get? b = some o → h'.get? b = some o) → Q (.ref (s.heap.objs.size + 1)) { s with heap := h' }) :
    wpAny (model prog w) A (call (.type "enumerate") [.ref l]) Q E s := by
  obtain ⟨⟨c, dct, dt, sl⟩, hl, hc, n, hd⟩ := hL
  replace hc : c = .type "tuple" := hc
  replace hd : dt = .seq items n := hd
  subst hc hd
  refine callType_new F.called_enumerate (by decide) (F.typeCall_enumerate_1 _) (F.newCall_enumerate_1 _) (fun obj => F.args_object_init_2 obj _) F.entry_enumerate_new
    (meets_enumT l items n dct sl) ⟨hl, ?_⟩
  generalize hq : s.heap.push { cls := .type "tuple_iterator", data := .fields #[.ref l, .int 0 0] } = q
  have hz : q.objs.size = s.heap.objs.size + 1 := by rw [← hq]; exact Heap.size_push ..
  have hit : q.get? s.heap.objs.size = some { cls := .type "tuple_iterator", data := .fields #[.ref l, .int 0 0] } := by rw [← hq]; exact Heap.get?_push_size _ rfl
  have hkp : ∀ b o, s.heap.get? b = some o → q.get? b = some o := fun b o x => by rw [← hq]; exact Heap.get?_push_of_some _ x
  show _ ∧ _
  rw [hz]
  have he : IsEnum (q.push { cls := .type "enumerate", data := .fields #[.none, .bool false, .ref s.heap.objs.size, rawInt 0, .none, .none] })
      (s.heap.objs.size + 1) s.heap.objs.size 0 .none := by
    have := Heap.get?_push_size q (o := { cls := .type "enumerate", data := .fields #[.none, .bool false, .ref s.heap.objs.size, rawInt 0, .none, .none] }) rfl
    rw [hz] at this; exact this
  have hit2 : (q.push { cls := .type "enumerate", data := .fields #[.none, .bool false, .ref s.heap.objs.size, rawInt 0, .none, .none] }).get? s.heap.objs.size = some { cls := .type "tuple_iterator", data := .fields #[.ref l, .int 0 0] } := Heap.get?_push_of_some _ hit
  exact ⟨⟨_, he, rfl⟩, h _ he ⟨_, hit2, rfl, rfl⟩ (by rw [Heap.size_push, hz]) fun b o x => Heap.get?_push_of_some _ (hkp b o x)⟩
end
/-- the tuple at a, each item in a new pair -/
def IteT (K : PySem.W.Frag) (a : Addr) : It :=
  ⟨fun i H => ∃ (xs : List V) (x : V), SqT K H a xs ∧ xs[i]? = some x,
    fun i H v H' => ∃ T x, v = .ref T ∧ H T = none ∧ H' = upd H T (.tup [.int (i : Nat), x]) ∧ ∀ xs, SqT K H a xs → xs[i]? = some x,
    fun i H => ∃ xs : List V, SqT K H a xs ∧ xs.length ≤ i⟩
theorem ne_enum {h : Heap} {e it l : Addr} {i : Int} {old : Value} {items : Array Value} (he : IsEnum h e it i old) (hl : h.IsTuple l items) : e ≠ l := by
  rintro rfl
  obtain ⟨o, e1, c1, _⟩ := hl
  rw [show h.get? e = _ from he] at e1
  cases e1
  exact absurd (Value.type.inj c1) (by decide)
theorem ne_tupit {h : Heap} {it l m : Addr} {i : Nat} {items : Array Value} (hi : h.IsTupleIter it m i) (hl : h.IsTuple l items) : l ≠ it := by
  rintro rfl
  obtain ⟨o, e1, c1, n1, d1⟩ := hl
  obtain ⟨o2, e2, c2, d2⟩ := hi
  rw [e1] at e2
  cases e2
  rw [d1] at d2
  cases d2
theorem turn_enumT {P : Program} {w : World} {K : PySem.W.Frag} {elts : List Expr} {kk : Nat} {tpos : Pos} (a e it : Addr) :
    Turn P w K (.Tuple elts kk tpos) (IteT K a) [e, it] e (fun i h => (∃ old, IsEnum h e it ((i : Nat) : Int) old) ∧ h.IsTupleIter it a i ∧ e ≠ it) where
  mem := by simp
  obj := fun i h st b hb => by
    obtain ⟨⟨old, he⟩, ⟨o, ho, hc, hd⟩, _⟩ := st
    rcases (by simpa using hb : b = e ∨ b = it) with z | z
    · rw [z]; exact ⟨_, he, fun v q => nomatch q⟩
    · rw [z]; exact ⟨o, ho, fun v q => by rw [hd] at q; cases q⟩
  keep := fun i h h' st k => let ⟨⟨old, he⟩, hi, hne⟩ := st; ⟨⟨old, k e (by simp) _ he⟩, hi.at fun o q => k it (by simp) o q, hne⟩
  item := by
    intro X hP hw hK hc i pins s σ H E I hf st hg
    subst hP hw hK
    obtain ⟨⟨old, he⟩, hit, hne⟩ := st
    obtain ⟨xs, x, hq, hx⟩ := hg
    obtain ⟨its, rv, p, hz⟩ := I.tuple hq
    obtain ⟨u, hu, ru⟩ := rv.get hx
    have hel : e < s.heap.objs.size := Heap.lt_size he
    have hil : it < s.heap.objs.size := by obtain ⟨_, q, _⟩ := hit; exact Heap.lt_size q
    have hlen : i < its.toArray.size := by
      have := (List.getElem?_eq_some_iff.mp hu).1
      simpa using this
    refine wpAny_pyNext_enum_itemD (Draws.tuple (A := X.A.in1) (I.ok.hd hc) it a (ne_tupit hit p) its.toArray) he ⟨hit, p⟩ hlen hne (fun hm => ?_) fun u' h' tk hP ho hst' hT hsz hk => ?_
    · rcases (by simpa using hm : e = it ∨ e = a) with z | z
      · exact hne z
      · exact ne_enum he p z
    have hu' : u' = u := by
      have h1 : its.toArray[i]? = some u' := hP
      have h2 : its.toArray[i]? = some u := by simpa using hu
      rw [h1] at h2
      exact Option.some.inj h2
    subst hu'
    refine ⟨_, rfl, wpAny_letOwnedTupleGo_enum (s := { s with heap := h', toks := tk + 1 }) ho fun h'' he' sb => ?_⟩
    have hT2 : h''.get? s.heap.objs.size = some { cls := .type "tuple", data := .seq #[.int i tk, u'] } := (sb.2 _ (Nat.ne_of_gt hel)).trans hT
    have new : ObjOk X.prog X.w (upd H s.heap.objs.size (.tup [.int (i : Nat), x])) h'' s.heap.objs.size (.tup [.int (i : Nat), x]) :=
      ⟨by show 2 ≤ sizeLine; decide, [.int i tk, u'], .cons ⟨_, rfl⟩ (.cons ru .nil), ⟨_, hT2, rfl, _, rfl⟩⟩
    have I1 : Inv X pins σ (upd H s.heap.objs.size (.tup [.int (i : Nat), x])) { s with heap := h'', toks := tk + 1 } :=
      I.turnedNew (t' := tk + 1) (ch := [e, it]) (fun b ob hb q => (sb.2 b (fun z => hb (by simp [z]))).trans (hk b ob (fun z => hb (by simp [z])) (fun z => hb (by simp [z])) q)) hf (Nat.le_refl _) new
    refine ⟨.ref s.heap.objs.size, _, I1, rfl, ⟨_, x, rfl, I.hok.fresh (Nat.le_refl _), rfl, fun ys hy => by rw [I.tuple_inj hy hq]; exact hx⟩, ⟨⟨u', ?_⟩, hst'.1.at fun o q => (sb.2 it (Ne.symm hne)).trans q, hne⟩, fun b hb => ?_⟩
    · have e1 : ((i + 1 : Nat) : Int) = (i : Int) + 1 := by omega
      rw [e1]; exact he'
    · have hb' : b < s.heap.objs.size := by
        rcases (by simpa using hb : b = e ∨ b = it) with z | z
        · rw [z]; exact hel
        · rw [z]; exact hil
      rw [upd_ne (Nat.ne_of_lt hb')]
      exact (hf b hb).1
  done := by
    intro X hP hw hK hc i pins s σ H E I hf st hg
    subst hP hw hK
    obtain ⟨⟨old, he⟩, hit, hne⟩ := st
    obtain ⟨xs, hq, hx⟩ := hg
    obtain ⟨its, rv, p, hz⟩ := I.tuple hq
    obtain ⟨f0, f1, f2, f3, f4, f5⟩ := hf it (by simp)
    have hl := rv.length
    have hT : s.TypeIs (.ref e) "enumerate" := ⟨_, he, rfl⟩
    unfold pyNext
    refine wpAny_bind (wpAny_attempt (wpAny_callSpecial?_slot (name := Str.ofString "__next__") hT F.slot_enumerate_next
      (wpAny_call_entry F.slot_enumerate_next hT F.entry_enumerate_next ?_ (F.args_enumerate_next_1 _))))
    show wpAny _ _ (field (.ref e) 2 >>= _) _ _ _
    refine wpAny_bind (wpAny_field he rfl (x := .ref it) rfl ?_)
    refine wpAny_bind (RZ.nextOf_tuple_end (I.ok.hd hc) hit p (by simp; omega) fun h' y hy hy' => ?_)
    obtain ⟨o, ho, hcc⟩ := hy'
    refine wpAny_bind (wpAny_isInstance (T := "StopIteration") (b := true) ⟨o, ho, hcc⟩ isSubtype_stop ?_)
    exact wpAny_pure ⟨rfl, I.turned (t' := s.toks) (fun b o hb q => hy b o hb q) f0 f1 f3 f4 f5⟩
  self := fun A i s Q E st h => let ⟨⟨_, he⟩, _⟩ := st; wpAny_pyIter_enum he h
def iEnumA (K : PySem.W.Frag) (ta : TA) : TI := fun σ H R => ta σ H fun vs H1 => ∃ a xs, vs = [.ref a] ∧ ((SqL K H1 a xs ∧ R (Ite K a) H1) ∨ (SqT K H1 a xs ∧ R (IteT K a) H1))
theorem pi_enumA {X : Cx} {e : Expr} {ta : TA} {p pos tpos : Pos} {elts : List Expr} {kk : Nat} (hg : Gl X "enumerate") (hm : X.mg "enumerate" = none) (ha : PA X [e] ta) (hs : starEach [e] X.env = [(false, eval e X.env)]) :
    PI X (.Tuple elts kk tpos) (.Call (.Name "enumerate" p) [e] [] pos) (iEnumA X.K ta) := by
  constructor
  intro pins s σ H R I h
  refine Call_ (ld_blt I hg hm boot_enumerate (PyProof.Rows.callWith_type1 (thn (ha.run pos pins s σ H _ I h) ?_) hs rfl))
  rintro us s1 ⟨vs, H1, I1, r1, a, xs, ex, q1⟩
  subst ex
  cases r1 with
  | cons r rr =>
    cases rr
    cases r
    have fresh : ∀ b, b ∈ [s1.heap.objs.size + 1, s1.heap.objs.size] → FpOk X pins H1 b := fun b hb => by
      have hle : s1.heap.objs.size ≤ b := by
        rcases (by simpa using hb : b = s1.heap.objs.size + 1 ∨ b = s1.heap.objs.size) with z | z
        · rw [z]; exact Nat.le_add_right _ _
        · rw [z]; exact Nat.le_refl _
      exact I1.fpOk hle (I1.hok.fresh hle)
    rcases q1 with ⟨hq, q⟩ | ⟨hq, q⟩
    · obtain ⟨its, rv, p', hz⟩ := I1.list hq
      refine call_enumerate_list p'.isList fun h' he hit hsz hk => wpAny_pyIter_enum he ?_
      exact ⟨s1.heap.objs.size + 1, _, _, _, H1, rfl, I1.kept (t' := s1.toks) hk, turn_enum a (s1.heap.objs.size + 1) s1.heap.objs.size, ⟨⟨.none, he⟩, hit, Nat.succ_ne_self _⟩, fresh, q⟩
    · obtain ⟨its, rv, p', hz⟩ := I1.tuple hq
      refine call_enumT p' fun h' he hit hsz hk => wpAny_pyIter_enum he ?_
      exact ⟨s1.heap.objs.size + 1, _, _, _, H1, rfl, I1.kept (t' := s1.toks) hk, turn_enumT a (s1.heap.objs.size + 1) s1.heap.objs.size, ⟨⟨.none, he⟩, hit, Nat.succ_ne_self _⟩, fresh, q⟩
end TL

namespace TL
open PySem PySem.Spec PyProof.Rows L2 RZ RT

/-! ### targets -/
inductive Tg where
  | nm (i : Nat)
  | nil
  | cons (a b : Tg)
  | tup (l : Tg)
mutual
def asgT : Tg → Vl → Rho → Option Rho
  | .nm i, x, ρ => some (ρ.set i (some x))
  | .tup l, .d (.tuple xs), ρ => asgL l xs ρ
  | _, _, _ => none
def asgL : Tg → List D → Rho → Option Rho
  | .nil, [], ρ => some ρ
  | .cons a b, x :: xs, ρ => (asgT a (.d x) ρ).bind fun ρ' => asgL b xs ρ'
  | _, _, _ => none
end
def Tg.slots : Tg → List Nat
  | .nm i => [i]
  | .nil => []
  | .cons a b => a.slots ++ b.slots
  | .tup l => l.slots
def Tg.len : Tg → Nat
  | .cons _ b => b.len + 1
  | _ => 0
theorem asgL_len : ∀ {t : Tg} {xs : List D} {ρ ρ' : Rho}, asgL t xs ρ = some ρ' → xs.length = t.len
  | .nil, [], _, _, _ => rfl
  | .cons a b, x :: xs, ρ, ρ', h => by
    simp only [asgL] at h
    cases q : asgT a (.d x) ρ with
    | none => rw [q] at h; cases h
    | some ρ1 =>
      rw [q] at h
      simp only [Option.bind_some] at h
      simp [Tg.len, asgL_len h]
  | .nil, _ :: _, _, _, h => by simp [asgL] at h
  | .cons _ _, [], _, _, h => by simp [asgL] at h
  | .nm _, _, _, _, h => by simp [asgL] at h
  | .tup _, _, _, _, h => by simp [asgL] at h
theorem EnvR.set {K : PySem.W.Frag} {xa : XA} {φ : Fm} {H : Hp} {ρ : Rho} {σ : L2.St} {i : Nat} {x : Vl} {v : V} (h : EnvR K xa φ H ρ σ) (r : VR K φ H xa x v) : EnvR K xa φ H (ρ.set i (some x)) (σ.set i (some v)) := by
  refine ⟨by simp [h.1], fun j y e => ?_⟩
  by_cases hj : i = j
  · subst hj
    by_cases hl : i < ρ.length
    · rw [List.getElem?_set_self hl] at e
      cases e
      exact ⟨v, by rw [List.getElem?_set_self (by rw [← h.1]; exact hl)], r⟩
    · rw [List.getElem?_eq_none (by simpa using hl)] at e; cases e
  · rw [List.getElem?_set_ne hj] at e
    rw [List.getElem?_set_ne hj]
    exact h.2 j y e
theorem EnvR.unset {K : PySem.W.Frag} {xa : XA} {φ : Fm} {H : Hp} {ρ : Rho} {σ : L2.St} {i : Nat} (h : EnvR K xa φ H ρ σ) : EnvR K xa φ H (ρ.set i none) (σ.set i none) := by
  refine ⟨by simp [h.1], fun j y e => ?_⟩
  by_cases hj : i = j
  · subst hj
    by_cases hl : i < ρ.length
    · rw [List.getElem?_set_self hl] at e; cases e
    · rw [List.getElem?_eq_none (by simpa using hl)] at e; cases e
  · rw [List.getElem?_set_ne hj] at e
    rw [List.getElem?_set_ne hj]
    exact h.2 j y e
def wip (ρ : Rho) : List Nat → Rho
  | [] => ρ
  | v :: vs => (wip ρ vs).set v none
theorem EnvR.wip {K : PySem.W.Frag} {xa : XA} {φ : Fm} {H : Hp} {ρ : Rho} {σ : L2.St} (h : EnvR K xa φ H ρ σ) : ∀ vs, EnvR K xa φ H (TL.wip ρ vs) (wipe σ vs)
  | [] => h
  | v :: vs => (h.wip vs).unset
/-- storing into a slot that is wiped shows nowhere -/
theorem wipe_set {σ : L2.St} {i : Nat} {v : Option V} : ∀ {vs : List Nat}, i ∈ vs → wipe (σ.set i v) vs = wipe σ vs
  | w :: vs, h => by
    by_cases hw : i = w
    · subst hw
      have gen : ∀ ws, (wipe (σ.set i v) ws).set i none = (wipe σ ws).set i none := by
        intro ws
        induction ws with
        | nil => simp [wipe]
        | cons u us ih =>
          by_cases hu : u = i
          · subst hu; simp only [wipe, List.set_set]; exact ih
          · simp only [wipe]
            rw [List.set_comm _ _ hu, List.set_comm _ _ hu, ih]
      exact gen vs
    · have hm : i ∈ vs := by
        rcases List.mem_cons.mp h with e | e
        · exact absurd e hw
        · exact e
      simp only [wipe]
      rw [wipe_set hm]
section
variable {X : Cx} {xa : XA} {pos : Pos}
def SG (X : Cx) (xa : XA) (tg : Expr) (t : Tg) : Prop := ∃ g, PG X tg g ∧ ∀ v σ H Q φ ρ x ρ', EnvR X.K xa φ H ρ σ → VR X.K φ H xa x v → asgT t x ρ = some ρ' →
  (∀ σ', EnvR X.K xa φ H ρ' σ' → (∀ vs, (∀ i ∈ t.slots, i ∈ vs) → wipe σ' vs = wipe σ vs) → Q σ' H) → g v σ H Q
def SGs (X : Cx) (xa : XA) (ts : List Expr) (t : Tg) : Prop := ∃ g, PGs X ts g ∧ ∀ vs σ H Q φ ρ xs ρ', EnvR X.K xa φ H ρ σ → DRs X.K φ H xs vs → asgL t xs ρ = some ρ' →
  (∀ σ', EnvR X.K xa φ H ρ' σ' → (∀ vs, (∀ i ∈ t.slots, i ∈ vs) → wipe σ' vs = wipe σ vs) → Q σ' H) → g vs σ H Q
theorem sg_nm {i : Nat} {x : Str} (hN : X.N.Nodup) (hi : X.N[i]? = some x) (hx : Loc X.env.scope x) (hf : X.fn x = true ∨ X.env.scope.names.lookup x = some .local) : SG X xa (.Name x pos) (.nm i) :=
  ⟨_, pg_name hN hi hx hf, fun v σ H Q φ ρ x ρ' env r h q => by
    simp only [asgT] at h
    cases h
    exact q _ (env.set r) fun vs hv => wipe_set (hv i (by simp [Tg.slots]))⟩
theorem sgs_nil : SGs X xa [] .nil := ⟨_, pgs_nil, fun vs σ H Q φ ρ xs ρ' env r h q => by
  cases xs with
  | nil =>
    simp only [asgL] at h
    cases h
    simp only [DRs] at r
    subst r
    exact ⟨rfl, q σ env fun _ _ => rfl⟩
  | cons x xs => simp [asgL] at h⟩
theorem sgs_cons {e : Expr} {es : List Expr} {a b : Tg} (ha : SG X xa e a) (hb : SGs X xa es b) (hs : (assignEach (e :: es) X.env).map (·.2) = assign e X.env :: (assignEach es X.env).map (·.2)) : SGs X xa (e :: es) (.cons a b) := by
  obtain ⟨g, hg, g2⟩ := ha
  obtain ⟨k, hk, k2⟩ := hb
  refine ⟨_, pgs_cons hg hk hs, fun vs σ H Q φ ρ xs ρ' env r h q => ?_⟩
  cases xs with
  | nil => simp [asgL] at h
  | cons x xs =>
    simp only [asgL] at h
    cases e1 : asgT a (.d x) ρ with
    | none => rw [e1] at h; cases h
    | some ρ1 =>
      rw [e1] at h
      simp only [Option.bind_some] at h
      simp only [DRs] at r
      obtain ⟨v, w, rfl, r1, r2⟩ := r
      refine ⟨v, w, rfl, g2 v σ H _ φ ρ (.d x) ρ1 env r1 e1 fun σ1 env1 w1 => k2 w σ1 H _ φ ρ1 xs ρ' env1 r2 h fun σ2 env2 w2 => q σ2 env2 fun vs hv => ?_⟩
      rw [w2 vs fun i hi => hv i (by simp [Tg.slots, hi]), w1 vs fun i hi => hv i (by simp [Tg.slots, hi])]
theorem sg_tup {es : List Expr} {k : Nat} {l : Tg} (hc : X.calm = true) (hl : SGs X xa es l) (hn : (assignEach es X.env).length = l.len) (hst : (assignEach es X.env).findIdx? (·.1) = none) : SG X xa (.Tuple es k pos) (.tup l) := by
  obtain ⟨g, hg, g2⟩ := hl
  refine ⟨_, pg_tup hc hg hn hst, fun v σ H Q φ ρ x ρ' env r h q => ?_⟩
  cases x with
  | d x =>
    cases x with
    | tuple xs =>
      simp only [asgT] at h
      obtain ⟨a, vs, rfl, h1, h2⟩ := drT r
      exact ⟨a, vs, rfl, h1.sq, by rw [h2.length]; exact asgL_len h, g2 vs σ H Q φ ρ xs ρ' env h2 h q⟩
    | _ => simp [asgT] at h
  | _ => simp [asgT] at h
end

/-! ### what is walked -/
def Jok (K : PySem.W.Frag) (φ0 : Fm) (H0 : Hp) (J : It) (items : List D) : Prop := items.length ≤ sizeLine ∧ ∀ φ H M, Ext φ0 H0 φ H → Sto K φ M H → ∀ i, (i < items.length → J.go i H) ∧ (items.length ≤ i → J.stop i H) ∧
  ∀ x v H', items[i]? = some x → J.yld i H v H' → Ext φ H φ H' ∧ Sto K φ M H' ∧ DR K φ H' x v
def tIx (K : PySem.W.Frag) (xa : XA) (W : WQ) (f : RF (List D)) : TI := fun σ H R => ∃ φ ρ M, EnvR K xa φ H ρ σ ∧ Sto K φ M H ∧ RP K W σ φ H (fun φ' H' items J => Jok K φ' H' J items) R (f ρ M)
def SI (X : Cx) (xa : XA) (tg e : Expr) (f : RF (List D)) : Prop := ∀ W, Tk X W → PI X tg e (tIx X.K xa W f)
theorem PI.or {X : Cx} {tg e : Expr} {t t' : TI} (h : PI X tg e t) (h' : PI X tg e t') : PI X tg e (fun σ H R => t σ H R ∨ t' σ H R) := ⟨fun pins s σ H R I q => q.elim (h.run pins s σ H R I) (h'.run pins s σ H R I)⟩
def chD (z : Str) : List D := z.cps.toList.map fun c => .str ⟨#[c]⟩
def itemsOf : Vl → Option (List D)
  | .d (.list xs) => some xs
  | .d (.tuple xs) => some xs
  | .d (.str z) => if z.length ≤ sizeLine then some (chD z) else none
  | .ro xs => some xs
  | _ => none
def rngD (lo : Int) (n : Nat) : List D := (List.range n).map fun (i : Nat) => .int (lo + i)
theorem rngD_length (lo : Int) (n : Nat) : (rngD lo n).length = n := by simp [rngD]
theorem rngD_get {lo : Int} {n i : Nat} {x : D} (h : (rngD lo n)[i]? = some x) : x = .int (lo + i) := by
  unfold rngD at h
  rw [List.getElem?_map] at h
  by_cases hi : i < n
  · rw [List.getElem?_range hi] at h
    exact (Option.some.inj h).symm
  · rw [List.getElem?_eq_none (by simpa using hi)] at h; cases h
section
variable {K : PySem.W.Frag} {φ : Fm} {H : Hp} {M : Store}
theorem jok_lst {a : Addr} {xs : List D} {vs : List V} (st : Sto K φ M H) (hp : ∀ φ' H', Ext φ H φ' H' → SqL K H' a vs) (r : DRs K φ H xs vs) : Jok K φ H (Itl K a) xs := by
  have hl := sq_len st.sz (.inl (hp φ H .refl))
  refine ⟨by rw [← r.length]; exact hl, fun φ' H' M' e s i => ⟨fun hi => ?_, fun hi => ?_, fun x v H2 hx hy => ?_⟩⟩
  · obtain ⟨v, hv, _⟩ := r.get (List.getElem?_eq_getElem hi)
    exact ⟨vs, v, hp φ' H' e, hv⟩
  · exact ⟨vs, hp φ' H' e, by rw [r.length]; exact hi⟩
  · obtain ⟨rfl, hy⟩ := hy
    obtain ⟨w, hw, rw'⟩ := r.get hx
    have e3 : v = w := Option.some.inj ((hy vs (hp φ' _ e)).symm.trans hw)
    rw [e3]
    exact ⟨.refl, s, DR.ext e x w rw'⟩
theorem jok_tup {a : Addr} {xs : List D} {vs : List V} (st : Sto K φ M H) (h : NT K φ H a vs) (r : DRs K φ H xs vs) : Jok K φ H (Itt K a) xs := by
  have hl := sq_len st.sz (.inr h.sq)
  refine ⟨by rw [← r.length]; exact hl, fun φ' H' M' e s i => ⟨fun hi => ?_, fun hi => ?_, fun x v H2 hx hy => ?_⟩⟩
  · obtain ⟨v, hv, _⟩ := r.get (List.getElem?_eq_getElem hi)
    exact ⟨vs, v, (h.kp e.keep).sq, hv⟩
  · exact ⟨vs, (h.kp e.keep).sq, by rw [r.length]; exact hi⟩
  · obtain ⟨rfl, hy⟩ := hy
    obtain ⟨w, hw, rw'⟩ := r.get hx
    have e3 : v = w := Option.some.inj ((hy vs (h.kp e.keep).sq).symm.trans hw)
    rw [e3]
    exact ⟨.refl, s, DR.ext e x w rw'⟩
theorem jok_str {z : Str} (hl : z.length ≤ sizeLine) : Jok K φ H (Its z) (chD z) := by
  have hz : (chD z).length = z.cps.size := by simp [chD]
  refine ⟨by rw [hz]; exact hl, fun φ' H' M' e s i => ⟨fun hi => by rw [hz] at hi; exact hi, fun hi => by rw [hz] at hi; exact hi, fun x v H2 hx hy => ?_⟩⟩
  obtain ⟨rfl, c, hc, rfl⟩ := hy
  unfold chD at hx
  rw [List.getElem?_map, Array.getElem?_toList, hc] at hx
  cases hx
  exact ⟨.refl, s, by simp [DR]⟩
theorem jok_rng {lo : Int} {n : Nat} (hn : n ≤ sizeLine) : Jok K φ H (Itr lo n) (rngD lo n) := by
  refine ⟨by rw [rngD_length]; exact hn, fun φ' H' M' e s i => ⟨fun hi => by rw [rngD_length] at hi; exact hi, fun hi => by rw [rngD_length] at hi; exact hi, fun x v H2 hx hy => ?_⟩⟩
  obtain ⟨rfl, rfl⟩ := hy
  rw [rngD_get hx]
  exact ⟨.refl, s, by simp [DR]⟩
theorem jok_revrng {a b : Int} (hn : (b - a).toNat ≤ sizeLine) : Jok K φ H (Itc (a + (((b - a).toNat : Nat) : Int) - 1) (-1) (b - a).toNat) (rngD a (b - a).toNat).reverse := by
  refine ⟨by rw [List.length_reverse, rngD_length]; exact hn, fun φ' H' M' e s i => ⟨fun hi => by rw [List.length_reverse, rngD_length] at hi; exact hi, fun hi => by rw [List.length_reverse, rngD_length] at hi; exact hi, fun x v H2 hx hy => ?_⟩⟩
  obtain ⟨rfl, rfl⟩ := hy
  have hi : i < (b - a).toNat := by
    have := (List.getElem?_eq_some_iff.mp hx).1
    rwa [List.length_reverse, rngD_length] at this
  rw [List.getElem?_reverse (by rw [rngD_length]; exact hi), rngD_length] at hx
  rw [rngD_get hx]
  refine ⟨.refl, s, ?_⟩
  have e : a + (((b - a).toNat : Nat) : Int) - 1 + (i : Nat) * (-1) = a + (((b - a).toNat - 1 - i : Nat) : Int) := by omega
  rw [e]
  simp [DR]
def zipD (xs ys : List D) : List D := (xs.zip ys).map fun p => .tuple [p.1, p.2]
theorem zipD_get {xs ys : List D} {i : Nat} {x : D} (h : (zipD xs ys)[i]? = some x) : ∃ a b, xs[i]? = some a ∧ ys[i]? = some b ∧ x = .tuple [a, b] := by
  unfold zipD at h
  rw [List.getElem?_map] at h
  cases q : (xs.zip ys)[i]? with
  | none => rw [q] at h; cases h
  | some p =>
    rw [q] at h; cases h
    obtain ⟨h1, h2⟩ := List.getElem?_zip_eq_some.mp q
    exact ⟨p.1, p.2, h1, h2, rfl⟩
theorem zipD_length (xs ys : List D) : (zipD xs ys).length = min xs.length ys.length := by simp [zipD]
theorem pair_step {T : Addr} {x y : D} {v w : V} {φ' : Fm} {H' : Hp} {M' : Store} (s : Sto K φ' M' H') (hT : H' T = none) (h1 : DR K φ' H' x v) (h2 : DR K φ' H' y w) :
    Ext φ' H' φ' (upd H' T (.tup [v, w])) ∧ Sto K φ' M' (upd H' T (.tup [v, w])) ∧ DR K φ' (upd H' T (.tup [v, w])) (.tuple [x, y]) (.ref T) :=
  ⟨Ext.new s hT, s.new hT (by show 2 ≤ sizeLine; rw [sizeLine_eq]; omega), vrT (xa := noxa) s hT (DRs.cons h1 (DRs.cons h2 DRs.nil))⟩
theorem jok_zipT {a b : Addr} {xs ys : List D} {vs ws : List V} (st : Sto K φ M H) (h : NT K φ H a vs) (h' : NT K φ H b ws) (r : DRs K φ H xs vs) (r' : DRs K φ H ys ws) : Jok K φ H (ItzT K a b) (zipD xs ys) := by
  have hl := sq_len st.sz (.inr h.sq)
  refine ⟨by rw [zipD_length, ← r.length]; exact Nat.le_trans (Nat.min_le_left _ _) hl, fun φ' H' M' e s i => ⟨fun hi => ?_, fun hi => ?_, fun x v H2 hx hy => ?_⟩⟩
  · rw [zipD_length] at hi
    obtain ⟨v, hv, _⟩ := r.get (List.getElem?_eq_getElem (show i < xs.length by omega))
    obtain ⟨w, hw, _⟩ := r'.get (List.getElem?_eq_getElem (show i < ys.length by omega))
    exact ⟨vs, ws, v, w, (h.kp e.keep).sq, (h'.kp e.keep).sq, hv, hw⟩
  · rw [zipD_length] at hi
    refine ⟨vs, ws, (h.kp e.keep).sq, (h'.kp e.keep).sq, ?_⟩
    rw [r.length, r'.length]
    omega
  · obtain ⟨p, q, hp, hq, rfl⟩ := zipD_get hx
    obtain ⟨T, v1, w1, rfl, hT, rfl, k1, k2⟩ := hy
    obtain ⟨v, hv, rv⟩ := r.get hp
    obtain ⟨w, hw, rw'⟩ := r'.get hq
    have e1 := k1 vs (h.kp e.keep).sq
    have e2 := k2 ws (h'.kp e.keep).sq
    have e3 : v1 = v := Option.some.inj (e1.symm.trans hv)
    have e4 : w1 = w := Option.some.inj (e2.symm.trans hw)
    rw [e3, e4]
    exact pair_step s hT (DR.ext e p v rv) (DR.ext e q w rw')
theorem jok_zipL {a b : Addr} {xs ys : List D} {vs ws : List V} (st : Sto K φ M H) (h : ∀ φ' H', Ext φ H φ' H' → SqL K H' a vs) (h' : ∀ φ' H', Ext φ H φ' H' → SqL K H' b ws) (r : DRs K φ H xs vs) (r' : DRs K φ H ys ws) : Jok K φ H (Itz K a b) (zipD xs ys) := by
  have hl := sq_len st.sz (.inl (h φ H .refl))
  refine ⟨by rw [zipD_length, ← r.length]; exact Nat.le_trans (Nat.min_le_left _ _) hl, fun φ' H' M' e s i => ⟨fun hi => ?_, fun hi => ?_, fun x v H2 hx hy => ?_⟩⟩
  · rw [zipD_length] at hi
    obtain ⟨v, hv, _⟩ := r.get (List.getElem?_eq_getElem (show i < xs.length by omega))
    obtain ⟨w, hw, _⟩ := r'.get (List.getElem?_eq_getElem (show i < ys.length by omega))
    exact ⟨vs, ws, v, w, h φ' H' e, h' φ' H' e, hv, hw⟩
  · rw [zipD_length] at hi
    refine ⟨vs, ws, h φ' H' e, h' φ' H' e, ?_⟩
    rw [r.length, r'.length]
    omega
  · obtain ⟨p, q, hp, hq, rfl⟩ := zipD_get hx
    obtain ⟨T, v1, w1, rfl, hT, rfl, k1, k2⟩ := hy
    obtain ⟨v, hv, rv⟩ := r.get hp
    obtain ⟨w, hw, rw'⟩ := r'.get hq
    have e1 := k1 vs (h φ' H' e)
    have e2 := k2 ws (h' φ' H' e)
    have e3 : v1 = v := Option.some.inj (e1.symm.trans hv)
    have e4 : w1 = w := Option.some.inj (e2.symm.trans hw)
    rw [e3, e4]
    exact pair_step s hT (DR.ext e p v rv) (DR.ext e q w rw')
def enumD (xs : List D) : List D := zipD (rngD 0 xs.length) xs
theorem jok_enum {a : Addr} {xs : List D} {vs : List V} (st : Sto K φ M H) (h : ∀ φ' H', Ext φ H φ' H' → SqL K H' a vs) (r : DRs K φ H xs vs) : Jok K φ H (Ite K a) (enumD xs) := by
  have hl := sq_len st.sz (.inl (h φ H .refl))
  have hz : (enumD xs).length = xs.length := by unfold enumD; rw [zipD_length, rngD_length, Nat.min_self]
  refine ⟨by rw [hz, ← r.length]; exact hl, fun φ' H' M' e s i => ⟨fun hi => ?_, fun hi => ?_, fun x v H2 hx hy => ?_⟩⟩
  · rw [hz] at hi
    obtain ⟨v, hv, _⟩ := r.get (List.getElem?_eq_getElem hi)
    exact ⟨vs, v, h φ' H' e, hv⟩
  · rw [hz] at hi
    exact ⟨vs, h φ' H' e, by rw [r.length]; exact hi⟩
  · obtain ⟨p, q, hp, hq, rfl⟩ := zipD_get hx
    obtain ⟨T, w1, rfl, hT, rfl, k2⟩ := hy
    obtain ⟨w, hw, rw'⟩ := r.get hq
    have e2 := k2 vs (h φ' H' e)
    have e4 : w1 = w := Option.some.inj (e2.symm.trans hw)
    rw [rngD_get hp, e4]
    have := pair_step (x := .int (0 + i)) (v := .int (i : Nat)) s hT (by simp [DR]) (DR.ext e q w rw')
    exact this
theorem jok_enumT {a : Addr} {xs : List D} {vs : List V} (st : Sto K φ M H) (h : NT K φ H a vs) (r : DRs K φ H xs vs) : Jok K φ H (IteT K a) (enumD xs) := by
  have hl := sq_len st.sz (.inr h.sq)
  have hz : (enumD xs).length = xs.length := by unfold enumD; rw [zipD_length, rngD_length, Nat.min_self]
  refine ⟨by rw [hz, ← r.length]; exact hl, fun φ' H' M' e s i => ⟨fun hi => ?_, fun hi => ?_, fun x v H2 hx hy => ?_⟩⟩
  · rw [hz] at hi
    obtain ⟨v, hv, _⟩ := r.get (List.getElem?_eq_getElem hi)
    exact ⟨vs, v, (h.kp e.keep).sq, hv⟩
  · rw [hz] at hi
    exact ⟨vs, (h.kp e.keep).sq, by rw [r.length]; exact hi⟩
  · obtain ⟨p, q, hp, hq, rfl⟩ := zipD_get hx
    obtain ⟨T, w1, rfl, hT, rfl, k2⟩ := hy
    obtain ⟨w, hw, rw'⟩ := r.get hq
    have e2 := k2 vs (h.kp e.keep).sq
    have e4 : w1 = w := Option.some.inj (e2.symm.trans hw)
    rw [rngD_get hp, e4]
    have := pair_step (x := .int (0 + i)) (v := .int (i : Nat)) s hT (by simp [DR]) (DR.ext e q w rw')
    exact this
theorem jok_revT {a : Addr} {xs : List D} {vs : List V} (st : Sto K φ M H) (h : NT K φ H a vs) (r : DRs K φ H xs vs) : Jok K φ H (ItvT K a vs.length) xs.reverse := by
  have hl := sq_len st.sz (.inr h.sq)
  have hz := r.length
  refine ⟨by rw [List.length_reverse, ← r.length]; exact hl, fun φ' H' M' e s i => ⟨fun hi => ?_, fun hi => ?_, fun x v H2 hx hy => ?_⟩⟩
  · rw [List.length_reverse] at hi
    obtain ⟨v, hv, _⟩ := r.get (List.getElem?_eq_getElem (show xs.length - 1 - i < xs.length by omega))
    exact ⟨by rw [hz]; exact hi, vs, v, (h.kp e.keep).sq, by rw [hz]; exact hv⟩
  · rw [List.length_reverse] at hi
    rw [← hz] at hi; exact hi
  · have hi : i < xs.length := by
      have := (List.getElem?_eq_some_iff.mp hx).1
      rwa [List.length_reverse] at this
    rw [List.getElem?_reverse hi] at hx
    obtain ⟨rfl, hy⟩ := hy
    obtain ⟨w, hw, rw'⟩ := r.get hx
    have e2 := hy vs (h.kp e.keep).sq
    rw [hz] at e2
    have e3 : v = w := Option.some.inj (e2.symm.trans hw)
    rw [e3]
    exact ⟨.refl, s, DR.ext e x w rw'⟩
theorem jok_revL {a : Addr} {xs : List D} {vs : List V} (st : Sto K φ M H) (h : ∀ φ' H', Ext φ H φ' H' → SqL K H' a vs) (r : DRs K φ H xs vs) : Jok K φ H (Itv K a vs.length) xs.reverse := by
  have hl := sq_len st.sz (.inl (h φ H .refl))
  have hz := r.length
  refine ⟨by rw [List.length_reverse, ← r.length]; exact hl, fun φ' H' M' e s i => ⟨fun hi => ?_, fun hi => ?_, fun x v H2 hx hy => ?_⟩⟩
  · rw [List.length_reverse] at hi
    obtain ⟨v, hv, _⟩ := r.get (List.getElem?_eq_getElem (show xs.length - 1 - i < xs.length by omega))
    exact ⟨by rw [hz]; exact hi, vs, v, h φ' H' e, by rw [hz]; exact hv⟩
  · rw [List.length_reverse] at hi
    rw [← hz] at hi; exact hi
  · have hi : i < xs.length := by
      have := (List.getElem?_eq_some_iff.mp hx).1
      rwa [List.length_reverse] at this
    rw [List.getElem?_reverse hi] at hx
    obtain ⟨rfl, hy⟩ := hy
    obtain ⟨w, hw, rw'⟩ := r.get hx
    have e2 := hy vs (h φ' _ e)
    rw [hz] at e2
    have e3 : v = w := Option.some.inj (e2.symm.trans hw)
    rw [e3]
    exact ⟨.refl, s, DR.ext e x w rw'⟩
/-- a list that is only read, by its value -/
theorem rdL {xa : XA} {x : Vl} {v : V} {xs : List D} (st : Sto K φ M H) (r : VR K φ H xa x v) (h : x = .d (.list xs) ∨ x = .ro xs) : ∃ a vs, v = .ref a ∧ (∀ φ' H', Ext φ H φ' H' → SqL K H' a vs) ∧ DRs K φ H xs vs := by
  rcases h with rfl | rfl
  · have r' : DR K φ H (.list xs) v := r
    simp only [DR] at r'
    obtain ⟨a, vs, e, h1, h2, h3⟩ := r'
    exact ⟨a, vs, e, fun φ' H' x => SqL.of (x.keep a _ h1 h2).1, h3⟩
  · obtain ⟨a, vs, e, h1, h2⟩ := r
    exact ⟨a, vs, e, fun φ' H' x => (h1.kp x.keep).sq, h2⟩
end
section
variable {X : Cx} {xa : XA} {tg e e2 : Expr} {fe f2 : RF Vl} {p pos p2 pos2 : Pos}
def fIt (fe : RF Vl) : RF (List D) := fun ρ M => (fe ρ M).bind fun x M1 => ofO (itemsOf x) M1
theorem si_val (he : SE X xa e fe) : SI X xa tg e (fIt fe) := fun W tk =>
  PI.weak (PI.or (pi_list (he W tk)) (PI.or (pi_tup (he W tk)) (pi_str (he W tk)))) fun σ H R h => by
    obtain ⟨φ, ρ, M, env, sto, h⟩ := h
    have key : ∀ (P : TE → Prop), True := fun _ => trivial
    cases hf : fe ρ M with
    | bad => unfold fIt at h; rw [hf] at h; exact h.elim
    | exc c M' =>
      unfold fIt at h; rw [hf] at h
      exact .inl ⟨φ, ρ, M, env, sto, by rw [hf]; exact h⟩
    | ok x M1 =>
      unfold fIt at h; rw [hf] at h
      simp only [Res.bind_ok] at h
      obtain ⟨items, hi, h3⟩ := RP.ofO h
      unfold itemsOf at hi
      split at hi
      · cases hi
        refine .inl ⟨φ, ρ, M, env, sto, ?_⟩
        rw [hf]
        intro φ1 H1 v s1 e1 r1
        obtain ⟨a, vs, rfl, k1, k2⟩ := rdL s1 r1 (.inl rfl)
        exact ⟨a, rfl, ⟨vs, k1 _ _ .refl⟩, h3 φ1 H1 _ s1 e1 (jok_lst s1 k1 k2)⟩
      · cases hi
        refine .inr (.inl ⟨φ, ρ, M, env, sto, ?_⟩)
        rw [hf]
        intro φ1 H1 v s1 e1 r1
        obtain ⟨a, vs, rfl, k1, k2⟩ := drT r1
        exact ⟨a, rfl, ⟨vs, k1.sq⟩, h3 φ1 H1 _ s1 e1 (jok_tup s1 k1 k2)⟩
      · split at hi
        · rename_i hl
          cases hi
          refine .inr (.inr ⟨φ, ρ, M, env, sto, ?_⟩)
          rw [hf]
          intro φ1 H1 v s1 e1 r1
          cases drS r1
          exact ⟨_, rfl, h3 φ1 H1 _ s1 e1 (jok_str hl)⟩
        · cases hi
      · cases hi
        refine .inl ⟨φ, ρ, M, env, sto, ?_⟩
        rw [hf]
        intro φ1 H1 v s1 e1 r1
        obtain ⟨a, vs, rfl, k1, k2⟩ := rdL s1 r1 (.inr rfl)
        exact ⟨a, rfl, ⟨vs, k1 _ _ .refl⟩, h3 φ1 H1 _ s1 e1 (jok_lst s1 k1 k2)⟩
      · cases hi
def rngOk (i j : Int) : Bool := decide (-(2 ^ 62) ≤ i) && decide (i < 2 ^ 62) && decide (-(2 ^ 62) ≤ j) && decide (j < 2 ^ 62) && decide ((j - i).toNat ≤ sizeLine)
theorem rngOk_of {i j : Int} (h : rngOk i j = true) : -(2 ^ 62) ≤ i ∧ i < 2 ^ 62 ∧ -(2 ^ 62) ≤ j ∧ j < 2 ^ 62 ∧ (j - i).toNat ≤ sizeLine := by
  simpa [rngOk, and_assoc] using h
def rngG (rev : Bool) : List Vl → Option (List D)
  | [.d (.int j)] => if rngOk 0 j = true then some (if rev = true then (rngD 0 j.toNat).reverse else rngD 0 j.toNat) else none
  | [.d (.int i), .d (.int j)] => if rngOk i j = true then some (if rev = true then (rngD i (j - i).toNat).reverse else rngD i (j - i).toNat) else none
  | _ => none
def fRng (rev : Bool) (fl : RF (List Vl)) : RF (List D) := fun ρ M => (fl ρ M).bind fun as M1 => ofO (rngG rev as) M1
theorem si_rng1 {fl : RF (List Vl)} (hg : Gl X "range") (hm : X.mg "range" = none) (ha : SA X xa [e] fl) (hs : starEach [e] X.env = [(false, eval e X.env)]) (h1 : ∀ ρ M as M', fl ρ M = .ok as M' → as.length = 1) : SI X xa tg (.Call (.Name "range" p) [e] [] pos) (fRng false fl) := fun W tk =>
  PI.weak (pi_range1 hg hm (ha W tk) hs) fun σ H R h => by
    obtain ⟨φ, ρ, M, env, sto, h⟩ := h
    refine ⟨φ, ρ, M, env, sto, ?_⟩
    unfold fRng at h
    cases hf : fl ρ M with
    | bad => rw [hf] at h; exact h.elim
    | exc c M' => rw [hf] at h; exact h
    | ok as M1 =>
      rw [hf] at h
      simp only [Res.bind_ok] at h
      obtain ⟨items, hi, h3⟩ := RP.ofO h
      intro φ1 H1 vs s1 e1 r1
      unfold rngG at hi
      split at hi
      · split at hi
        · rename_i hr
          cases hi
          obtain ⟨v, rfl, r⟩ := vrs1 r1
          cases drI r
          obtain ⟨b1, b2, b3, b4, b5⟩ := rngOk_of hr
          refine ⟨_, rfl, b3, b4, h3 φ1 H1 _ s1 e1 ?_⟩
          have := jok_rng (K := X.K) (φ := φ1) (H := H1) (lo := 0) b5
          rw [Int.sub_zero] at this
          exact this
        · cases hi
      · exact absurd (h1 _ _ _ _ hf) (by simp)
      · cases hi
theorem si_rng2 {fl : RF (List Vl)} (hg : Gl X "range") (hm : X.mg "range" = none) (ha : SA X xa [e, e2] fl) (hs : starEach [e, e2] X.env = [(false, eval e X.env), (false, eval e2 X.env)]) (hs2 : starEach [e2] X.env = [(false, eval e2 X.env)]) (h1 : ∀ ρ M as M', fl ρ M = .ok as M' → as.length = 2) :
    SI X xa tg (.Call (.Name "range" p) [e, e2] [] pos) (fRng false fl) := fun W tk =>
  PI.weak (pi_range2 hg hm (ha W tk) hs hs2) fun σ H R h => by
    obtain ⟨φ, ρ, M, env, sto, h⟩ := h
    refine ⟨φ, ρ, M, env, sto, ?_⟩
    unfold fRng at h
    cases hf : fl ρ M with
    | bad => rw [hf] at h; exact h.elim
    | exc c M' => rw [hf] at h; exact h
    | ok as M1 =>
      rw [hf] at h
      simp only [Res.bind_ok] at h
      obtain ⟨items, hi, h3⟩ := RP.ofO h
      intro φ1 H1 vs s1 e1 r1
      unfold rngG at hi
      split at hi
      · exact absurd (h1 _ _ _ _ hf) (by simp)
      · split at hi
        · rename_i hr
          cases hi
          obtain ⟨v, w, rfl, r, r'⟩ := vrs2 r1
          cases drI r; cases drI r'
          obtain ⟨b1, b2, b3, b4, b5⟩ := rngOk_of hr
          exact ⟨_, _, rfl, ⟨b1, b2, b3, b4⟩, h3 φ1 H1 _ s1 e1 (jok_rng b5)⟩
        · cases hi
      · cases hi
theorem si_revrng1 {fe : RF Vl} (hg : Gl X "reversed") (hm : X.mg "reversed" = none) (hg2 : Gl X "range") (hm2 : X.mg "range" = none) (he : SE X xa e fe) (hs : starEach [e] X.env = (false, eval e X.env) :: starEach [] X.env)
    (hs2 : starEach [.Call (.Name "range" p2) [e] [] pos2] X.env = (false, eval (.Call (.Name "range" p2) [e] [] pos2) X.env) :: starEach [] X.env) : SI X xa tg (.Call (.Name "reversed" p) [.Call (.Name "range" p2) [e] [] pos2] [] pos) (fRng true (fCons fe fNil)) := fun W tk =>
  PI.weak (pi_revR hg hm (prg_1 hg2 hm2 (he W tk) hs) hs2) fun σ H R h => by
    obtain ⟨φ, ρ, M, env, sto, h⟩ := h
    refine ⟨φ, ρ, M, env, sto, ?_⟩
    unfold fRng fCons fNil at h
    cases hf : fe ρ M with
    | bad => rw [hf] at h; exact h.elim
    | exc c M' => rw [hf] at h; exact h
    | ok x M1 =>
      rw [hf] at h
      simp only [Res.bind_ok] at h
      obtain ⟨items, hi, h3⟩ := RP.ofO h
      intro φ1 H1 v s1 e1 r1
      unfold rngG at hi
      split at hi
      · rename_i heq
        split at hi
        · rename_i hr
          cases hi
          cases heq
          cases drI r1
          obtain ⟨b1, b2, b3, b4, b5⟩ := rngOk_of hr
          refine ⟨_, rfl, b1, b2, b3, b4, h3 φ1 H1 _ s1 e1 ?_⟩
          have := jok_revrng (K := X.K) (φ := φ1) (H := H1) (a := 0) b5
          simp only [if_true]
          simpa using this
        · cases hi
      · rename_i heq
        cases heq
      · cases hi
theorem si_revrng2 {fe f2 : RF Vl} (hg : Gl X "reversed") (hm : X.mg "reversed" = none) (hg2 : Gl X "range") (hm2 : X.mg "range" = none) (he : SE X xa e fe) (he2 : SE X xa e2 f2) (hs : starEach [e, e2] X.env = (false, eval e X.env) :: starEach [e2] X.env) (hs3 : starEach [e2] X.env = (false, eval e2 X.env) :: starEach [] X.env)
    (hs2 : starEach [.Call (.Name "range" p2) [e, e2] [] pos2] X.env = (false, eval (.Call (.Name "range" p2) [e, e2] [] pos2) X.env) :: starEach [] X.env) : SI X xa tg (.Call (.Name "reversed" p) [.Call (.Name "range" p2) [e, e2] [] pos2] [] pos) (fRng true (fCons fe (fCons f2 fNil))) := fun W tk =>
  PI.weak (pi_revR hg hm (prg_2 hg2 hm2 (he W tk) (he2 W tk) hs hs3 (by rw [hs3]; rfl)) hs2) fun σ H R h => by
    obtain ⟨φ, ρ, M, env, sto, h⟩ := h
    refine ⟨φ, ρ, M, env, sto, ?_⟩
    unfold fRng fCons fNil at h
    cases hf : fe ρ M with
    | bad => rw [hf] at h; exact h.elim
    | exc c M' => rw [hf] at h; exact h
    | ok x M1 =>
      rw [hf] at h
      simp only [Res.bind_ok] at h
      intro φ1 H1 v s1 e1 r1
      refine ⟨φ1, ρ, M1, env.ext e1, s1, ?_⟩
      have h := RP.shift h e1
      cases hf2 : f2 ρ M1 with
      | bad => rw [hf2] at h; exact h.elim
      | exc c M' => rw [hf2] at h; exact h
      | ok y M2 =>
        rw [hf2] at h
        simp only [Res.bind_ok] at h
        obtain ⟨items, hi, h3⟩ := RP.ofO h
        intro φ2 H2 w s2 e2 r2
        unfold rngG at hi
        split at hi
        · rename_i heq
          cases heq
        · rename_i heq
          split at hi
          · rename_i hr
            cases hi
            cases heq
            cases drI r1; cases drI r2
            obtain ⟨b1, b2, b3, b4, b5⟩ := rngOk_of hr
            refine ⟨_, _, rfl, rfl, b1, b2, b3, b4, h3 φ2 H2 _ s2 e2 ?_⟩
            simp only [if_true]
            exact jok_revrng b5
          · cases hi
        · cases hi
def zipG : List Vl → Option (List D)
  | [.d (.tuple xs), .d (.tuple ys)] => some (zipD xs ys)
  | [.d (.list xs), .d (.list ys)] => some (zipD xs ys)
  | _ => none
def fZip (fl : RF (List Vl)) : RF (List D) := fun ρ M => (fl ρ M).bind fun as M1 => ofO (zipG as) M1
theorem si_zip {fl : RF (List Vl)} {elts : List Expr} {kk : Nat} {tpos : Pos} (hg : Gl X "zip") (hm : X.mg "zip" = none) (ha : SA X xa [e, e2] fl) (hs : starEach [e, e2] X.env = (false, eval e X.env) :: starEach [e2] X.env) (hpl : (backTo pos (starEach [e2] X.env)).any (·.1) = false) :
    SI X xa (.Tuple elts kk tpos) (.Call (.Name "zip" p) [e, e2] [] pos) (fZip fl) := fun W tk =>
  PI.weak (pi_zipA hg hm (ha W tk) hs hpl) fun σ H R h => by
    obtain ⟨φ, ρ, M, env, sto, h⟩ := h
    refine ⟨φ, ρ, M, env, sto, RP.bind h fun φ1 H1 as M1 vs s1 e1 r1 h1 => ?_⟩
    obtain ⟨items, hi, h3⟩ := RP.ofO h1
    unfold zipG at hi
    split at hi
    · cases hi
      obtain ⟨v, w, rfl, r, r'⟩ := vrs2 r1
      obtain ⟨a, vs, rfl, k1, k2⟩ := drT r
      obtain ⟨b, ws, rfl, k3, k4⟩ := drT r'
      exact ⟨a, b, vs, ws, rfl, .inr ⟨k1.sq, k3.sq, h3 φ1 H1 _ s1 .refl (jok_zipT s1 k1 k3 k2 k4)⟩⟩
    · cases hi
      obtain ⟨v, w, rfl, r, r'⟩ := vrs2 r1
      obtain ⟨a, vs, rfl, k1, k2⟩ := rdL s1 r (.inl rfl)
      obtain ⟨b, ws, rfl, k3, k4⟩ := rdL s1 r' (.inl rfl)
      exact ⟨a, b, vs, ws, rfl, .inl ⟨k1 _ _ .refl, k3 _ _ .refl, h3 φ1 H1 _ s1 .refl (jok_zipL s1 k1 k3 k2 k4)⟩⟩
    · cases hi
def enumG : List Vl → Option (List D)
  | [.d (.list xs)] => some (enumD xs)
  | [.d (.tuple xs)] => some (enumD xs)
  | [.ro xs] => some (enumD xs)
  | _ => none
def fEnum (fl : RF (List Vl)) : RF (List D) := fun ρ M => (fl ρ M).bind fun as M1 => ofO (enumG as) M1
theorem si_enum {fl : RF (List Vl)} {elts : List Expr} {kk : Nat} {tpos : Pos} (hg : Gl X "enumerate") (hm : X.mg "enumerate" = none) (ha : SA X xa [e] fl) (hs : starEach [e] X.env = [(false, eval e X.env)]) :
    SI X xa (.Tuple elts kk tpos) (.Call (.Name "enumerate" p) [e] [] pos) (fEnum fl) := fun W tk =>
  PI.weak (pi_enumA hg hm (ha W tk) hs) fun σ H R h => by
    obtain ⟨φ, ρ, M, env, sto, h⟩ := h
    refine ⟨φ, ρ, M, env, sto, RP.bind h fun φ1 H1 as M1 vs s1 e1 r1 h1 => ?_⟩
    obtain ⟨items, hi, h3⟩ := RP.ofO h1
    unfold enumG at hi
    split at hi
    · cases hi
      obtain ⟨v, rfl, r⟩ := vrs1 r1
      obtain ⟨a, vs, rfl, k1, k2⟩ := rdL s1 r (.inl rfl)
      exact ⟨a, vs, rfl, .inl ⟨k1 _ _ .refl, h3 φ1 H1 _ s1 .refl (jok_enum s1 k1 k2)⟩⟩
    · cases hi
      obtain ⟨v, rfl, r⟩ := vrs1 r1
      obtain ⟨a, vs, rfl, k1, k2⟩ := drT r
      exact ⟨a, vs, rfl, .inr ⟨k1.sq, h3 φ1 H1 _ s1 .refl (jok_enumT s1 k1 k2)⟩⟩
    · cases hi
      obtain ⟨v, rfl, r⟩ := vrs1 r1
      obtain ⟨a, vs, rfl, k1, k2⟩ := rdL s1 r (.inr rfl)
      exact ⟨a, vs, rfl, .inl ⟨k1 _ _ .refl, h3 φ1 H1 _ s1 .refl (jok_enum s1 k1 k2)⟩⟩
    · cases hi
def revG : Vl → Option (List D)
  | .d (.list xs) => some xs.reverse
  | .d (.tuple xs) => some xs.reverse
  | .ro xs => some xs.reverse
  | _ => none
def fRev (fe : RF Vl) : RF (List D) := fun ρ M => (fe ρ M).bind fun x M1 => ofO (revG x) M1
theorem si_rev (hg : Gl X "reversed") (hm : X.mg "reversed" = none) (he : SE X xa e fe) (hs : starEach [e] X.env = (false, eval e X.env) :: starEach [] X.env) : SI X xa tg (.Call (.Name "reversed" p) [e] [] pos) (fRev fe) := fun W tk =>
  PI.weak (pi_revA hg hm (he W tk) hs) fun σ H R h => by
    obtain ⟨φ, ρ, M, env, sto, h⟩ := h
    refine ⟨φ, ρ, M, env, sto, RP.bind h fun φ1 H1 x M1 v s1 e1 r h1 => ?_⟩
    obtain ⟨items, hi, h3⟩ := RP.ofO h1
    unfold revG at hi
    split at hi
    · cases hi
      obtain ⟨a, vs, rfl, k1, k2⟩ := rdL s1 r (.inl rfl)
      exact ⟨a, vs, rfl, .inl ⟨k1 _ _ .refl, h3 φ1 H1 _ s1 .refl (jok_revL s1 k1 k2)⟩⟩
    · cases hi
      obtain ⟨a, vs, rfl, k1, k2⟩ := drT r
      exact ⟨a, vs, rfl, .inr ⟨k1.sq, h3 φ1 H1 _ s1 .refl (jok_revT s1 k1 k2)⟩⟩
    · cases hi
      obtain ⟨a, vs, rfl, k1, k2⟩ := rdL s1 r (.inr rfl)
      exact ⟨a, vs, rfl, .inl ⟨k1 _ _ .refl, h3 φ1 H1 _ s1 .refl (jok_revL s1 k1 k2)⟩⟩
    · cases hi
end
end TL

namespace TL
open PySem PySem.Spec
open PyProof.Rows L2

/-! ### statements -/
section
variable {X : Cx} {xa : XA} {st : Stmt} {rest sa sb : List Stmt} {f g : SF} {e : Expr} {fe : RF Vl} {pos : Pos}
def fSkip : SF := fun ρ M => .nx ρ M
def fSeq (f g : SF) : SF := fun ρ M => (f ρ M).seq g
theorem ss_nil : SSs X xa [] fSkip := fun W tk => PSs.weak pss_nil fun D σ H h => by
  obtain ⟨φ, ρ, M, env, sto, h⟩ := h
  exact h φ H σ sto .refl env
theorem ss_cons (h1 : SS X xa st f) (h2 : SSs X xa rest g) : SSs X xa (st :: rest) (fSeq f g) := fun W tk =>
  PSs.weak (pss_cons (h1 W tk) (h2 W tk)) fun D σ H h => by
    obtain ⟨φ, ρ, M, env, sto, h⟩ := h
    refine ⟨φ, ρ, M, env, sto, ?_⟩
    unfold fSeq at h
    cases hf : f ρ M with
    | nx ρ1 M1 =>
      rw [hf] at h
      exact fun φ' H' σ' s e env' => ⟨φ', ρ1, M1, env', s, SPo.shift (r := g ρ1 M1) h e⟩
    | rt x M1 => rw [hf] at h; exact h
    | bk ρ1 M1 => rw [hf] at h; exact h
    | ct ρ1 M1 => rw [hf] at h; exact h
    | exc c ρ1 M1 => rw [hf] at h; exact h
    | bad => rw [hf] at h; exact h
theorem ss_pass : SS X xa (.Pass pos) fSkip := fun W tk => PS.weak ps_pass fun D σ H h => by
  obtain ⟨φ, ρ, M, env, sto, h⟩ := h
  exact h φ H σ sto .refl env
theorem ss_doc {x : Str} {j : Nat} {pos' : Pos} : SS X xa (.Expr (.Constant (.str x) j pos) pos') fSkip := fun W tk => PS.weak ps_doc fun D σ H h => by
  obtain ⟨φ, ρ, M, env, sto, h⟩ := h
  exact h φ H σ sto .refl env
def fBrk : SF := fun ρ M => .bk ρ M
def fCnt : SF := fun ρ M => .ct ρ M
theorem ss_brk : SS X xa (.Break pos) fBrk := fun W tk => PS.weak ps_break fun D σ H h => by
  obtain ⟨φ, ρ, M, env, sto, h⟩ := h
  exact h φ H σ sto .refl env
theorem ss_cnt : SS X xa (.Continue pos) fCnt := fun W tk => PS.weak ps_continue fun D σ H h => by
  obtain ⟨φ, ρ, M, env, sto, h⟩ := h
  exact h φ H σ sto .refl env
/-- an expression's outcome behind its reading -/
theorem then_read {α β : Type} {K : PySem.W.Frag} {W : WQ} {D : Ends} {σ : L2.St} {H : Hp} {φ : Fm} {ρ : Rho} {r : Res α} {k : α → Store → SR} {rel : Fm → Hp → α → β → Prop} {Q : β → Hp → Prop}
    (env : EnvR K xa φ H ρ σ) (h : SPo K xa W φ H D (r.then ρ k)) (n : ∀ φ1 H1 x M1 v, Sto K φ1 M1 H1 → Ext φ H φ1 H1 → EnvR K xa φ1 H1 ρ σ → rel φ1 H1 x v → SPo K xa W φ1 H1 D (k x M1) → Q v H1) : RP K W σ φ H rel Q r := by
  cases r with
  | ok x M => exact fun φ' H' v s e q => n φ' H' x M v s e (env.ext e) q (SPo.shift (r := k x M) h e)
  | exc c M => exact fun φ' H' s e => h φ' H' σ s e (env.ext e)
  | bad => exact h
def fExp (fe : RF Vl) : SF := fun ρ M => (fe ρ M).then ρ fun _ M1 => .nx ρ M1
theorem ss_expr (he : SE X xa e fe) (hs : swapsWith e none pos.line X.env = pure false) : SS X xa (.Expr e pos) (fExp fe) := fun W tk =>
  PS.weak (ps_expr (he W tk) hs) fun D σ H h => by
    obtain ⟨φ, ρ, M, env, sto, h⟩ := h
    exact ⟨φ, ρ, M, env, sto, then_read env h fun φ1 H1 x M1 v s1 e1 env1 r1 h1 => h1 φ1 H1 σ s1 .refl env1⟩
def fRet (fe : RF Vl) : SF := fun ρ M => (fe ρ M).then ρ fun x M1 => .rt x M1
theorem ss_ret (he : SE X xa e fe) : SS X xa (.Return (some e) pos) (fRet fe) := fun W tk =>
  PS.weak (ps_ret (he W tk)) fun D σ H h => by
    obtain ⟨φ, ρ, M, env, sto, h⟩ := h
    exact ⟨φ, ρ, M, env, sto, then_read env h fun φ1 H1 x M1 v s1 e1 env1 r1 h1 => h1 φ1 H1 v s1 .refl r1⟩
def fRetN : SF := fun _ M => .rt (.d .none) M
theorem ss_retN : SS X xa (.Return none pos) fRetN := fun W tk => PS.weak ps_retN fun D σ H h => by
  obtain ⟨φ, ρ, M, env, sto, h⟩ := h
  exact h φ H .non sto .refl vrN
def fIfS (tc : RF Bool) (f g : SF) : SF := fun ρ M => (tc ρ M).then ρ fun k M1 => if k = true then f ρ M1 else g ρ M1
theorem ss_if {tc : RF Bool} (hc : ST X xa e tc) (ha : SSs X xa sa f) (hb : SSs X xa sb g) : SS X xa (.If e sa sb pos) (fIfS tc f g) := fun W tk =>
  PS.weak (ps_if (hc W tk) (ha W tk) (hb W tk)) fun D σ H h => by
    obtain ⟨φ, ρ, M, env, sto, h⟩ := h
    refine ⟨φ, ρ, M, env, sto, then_read env h fun φ1 H1 k M1 v s1 e1 env1 r1 h1 => ?_⟩
    have r1 : k = v := r1
    subst r1
    cases k with
    | true => rw [if_pos rfl] at h1 ⊢; exact ⟨φ1, ρ, M1, env1, s1, h1⟩
    | false => rw [if_neg Bool.false_ne_true] at h1 ⊢; exact ⟨φ1, ρ, M1, env1, s1, h1⟩
/-- target = value -/
def fAsg (t : Tg) (fe : RF Vl) : SF := fun ρ M => (fe ρ M).then ρ fun x M1 => match asgT t x ρ with
  | some ρ' => .nx ρ' M1
  | none => .bad
theorem asg_read {K : PySem.W.Frag} {W : WQ} {D : Ends} {σ : L2.St} {H : Hp} {t : Tg} {gt : TG} (hg : ∀ v σ H Q φ ρ x ρ', EnvR K xa φ H ρ σ → VR K φ H xa x v → asgT t x ρ = some ρ' → (∀ σ', EnvR K xa φ H ρ' σ' → (∀ vs, (∀ i ∈ t.slots, i ∈ vs) → wipe σ' vs = wipe σ vs) → Q σ' H) → gt v σ H Q)
    (h : tSx K xa W (fAsg t fe) D σ H) : tAsg (tEx K xa W fe) gt D σ H := by
  obtain ⟨φ, ρ, M, env, sto, h⟩ := h
  refine ⟨φ, ρ, M, env, sto, then_read env h fun φ1 H1 x M1 v s1 e1 env1 r1 h1 => ?_⟩
  split at h1
  · rename_i ρ' e
    exact hg v σ H1 D.nx φ1 ρ x ρ' env1 r1 e fun σ' env' _ => h1 φ1 H1 σ' s1 .refl env'
  · exact h1.elim
theorem ss_asg {tg : Expr} {t : Tg} (he : SE X xa e fe) (ht : SG X xa tg t) (hs : swapsWithSole [tg] e pos.line X.env = pure false) (hw : swappedStores [tg] e X.env = pure none) (h1 : (assignEach [tg] X.env).map (·.2) = [assign tg X.env]) : SS X xa (.Assign [tg] e pos) (fAsg t fe) := fun W tk => by
  obtain ⟨gt, pg, hg⟩ := ht
  exact PS.weak (ps_asg (he W tk) pg hs hw h1) fun D σ H h => asg_read hg h
theorem ss_set {i : Nat} {x : Str} {pos' : Pos} (hN : X.N.Nodup) (hi : X.N[i]? = some x) (hx : Loc X.env.scope x) (he : SE X xa e fe) (hs : swapsWith e (some (.Name x pos')) pos.line X.env = pure false) (hf : X.fn x = true ∨ X.env.scope.names.lookup x = some .local) :
    SS X xa (.Assign [.Name x pos'] e pos) (fAsg (.nm i) fe) := fun W tk =>
  PS.weak (ps_set hN hi hx (he W tk) hs hf) fun D σ H h => by
    refine asg_read (t := .nm i) (fun v σ H Q φ ρ x ρ' env r h q => ?_) h
    simp only [asgT] at h
    cases h
    exact q _ (env.set r) fun vs hv => wipe_set (hv i (by simp [Tg.slots]))
/-- name op= value -/
def fAug (o : Op) (i : Nat) (fe : RF Vl) : SF := fun ρ M => match ρ[i]? with
  | some (some x) => (fe ρ M).then ρ fun y M1 => match bin2 o x y M1 with
    | some z => .nx (ρ.set i (some z)) M1
    | none => .bad
  | _ => .bad
end

/-! ### in-place operators: ints, texts, tuples alone -/
def augOk : Vl → Bool
  | .d (.int _) => true
  | .d (.str _) => true
  | _ => false
def aug2 : Op → Vl → Vl → Store → Option Vl
  | .add, .d (.int i), .d (.int j), _ => some (.d (.int (i + j)))
  | .add, .d (.str a), .d (.str b), _ => if a.length + b.length ≤ sizeLine then some (.d (.str (a ++ b))) else none
  | .sub, .d (.int i), .d (.int j), _ => some (.d (.int (i - j)))
  | .mul, .d (.int i), .d (.int j), _ => if (-(2 ^ 64) < i ∧ i < 2 ^ 64) ∨ (-(2 ^ 64) < j ∧ j < 2 ^ 64) then some (.d (.int (i * j))) else none
  | .fdiv, .d (.int i), .d (.int j), _ => if 0 < j ∧ j < 1073741824 then some (.d (.int (i / j))) else none
  | .mod, .d (.int i), .d (.int j), _ => if 0 < j then some (.d (.int (i % j))) else none
  | _, _, _, _ => none
section
variable {X : Cx} {xa : XA} {e : Expr} {fe : RF Vl} {pos : Pos}
theorem ip_add2 : PIp X .Add (GR X.K xa (aug2 .add)) := by
  intro pins s σ H v w u u' Q I ru rw' ⟨φ, M, x, y, z, st, rx, ry, hz, q⟩
  unfold aug2 at hz
  split at hz
  case h_1 => cases hz; cases drI rx; cases drI ry; exact iop_add pins s σ H _ _ u u' Q I ru rw' ⟨_, _, rfl, rfl, q φ H _ st .refl vrI⟩
  case h_2 =>
    split at hz
    · cases hz; cases drS rx; cases drS ry; exact iop_add_str pins s σ H _ _ u u' Q I ru rw' ⟨_, _, rfl, rfl, by assumption, q φ H _ st .refl vrS⟩
    · cases hz
  all_goals first | contradiction | cases hz
theorem ip_sub2 : PIp X .Sub (GR X.K xa (aug2 .sub)) := by
  intro pins s σ H v w u u' Q I ru rw' ⟨φ, M, x, y, z, st, rx, ry, hz, q⟩
  unfold aug2 at hz
  split at hz
  case h_3 => cases hz; cases drI rx; cases drI ry; exact iop_sub pins s σ H _ _ u u' Q I ru rw' ⟨_, _, rfl, rfl, q φ H _ st .refl vrI⟩
  all_goals first | contradiction | cases hz
theorem ip_mul2 : PIp X .Mult (GR X.K xa (aug2 .mul)) := by
  intro pins s σ H v w u u' Q I ru rw' ⟨φ, M, x, y, z, st, rx, ry, hz, q⟩
  unfold aug2 at hz
  split at hz
  case h_4 =>
    split at hz
    · cases hz; cases drI rx; cases drI ry; exact iop_mul pins s σ H _ _ u u' Q I ru rw' ⟨_, _, rfl, rfl, by assumption, q φ H _ st .refl vrI⟩
    · cases hz
  all_goals first | contradiction | cases hz
theorem ip_fdiv2 : PIp X .FloorDiv (GR X.K xa (aug2 .fdiv)) := by
  intro pins s σ H v w u u' Q I ru rw' ⟨φ, M, x, y, z, st, rx, ry, hz, q⟩
  unfold aug2 at hz
  split at hz
  case h_5 =>
    split at hz
    · cases hz; cases drI rx; cases drI ry; exact iop_fdiv pins s σ H _ _ u u' Q I ru rw' ⟨_, _, rfl, rfl, by assumption, q φ H _ st .refl vrI⟩
    · cases hz
  all_goals first | contradiction | cases hz
theorem ip_mod2 : PIp X .Mod (GR X.K xa (aug2 .mod)) := by
  intro pins s σ H v w u u' Q I ru rw' ⟨φ, M, x, y, z, st, rx, ry, hz, q⟩
  unfold aug2 at hz
  split at hz
  case h_6 =>
    split at hz
    · cases hz; cases drI rx; cases drI ry; exact iop_mod pins s σ H _ _ u u' Q I ru rw' ⟨_, _, rfl, rfl, by assumption, q φ H _ st .refl vrI⟩
    · cases hz
  all_goals first | contradiction | cases hz
theorem ip_pow2 : PIp X .Pow (GR X.K xa (aug2 .pow)) := by
  intro pins s σ H v w u u' Q I ru rw' ⟨φ, M, x, y, z, st, rx, ry, hz, q⟩
  unfold aug2 at hz
  split at hz
  all_goals first | contradiction | cases hz
theorem ip_none2 (o : Op) {op : Operator} (h : ∀ x y M, aug2 o x y M = none) : PIp X op (GR X.K xa (aug2 o)) := by
  intro pins s σ H v w u u' Q I ru rw' ⟨φ, M, x, y, z, st, rx, ry, hz, q⟩
  rw [h] at hz; cases hz
theorem ip_aug2 (o : Op) : PIp X o.op (GR X.K xa (aug2 o)) := by
  cases o
  · exact ip_add2
  · exact ip_sub2
  · exact ip_mul2
  · exact ip_fdiv2
  · exact ip_mod2
  · exact ip_pow2
  · exact ip_none2 .band fun _ _ _ => by unfold aug2; rfl
  · exact ip_none2 .bor fun _ _ _ => by unfold aug2; rfl
  · exact ip_none2 .shl fun _ _ _ => by unfold aug2; rfl
def fAug2 (o : Op) (i : Nat) (fe : RF Vl) : SF := fun ρ M => match ρ[i]? with
  | some (some x) => (fe ρ M).then ρ fun y M1 => match aug2 o x y M1 with
    | some z => .nx (ρ.set i (some z)) M1
    | none => .bad
  | _ => .bad
theorem ss_aug (o : Op) {i : Nat} {x : Str} {pos' : Pos} (hN : X.N.Nodup) (hi : X.N[i]? = some x) (hx : Loc X.env.scope x) (he : SE X xa e fe) (hf : X.fn x = true ∨ X.env.scope.names.lookup x = some .local) :
    SS X xa (.AugAssign (.Name x pos') o.op e pos) (fAug2 o i fe) := fun W tk =>
  PS.weak (ps_aug hN hi hx (he W tk) (ip_aug2 (xa := xa) o) hf) fun D σ H h => by
    obtain ⟨φ, ρ, M, env, sto, h⟩ := h
    unfold fAug2 at h
    split at h
    · rename_i y ey
      obtain ⟨v, hv, rv⟩ := env.2 i y ey
      refine ⟨v, hv, φ, ρ, M, env, sto, then_read env h fun φ1 H1 z M1 w s1 e1 env1 r1 h1 => ?_⟩
      split at h1
      · rename_i q hq
        exact ⟨φ1, M1, y, z, q, s1, rv.ext e1, r1, hq, fun φ' H' u s' e' r' => h1 φ' H' _ s' e' ((env1.ext e').set r')⟩
      · exact h1.elim
    · exact h.elim
end

/-! ### loops -/
def forL (t : Tg) (fb : SF) : List D → Rho → Store → SR
  | [], ρ, M => .nx ρ M
  | x :: xs, ρ, M => match asgT t (.d x) ρ with
    | none => .bad
    | some ρ1 => match fb ρ1 M with
      | .nx ρ2 M2 => forL t fb xs ρ2 M2
      | .ct ρ2 M2 => forL t fb xs ρ2 M2
      | .bk ρ2 M2 => .nx ρ2 M2
      | r => r
def fFor (t : Tg) (fi : RF (List D)) (fb : SF) : SF := fun ρ M => (fi ρ M).then ρ fun items M1 => forL t fb items ρ M1
def whlL (tc : RF Bool) (fb : SF) : Nat → Rho → Store → SR
  | 0, _, _ => .bad
  | n + 1, ρ, M => (tc ρ M).then ρ fun k M1 => if k = true then match fb ρ M1 with
      | .nx ρ2 M2 => whlL tc fb n ρ2 M2
      | .ct ρ2 M2 => whlL tc fb n ρ2 M2
      | .bk ρ2 M2 => .nx ρ2 M2
      | r => r
    else .nx ρ M1
section
variable {X : Cx} {xa : XA} {tg it c : Expr} {body : List Stmt} {t : Tg} {fi : RF (List D)} {fb : SF} {tc : RF Bool} {pos : Pos}
theorem ss_for (hp : PassesOwn (model X.prog X.w) X.A X.env X.xe) (hc : X.calm = true) (hi : SI X xa tg it fi) (ht : SG X xa tg t) (hb : SSs X xa body fb) (hs : ∀ x, foldedSetIterable it X.env x = pure x) : SS X xa (.For tg it body [] pos) (fFor t fi fb) := fun W tk => by
  obtain ⟨gt, pg, hg⟩ := ht
  refine PS.weak (ps_for hp hc (hi W tk) pg (hb W tk) hs) fun D σ H h => ?_
  obtain ⟨φ, ρ, M, env, sto, h⟩ := h
  refine ⟨φ, ρ, M, env, sto, then_read env h fun φ1 H1 items M1 J s1 e1 env1 r1 h1 => ?_⟩
  obtain ⟨hl, hJ⟩ := r1
  refine ⟨fun i m σ' H' => m = items.length - i ∧ i ≤ items.length ∧ ∃ φ ρ M, EnvR X.K xa φ H' ρ σ' ∧ Sto X.K φ M H' ∧ Ext φ1 H1 φ H' ∧ SPo X.K xa W φ H' D (forL t fb (items.drop i) ρ M), ⟨_, rfl, Nat.zero_le _, φ1, ρ, M1, env1, s1, .refl, by simpa using h1⟩, ?_⟩
  rintro i m σ' H' ⟨rfl, hi, φ2, ρ2, M2, env2, s2, x2, h2⟩
  obtain ⟨j1, j2, j3⟩ := hJ φ2 H' M2 x2 s2 i
  by_cases hlt : i < items.length
  · refine .inr ⟨j1 hlt, fun σ' H' => ∃ φ ρ M, EnvR X.K xa φ H' ρ σ' ∧ Sto X.K φ M H' ∧ Ext φ1 H1 φ H' ∧ SPo X.K xa W φ H' D (forL t fb (items.drop (i + 1)) ρ M), fun σ3 H3 n => ⟨items.length - (i + 1), by omega, rfl, hlt, n⟩, fun v H3 hy => ?_⟩
    obtain ⟨x3, s3, r3⟩ := j3 items[i] v H3 (List.getElem?_eq_getElem hlt) hy
    rw [List.drop_eq_getElem_cons hlt] at h2
    have h3 := SPo.shift h2 x3
    simp only [forL] at h3
    cases ea : asgT t (.d items[i]) ρ2 with
    | none => rw [ea] at h3; exact h3.elim
    | some ρ3 =>
      rw [ea] at h3
      refine hg v σ' H3 _ φ2 ρ2 (.d items[i]) ρ3 (env2.ext x3) r3 ea fun σ4 env4 _ => ⟨φ2, ρ3, M2, env4, s3, ?_⟩
      simp only at h3
      cases hf : fb ρ3 M2 with
      | nx ρ5 M5 =>
        rw [hf] at h3
        exact fun φ' H' σ' s e env' => ⟨φ', ρ5, M5, env', s, (x2.trans x3).trans e, SPo.shift (r := forL t fb (items.drop (i + 1)) ρ5 M5) h3 e⟩
      | ct ρ5 M5 =>
        rw [hf] at h3
        exact fun φ' H' σ' s e env' => ⟨φ', ρ5, M5, env', s, (x2.trans x3).trans e, SPo.shift (r := forL t fb (items.drop (i + 1)) ρ5 M5) h3 e⟩
      | bk ρ5 M5 => rw [hf] at h3; exact h3
      | rt y M5 => rw [hf] at h3; exact h3
      | exc c ρ5 M5 => rw [hf] at h3; exact h3
      | bad => rw [hf] at h3; exact h3
  · have e : i = items.length := by omega
    subst e
    rw [List.drop_length] at h2
    exact .inl ⟨j2 (Nat.le_refl _), h2 φ2 H' σ' s2 .refl env2⟩
theorem ss_while (F : Nat) (hp : PassesOwn (model X.prog X.w) X.A X.env X.xe) (hc : ST X xa c tc) (hb : SSs X xa body fb) : SS X xa (.While c body [] pos) (whlL tc fb F) := fun W tk =>
  PS.weak (ps_while hp (hc W tk) (hb W tk)) fun D σ H h => by
    obtain ⟨φ, ρ, M, env, sto, h⟩ := h
    refine ⟨fun m σ' H' => ∃ φ ρ M, EnvR X.K xa φ H' ρ σ' ∧ Sto X.K φ M H' ∧ SPo X.K xa W φ H' D (whlL tc fb m ρ M), ⟨F, φ, ρ, M, env, sto, h⟩, ?_⟩
    rintro m σ' H' ⟨φ2, ρ2, M2, env2, s2, h2⟩
    cases m with
    | zero => exact h2.elim
    | succ m =>
      refine ⟨φ2, ρ2, M2, env2, s2, then_read env2 h2 fun φ3 H3 k M3 v s3 e3 env3 r3 h3 => ?_⟩
      have r3 : k = v := r3
      subst r3
      cases k with
      | false => rw [if_neg Bool.false_ne_true] at h3 ⊢; exact h3 φ3 H3 σ' s3 .refl env3
      | true =>
        rw [if_pos rfl] at h3 ⊢
        refine ⟨fun σ' H' => ∃ φ ρ M, EnvR X.K xa φ H' ρ σ' ∧ Sto X.K φ M H' ∧ SPo X.K xa W φ H' D (whlL tc fb m ρ M), fun σ4 H4 n => ⟨m, Nat.lt_succ_self m, n⟩, φ3, ρ2, M3, env3, s3, ?_⟩
        cases hf : fb ρ2 M3 with
        | nx ρ5 M5 =>
          rw [hf] at h3
          exact fun φ' H' σ' s e env' => ⟨φ', ρ5, M5, env', s, SPo.shift (r := whlL tc fb m ρ5 M5) h3 e⟩
        | ct ρ5 M5 =>
          rw [hf] at h3
          exact fun φ' H' σ' s e env' => ⟨φ', ρ5, M5, env', s, SPo.shift (r := whlL tc fb m ρ5 M5) h3 e⟩
        | bk ρ5 M5 => rw [hf] at h3; exact h3
        | rt y M5 => rw [hf] at h3; exact h3
        | exc c ρ5 M5 => rw [hf] at h3; exact h3
        | bad => rw [hf] at h3; exact h3
end

/-! ### comprehensions -/
def compF (n : Nat) (own : List Nat) (t : Tg) (tt : RF Bool) (te : RF Vl) : Nat → List D → Rho → Store → Res Unit
  | _, [], _, M => .ok () M
  | i, x :: xs, ρ, M => match asgT t (.d x) (wip ρ own) with
    | none => .bad
    | some ρ1 => (tt ρ1 M).bind fun k M1 => if k = true then (te ρ1 M1).bind fun y M2 => match y, M2[n]? with
        | .d y, some (.lst acc) => if acc.length ≤ i then compF n own t tt te (i + 1) xs ρ (M2.set n (.lst (acc ++ [y]))) else .bad
        | _, _ => .bad
      else compF n own t tt te (i + 1) xs ρ M1
def fLc (cell : Bool) (own : List Nat) (t : Tg) (fi : RF (List D)) (tt : RF Bool) (te : RF Vl) : RF Vl := fun ρ M => (fi ρ M).bind fun items M1 =>
  match compF M1.length own t tt te 0 items ρ (M1 ++ [.lst []]) with
  | .ok _ M' => fin cell M1.length (.loc M1.length) M'
  | _ => .bad
def fYes : RF Bool := fun _ M => .ok true M
/-- a clause's tests -/
def SPTs (X : Cx) (xa : XA) (ifs : List Expr) (f : RF Bool) : Prop := ∀ W, Tk X W → PTs X ifs (tTx X.K xa W f)
theorem PTs.weak {X : Cx} {e : List Expr} {t t' : TT} (h : PTs X e t) (k : ∀ σ H Q, t' σ H Q → t σ H Q) : PTs X e t' := ⟨fun pins s σ H Q I q => h.run pins s σ H Q I (k σ H Q q)⟩
section
variable {X : Cx} {xa : XA}
theorem spts_nil : SPTs X xa [] fYes := fun W tk => PTs.weak pts_nil fun σ H Q h => by
  obtain ⟨φ, ρ, M, env, sto, h⟩ := h
  exact h φ H true sto .refl rfl
theorem spts_one {c : Expr} {tc : RF Bool} (h : ST X xa c tc) : SPTs X xa [c] tc := fun W tk => pts_one (h W tk)
abbrev WF : WQ := fun _ _ _ => False
theorem tkF {X : Cx} : Tk X WF := takes0.imp fun c d σ H h => by
  obtain ⟨_, _, _, _, _, q⟩ := h
  exact q
variable {elt tg iter : Expr} {ifs : List Expr} {scope : Scope} {own : List (Str × Nat)} {pos : Pos} {t : Tg} {fi : RF (List D)} {tt : RF Bool} {te : RF Vl}
theorem lc_read {W : WQ} {σ : L2.St} {H : Hp} {Q : VK} {gt : TG} {cell : Bool} (hsl : ∀ i ∈ t.slots, i ∈ own.map (·.2))
    (hg : ∀ v σ H Q φ ρ x ρ', EnvR X.K xa φ H ρ σ → VR X.K φ H xa x v → asgT t x ρ = some ρ' → (∀ σ', EnvR X.K xa φ H ρ' σ' → (∀ vs, (∀ i ∈ t.slots, i ∈ vs) → wipe σ' vs = wipe σ vs) → Q σ' H) → gt v σ H Q)
    (h : tEx X.K xa W (fLc cell (own.map (·.2)) t fi tt te) σ H Q) : tLc (tIx X.K xa W fi) gt (tTx X.K xa WF tt) (tEx X.K xa WF te) (own.map (·.2)) σ H Q := by
  obtain ⟨φ, ρ, M, env, sto, h⟩ := h
  refine ⟨φ, ρ, M, env, sto, RP.bind h fun φ1 H1 items M1 J s1 e1 r1 h1 => ?_⟩
  obtain ⟨hl, hJ⟩ := r1
  intro Da hD
  -- what is left to be done is well
  let Good : Res Unit → Prop := fun r => match r with
    | .ok _ M' => RP X.K W σ φ1 H1 (relV X.K xa) Q (fin cell M1.length (.loc M1.length) M')
    | _ => False
  have h2 : Good (compF M1.length (own.map (·.2)) t tt te 0 items ρ (M1 ++ [.lst []])) := by
    show (match compF M1.length (own.map (·.2)) t tt te 0 items ρ (M1 ++ [.lst []]) with
      | .ok _ M' => _
      | _ => False)
    split at h1
    · rename_i u M' e
      exact h1
    · exact h1.elim
  have n1 : M1.length = φ1.l.length := s1.ln.symm
  refine ⟨fun i m H' => m = items.length - i ∧ i ≤ items.length ∧ ∃ φ M, EnvR X.K xa φ H' ρ σ ∧ Sto X.K φ M H' ∧ Ext φ1 H1 φ H' ∧ φ.l[M1.length]? = some Da ∧ Good (compF M1.length (own.map (·.2)) t tt te i (items.drop i) ρ M),
    ⟨_, rfl, Nat.zero_le _, φ1.push Da, M1 ++ [.lst []], (env.ext e1).ext (Ext.alloc s1 hD), s1.alloc hD DRs.nil (Nat.zero_le _), Ext.alloc s1 hD, by rw [n1, List.getElem?_append_right (Nat.le_refl _)]; simp, by simpa using h2⟩, ?_⟩
  rintro i m H' ⟨rfl, hi, φ2, M2, env2, s2, x2, hDa, g2⟩
  obtain ⟨j1, j2, j3⟩ := hJ φ2 H' M2 x2 s2 i
  by_cases hlt : i < items.length
  · refine .inr ⟨j1 hlt, fun H' => ∃ φ M, EnvR X.K xa φ H' ρ σ ∧ Sto X.K φ M H' ∧ Ext φ1 H1 φ H' ∧ φ.l[M1.length]? = some Da ∧ Good (compF M1.length (own.map (·.2)) t tt te (i + 1) (items.drop (i + 1)) ρ M), fun H3 n => ⟨items.length - (i + 1), by omega, rfl, hlt, n⟩, fun v H3 hy => ?_⟩
    obtain ⟨x3, s3, r3⟩ := j3 items[i] v H3 (List.getElem?_eq_getElem hlt) hy
    rw [List.drop_eq_getElem_cons hlt] at g2
    simp only [compF] at g2
    cases ea : asgT t (.d items[i]) (wip ρ (own.map (·.2))) with
    | none => rw [ea] at g2; exact g2.elim
    | some ρ3 =>
      rw [ea] at g2
      simp only at g2
      have env3 := env2.ext x3
      refine hg v (wipe σ (own.map (·.2))) H3 _ φ2 (wip ρ (own.map (·.2))) (.d items[i]) ρ3 (env3.wip _) r3 ea ?_
      intro σ4 env4 w4
      refine ⟨?_, φ2, ρ3, M2, env4, s3, ?_⟩
      · have := w4 (own.map (·.2)) hsl
        rw [this]
        exact wipe_wipe σ _
      · cases ht : tt ρ3 M2 with
        | bad => rw [ht] at g2; exact g2.elim
        | exc c M' => rw [ht] at g2; exact g2.elim
        | ok k M4 =>
          rw [ht] at g2
          simp only [Res.bind_ok] at g2
          intro φ5 H5 b s5 x5 rb
          have rb : k = b := rb
          subst rb
          cases k with
          | false =>
            rw [if_neg Bool.false_ne_true] at g2 ⊢
            exact ⟨φ5, M4, (env2.ext x3).ext x5, s5, (x2.trans x3).trans x5, x5.at hDa, g2⟩
          | true =>
            rw [if_pos rfl] at g2 ⊢
            refine ⟨φ5, ρ3, M4, env4.ext x5, s5, ?_⟩
            cases he : te ρ3 M4 with
            | bad => rw [he] at g2; exact g2.elim
            | exc c M' => rw [he] at g2; exact g2.elim
            | ok y M6 =>
              rw [he] at g2
              simp only [Res.bind_ok] at g2
              intro φ7 H7 w s7 x7 ry
              split at g2
              · rename_i y acc eacc
                split at g2
                · rename_i hacc
                  have hD7 := x7.at (x5.at hDa)
                  obtain ⟨ws, k1, k2⟩ := s7.at eacc hD7
                  have hz : (acc ++ [y]).length ≤ sizeLine := by rw [List.length_append, List.length_singleton]; omega
                  refine ⟨ws, k1, by rw [k2.length]; omega, φ7, _, ((((env2.ext x3).ext x5).ext x7).ext (Ext.write s7 (s7.uns eacc hD7))), s7.write eacc hD7 (k2.append (DRs.one ry)) hz, (((x2.trans x3).trans x5).trans x7).trans (Ext.write s7 (s7.uns eacc hD7)), hD7, g2⟩
                · exact g2.elim
              · exact g2.elim
  · have e : i = items.length := by omega
    subst e
    rw [List.drop_length] at g2
    simp only [compF] at g2
    refine .inl ⟨j2 (Nat.le_refl _), ?_⟩
    exact fin_ok (xa := xa) (r := .loc M1.length) s1 s2 x2 ⟨Da, rfl, hDa⟩ g2
where
  wipe_wipe (σ : L2.St) : ∀ vs : List Nat, wipe (wipe σ vs) vs = wipe σ vs := by
    intro vs
    have gen : ∀ (us vs : List Nat), (∀ u ∈ us, u ∈ vs) → wipe (wipe σ us) vs = wipe σ vs := by
      intro us
      induction us with
      | nil => intro vs _; rfl
      | cons u us ih =>
        intro vs h
        simp only [wipe]
        rw [wipe_set (h u List.mem_cons_self)]
        exact ih vs fun w hw => h w (List.mem_cons_of_mem _ hw)
    exact gen vs vs fun _ h => h
variable (cell : Bool)
theorem se_lc (hc : X.calm = true) (hN : X.N.Nodup) (hi : SI X xa tg iter fi) (ok : BlkOk X.N X.env.scope scope own) (hsl : ∀ i ∈ t.slots, i ∈ own.map (·.2))
    (hg : ∃ gt, (∀ (s : Shared) (H : Hp) (C : Addr) (cl : List (Str × Addr)) (fp : List Addr), PG (X.blk s H scope (compEnvC scope cl C X.env) fp) tg gt) ∧ ∀ v σ H Q φ ρ x ρ', EnvR X.K xa φ H ρ σ → VR X.K φ H xa x v → asgT t x ρ = some ρ' → (∀ σ', EnvR X.K xa φ H ρ' σ' → (∀ vs, (∀ i ∈ t.slots, i ∈ vs) → wipe σ' vs = wipe σ vs) → Q σ' H) → gt v σ H Q)
    (ht : ∀ (s : Shared) (H : Hp) (C : Addr) (cl : List (Str × Addr)) (fp : List Addr), SPTs (X.blk s H scope (compEnvC scope cl C X.env) fp) xa ifs tt)
    (he : ∀ (s : Shared) (H : Hp) (C : Addr) (cl : List (Str × Addr)) (fp : List Addr), SE (X.blk s H scope (compEnvC scope cl C X.env) fp) xa elt te) (hs : ∀ x, foldedSetIterable iter X.env x = pure x) :
    SE X xa (.ListComp elt [⟨tg, iter, ifs, 0⟩] scope pos) (fLc cell (own.map (·.2)) t fi tt te) := fun W tk => by
  obtain ⟨gt, pg, hg⟩ := hg
  exact PE.weak (pe_lc (tt := tTx X.K xa WF tt) (te := tEx X.K xa WF te) hc hN (hi W tk) ok pg (fun s H C cl fp => ht s H C cl fp WF tkF) (fun s H C cl fp => he s H C cl fp WF tkF) hs) fun σ H Q h => lc_read hsl hg h
theorem ss_setLc {i : Nat} {y : Str} {py spos : Pos} (hc : X.calm = true) (hN : X.N.Nodup) (hy : X.N[i]? = some y) (hyl : X.env.scope.names.lookup y = some .local) (hsw : swapsWith (.ListComp elt [⟨tg, iter, ifs, 0⟩] scope pos) (some (.Name y py)) spos.line X.env = pure true)
    (hi : SI X xa tg iter fi) (ok : BlkOk X.N X.env.scope scope own) (hsl : ∀ i ∈ t.slots, i ∈ own.map (·.2))
    (hg : ∃ gt, (∀ (s : Shared) (H : Hp) (C : Addr) (cl : List (Str × Addr)) (fp : List Addr), PG (X.blk s H scope (compEnvC scope cl C X.env) fp) tg gt) ∧ ∀ v σ H Q φ ρ x ρ', EnvR X.K xa φ H ρ σ → VR X.K φ H xa x v → asgT t x ρ = some ρ' → (∀ σ', EnvR X.K xa φ H ρ' σ' → (∀ vs, (∀ i ∈ t.slots, i ∈ vs) → wipe σ' vs = wipe σ vs) → Q σ' H) → gt v σ H Q)
    (ht : ∀ (s : Shared) (H : Hp) (C : Addr) (cl : List (Str × Addr)) (fp : List Addr), SPTs (X.blk s H scope (compEnvC scope cl C X.env) fp) xa ifs tt)
    (he : ∀ (s : Shared) (H : Hp) (C : Addr) (cl : List (Str × Addr)) (fp : List Addr), SE (X.blk s H scope (compEnvC scope cl C X.env) fp) xa elt te) (hs : ∀ x, foldedSetIterable iter X.env x = pure x) :
    SS X xa (.Assign [.Name y py] (.ListComp elt [⟨tg, iter, ifs, 0⟩] scope pos) spos) (fAsg (.nm i) (fLc cell (own.map (·.2)) t fi tt te)) := fun W tk => by
  obtain ⟨gt, pg, hg⟩ := hg
  refine PS.weak (ps_setLc (tt := tTx X.K xa WF tt) (te := tEx X.K xa WF te) hc hN hy hyl hsw (hi W tk) ok pg (fun s H C cl fp => ht s H C cl fp WF tkF) (fun s H C cl fp => he s H C cl fp WF tkF) hs) fun D σ H h => ?_
  have h2 := asg_read (gt := gName i) (t := .nm i) (fun v σ H Q φ ρ x ρ' env r h q => by
    simp only [asgT] at h
    cases h
    exact q _ (env.set r) fun vs hv => wipe_set (hv i (by simp [Tg.slots]))) h
  exact lc_read hsl hg h2
end
end TL

namespace TL
open PySem PySem.Spec
open PyProof.Rows L2

/-! ### raise, try -/
section
variable {X : Cx} {xa : XA} {x : Str} {C : Addr} {p pos pos' : Pos}
theorem pmk_own0 {bmB : List Value} {B newId initId : String} (F : ExcBaseFacts B newId initId bmB) (q : PySem.W.excIn X.K C bmB newId = true) (gC : X.mg x = some (.ref C)) (kC : PySem.W.keepIn X.K (.ref C) = true) (r : Raises X (.ref C)) (hg : Gl X x)
    (hdb : (x == ("__debug__" : Str)) = false) : PMk X (.Call (.Name x p) [] [] pos) (fun _ H Q => Q (.ref C) none H) := by
  intro pins s σ H Q I h
  refine wpAny_Call_Name_kw (ld_glob I hg gC ?_ hdb)
  refine PySem.W.callWith_K0 I.kIn kC ?_
  show wpAny _ _ (call (.ref C) []) _ _ _
  obtain ⟨bm, N, nm, qn, bs, hdct, sn, sub, ab, col, dd, k0, k1, k2, k3, k5, mN, hC, hN, hni, T⟩ := exc_obj I.kIn q
  exact wpAny_call_exc_subT F T hC hN hni (fun h' e hm => mk_of I hm r h (I.hok.gone hm.new)) (by show 0 ≤ sizeLine; rw [sizeLine_eq]; omega)
/-- what is asked of an own class of errors -/
structure ExOk (K : PySem.W.Frag) (C : Addr) : Prop where
  ex : PySem.W.excIn K C He.veBase "ValueError.__new__" = true
  kp : PySem.W.keepIn K (.ref C) = true
  sb : PySem.W.subIn K (.ref C) (.type "BaseException") = some true
  ty : PySem.W.typeIn K (.ref C) = some (.type "type")
def fRaise (x : Str) : SF := fun ρ M => .exc x ρ M
theorem ss_raise (hc : X.calm = true) (E : ExOk X.K C) (gC : X.mg x = some (.ref C)) (hg : Gl X x) (hdb : (x == ("__debug__" : Str)) = false) : SS X xa (.Raise (some (.Call (.Name x p) [] [] pos)) none pos') (fRaise x) := fun W tk =>
  PS.weak (ps_raise hc tk (pmk_own0 PySem.F.excBase_ValueError E.ex gC E.kp (raises_own E.sb E.ty) hg hdb)) fun D σ H h => by
    obtain ⟨φ, ρ, M, env, sto, h⟩ := h
    exact ⟨rfl, x, C, gC, rfl, h φ H σ sto .refl env⟩
/-- a clause 'except x', by names: which classes of errors it takes -/
def fTry (tk : Str → Option Bool) (fb fh : SF) : SF := fun ρ M => match fb ρ M with
  | .exc c ρ' M' => match tk c with
    | some true => match fh ρ' M' with
      | .exc _ _ _ => .bad
      | r => r
    | some false => .exc c ρ' M'
    | none => .bad
  | r => r
/-- 'except x as n', n's slot i; the suite returns -/
def fTryAs (tk : Str → Option Bool) (i : Nat) (fb fh : SF) : SF := fun ρ M => match fb ρ M with
  | .exc c ρ' M' => match tk c with
    | some true => match fh (ρ'.set i (some (.ex c))) M' with
      | .rt (.d y) M2 => .rt (.d y) M2
      | _ => .bad
    | some false => .exc c ρ' M'
    | none => .bad
  | r => r
def unwx (mg : Str → Option Value) (W : WX) : WQ := fun c σ H => ∀ C, mg c = some (.ref C) → W (.ref C) none σ H
theorem tk_unwx {X : Cx} {W : WX} (t : Takes X W) : Tk X (unwx X.mg W) := t.imp fun cls d σ H h => by
  obtain ⟨rfl, c, C, hm, rfl, q⟩ := h
  exact q C hm
variable {body suite : List Stmt} {b₀ : Stmt} {np tpos hpos : Pos} {fb fh : SF} {tkf : Str → Option Bool} {cv : Value}
theorem ss_try (hs : X.stack = X.env :: X.outer) (hf : X.env.frame = some X.env.locals) (hc : Names X x cv) (hm : ∀ c b, tkf c = some b → ∀ C, X.mg c = some (.ref C) → PySem.W.exmOne X.K (.ref C) cv = some b)
    (hb : ∀ (pn : List (Addr × Obj)) (xe : Value → Shared → Prop), PassesOwn (model X.prog X.w) X.A X.env xe → SSs (X.tr pn xe) xa body fb) (hh : ∀ (a : Addr) (oe : Obj) (pn : List (Addr × Obj)), SSs (X.suite a ((a, oe) :: pn)) xa (b₀ :: suite) fh) :
    SS X xa (.Try body [.ExceptHandler (some (.Name x np)) none (b₀ :: suite) hpos] [] [] tpos) (fTry tkf fb fh) := fun W tk =>
  PS.weak (ps_try_only (tb := fun W' => tSx X.K xa (unwx X.mg W') fb) (ts := fun a cls d => tSx X.K xa WF fh) hs hf hc tk (fun W' pn xe t ho => hb pn xe ho _ (tk_unwx (X := X.tr pn xe) t)) fun a oe cls d pn _ _ => hh a oe pn WF tkF) fun D σ H h => by
    obtain ⟨φ, ρ, M, env, sto, h⟩ := h
    refine ⟨φ, ρ, M, env, sto, ?_⟩
    unfold fTry at h
    cases hf : fb ρ M with
    | nx ρ1 M1 => rw [hf] at h; exact h
    | rt x M1 => rw [hf] at h; exact h
    | bk ρ1 M1 => rw [hf] at h; exact h
    | ct ρ1 M1 => rw [hf] at h; exact h
    | bad => rw [hf] at h; exact h
    | exc c ρ1 M1 =>
      rw [hf] at h
      intro φ' H' σ' s e env' C hC
      simp only at h
      cases ht : tkf c with
      | none => rw [ht] at h; exact h.elim
      | some b =>
        rw [ht] at h
        refine ⟨b, hm c b ht C hC, fun eb a _ => ?_, fun eb => ?_⟩
        · subst eb
          refine ⟨φ', ρ1, M1, env', s, ?_⟩
          have h2 := SPo.shift h e
          simp only at h2
          cases hq : fh ρ1 M1 with
          | exc c2 ρ2 M2 => rw [hq] at h2; exact h2.elim
          | nx ρ2 M2 => rw [hq] at h2; exact h2
          | rt x M2 => rw [hq] at h2; exact h2
          | bk ρ2 M2 => rw [hq] at h2; exact h2
          | ct ρ2 M2 => rw [hq] at h2; exact h2
          | bad => rw [hq] at h2; exact h2
        · subst eb
          exact ⟨rfl, c, C, hC, rfl, h φ' H' σ' s e env'⟩
/-- the address of the error that a suite holds -/
abbrev xaE (mg : Str → Option Value) (a : Addr) (cls : Value) : XA := fun a' c => a' = a ∧ ∃ C, mg c = some (.ref C) ∧ cls = .ref C
theorem ss_tryAs {i : Nat} {n : Str} (hs : X.stack = X.env :: X.outer) (hf : X.env.frame = some X.env.locals) (hN : X.N.Nodup) (hi : X.N[i]? = some n) (hln : X.env.kindOf n = some .local) (hc : Names X x cv) (hxa : ∀ a c, ¬ xa a c)
    (hm : ∀ c b, tkf c = some b → ∀ C, X.mg c = some (.ref C) → PySem.W.exmOne X.K (.ref C) cv = some b)
    (hb : ∀ (pn : List (Addr × Obj)) (xe : Value → Shared → Prop), PassesOwn (model X.prog X.w) X.A X.env xe → SSs (X.tr pn xe) xa body fb)
    (hh : ∀ (a : Addr) (oe : Obj) (cls : Value) (pn : List (Addr × Obj)), Zc cls none oe → (∃ vs, oe.data = .fields vs) → SSs (X.suite a ((a, oe) :: pn)) (xaE X.mg a cls) (b₀ :: suite) fh) :
    SS X xa (.Try body [.ExceptHandler (some (.Name x np)) (some n) (b₀ :: suite) hpos] [] [] tpos) (fTryAs tkf i fb fh) := fun W tk =>
  PS.weak (ps_try_as (i := i) (tb := fun W' => tSx X.K xa (unwx X.mg W') fb) (ts := fun a cls d => fun D σ H => d = none ∧ tSx X.K (xaE X.mg a cls) WF fh D σ H) hs hf hN hi hln hc tk (fun W' pn xe t ho => hb pn xe ho _ (tk_unwx (X := X.tr pn xe) t))
    fun a oe cls d pn hz hv => ⟨fun pins s σ H D I q => by
      obtain ⟨hd, q⟩ := q
      subst hd
      exact (hh a oe cls pn hz hv WF tkF).run pins s σ H D I q⟩) fun D σ H h => by
    obtain ⟨φ, ρ, M, env, sto, h⟩ := h
    refine ⟨φ, ρ, M, env, sto, ?_⟩
    unfold fTryAs at h
    cases hf : fb ρ M with
    | nx ρ1 M1 => rw [hf] at h; exact h
    | rt x M1 => rw [hf] at h; exact h
    | bk ρ1 M1 => rw [hf] at h; exact h
    | ct ρ1 M1 => rw [hf] at h; exact h
    | bad => rw [hf] at h; exact h
    | exc c ρ1 M1 =>
      rw [hf] at h
      intro φ' H' σ' s e env' C hC
      simp only at h
      cases ht : tkf c with
      | none => rw [ht] at h; exact h.elim
      | some b =>
        rw [ht] at h
        refine ⟨b, hm c b ht C hC, fun eb a _ => ⟨rfl, ?_⟩, fun eb => ?_⟩
        · subst eb
          have h2 := SPo.shift h e
          simp only at h2
          have envA : EnvR X.K (xaE X.mg a (.ref C)) φ' H' ρ1 σ' := ⟨env'.1, fun j y ej => by
            obtain ⟨v, e1, e2⟩ := env'.2 j y ej
            refine ⟨v, e1, ?_⟩
            cases y with
            | ex c' => obtain ⟨a', _, q⟩ := e2; exact (hxa _ _ q).elim
            | _ => exact e2⟩
          refine ⟨φ', _, M1, envA.set (x := .ex c) (i := i) (v := .ref a) ⟨a, rfl, rfl, C, hC, rfl⟩, s, ?_⟩
          cases hq : fh (ρ1.set i (some (.ex c))) M1 with
          | rt x M2 =>
            rw [hq] at h2
            cases x with
            | d y => exact h2
            | _ => exact h2.elim
          | exc c2 ρ2 M2 => rw [hq] at h2; exact h2.elim
          | nx ρ2 M2 => rw [hq] at h2; exact h2.elim
          | bk ρ2 M2 => rw [hq] at h2; exact h2.elim
          | ct ρ2 M2 => rw [hq] at h2; exact h2.elim
          | bad => rw [hq] at h2; exact h2.elim
        · subst eb
          exact ⟨rfl, c, C, hC, rfl, h φ' H' σ' s e env'⟩
end

/-! ### a def -/
def startR (n : Nat) (as : List Vl) : Rho := as.map some ++ List.replicate (n - as.length) none
def bodyF (n : Nat) (fb : SF) (as : List Vl) (M : Store) : Res Vl :=
  match fb (startR n as) M with
  | .nx _ M' => .ok (.d .none) M'
  | .rt x M' => .ok x M'
  | .exc c _ M' => .exc c M'
  | _ => .bad
theorem VRs.length {K : PySem.W.Frag} {xa : XA} {φ : Fm} {H : Hp} : ∀ {xs : List Vl} {vs : List V}, VRs K φ H xa xs vs → vs.length = xs.length
  | [], _, h => by cases h; rfl
  | x :: xs, _, h => by
    obtain ⟨v, r, rfl, _, h2⟩ := h
    simp [VRs.length h2]
theorem VRs.get {K : PySem.W.Frag} {xa : XA} {φ : Fm} {H : Hp} : ∀ {xs : List Vl} {vs : List V}, VRs K φ H xa xs vs → ∀ {i : Nat} {x : Vl}, xs[i]? = some x → ∃ v, vs[i]? = some v ∧ VR K φ H xa x v
  | [], _, h, i, x, e => by simp at e
  | y :: xs, _, h, i, x, e => by
    obtain ⟨v, r, rfl, h1, h2⟩ := h
    cases i with
    | zero => simp at e; subst e; exact ⟨v, rfl, h1⟩
    | succ i => exact VRs.get h2 (i := i) (by simpa using e)
theorem start_ok {K : PySem.W.Frag} {φ : Fm} {H : Hp} {N : List Str} {as : List Vl} {vs : List V} (r : VRs K φ H noxa as vs) : EnvR K noxa φ H (startR N.length as) (L2.start N vs) := by
  refine ⟨by simp [startR, L2.start, r.length], fun i x e => ?_⟩
  unfold startR at e
  by_cases hi : i < as.length
  · rw [List.getElem?_append_left (by simpa using hi), List.getElem?_map] at e
    cases q : as[i]? with
    | none => rw [q] at e; cases e
    | some y =>
      rw [q] at e; cases e
      obtain ⟨v, h1, h2⟩ := r.get q
      refine ⟨v, ?_, h2⟩
      unfold L2.start
      rw [List.getElem?_append_left (by rw [List.length_map, r.length]; exact hi), List.getElem?_map, h1]
      rfl
  · rw [List.getElem?_append_right (by simpa using hi), List.getElem?_replicate] at e
    split at e <;> cases e
/-- the facts of a context at a def's body -/
structure DefCx (P : Program) (w : World) (K : PySem.W.Frag) (mg : Str → Option Value) (base : Heap) (N : List Str) (scope : Scope) (k : Nat) (X : Cx) : Prop where
  prog : X.prog = P
  w : X.w = w
  K : X.K = K
  mg : X.mg = mg
  base : X.base = base
  N : X.N = N
  sc : X.env.scope = scope
  fn : ∀ x, X.fn x = true
  calm : X.calm = true
  room : Room k X.A
  stack : X.stack = X.env :: X.outer
  frame : X.env.frame = some X.env.locals
  po : PassesOwn (model X.prog X.w) X.A X.env X.xe
theorem fn_body {P : Program} {w : World} {K : PySem.W.Frag} {mg : Str → Option Value} {base : Heap} {x qual : Str} {params : Arguments} {body : List Stmt} {scope : Scope} {f : Addr} {fd : FuncData} {N ps : List Str} {k : Nat} {fb : SF}
    (F : FunD K x qual params body scope [] [] f fd) (S : FnScope N ps scope) (hb : ∀ X, DefCx P w K mg base N scope k X → SSs X noxa body fb) : FnOk P w K mg base (L2.CX P w) (k + 1) f fd ps (spOf K mg ps.length (bodyF N.length fb)) := by
  refine F.ok S (fun vs H Q E h => ?_) (fun cdv A outer s H vs Q E hr h => ?_)
  · obtain ⟨φ, M, as, hl, _, r, _⟩ := h
    rw [r.length, hl]
  · obtain ⟨φ, M, as, hl, sto, r, h⟩ := h
    have D : DefCx P w K mg base N scope k (cxOf (L2.CX P w) P w K mg base N qual scope f cdv A outer s H E) := ⟨rfl, rfl, rfl, rfl, rfl, rfl, rfl, fun _ => rfl, rfl, hr, rfl, rfl, passes_of rfl⟩
    let W : WQ := fun c _ H => ∀ C, mg c = some (.ref C) → E (.ref C) none H
    have tk : Tk (cxOf (L2.CX P w) P w K mg base N qual scope f cdv A outer s H E) W := (takes_of rfl rfl rfl rfl).imp fun cls d σ H h => by
      obtain ⟨rfl, c, C, hm, rfl, q⟩ := h
      exact q C hm
    refine ⟨_, hb _ D W tk, φ, startR N.length as, M, start_ok r, sto, ?_⟩
    unfold bodyF at h
    cases hf : fb (startR N.length as) M with
    | nx ρ1 M1 => rw [hf] at h; exact fun φ' H' σ' s e env => h φ' H' .non s e vrN
    | rt x M1 => rw [hf] at h; exact fun φ' H' v s e r' => h φ' H' v s e r'
    | exc c ρ1 M1 => rw [hf] at h; exact fun φ' H' σ' s e env C hC => h φ' H' C s e hC
    | bk ρ1 M1 => rw [hf] at h; exact h.elim
    | ct ρ1 M1 => rw [hf] at h; exact h.elim
    | bad => rw [hf] at h; exact h.elim
end TL

namespace TL
open PySem PySem.Spec
open PyProof.Rows L2

/-! ### objects: their attributes -/
def Fv.toVl : Fv → Vl
  | .d x => .d x
  | f => .fz f
def Vl.toFv : Vl → Option Fv
  | .d x => some (.d x)
  | .fz f => some f
  | _ => none
def putG (f : Str) (v : Fv) : List (Str × Fv) → List (Str × Fv)
  | [] => [(f, v)]
  | g :: r => if g.1 = f then (f, v) :: r else g :: putG f v r
section
variable {K : PySem.W.Frag} {xa : XA} {φ φ' : Fm} {M M' : Store} {H H' : Hp}
theorem fv_vr {f : Fv} {v : V} (h : FR K φ H f v) : VR K φ H xa f.toVl v := by
  cases f with
  | d x => simp only [FR] at h; exact h
  | dct kvs => exact h
  | obj c fs => exact h
theorem vr_fv {x : Vl} {f : Fv} {v : V} (e : x.toFv = some f) (h : VR K φ H xa x v) : FR K φ H f v := by
  cases x with
  | d y => cases e; simp only [FR]; exact h
  | fz g => cases e; exact h
  | _ => cases e
theorem FRs.look : ∀ {fs : List (Str × Fv)} {ws : List (Str × V)}, FRs K φ H fs ws → ∀ {f : Str} {w : Fv}, fs.lookup f = some w → ∃ v, ws.lookup f = some v ∧ FR K φ H w v
  | [], _, _, _, _, e => by cases e
  | g :: fs, ws, h, f, w, e => by
    simp only [FRs] at h
    obtain ⟨v, r, rfl, h1, h2⟩ := h
    obtain ⟨k, y⟩ := g
    by_cases q : f = k
    · have hb : (f == k) = true := beq_iff_eq.mpr q
      simp only [List.lookup, hb, Option.some.injEq] at e ⊢
      subst e; exact ⟨v, rfl, h1⟩
    · have hb : (f == k) = false := beq_eq_false_iff_ne.mpr q
      simp only [List.lookup, hb] at e ⊢
      exact FRs.look h2 e
theorem FRs.lookN : ∀ {fs : List (Str × Fv)} {ws : List (Str × V)}, FRs K φ H fs ws → ∀ {f : Str}, fs.lookup f = none → ws.lookup f = none
  | [], _, h, _, _ => by simp only [FRs] at h; subst h; rfl
  | g :: fs, ws, h, f, e => by
    simp only [FRs] at h
    obtain ⟨v, r, rfl, h1, h2⟩ := h
    obtain ⟨k, y⟩ := g
    by_cases q : f = k
    · have hb : (f == k) = true := beq_iff_eq.mpr q
      simp only [List.lookup, hb] at e
      cases e
    · have hb : (f == k) = false := beq_eq_false_iff_ne.mpr q
      simp only [List.lookup, hb] at e ⊢
      exact FRs.lookN h2 e
theorem FRs.len : ∀ {fs : List (Str × Fv)} {ws : List (Str × V)}, FRs K φ H fs ws → ws.length = fs.length
  | [], _, h => by simp only [FRs] at h; subst h; rfl
  | g :: fs, ws, h => by
    simp only [FRs] at h
    obtain ⟨v, r, rfl, h1, h2⟩ := h
    simp [FRs.len h2]
theorem FRs.put : ∀ {fs : List (Str × Fv)} {ws : List (Str × V)}, FRs K φ H fs ws → ∀ {f : Str} {w : Fv} {v : V}, FR K φ H w v → FRs K φ H (putG f w fs) (putF f v ws)
  | [], _, h, f, w, v, q => by simp only [FRs] at h; subst h; simp only [putG, putF, FRs]; exact ⟨v, [], rfl, q, rfl⟩
  | g :: fs, ws, h, f, w, v, q => by
    simp only [FRs] at h
    obtain ⟨u, r, rfl, h1, h2⟩ := h
    simp only [putG, putF]
    by_cases e : g.1 = f
    · rw [if_pos e, if_pos e]; subst e; simp only [FRs]; exact ⟨v, r, rfl, q, h2⟩
    · rw [if_neg e, if_neg e]; simp only [FRs]; exact ⟨u, _, rfl, h1, FRs.put h2 q⟩
/-! ### dicts by key -/
def keyD : Vl → Option Key
  | .d (.int i) => some (.inl i)
  | .d (.str x) => some (.inr x)
  | _ => none
def valD (kvs : List (Key × D)) (k : Key) : Option D := (kvs.find? fun kv => decide (kv.1 = k)).map (·.2)
def putD (kvs : List (Key × D)) (k : Key) (v : D) : List (Key × D) :=
  if kvs.any (fun kv => decide (kv.1 = k)) then kvs.map fun kv => if kv.1 = k then (kv.1, v) else kv
  else kvs ++ [(k, v)]
theorem keyD_ok {x : Vl} {k : Key} {v : V} (e : keyD x = some k) (h : VR K φ H xa x v) : v = kV k := by
  unfold keyD at e
  split at e
  · cases e; exact drI h
  · cases e; exact drS h
  · cases e
theorem KR.nil : KR K φ H [] [] := ⟨rfl, DRs.nil⟩
theorem KR.cons_inv {kv : Key × D} {kvs : List (Key × D)} {ws : List (Key × V)} (h : KR K φ H (kv :: kvs) ws) : ∃ v r, ws = (kv.1, v) :: r ∧ DR K φ H kv.2 v ∧ KR K φ H kvs r := by
  obtain ⟨h1, h2⟩ := h
  cases ws with
  | nil => cases h1
  | cons w ws =>
    simp only [List.map_cons, List.cons.injEq] at h1
    simp only [List.map_cons, DRs] at h2
    obtain ⟨v, r, e, h3, h4⟩ := h2
    cases e
    exact ⟨w.2, ws, by rw [← h1.1], h3, h1.2, h4⟩
theorem KR.cons {k : Key} {x : D} {v : V} {kvs : List (Key × D)} {ws : List (Key × V)} (h : DR K φ H x v) (t : KR K φ H kvs ws) : KR K φ H ((k, x) :: kvs) ((k, v) :: ws) :=
  ⟨by simp only [List.map_cons]; rw [t.1], DRs.cons h t.2⟩
theorem KR.val : ∀ {kvs : List (Key × D)} {ws : List (Key × V)}, KR K φ H kvs ws → ∀ {k : Key} {x : D}, valD kvs k = some x → ∃ v, valV ws k = some v ∧ DR K φ H x v
  | [], _, _, _, _, e => by cases e
  | kv :: kvs, ws, h, k, x, e => by
    obtain ⟨v, r, rfl, h1, h2⟩ := h.cons_inv
    unfold valD at e
    unfold valV
    rw [List.find?_cons] at e ⊢
    by_cases q : kv.1 = k
    · simp only [decide_eq_true q, Option.map_some] at e ⊢
      cases e; exact ⟨v, rfl, h1⟩
    · simp only [decide_eq_false q] at e ⊢
      exact KR.val h2 e
theorem KR.any : ∀ {kvs : List (Key × D)} {ws : List (Key × V)}, KR K φ H kvs ws → ∀ {k : Key}, (ws.any fun kv => decide (kv.1 = k)) = kvs.any fun kv => decide (kv.1 = k)
  | [], _, h, _ => by obtain ⟨h1, _⟩ := h; cases ‹List (Key × V)› with
    | nil => rfl
    | cons w ws => cases h1
  | kv :: kvs, ws, h, k => by
    obtain ⟨v, r, rfl, h1, h2⟩ := h.cons_inv
    simp only [List.any_cons]
    rw [KR.any h2]
theorem KR.mapPut : ∀ {kvs : List (Key × D)} {ws : List (Key × V)}, KR K φ H kvs ws → ∀ {k : Key} {x : D} {v : V}, DR K φ H x v → KR K φ H (kvs.map fun kv => if kv.1 = k then (kv.1, x) else kv) (ws.map fun kv => if kv.1 = k then (kv.1, v) else kv)
  | [], ws, h, _, _, _, _ => by
    obtain ⟨h1, _⟩ := h
    cases ws with
    | nil => exact KR.nil
    | cons w ws => cases h1
  | kv :: kvs, ws, h, k, x, v, q => by
    obtain ⟨u, r, rfl, h1, h2⟩ := h.cons_inv
    simp only [List.map_cons]
    by_cases e : kv.1 = k
    · rw [if_pos e, if_pos e]; exact KR.cons q (KR.mapPut h2 q)
    · rw [if_neg e, if_neg e]; exact KR.cons (k := kv.1) h1 (KR.mapPut h2 q)
theorem KR.app : ∀ {kvs : List (Key × D)} {ws : List (Key × V)}, KR K φ H kvs ws → ∀ {k : Key} {x : D} {v : V}, DR K φ H x v → KR K φ H (kvs ++ [(k, x)]) (ws ++ [(k, v)])
  | [], ws, h, _, _, _, q => by
    obtain ⟨h1, _⟩ := h
    cases ws with
    | nil => exact KR.cons q KR.nil
    | cons w ws => cases h1
  | kv :: kvs, ws, h, k, x, v, q => by
    obtain ⟨u, r, rfl, h1, h2⟩ := h.cons_inv
    exact KR.cons (k := kv.1) h1 (KR.app h2 q)
theorem KR.put {kvs : List (Key × D)} {ws : List (Key × V)} (h : KR K φ H kvs ws) {k : Key} {x : D} {v : V} (q : DR K φ H x v) : KR K φ H (putD kvs k x) (putK ws k v) := by
  unfold putD putK
  rw [h.any]
  split
  · exact h.mapPut q
  · exact h.app q
theorem KR.len {kvs : List (Key × D)} {ws : List (Key × V)} (h : KR K φ H kvs ws) : ws.length = kvs.length := by
  have := congrArg List.length h.1
  simpa using this
end

/-! ### what of the head is asked: classes -/
/-- attributes that no class has; methods: class, name, the def's name among the program's, its number of arguments -/
structure CI where
  noat : List (Str × Str) := []
  mets : List ((Str × Str) × (Str × Nat)) := []
  news : List (Str × (Str × Nat)) := []
def fFld (q : CI) (f : Str) (fe : RF Vl) : RF Vl := fun ρ M => (fe ρ M).bind fun x M1 => match x with
  | .fz (.obj c fs) => match q.noat.contains (c, f), fs.lookup f with
    | true, some w => .ok w.toVl M1
    | _, _ => .bad
  | .loc n => match M1[n]? with
    | some (.ins c fs) => match q.noat.contains (c, f), fs.lookup f with
      | true, some w => .ok w.toVl M1
      | _, _ => .bad
    | _ => .bad
  | _ => .bad
def fSetF (q : CI) (f : Str) (fo fe : RF Vl) : SF := fun ρ M => (fe ρ M).then ρ fun y M1 => (fo ρ M1).then ρ fun x M2 => match x with
  | .loc n => match M2[n]?, y.toFv with
    | some (.ins c fs), some w => if q.noat.contains (c, f) = true ∧ fs.length < 1000 then .nx ρ (M2.set n (.ins c (putG f w fs))) else .bad
    | _, _ => .bad
  | _ => .bad
def fDix (fa fb : RF Vl) : RF Vl := fun ρ M => (fa ρ M).bind fun x M1 => (fb ρ M1).bind fun y M2 => match x, keyD y with
  | .fz (.dct kvs), some k => match valD kvs k with
    | some z => .ok (.d z) M2
    | none => .bad
  | _, _ => .bad
/-- o.m(..): the object's class is c, the def's name among the program's q -/
def fMcall (C : CallF) (c m q : Str) (keep : Bool) (fo : RF Vl) (fl : RF (List Vl)) : RF Vl := fun ρ M => (fo ρ M).bind fun x M1 => match x with
  | .fz (.obj c' fs) => if c' = c ∧ fs.lookup m = none then (fl ρ M1).bind fun as M2 => callR keep (C q) (.fz (.obj c' fs) :: as) M2 else .bad
  | _ => .bad
def newR (F : List Vl → Store → Res Vl) (c : Str) (as : List Vl) (M : Store) : Res Vl :=
  match F (.loc M.length :: as) (M ++ [.ins c []]) with
  | .ok (.d .none) M' => match M'[M.length]? with
    | some (.ins c' fs) => .ok (.fz (.obj c' fs)) (M'.take M.length)
    | _ => .bad
  | .exc k M' => .exc k (M'.take M.length)
  | _ => .bad
def fNew (C : CallF) (c q : Str) (fl : RF (List Vl)) : RF Vl := fun ρ M => (fl ρ M).bind fun as M1 => newR (C q) c as M1
/-- nothing is done: a list of this def's own will be changed no more -/
def fSeal (i : Nat) : SF := fun ρ M => match ρ[i]? with
  | some (some (.loc n)) => match M[n]? with
    | some (.lst xs) => .nx (ρ.set i (some (.d (.list xs)))) (M.set n (.sld xs))
    | _ => .bad
  | _ => .bad
section
variable {X : Cx} {xa : XA} {e o i : Expr} {es : List Expr} {fe fo fa fb : RF Vl} {fl : RF (List Vl)} {pos pos' apos p : Pos} {q : CI} {f m c x : Str}
theorem se_fld (hq : ∀ c f, q.noat.contains (c, f) = true → Cls X.K (He.ga X.K c) ∧ NoAttr X.K (He.ga X.K c) f) (he : SE X xa e fe) (hb : attributeBase e f X.env (eval e X.env) = eval e X.env) : SE X xa (.Attribute e f pos) (fFld q f fe) := fun W tk =>
  PE.weak (pe_fld (he W tk) hb) fun σ H Q h => by
    obtain ⟨φ, ρ, M, env, sto, h⟩ := h
    refine ⟨φ, ρ, M, env, sto, RP.bind h fun φ1 H1 x M1 v s1 e1 r1 h1 => ?_⟩
    cases x with
    | fz g =>
      cases g with
      | obj c fs =>
        simp only at h1
        split at h1
        · rename_i w hn hw
          have r2 : FR X.K φ1 H1 (.obj c fs) v := r1
          simp only [FR] at r2
          obtain ⟨a, dx, ws, rfl, k1, k2, k3⟩ := r2
          obtain ⟨c1, c2⟩ := hq c f hn
          obtain ⟨u, l1, l2⟩ := k3.look hw
          exact ⟨a, _, dx, ws, u, rfl, k1, c1, c2, l1, h1 φ1 H1 u s1 .refl (fv_vr l2)⟩
        · exact h1.elim
      | _ => exact h1.elim
    | loc n =>
      simp only at h1
      cases hc : M1[n]? with
      | none => rw [hc] at h1; exact h1.elim
      | some cl =>
        rw [hc] at h1
        cases cl with
        | ins c fs =>
          simp only at h1
          split at h1
          · rename_i w hn hw
            obtain ⟨a, rfl, ha⟩ := r1
            obtain ⟨⟨dx, ws, k1, k3⟩, _⟩ := s1.cl n _ a hc ha
            obtain ⟨c1, c2⟩ := hq c f hn
            obtain ⟨u, l1, l2⟩ := k3.look hw
            exact ⟨a, _, dx, ws, u, rfl, k1, c1, c2, l1, h1 φ1 H1 u s1 .refl (fv_vr l2)⟩
          · exact h1.elim
        | _ => exact h1.elim
    | _ => exact h1.elim
theorem ss_setf (hq : ∀ c f, q.noat.contains (c, f) = true → Cls X.K (He.ga X.K c) ∧ NoAttr X.K (He.ga X.K c) f) (ho : SE X xa o fo) (he : SE X xa e fe) (hs : swapsWith e (some (.Attribute o f pos')) pos.line X.env = pure false) :
    SS X xa (.Assign [.Attribute o f pos'] e pos) (fSetF q f fo fe) := fun W tk =>
  PS.weak (ps_fld (ho W tk) (he W tk) hs) fun D σ H h => by
    obtain ⟨φ, ρ, M, env, sto, h⟩ := h
    refine ⟨φ, ρ, M, env, sto, then_read env h fun φ1 H1 y M1 v s1 e1 env1 r1 h1 => ?_⟩
    refine ⟨φ1, ρ, M1, env1, s1, then_read env1 h1 fun φ2 H2 x M2 u s2 e2 env2 r2 h2 => ?_⟩
    cases x with
    | loc n =>
      simp only at h2
      split at h2
      · rename_i c fs w hc hw
        split at h2
        · rename_i hh
          obtain ⟨a, rfl, ha⟩ := r2
          obtain ⟨⟨dx, ws, k1, k3⟩, k4⟩ := s2.cl n _ a hc ha
          obtain ⟨c1, c2⟩ := hq c f hh.1
          have rv := vr_fv hw (r1.ext e2)
          have ma : a ∈ φ2 := ⟨List.mem_of_getElem? ha, k4⟩
          have x2 := Ext.write (o := .ins (He.ga X.K c) dx (putF f v ws)) s2 ma
          refine ⟨a, _, dx, ws, rfl, k1, c1, c2, by rw [k3.len]; exact hh.2, h2 φ2 _ σ (s2.writeC ha k4 trivial ⟨⟨dx, _, upd_same, FRs.kp x2.keep _ _ (k3.put rv)⟩, k4⟩) x2 (env2.ext x2)⟩
        · exact h2.elim
      · exact h2.elim
    | _ => exact h2.elim
theorem se_dix (hu : X.A.units + 1 < cLine) (ha : SE X xa o fa) (hb : SE X xa i fb) (hs : NoSl i) : SE X xa (.Subscript o i pos) (fDix fa fb) := fun W tk =>
  PE.weak (pe_dget hu (ha W tk) (hb W tk) hs) fun σ H Q h => by
    obtain ⟨φ, ρ, M, env, sto, h⟩ := h
    refine ⟨φ, ρ, M, env, sto, RP.bind h fun φ1 H1 x M1 v s1 e1 r1 h1 => ?_⟩
    refine ⟨φ1, ρ, M1, env.ext e1, s1, RP.bind h1 fun φ2 H2 y M2 u s2 e2 r2 h2 => ?_⟩
    split at h2
    · rename_i kvs k hk
      split at h2
      · rename_i z hz
        have r3 : FR X.K φ1 H1 (.dct kvs) v := r1
        have r4 := FR.kp e2.keep _ _ r3
        simp only [FR] at r4
        obtain ⟨a, ws, rfl, k1, k2, k3⟩ := r4
        have ek := keyD_ok hk r2
        subst ek
        obtain ⟨w, l1, l2⟩ := k3.val hz
        have g := DGet.k (k := k) k1
        rw [l1] at g
        exact ⟨a, w, rfl, g, h2 φ2 H2 w s2 .refl l2⟩
      · exact h2.elim
    · exact h2.elim
theorem meth_text {o : Expr} {m : Str} {apos pos : Pos} {args : List Expr} {env : Env} (hbase : attributeBase o m env (eval o env) = eval o env)
    (hform : methodCallForm (args.length + ([] : List Keyword).length) (backTo pos (starEach args env)) (backToKw pos (keywordEach [] env)) = true) (hline : (apos.endLine == pos.line) = true) :
    eval (.Call (.Attribute o m apos) args [] pos) env = (do
      let ov ← eval o env
      standAt apos.atName
      let (g, first) ← holding [ov] (getMethod ov m (do return (← importBound o env).getD true))
      callWith pos g first (backTo pos (starEach args env)) (backToKw pos (keywordEach [] env))) := by
  have hp : methodCallPos true o env apos pos = pure pos := by unfold methodCallPos; simp [hline]
  rw [arm_eval_Call, hbase]
  unfold methodCall
  rw [hform, hp]
  rfl
/-! calls of methods, where what is raised is wished for at the caller's slots -/
def tMethW (C : Addr) (m : Str) (sp : Sp) (dvs : List V) (E : L2.St → XK) (ta : TE) (t : TA) : TE := fun σ H Q => ta σ H fun x H1 =>
  ∃ a dx fs, x = .ref a ∧ H1 a = some (.ins C dx fs) ∧ fs.lookup m = none ∧ t σ H1 fun vs H2 => sp (x :: (vs ++ dvs)) H2 Q (E σ)
variable {CX : CXT} {k n : Nat} {fn C : Addr} {fd : FuncData} {ps : List Str} {sp : Sp} {dvs : List V} {ds : List Value} {E : L2.St → XK} {ta : TE} {t : TA} {a : Expr}
theorem pe_methW {pl : Sem Bool} (he : PE X o ta) (c : Cls X.K C) (hm : Meth X.K C m fn) (G : FnOk X.prog X.w X.K X.mg X.base CX k fn fd ps sp) (hr : Room k X.A) (hb : Binds X.K fd ps ds) (hd : Vals dvs ds) (hx : ∀ σ, PassesAt CX X σ (E σ)) (ha : PA X (a :: es) t)
    (hst : starEach (a :: es) X.env = (false, eval a X.env) :: starEach es X.env) (hpl : (backTo pos (starEach es X.env)).any (·.1) = false)
    (ht : eval (.Call (.Attribute o m apos) (a :: es) [] pos) X.env = (do
      let ov ← eval o X.env
      standAt apos.atName
      let (g, first) ← holding [ov] (getMethod ov m pl)
      callWith pos g first (backTo pos (starEach (a :: es) X.env)) (backToKw pos (keywordEach [] X.env)))) :
    PE X (.Call (.Attribute o m apos) (a :: es) [] pos) (tMethW C m sp dvs E ta t) := by
  constructor
  intro pins s σ H Q I h
  refine PySem.W.methodCall_KW (pl := pl) (thn (he.run pins s σ H _ I h) ?_) ht
  rintro u s1 ⟨x, H1, I1, rx, b, dx, fs, ex, ea, l, q1⟩
  subst ex
  obtain rfl : u = Value.ref b := rx
  refine getmeth_ok I1 ea c hm l ?_
  refine PySem.W.callWith_K (first := [.ref b]) (h₀ := X.base) I1.ok.mod.kin hm.kp (thn (ha.run pos pins s1 σ H1 _ I1 q1) ?_) hst hpl
  rintro us s2 ⟨vs, H2, I2, r, q2⟩
  exact ⟨I2.kIn, run_fnSD (us := .ref b :: us) (vs := .ref b :: vs) G hr hb hd (hx σ) I2 (.cons rfl r) q2⟩
theorem pe_methW0 {pl : Sem Bool} (he : PE X o ta) (c : Cls X.K C) (hm : Meth X.K C m fn) (G : FnOk X.prog X.w X.K X.mg X.base CX k fn fd ps sp) (hr : Room k X.A) (hb : Binds X.K fd ps ds) (hd : Vals dvs ds) (hx : ∀ σ, PassesAt CX X σ (E σ))
    (ht : eval (.Call (.Attribute o m apos) [] [] pos) X.env = (do
      let ov ← eval o X.env
      standAt apos.atName
      let (g, first) ← holding [ov] (getMethod ov m pl)
      callWith pos g first (backTo pos (starEach [] X.env)) (backToKw pos (keywordEach [] X.env)))) :
    PE X (.Call (.Attribute o m apos) [] [] pos) (tMethW C m sp dvs E ta tNil) := by
  constructor
  intro pins s σ H Q I h
  refine PySem.W.methodCall_KW (pl := pl) (thn (he.run pins s σ H _ I h) ?_) ht
  rintro u s1 ⟨x, H1, I1, rx, b, dx, fs, ex, ea, l, q1⟩
  subst ex
  obtain rfl : u = Value.ref b := rx
  refine getmeth_ok I1 ea c hm l ?_
  exact PySem.W.callWith_K0 (first := [.ref b]) I1.kIn hm.kp (run_fnSD (us := [.ref b]) (vs := [.ref b]) G hr hb hd (hx σ) I1 (.cons rfl .nil) q1)
theorem mcall_read {W : WQ} {C : CallF} {q : Str} {keep : Bool} {σ : L2.St} {H : Hp} {Q : VK} (hx : ∀ a c, ¬ xa a c) (hl : ∀ ρ M as M', fl ρ M = .ok as M' → as.length + 1 = n) (hc : ∀ as M c M', C q as M = .exc c M' → ∃ C, X.mg c = some (.ref C))
    (h : tEx X.K xa W (fMcall C c m q keep fo fl) σ H Q) : tMethW (He.ga X.K c) m (spOf X.K X.mg n (C q)) [] (WE (wx X.mg W)) (tEx X.K xa W fo) (tAx X.K xa W fl) σ H Q := by
  obtain ⟨φ, ρ, M, env, sto, h⟩ := h
  refine ⟨φ, ρ, M, env, sto, RP.bind h fun φ1 H1 x M1 v s1 e1 r1 h1 => ?_⟩
  cases x with
  | fz g =>
    cases g with
    | obj c' fs =>
      simp only at h1
      split at h1
      · rename_i hh
        obtain ⟨rfl, hn⟩ := hh
        have r2 : FR X.K φ1 H1 (.obj c' fs) v := r1
        have r3 := r2
        simp only [FR] at r3
        obtain ⟨a, dx, ws, rfl, k1, k2, k3⟩ := r3
        refine ⟨a, dx, ws, rfl, k1, k3.lookN hn, φ1, ρ, M1, env.ext e1, s1, ?_⟩
        cases hf : fl ρ M1 with
        | bad => rw [hf] at h1; exact h1.elim
        | exc c M' => rw [hf] at h1; exact h1
        | ok as M2 =>
          rw [hf] at h1
          intro φ2 H2 vs s2 e2 rs
          exact call_read (xa := xa) (vs := .ref a :: vs) (as := .fz (.obj c' fs) :: as) hx s2 ⟨_, _, rfl, FR.kp e2.keep _ _ r2, rs⟩ (by simpa using hl _ _ _ _ hf) hc (RP.shift h1 e2)
      · exact h1.elim
    | _ => exact h1.elim
  | _ => exact h1.elim
theorem se_mcall (C : CallF) (q : Str) (keep : Bool) (hcl : Cls X.K (He.ga X.K c)) (hm : Meth X.K (He.ga X.K c) m fn) (G : FnOk X.prog X.w X.K X.mg X.base (L2.CX X.prog X.w) k fn fd ps (spOf X.K X.mg n (C q))) (hr : Room k X.A)
    (hb : Binds X.K fd ps []) (hx : ∀ a c, ¬ xa a c) (hl : ∀ ρ M as M', fl ρ M = .ok as M' → as.length + 1 = n) (hc : ∀ as M c M', C q as M = .exc c M' → ∃ C, X.mg c = some (.ref C)) (ho : SE X xa o fo) (ha : SA X xa (a :: es) fl)
    (hst : starEach (a :: es) X.env = (false, eval a X.env) :: starEach es X.env) (hpl : (backTo pos (starEach es X.env)).any (·.1) = false)
    (hbase : attributeBase o m X.env (eval o X.env) = eval o X.env)
    (hform : methodCallForm ((a :: es).length + ([] : List Keyword).length) (backTo pos (starEach (a :: es) X.env)) (backToKw pos (keywordEach [] X.env)) = true) (hline : (apos.endLine == pos.line) = true) :
    SE X xa (.Call (.Attribute o m apos) (a :: es) [] pos) (fMcall C c m q keep fo fl) := fun W tk =>
  PE.weak (pe_methW (ho W tk) hcl hm G hr hb .nil (fun σ => passAt tk σ) (ha W tk) hst hpl (meth_text hbase hform hline)) fun σ H Q h => mcall_read hx hl hc h
theorem se_mcall0 (C : CallF) (q : Str) (keep : Bool) (hcl : Cls X.K (He.ga X.K c)) (hm : Meth X.K (He.ga X.K c) m fn) (G : FnOk X.prog X.w X.K X.mg X.base (L2.CX X.prog X.w) k fn fd ps (spOf X.K X.mg 1 (C q))) (hr : Room k X.A)
    (hb : Binds X.K fd ps []) (hx : ∀ a c, ¬ xa a c) (hc : ∀ as M c M', C q as M = .exc c M' → ∃ C, X.mg c = some (.ref C)) (ho : SE X xa o fo)
    (hbase : attributeBase o m X.env (eval o X.env) = eval o X.env) (hline : (apos.endLine == pos.line) = true) :
    SE X xa (.Call (.Attribute o m apos) [] [] pos) (fMcall C c m q keep fo fNil) := fun W tk =>
  PE.weak (pe_methW0 (ho W tk) hcl hm G hr hb .nil (fun σ => passAt tk σ) (meth_text hbase rfl hline)) fun σ H Q h => by
    have h2 := mcall_read (n := 1) hx (fun ρ M as M' e => by cases e; rfl) hc h
    obtain ⟨φ, ρ, M, env, sto, h2⟩ := h2
    refine ⟨φ, ρ, M, env, sto, ?_⟩
    revert h2
    cases fo ρ M with
    | bad => exact id
    | exc c M' => exact id
    | ok x M1 =>
      intro h2 φ1 H1 v s1 e1 r1
      obtain ⟨a, dx, fs, ex, k1, k2, φ2, ρ2, M2, _, s2, k3⟩ := h2 φ1 H1 v s1 e1 r1
      exact ⟨a, dx, fs, ex, k1, k2, k3 φ2 H1 [] s2 .refl rfl⟩
/-! a class is called -/
def tNewW (C : Addr) (sp : Sp) (E : L2.St → XK) (t : TA) : TE := fun σ H Q => t σ H fun vs H1 => ∀ x dx, H1 x = none → H1 dx = none → dx ≠ x →
  sp (.ref x :: vs) (upd (upd H1 dx (.own x)) x (.ins C dx [])) (fun v H2 => v = .non ∧ Q (.ref x) H2) (E σ)
theorem pe_newW (N : Mk X.K C fn) (G : FnOk X.prog X.w X.K X.mg X.base CX k fn fd ps sp) (hr : Room (k + 1) X.A) (hg : Gl X x) (hm : X.mg x = some (.ref C)) (hb : Binds X.K fd ps []) (hx : ∀ σ, PassesAt CX X σ (E σ))
    (ha : PA X (a :: es) t) (hdb : (x == ("__debug__" : Str)) = false) (he : starEach (a :: es) X.env = (false, eval a X.env) :: starEach es X.env) (hpl : (backTo pos (starEach es X.env)).any (·.1) = false) :
    PE X (.Call (.Name x p) (a :: es) [] pos) (tNewW C sp E t) := by
  constructor
  intro pins s0 σ H0 Q I0 h
  refine wpAny_Call_Name_kw (ld_glob I0 hg hm ?_ hdb)
  refine PySem.W.callWith_K (h₀ := X.base) I0.ok.mod.kin N.kp (thn (ha.run pos pins s0 σ H0 _ I0 h) ?_) he hpl
  rintro us s ⟨vs, H, I, r, q⟩
  refine ⟨I.kIn, ?_⟩
  have hnew := q (s.heap.objs.size + 1) s.heap.objs.size (I.hok.fresh (Nat.le_succ _))
    (I.hok.fresh (Nat.le_refl _)) (Nat.ne_of_lt (Nat.lt_succ_self _))
  have J := Inv.made (C := C) I
  have rr : Vals (V.ref (s.heap.objs.size + 1) :: vs)
      (Value.ref (s.heap.objs.size + 1) :: us) := .cons rfl r
  have hlen : (Value.ref (s.heap.objs.size + 1) :: us).length = ps.length :=
    (rr.length).symm.trans (G.len _ _ _ _ hnew)
  have hbb := hb _ (Value.ref (s.heap.objs.size + 1) :: us) J.kIn (by rw [List.append_nil]; exact hlen)
  rw [List.append_nil] at hbb
  refine wpAny_call (make_map (f := fn) I.kIn N.makes N.init (beq_iff_eq.mp N.fn) (codeAny_mono (G.run _ X.stack _ _
    ⟨Value.ref (s.heap.objs.size + 1) :: us, []⟩ (Value.ref (s.heap.objs.size + 1) :: us)
    _ _ (E σ) (hr.make C us []) (J.env0.make C us []) hbb rr hnew) ?_))
  intro res s' hres
  match res with
  | .error e => exact hx σ pins _ _ e s' J hres
  | .ok (.ret u) =>
    obtain ⟨v, H', I3, rv, ev, q3⟩ := J.after hres
    subst ev
    exact ⟨rv, V.ref (s.heap.objs.size + 1), H', I3, rfl, q3⟩
  | .ok .next => exact hres.elim
  | .ok .brk => exact hres.elim
  | .ok .cont => exact hres.elim
theorem se_new (C : CallF) (q : Str) (N : Mk X.K (He.ga X.K c) fn) (G : FnOk X.prog X.w X.K X.mg X.base (L2.CX X.prog X.w) k fn fd ps (spOf X.K X.mg n (C q))) (hr : Room (k + 1) X.A) (hg : Gl X c) (hm : X.mg c = some (.ref (He.ga X.K c))) (hb : Binds X.K fd ps [])
    (hx : ∀ a c, ¬ xa a c) (hl : ∀ ρ M as M', fl ρ M = .ok as M' → as.length + 1 = n) (hc : ∀ as M c M', C q as M = .exc c M' → ∃ C, X.mg c = some (.ref C)) (ha : SA X xa (a :: es) fl) (hdb : (c == ("__debug__" : Str)) = false)
    (he : starEach (a :: es) X.env = (false, eval a X.env) :: starEach es X.env) (hpl : (backTo pos (starEach es X.env)).any (·.1) = false) :
    SE X xa (.Call (.Name c p) (a :: es) [] pos) (fNew C c q fl) := fun W tk =>
  PE.weak (pe_newW N G hr hg hm hb (fun σ => passAt tk σ) (ha W tk) hdb he hpl) fun σ H Q h => by
    obtain ⟨φ, ρ, M, env, sto, h⟩ := h
    refine ⟨φ, ρ, M, env, sto, ?_⟩
    unfold fNew at h
    cases hf : fl ρ M with
    | bad => rw [hf] at h; exact h.elim
    | exc c M' => rw [hf] at h; exact h
    | ok as M1 =>
      rw [hf] at h
      intro φ1 H1 vs s1 e1 r1 y dx hy hdx hne
      have h1 : RP X.K W σ φ1 H1 (relV X.K xa) Q (newR (C q) c as M1) := RP.shift h e1
      have sa := s1.new (o := .own y) hdx trivial
      have xa1 := Ext.new (o := .own y) s1 hdx
      have hy2 : (upd H1 dx (.own y)) y = none := by rw [upd_ne (fun z => hne z.symm)]; exact hy
      have sb := sa.allocC (o := .ins (He.ga X.K c) dx []) (c := .ins c []) hy2 trivial ⟨⟨dx, [], upd_same, by simp [FRs]⟩, s1.freshs hy⟩
      have xb := Ext.alloc (o := .ins (He.ga X.K c) dx []) sa hy2
      have xx := xa1.trans xb
      refine ⟨φ1.push y, M1 ++ [.ins c []], .loc M1.length :: as, by simpa using hl _ _ _ _ hf, sb, ⟨_, _, rfl, ⟨y, rfl, ?_⟩, VRs.noxa hx (r1.ext xx)⟩, ?_⟩
      · show (φ1.l ++ [y])[M1.length]? = some y
        rw [← s1.ln, List.getElem?_append_right (Nat.le_refl _)]
        simp
      unfold newR at h1
      cases hF : C q (.loc M1.length :: as) (M1 ++ [.ins c []]) with
      | bad => rw [hF] at h1; exact h1.elim
      | exc k M' =>
        rw [hF] at h1
        intro φ' H' C' s' e' hC
        obtain ⟨x, kp⟩ := Ext.back s1 (xx.trans e')
        exact ⟨rfl, k, C', hC, rfl, h1 _ H' (s'.trunc M1.length) x⟩
      | ok z M' =>
        rw [hF] at h1
        intro φ' H' v s' e' rz
        obtain ⟨x, kp⟩ := Ext.back s1 (xx.trans e')
        split at h1
        · rename_i z' M'' heq
          cases heq
          refine ⟨drN rz, ?_⟩
          split at h1
          · rename_i c' fs hcell
            have hy3 : φ'.l[M1.length]? = some y := e'.at (by
              show (φ1.l ++ [y])[M1.length]? = some y
              rw [← s1.ln, List.getElem?_append_right (Nat.le_refl _)]
              simp)
            obtain ⟨⟨dx', ws, k1, k3⟩, k4⟩ := s'.cl _ _ y hcell hy3
            obtain ⟨o1, o2⟩ := Sto.own s1 s' (xx.trans e') (Nat.le_refl _) hy3
            refine h1 _ H' (.ref y) (s'.trunc M1.length) x ?_
            show FR X.K (φ'.cut M1.length) H' (.obj c' fs) (.ref y)
            simp only [FR]
            exact ⟨y, dx', ws, rfl, k1, fun z => o2 z.1, FRs.kp kp _ _ k3⟩
          · exact h1.elim
        · rename_i heq; cases heq
        · exact h1.elim
/-! sealing -/
theorem sss_seal {sts : List Stmt} {f : SF} {j : Nat} (h : SSs X xa sts f) : SSs X xa sts (fun ρ M => (fSeal j ρ M).seq f) := fun W tk =>
  PSs.weak (h W tk) fun D σ H h => by
    obtain ⟨φ, ρ, M, env, sto, h⟩ := h
    simp only [fSeal] at h
    split at h
    · rename_i n hn
      split at h
      · rename_i xs hx
        obtain ⟨v, hv, a, rfl, ha⟩ := env.2 j _ hn
        have sa := sto.slo hx ha
        have ea : Ext φ H (φ.slo a) H := Ext.slo
        obtain ⟨vs, k1, k2⟩ := sto.at hx ha
        have env2 := env.ext ea
        refine ⟨φ.slo a, _, _, ⟨by simpa using env2.1, fun i y e => ?_⟩, sa, SPo.shift (r := f _ _) h ea⟩
        by_cases hj : j = i
        · subst hj
          have hl := (List.getElem?_eq_some_iff.mp hn).1
          rw [List.getElem?_set_self hl] at e
          cases e
          refine ⟨_, hv, ?_⟩
          show DR X.K (φ.slo a) H (.list xs) (.ref a)
          simp only [DR]
          exact ⟨a, vs, rfl, k1, fun z => z.2 List.mem_cons_self, DRs.ext ea xs vs k2⟩
        · rw [List.getElem?_set_ne hj] at e
          exact env2.2 i y e
      · exact h.elim
    · exact h.elim
end
end TL

namespace TL
open PySem PySem.Spec
open PyProof.Rows L2

/-! ### comprehensions with two clauses -/
def innF (n : Nat) (own1 : List Nat) (t1 : Tg) (tt1 : RF Bool) (te : RF Vl) : List D → Rho → Store → Res Unit
  | [], _, M => .ok () M
  | y :: ys, ρ, M => match asgT t1 (.d y) (wip ρ own1) with
    | none => .bad
    | some ρ2 => (tt1 ρ2 M).bind fun k M1 => if k = true then (te ρ2 M1).bind fun z M2 => match z, M2[n]? with
        | .d z, some (.lst acc) => if acc.length < sizeLine then innF n own1 t1 tt1 te ys ρ (M2.set n (.lst (acc ++ [z]))) else .bad
        | _, _ => .bad
      else innF n own1 t1 tt1 te ys ρ M1
def outF (n : Nat) (own own1 : List Nat) (t : Tg) (tt : RF Bool) (t1 : Tg) (fi1 : RF (List D)) (tt1 : RF Bool) (te : RF Vl) : List D → Rho → Store → Res Unit
  | [], _, M => .ok () M
  | x :: xs, ρ, M => match asgT t (.d x) (wip ρ own) with
    | none => .bad
    | some ρ1 => (tt ρ1 M).bind fun k M1 => if k = true then (fi1 ρ1 M1).bind fun items1 M2 => (innF n own1 t1 tt1 te items1 ρ1 M2).bind fun _ M3 => outF n own own1 t tt t1 fi1 tt1 te xs ρ M3
      else outF n own own1 t tt t1 fi1 tt1 te xs ρ M1
def fLc2 (cell : Bool) (own own1 : List Nat) (t : Tg) (fi : RF (List D)) (tt : RF Bool) (t1 : Tg) (fi1 : RF (List D)) (tt1 : RF Bool) (te : RF Vl) : RF Vl := fun ρ M => (fi ρ M).bind fun items M1 =>
  match outF M1.length own own1 t tt t1 fi1 tt1 te items ρ (M1 ++ [.lst []]) with
  | .ok _ M' => fin cell M1.length (.loc M1.length) M'
  | _ => .bad
def dcF (n : Nat) (own : List Nat) (t : Tg) (tt : RF Bool) (tk tv : RF Vl) : List D → Rho → Store → Res Unit
  | [], _, M => .ok () M
  | x :: xs, ρ, M => match asgT t (.d x) (wip ρ own) with
    | none => .bad
    | some ρ1 => (tt ρ1 M).bind fun b M1 => if b = true then (tk ρ1 M1).bind fun y M2 => (tv ρ1 M2).bind fun z M3 => match keyD y, z, M3[n]? with
        | some k, .d z, some (.dct kvs) => if kvs.length < sizeLine then dcF n own t tt tk tv xs ρ (M3.set n (.dct (putD kvs k z))) else .bad
        | _, _, _ => .bad
      else dcF n own t tt tk tv xs ρ M1
def fDc (own : List Nat) (t : Tg) (fi : RF (List D)) (tt : RF Bool) (tk tv : RF Vl) : RF Vl := fun ρ M => (fi ρ M).bind fun items M1 =>
  match dcF M1.length own t tt tk tv items ρ (M1 ++ [.dct []]) with
  | .ok _ M' => match M'[M1.length]? with
    | some (.dct kvs) => .ok (.fz (.dct kvs)) (M'.take M1.length)
    | _ => .bad
  | _ => .bad
theorem wipe_again (σ : L2.St) : ∀ vs : List Nat, wipe (wipe σ vs) vs = wipe σ vs := by
  intro vs
  have gen : ∀ (us vs : List Nat), (∀ u ∈ us, u ∈ vs) → wipe (wipe σ us) vs = wipe σ vs := by
    intro us
    induction us with
    | nil => intro vs _; rfl
    | cons u us ih =>
      intro vs h
      simp only [wipe]
      rw [wipe_set (h u List.mem_cons_self)]
      exact ih vs fun w hw => h w (List.mem_cons_of_mem _ hw)
  exact gen vs vs fun _ h => h
/-- what a target does, as the rules want it -/
def TgOk (X : Cx) (xa : XA) (t : Tg) (gt : TG) : Prop := ∀ v σ H Q φ ρ x ρ', EnvR X.K xa φ H ρ σ → VR X.K φ H xa x v → asgT t x ρ = some ρ' →
  (∀ σ', EnvR X.K xa φ H ρ' σ' → (∀ vs, (∀ i ∈ t.slots, i ∈ vs) → wipe σ' vs = wipe σ vs) → Q σ' H) → gt v σ H Q
section
variable {X : Cx} {xa : XA} {elt tg iter tg1 iter1 kx vx : Expr} {ifs ifs1 : List Expr} {scope : Scope} {own own1 : List Nat} {pos : Pos} {t t1 : Tg} {fi fi1 : RF (List D)} {tt tt1 : RF Bool} {te tk tv : RF Vl}
theorem lc2_read {W : WQ} {σ : L2.St} {H : Hp} {Q : VK} {gt gt1 : TG} {cell : Bool} (hsl : ∀ i ∈ t.slots, i ∈ own) (hsl1 : ∀ i ∈ t1.slots, i ∈ own1) (hg : TgOk X xa t gt) (hg1 : TgOk X xa t1 gt1)
    (h : tEx X.K xa W (fLc2 cell own own1 t fi tt t1 fi1 tt1 te) σ H Q) : tLc2 (tIx X.K xa W fi) gt (tTx X.K xa WF tt) (tIx X.K xa WF fi1) gt1 (tTx X.K xa WF tt1) (tEx X.K xa WF te) own own1 σ H Q := by
  obtain ⟨φ, ρ, M, env, sto, h⟩ := h
  refine ⟨φ, ρ, M, env, sto, RP.bind h fun φ1 H1 items M1 J s1 e1 r1 h1 => ?_⟩
  obtain ⟨hl, hJ⟩ := r1
  intro Da hD
  let Good : Res Unit → Prop := fun r => match r with
    | .ok _ M' => RP X.K W σ φ1 H1 (relV X.K xa) Q (fin cell M1.length (.loc M1.length) M')
    | _ => False
  have h2 : Good (outF M1.length own own1 t tt t1 fi1 tt1 te items ρ (M1 ++ [.lst []])) := by
    show (match outF M1.length own own1 t tt t1 fi1 tt1 te items ρ (M1 ++ [.lst []]) with
      | .ok _ M' => _
      | _ => False)
    split at h1
    · rename_i u M' e
      exact h1
    · exact h1.elim
  have n1 : M1.length = φ1.l.length := s1.ln.symm
  refine ⟨fun i m H' => m = items.length - i ∧ i ≤ items.length ∧ ∃ φ M, EnvR X.K xa φ H' ρ σ ∧ Sto X.K φ M H' ∧ Ext φ1 H1 φ H' ∧ φ.l[M1.length]? = some Da ∧ Good (outF M1.length own own1 t tt t1 fi1 tt1 te (items.drop i) ρ M),
    ⟨_, rfl, Nat.zero_le _, φ1.push Da, M1 ++ [.lst []], (env.ext e1).ext (Ext.alloc s1 hD), s1.alloc hD DRs.nil (Nat.zero_le _), Ext.alloc s1 hD, by rw [n1, List.getElem?_append_right (Nat.le_refl _)]; simp, by simpa using h2⟩, ?_⟩
  rintro i m H' ⟨rfl, hi, φ2, M2, env2, s2, x2, hDa, g2⟩
  obtain ⟨j1, j2, j3⟩ := hJ φ2 H' M2 x2 s2 i
  by_cases hlt : i < items.length
  · refine .inr ⟨j1 hlt, fun H' => ∃ φ M, EnvR X.K xa φ H' ρ σ ∧ Sto X.K φ M H' ∧ Ext φ1 H1 φ H' ∧ φ.l[M1.length]? = some Da ∧ Good (outF M1.length own own1 t tt t1 fi1 tt1 te (items.drop (i + 1)) ρ M), fun H3 n => ⟨items.length - (i + 1), by omega, rfl, hlt, n⟩, fun v H3 hy => ?_⟩
    obtain ⟨x3, s3, r3⟩ := j3 items[i] v H3 (List.getElem?_eq_getElem hlt) hy
    rw [List.drop_eq_getElem_cons hlt] at g2
    simp only [outF] at g2
    cases ea : asgT t (.d items[i]) (wip ρ own) with
    | none => rw [ea] at g2; exact g2.elim
    | some ρ3 =>
      rw [ea] at g2
      simp only at g2
      have env3 := env2.ext x3
      refine hg v (wipe σ own) H3 _ φ2 (wip ρ own) (.d items[i]) ρ3 (env3.wip _) r3 ea ?_
      intro σ4 env4 w4
      refine ⟨?_, φ2, ρ3, M2, env4, s3, ?_⟩
      · rw [w4 own hsl]; exact wipe_again σ _
      · cases ht : tt ρ3 M2 with
        | bad => rw [ht] at g2; exact g2.elim
        | exc c M' => rw [ht] at g2; exact g2.elim
        | ok k M4 =>
          rw [ht] at g2
          simp only [Res.bind_ok] at g2
          intro φ5 H5 b s5 x5 rb
          have rb : k = b := rb
          subst rb
          cases k with
          | false =>
            rw [if_neg Bool.false_ne_true] at g2 ⊢
            exact ⟨φ5, M4, (env2.ext x3).ext x5, s5, (x2.trans x3).trans x5, x5.at hDa, g2⟩
          | true =>
            rw [if_pos rfl] at g2 ⊢
            refine ⟨φ5, ρ3, M4, env4.ext x5, s5, ?_⟩
            cases hfi : fi1 ρ3 M4 with
            | bad => rw [hfi] at g2; exact g2.elim
            | exc c M' => rw [hfi] at g2; exact g2.elim
            | ok items1 M6 =>
              rw [hfi] at g2
              simp only [Res.bind_ok] at g2
              intro φ6 H6 J1 s6 x6 rJ
              obtain ⟨hl1, hJ1⟩ := rJ
              have xb := ((x2.trans x3).trans x5).trans x6
              have envb := ((env2.ext x3).ext x5).ext x6
              have env6 := (env4.ext x5).ext x6
              refine ⟨fun j k H' => k = items1.length - j ∧ j ≤ items1.length ∧ ∃ φ M, EnvR X.K xa φ H' ρ σ ∧ EnvR X.K xa φ H' ρ3 σ4 ∧ Sto X.K φ M H' ∧ Ext φ1 H1 φ H' ∧ Ext φ6 H6 φ H' ∧ φ.l[M1.length]? = some Da ∧
                  Good ((innF M1.length own1 t1 tt1 te (items1.drop j) ρ3 M).bind fun _ M3 => outF M1.length own own1 t tt t1 fi1 tt1 te (items.drop (i + 1)) ρ M3),
                ⟨_, rfl, Nat.zero_le _, φ6, M6, envb, env6, s6, xb, .refl, x6.at (x5.at hDa), by simpa using g2⟩, ?_⟩
              rintro j k H8 ⟨rfl, hj, φ8, M8, env8, envi, s8, x8, y8, hD8, g8⟩
              obtain ⟨k1, k2, k3⟩ := hJ1 φ8 H8 M8 y8 s8 j
              by_cases hlt1 : j < items1.length
              · refine .inr ⟨k1 hlt1, fun H' => ∃ φ M, EnvR X.K xa φ H' ρ σ ∧ EnvR X.K xa φ H' ρ3 σ4 ∧ Sto X.K φ M H' ∧ Ext φ1 H1 φ H' ∧ Ext φ6 H6 φ H' ∧ φ.l[M1.length]? = some Da ∧
                    Good ((innF M1.length own1 t1 tt1 te (items1.drop (j + 1)) ρ3 M).bind fun _ M3 => outF M1.length own own1 t tt t1 fi1 tt1 te (items.drop (i + 1)) ρ M3),
                  fun H3 n => ⟨items1.length - (j + 1), by omega, rfl, hlt1, n⟩, fun v1 H9 hy1 => ?_⟩
                obtain ⟨x9, s9, r9⟩ := k3 items1[j] v1 H9 (List.getElem?_eq_getElem hlt1) hy1
                rw [List.drop_eq_getElem_cons hlt1] at g8
                simp only [innF] at g8
                cases eb : asgT t1 (.d items1[j]) (wip ρ3 own1) with
                | none => rw [eb] at g8; exact g8.elim
                | some ρ5 =>
                  rw [eb] at g8
                  simp only at g8
                  have env9 := envi.ext x9
                  refine hg1 v1 (wipe σ4 own1) H9 _ φ8 (wip ρ3 own1) (.d items1[j]) ρ5 (env9.wip _) r9 eb ?_
                  intro σ5 env5 w5
                  refine ⟨?_, φ8, ρ5, M8, env5, s9, ?_⟩
                  · rw [w5 own1 hsl1]; exact wipe_again σ4 _
                  · cases ht1 : tt1 ρ5 M8 with
                    | bad => rw [ht1] at g8; exact g8.elim
                    | exc c M' => rw [ht1] at g8; exact g8.elim
                    | ok k M10 =>
                      rw [ht1] at g8
                      simp only [Res.bind_ok] at g8
                      intro φ11 H11 b s11 x11 rb
                      have rb : k = b := rb
                      subst rb
                      cases k with
                      | false =>
                        rw [if_neg Bool.false_ne_true] at g8 ⊢
                        exact ⟨φ11, M10, (env8.ext x9).ext x11, env9.ext x11, s11, (x8.trans x9).trans x11, (y8.trans x9).trans x11, x11.at hD8, g8⟩
                      | true =>
                        rw [if_pos rfl] at g8 ⊢
                        refine ⟨φ11, ρ5, M10, env5.ext x11, s11, ?_⟩
                        cases he : te ρ5 M10 with
                        | bad => rw [he] at g8; exact g8.elim
                        | exc c M' => rw [he] at g8; exact g8.elim
                        | ok y M12 =>
                          rw [he] at g8
                          simp only [Res.bind_ok] at g8
                          intro φ13 H13 w s13 x13 ry
                          split at g8
                          · rename_i y acc eacc
                            split at g8
                            · rename_i hacc
                              have hD13 := x13.at (x11.at hD8)
                              obtain ⟨ws, q1, q2⟩ := s13.at eacc hD13
                              have hz : (acc ++ [y]).length ≤ sizeLine := by rw [List.length_append, List.length_singleton]; omega
                              have xw := Ext.write (o := .lst (ws ++ [w])) s13 (s13.uns eacc hD13)
                              refine ⟨ws, q1, by rw [q2.length]; exact hacc, φ13, _, ((((env8.ext x9).ext x11).ext x13).ext xw), (((env9.ext x11).ext x13).ext xw), s13.write eacc hD13 (q2.append (DRs.one ry)) hz,
                                ((((x8.trans x9).trans x11).trans x13).trans xw), ((((y8.trans x9).trans x11).trans x13).trans xw), hD13, g8⟩
                            · exact g8.elim
                          · exact g8.elim
              · have ej : j = items1.length := by omega
                subst ej
                rw [List.drop_length] at g8
                simp only [innF, Res.bind_ok] at g8
                exact .inl ⟨k2 (Nat.le_refl _), φ8, M8, env8, s8, x8, hD8, g8⟩
  · have e : i = items.length := by omega
    subst e
    rw [List.drop_length] at g2
    simp only [outF] at g2
    refine .inl ⟨j2 (Nat.le_refl _), ?_⟩
    exact fin_ok (xa := xa) (r := .loc M1.length) s1 s2 x2 ⟨Da, rfl, hDa⟩ g2
theorem dc_read {W : WQ} {σ : L2.St} {H : Hp} {Q : VK} {gt : TG} (hsl : ∀ i ∈ t.slots, i ∈ own) (hg : TgOk X xa t gt)
    (h : tEx X.K xa W (fDc own t fi tt tk tv) σ H Q) : tDc (tIx X.K xa W fi) gt (tTx X.K xa WF tt) (tEx X.K xa WF tk) (tEx X.K xa WF tv) own σ H Q := by
  obtain ⟨φ, ρ, M, env, sto, h⟩ := h
  refine ⟨φ, ρ, M, env, sto, RP.bind h fun φ1 H1 items M1 J s1 e1 r1 h1 => ?_⟩
  obtain ⟨hl, hJ⟩ := r1
  intro Da hD
  let Good : Res Unit → Prop := fun r => match r with
    | .ok _ M' => ∃ kvs, M'[M1.length]? = some (.dct kvs) ∧ RP X.K W σ φ1 H1 (relV X.K xa) Q (.ok (.fz (.dct kvs)) (M'.take M1.length))
    | _ => False
  have h2 : Good (dcF M1.length own t tt tk tv items ρ (M1 ++ [.dct []])) := by
    show (match dcF M1.length own t tt tk tv items ρ (M1 ++ [.dct []]) with
      | .ok _ M' => _
      | _ => False)
    split at h1
    · rename_i u M' e
      split at h1
      · rename_i kvs e2
        exact ⟨kvs, e2, h1⟩
      · exact h1.elim
    · exact h1.elim
  have n1 : M1.length = φ1.l.length := s1.ln.symm
  refine ⟨fun i m H' => m = items.length - i ∧ i ≤ items.length ∧ ∃ φ M, EnvR X.K xa φ H' ρ σ ∧ Sto X.K φ M H' ∧ Ext φ1 H1 φ H' ∧ φ.l[M1.length]? = some Da ∧ Good (dcF M1.length own t tt tk tv (items.drop i) ρ M),
    ⟨_, rfl, Nat.zero_le _, φ1.push Da, M1 ++ [.dct []], (env.ext e1).ext (Ext.alloc s1 hD), s1.allocC (o := .dK []) (c := .dct []) hD trivial ⟨⟨[], upd_same, KR.nil⟩, s1.freshs hD⟩, Ext.alloc s1 hD, by rw [n1, List.getElem?_append_right (Nat.le_refl _)]; simp, by simpa using h2⟩, ?_⟩
  rintro i m H' ⟨rfl, hi, φ2, M2, env2, s2, x2, hDa, g2⟩
  obtain ⟨j1, j2, j3⟩ := hJ φ2 H' M2 x2 s2 i
  by_cases hlt : i < items.length
  · refine .inr ⟨j1 hlt, fun H' => ∃ φ M, EnvR X.K xa φ H' ρ σ ∧ Sto X.K φ M H' ∧ Ext φ1 H1 φ H' ∧ φ.l[M1.length]? = some Da ∧ Good (dcF M1.length own t tt tk tv (items.drop (i + 1)) ρ M), fun H3 n => ⟨items.length - (i + 1), by omega, rfl, hlt, n⟩, fun v H3 hy => ?_⟩
    obtain ⟨x3, s3, r3⟩ := j3 items[i] v H3 (List.getElem?_eq_getElem hlt) hy
    rw [List.drop_eq_getElem_cons hlt] at g2
    simp only [dcF] at g2
    cases ea : asgT t (.d items[i]) (wip ρ own) with
    | none => rw [ea] at g2; exact g2.elim
    | some ρ3 =>
      rw [ea] at g2
      simp only at g2
      have env3 := env2.ext x3
      refine hg v (wipe σ own) H3 _ φ2 (wip ρ own) (.d items[i]) ρ3 (env3.wip _) r3 ea ?_
      intro σ4 env4 w4
      refine ⟨?_, φ2, ρ3, M2, env4, s3, ?_⟩
      · rw [w4 own hsl]; exact wipe_again σ _
      · cases ht : tt ρ3 M2 with
        | bad => rw [ht] at g2; exact g2.elim
        | exc c M' => rw [ht] at g2; exact g2.elim
        | ok k M4 =>
          rw [ht] at g2
          simp only [Res.bind_ok] at g2
          intro φ5 H5 b s5 x5 rb
          have rb : k = b := rb
          subst rb
          cases k with
          | false =>
            rw [if_neg Bool.false_ne_true] at g2 ⊢
            exact ⟨φ5, M4, (env2.ext x3).ext x5, s5, (x2.trans x3).trans x5, x5.at hDa, g2⟩
          | true =>
            rw [if_pos rfl] at g2 ⊢
            refine ⟨φ5, ρ3, M4, env4.ext x5, s5, ?_⟩
            cases hk : tk ρ3 M4 with
            | bad => rw [hk] at g2; exact g2.elim
            | exc c M' => rw [hk] at g2; exact g2.elim
            | ok y M6 =>
              rw [hk] at g2
              simp only [Res.bind_ok] at g2
              intro φ7 H7 w s7 x7 ry
              refine ⟨φ7, ρ3, M6, (env4.ext x5).ext x7, s7, ?_⟩
              cases hv : tv ρ3 M6 with
              | bad => rw [hv] at g2; exact g2.elim
              | exc c M' => rw [hv] at g2; exact g2.elim
              | ok z M8 =>
                rw [hv] at g2
                simp only [Res.bind_ok] at g2
                intro φ9 H9 w9 s9 x9 rz
                split at g2
                · rename_i k z kvs ek ekv
                  split at g2
                  · rename_i hacc
                    have hD9 := x9.at (x7.at (x5.at hDa))
                    obtain ⟨⟨ws, q1, q2⟩, q3⟩ := s9.cl _ _ _ ekv hD9
                    have xw := Ext.write (o := .dK (putK ws k w9)) s9 (a := Da) ⟨List.mem_of_getElem? hD9, q3⟩
                    refine ⟨ws, k, keyD_ok ek ry, q1, by rw [q2.len]; exact hacc, φ9, _, (((((env2.ext x3).ext x5).ext x7).ext x9).ext xw), s9.writeC (o := .dK (putK ws k w9)) (c := .dct (putD kvs k z)) hD9 q3 trivial ⟨⟨_, upd_same, (q2.put rz).kp xw.keep⟩, q3⟩, (((((x2.trans x3).trans x5).trans x7).trans x9).trans xw), hD9, g2⟩
                  · exact g2.elim
                · exact g2.elim
  · have e : i = items.length := by omega
    subst e
    rw [List.drop_length] at g2
    simp only [dcF] at g2
    refine .inl ⟨j2 (Nat.le_refl _), ?_⟩
    obtain ⟨kvs, c1, c2⟩ := g2
    obtain ⟨x, kp⟩ := Ext.back s1 x2
    obtain ⟨⟨ws, q1, q2⟩, q3⟩ := s2.cl _ _ _ c1 hDa
    obtain ⟨o1, o2⟩ := Sto.own s1 s2 x2 (Nat.le_refl _) hDa
    refine c2 _ H' (.ref Da) (s2.trunc M1.length) x ?_
    show FR X.K (φ2.cut M1.length) H' (.dct kvs) (.ref Da)
    simp only [FR]
    exact ⟨Da, ws, rfl, q1, fun z => o2 z.1, q2.kp kp⟩
variable (cell : Bool) {ownp : List (Str × Nat)}
abbrev Blk (X : Cx) (scope : Scope) (s : Shared) (H : Hp) (A : Addr) (cl : List (Str × Addr)) (fp : List Addr) : Cx := X.blk s H scope (compEnvC scope cl A X.env) fp
theorem se_lc2 {gt gt1 : TG} (hc : X.calm = true) (hN : X.N.Nodup) (hi : SI X xa tg iter fi) (ok : BlkOk X.N X.env.scope scope ownp) (hv : ∀ i ∈ own1, i ∈ ownp.map (·.2)) (hsl : ∀ i ∈ t.slots, i ∈ ownp.map (·.2)) (hsl1 : ∀ i ∈ t1.slots, i ∈ own1)
    (pg : ∀ s H A cl fp, PG (Blk X scope s H A cl fp) tg gt) (hg : TgOk X xa t gt) (pg1 : ∀ s H A cl fp, PG (Blk X scope s H A cl fp) tg1 gt1) (hg1 : TgOk X xa t1 gt1)
    (ht : ∀ s H A cl fp, SPTs (Blk X scope s H A cl fp) xa ifs tt) (hi1 : ∀ s H A cl fp, SI (Blk X scope s H A cl fp) xa tg1 iter1 fi1) (ht1 : ∀ s H A cl fp, SPTs (Blk X scope s H A cl fp) xa ifs1 tt1)
    (he : ∀ s H A cl fp, SE (Blk X scope s H A cl fp) xa elt te) (hs : ∀ x, foldedSetIterable iter X.env x = pure x) (hs1 : ∀ env x, foldedSetIterable iter1 env x = pure x) :
    SE X xa (.ListComp elt [⟨tg, iter, ifs, 0⟩, ⟨tg1, iter1, ifs1, 0⟩] scope pos) (fLc2 cell (ownp.map (·.2)) own1 t fi tt t1 fi1 tt1 te) := fun W tk =>
  PE.weak (pe_lc2 (tt := tTx X.K xa WF tt) (wi1 := tIx X.K xa WF fi1) (tt1 := tTx X.K xa WF tt1) (te := tEx X.K xa WF te) hc hN (hi W tk) ok hv pg (fun s H A cl fp => ht s H A cl fp WF tkF) (fun s H A cl fp => hi1 s H A cl fp WF tkF) pg1
    (fun s H A cl fp => ht1 s H A cl fp WF tkF) (fun s H A cl fp => he s H A cl fp WF tkF) hs hs1) fun σ H Q h => lc2_read hsl hsl1 hg hg1 h
theorem ss_setLc2 {gt gt1 : TG} {i : Nat} {y : Str} {py spos : Pos} (hc : X.calm = true) (hN : X.N.Nodup) (hy : X.N[i]? = some y) (hyl : X.env.scope.names.lookup y = some .local)
    (hsw : swapsWith (.ListComp elt [⟨tg, iter, ifs, 0⟩, ⟨tg1, iter1, ifs1, 0⟩] scope pos) (some (.Name y py)) spos.line X.env = pure true) (hi : SI X xa tg iter fi) (ok : BlkOk X.N X.env.scope scope ownp) (hv : ∀ i ∈ own1, i ∈ ownp.map (·.2)) (hsl : ∀ i ∈ t.slots, i ∈ ownp.map (·.2)) (hsl1 : ∀ i ∈ t1.slots, i ∈ own1)
    (pg : ∀ s H A cl fp, PG (Blk X scope s H A cl fp) tg gt) (hg : TgOk X xa t gt) (pg1 : ∀ s H A cl fp, PG (Blk X scope s H A cl fp) tg1 gt1) (hg1 : TgOk X xa t1 gt1)
    (ht : ∀ s H A cl fp, SPTs (Blk X scope s H A cl fp) xa ifs tt) (hi1 : ∀ s H A cl fp, SI (Blk X scope s H A cl fp) xa tg1 iter1 fi1) (ht1 : ∀ s H A cl fp, SPTs (Blk X scope s H A cl fp) xa ifs1 tt1)
    (he : ∀ s H A cl fp, SE (Blk X scope s H A cl fp) xa elt te) (hs : ∀ x, foldedSetIterable iter X.env x = pure x) (hs1 : ∀ env x, foldedSetIterable iter1 env x = pure x) :
    SS X xa (.Assign [.Name y py] (.ListComp elt [⟨tg, iter, ifs, 0⟩, ⟨tg1, iter1, ifs1, 0⟩] scope pos) spos) (fAsg (.nm i) (fLc2 cell (ownp.map (·.2)) own1 t fi tt t1 fi1 tt1 te)) := fun W tk => by
  refine PS.weak (ps_setLc2 (tt := tTx X.K xa WF tt) (wi1 := tIx X.K xa WF fi1) (tt1 := tTx X.K xa WF tt1) (te := tEx X.K xa WF te) hc hN hy hyl hsw (hi W tk) ok hv pg (fun s H A cl fp => ht s H A cl fp WF tkF) (fun s H A cl fp => hi1 s H A cl fp WF tkF) pg1
    (fun s H A cl fp => ht1 s H A cl fp WF tkF) (fun s H A cl fp => he s H A cl fp WF tkF) hs hs1) fun D σ H h => ?_
  have h2 := asg_read (gt := gName i) (t := .nm i) (fun v σ H Q φ ρ x ρ' env r h q => by
    simp only [asgT] at h
    cases h
    exact q _ (env.set r) fun vs hv => wipe_set (hv i (by simp [Tg.slots]))) h
  exact lc2_read hsl hsl1 hg hg1 h2
theorem se_dc {gt : TG} (hc : X.calm = true) (hN : X.N.Nodup) (hi : SI X xa tg iter fi) (ok : BlkOk X.N X.env.scope scope ownp) (hsl : ∀ i ∈ t.slots, i ∈ ownp.map (·.2)) (pg : ∀ s H A cl fp, PG (Blk X scope s H A cl fp) tg gt) (hg : TgOk X xa t gt)
    (ht : ∀ s H A cl fp, SPTs (Blk X scope s H A cl fp) xa ifs tt) (hk : ∀ s H A cl fp, SE (Blk X scope s H A cl fp) xa kx tk) (hv : ∀ s H A cl fp, SE (Blk X scope s H A cl fp) xa vx tv) (hs : ∀ x, foldedSetIterable iter X.env x = pure x) :
    SE X xa (.DictComp kx vx [⟨tg, iter, ifs, 0⟩] scope pos) (fDc (ownp.map (·.2)) t fi tt tk tv) := fun W tkk =>
  PE.weak (pe_dc (tt := tTx X.K xa WF tt) (tk := tEx X.K xa WF tk) (tv := tEx X.K xa WF tv) hc hN (hi W tkk) ok pg (fun s H A cl fp => ht s H A cl fp WF tkF) (fun s H A cl fp => hk s H A cl fp WF tkF) (fun s H A cl fp => hv s H A cl fp WF tkF) hs) fun σ H Q h => dc_read hsl hg h
end
/-! ### a, b = x, y -/
def setAll : List Nat → List Vl → Rho → Option Rho
  | [], [], ρ => some ρ
  | i :: is, x :: xs, ρ => setAll is xs (ρ.set i (some x))
  | _, _, _ => none
def fPar (is : List Nat) (fl : RF (List Vl)) : SF := fun ρ M => (fl ρ M).then ρ fun as M1 => match setAll is as ρ with
  | some ρ' => .nx ρ' M1
  | none => .bad
def isStar (e : Expr) : Bool := match e with
  | .Starred .. => true
  | _ => false
section
variable {X : Cx} {xa : XA} {fl : RF (List Vl)} {x y z : Str} {a b c : Expr} {px py pz pt pos p2 : Pos} {kt k2 i j l : Nat} {env : Env}
theorem sw_two (hb : env.blockKind = .function) (hx : env.kindOf x = some .local) (hy : env.kindOf y = some .local) (hl : py.line = px.line) (hn : (x == y) = false) (ha : isStar a = false) (hb2 : isStar b = false)
    (hf : [a, b].all (foldedForSure 8) = false) (hg : [a, b].all (constantsAlone 8) = false) :
    swappedStores [.Tuple [.Name x px, .Name y py] kt pt] (.Tuple [a, b] k2 p2) env = pure (some [x, y]) := by
  have e1 : ([a, b].any fun | .Starred .. => true | _ => false) = false := by
    show (isStar a || (isStar b || false)) = false
    rw [ha, hb2]; rfl
  have hn2 : (y == x) = false := by rw [beq_eq_false_iff_ne] at hn ⊢; exact fun q => hn q.symm
  unfold swappedStores
  simp only [hb, e1, hf, hg]
  simp [hx, hy, hl, List.filterMap, List.eraseDups, hn, hn2, Expr.pos]
  have n1 : ¬ (isStar a = true ∨ isStar b = true) := by rw [ha, hb2]; simp
  have n2 : (List.eraseDupsBy (fun x1 x2 => x1 == x2) [x, y]).length = 2 := by simp [List.eraseDupsBy, List.eraseDupsBy.loop, hn, hn2]
  exact (if_neg n1).trans (if_pos n2)
theorem sw_three (hb : env.blockKind = .function) (hx : env.kindOf x = some .local) (hy : env.kindOf y = some .local) (hz : env.kindOf z = some .local) (hl : py.line = px.line) (hl2 : pz.line = px.line) (hn : (x == y) = false) (hn3 : (x == z) = false) (hn4 : (y == z) = false) (ha : isStar a = false) (hb2 : isStar b = false) (hc : isStar c = false)
    (hf : [a, b, c].all (foldedForSure 8) = false) (hg : [a, b, c].all (constantsAlone 8) = false) :
    swappedStores [.Tuple [.Name x px, .Name y py, .Name z pz] kt pt] (.Tuple [a, b, c] k2 p2) env = pure (some [x, y, z]) := by
  have e1 : ([a, b, c].any fun | .Starred .. => true | _ => false) = false := by
    show (isStar a || (isStar b || (isStar c || false))) = false
    rw [ha, hb2, hc]; rfl
  have hn2 : (y == x) = false := by rw [beq_eq_false_iff_ne] at hn ⊢; exact fun q => hn q.symm
  have hn5 : (z == x) = false := by rw [beq_eq_false_iff_ne] at hn3 ⊢; exact fun q => hn3 q.symm
  have hn6 : (z == y) = false := by rw [beq_eq_false_iff_ne] at hn4 ⊢; exact fun q => hn4 q.symm
  unfold swappedStores
  simp only [hb, e1, hf, hg]
  simp [hx, hy, hz, hl, hl2, List.filterMap, List.eraseDups, hn, hn2, Expr.pos]
  have n1 : ¬ (isStar a = true ∨ isStar b = true ∨ isStar c = true) := by rw [ha, hb2, hc]; simp
  have n2 : (List.eraseDupsBy (fun x1 x2 => x1 == x2) [x, y, z]).length = 3 := by simp [List.eraseDupsBy, List.eraseDupsBy.loop, hn, hn2, hn3, hn4, hn5, hn6]
  exact (if_neg n1).trans (if_pos n2)
theorem par_read2 {W : WQ} {D : Ends} {σ : L2.St} {H : Hp} (h : tSx X.K xa W (fPar [i, j] fl) D σ H) : tPar i j (tAx X.K xa W fl) D σ H := by
  obtain ⟨φ, ρ, M, env, sto, h⟩ := h
  refine ⟨φ, ρ, M, env, sto, then_read env h fun φ1 H1 as M1 vs s1 e1 env1 r1 h1 => ?_⟩
  match as, r1, h1 with
  | [], _, h1 => exact h1.elim
  | [_], _, h1 => exact h1.elim
  | u :: v :: w :: r, _, h1 => exact h1.elim
  | [u, v], r1, h1 =>
    obtain ⟨v1, v2, rfl, k1, k2⟩ := vrs2 r1
    exact ⟨v1, v2, rfl, h1 φ1 H1 _ s1 .refl ((env1.set k1).set k2)⟩
theorem par_read3 {W : WQ} {D : Ends} {σ : L2.St} {H : Hp} (h : tSx X.K xa W (fPar [i, j, l] fl) D σ H) : tPar3 i j l (tAx X.K xa W fl) D σ H := by
  obtain ⟨φ, ρ, M, env, sto, h⟩ := h
  refine ⟨φ, ρ, M, env, sto, then_read env h fun φ1 H1 as M1 vs s1 e1 env1 r1 h1 => ?_⟩
  match as, r1, h1 with
  | [], _, h1 => exact h1.elim
  | [_], _, h1 => exact h1.elim
  | [_, _], _, h1 => exact h1.elim
  | u :: v :: w :: q :: r, _, h1 => exact h1.elim
  | [u, v, w], r1, h1 =>
    obtain ⟨v1, r, rfl, k1, r2⟩ := r1
    obtain ⟨v2, v3, rfl, k2, k3⟩ := vrs2 r2
    exact ⟨v1, v2, v3, rfl, h1 φ1 H1 _ s1 .refl (((env1.set k1).set k2).set k3)⟩
theorem ss_par2 (hc : X.calm = true) (hN : X.N.Nodup) (hi : X.N[i]? = some x) (hj : X.N[j]? = some y) (hij : i ≠ j) (hx : X.env.scope.names.lookup x = some .local) (hy : X.env.scope.names.lookup y = some .local) (ha : SA X xa [a, b] fl)
    (hw : swappedStores [.Tuple [.Name x px, .Name y py] kt pt] (.Tuple [a, b] k2 p2) X.env = pure (some [x, y])) : SS X xa (.Assign [.Tuple [.Name x px, .Name y py] kt pt] (.Tuple [a, b] k2 p2) pos) (fPar [i, j] fl) := fun W tk =>
  PS.weak (ps_par hc hN hi hj hij hx hy (ha W tk) hw) fun D σ H h => par_read2 h
theorem ss_par3 (hc : X.calm = true) (hN : X.N.Nodup) (hi : X.N[i]? = some x) (hj : X.N[j]? = some y) (hl : X.N[l]? = some z) (hij : i ≠ j) (hil : i ≠ l) (hjl : j ≠ l) (hx : X.env.scope.names.lookup x = some .local) (hy : X.env.scope.names.lookup y = some .local) (hz : X.env.scope.names.lookup z = some .local) (ha : SA X xa [a, b, c] fl)
    (hw : swappedStores [.Tuple [.Name x px, .Name y py, .Name z pz] kt pt] (.Tuple [a, b, c] k2 p2) X.env = pure (some [x, y, z])) : SS X xa (.Assign [.Tuple [.Name x px, .Name y py, .Name z pz] kt pt] (.Tuple [a, b, c] k2 p2) pos) (fPar [i, j, l] fl) := fun W tk =>
  PS.weak (ps_par3 hc hN hi hj hl hij hil hjl hx hy hz (ha W tk) hw) fun D σ H h => par_read3 h
end
end TL

namespace TL
open PySem PySem.Spec
open PyProof.Rows L2

/-! ### methods of texts -/
def fSm (g : Str → Str → Option Vl) (fo fe : RF Vl) : RF Vl := fun ρ M => (fo ρ M).bind fun x M1 => match x with
  | .d (.str a) => (fe ρ M1).bind fun y M2 => match y with
    | .d (.str b) => ofO (g a b) M2
    | _ => .bad
  | _ => .bad
def splitT (a b : Str) : Option Vl := if (b.length == 0) = false ∧ a.length + 2 ≤ sizeLine then some (.d (.list ((Txt.split a b).map PyData.str))) else none
def partT (a b : Str) : Option Vl := if (b.length == 0) = false ∧ a.length ≤ sizeLine then some (.d (.tuple [.str (Txt.partition a b).1, .str (Txt.partition a b).2.1, .str (Txt.partition a b).2.2])) else none
def startT (a b : Str) : Option Vl := some (.d (.bool (Txt.startswith a b)))
def findT (a b : Str) : Option Vl := some (.d (.int (Txt.find a b)))
theorem drs_strs {K : PySem.W.Frag} {φ : Fm} {H : Hp} : ∀ ys : List Str, DRs K φ H (ys.map PyData.str) (ys.map V.str)
  | [] => by simp [DRs]
  | y :: ys => by
    simp only [List.map_cons, DRs]
    exact ⟨_, _, rfl, by simp [DR], drs_strs ys⟩
def strsOf : List D → Option (List Str)
  | [] => some []
  | .str a :: xs => (strsOf xs).map (a :: ·)
  | _ :: _ => none
theorem strsOf_ok {K : PySem.W.Frag} {φ : Fm} {H : Hp} : ∀ {xs : List D} {ys : List Str} {vs : List V}, strsOf xs = some ys → DRs K φ H xs vs → vs = ys.map V.str
  | [], ys, vs, h, r => by
    cases h
    simp only [DRs] at r
    rw [r]; rfl
  | x :: xs, ys, vs, h, r => by
    simp only [DRs] at r
    obtain ⟨v, w, rfl, r1, r2⟩ := r
    cases x with
    | str a =>
      simp only [strsOf, Option.map_eq_some_iff] at h
      obtain ⟨zs, h1, rfl⟩ := h
      simp only [DR] at r1
      rw [r1, strsOf_ok h1 r2]; rfl
    | _ => simp [strsOf] at h
section
variable {X : Cx} {xa : XA} {o e : Expr} {fo fe : RF Vl}
theorem fSm_read {K : PySem.W.Frag} {W : WQ} {g : Str → Str → Option Vl} {r : V → List V → Hp → VK → Prop}
    (hr : ∀ (φ : Fm) (M : Store) (H : Hp) (a b : Str) (z : Vl) (Q : VK), Sto K φ M H → g a b = some z → (∀ φ' H' u, Sto K φ' M H' → Ext φ H φ' H' → VR K φ' H' xa z u → Q u H') → r (.str a) [.str b] H Q) {σ : L2.St} {H : Hp} {Q : VK} (h : tEx K xa W (fSm g fo fe) σ H Q) : tM1 r (tEx K xa W fo) (tEx K xa W fe) σ H Q := by
  obtain ⟨φ, ρ, M, env, sto, h⟩ := h
  refine ⟨φ, ρ, M, env, sto, RP.bind h fun φ1 H1 x M1 v s1 e1 r1 h1 => ?_⟩
  split at h1
  · rename_i a
    cases drS r1
    refine ⟨⟨a, rfl⟩, φ1, ρ, M1, env.ext e1, s1, RP.bind h1 fun φ2 H2 y M2 w s2 e2 r2 h2 => ?_⟩
    split at h2
    · rename_i b
      cases drS r2
      obtain ⟨z, hz, h3⟩ := RP.ofO h2
      exact hr φ2 M2 H2 a b z Q s2 hz h3
    · exact h2.elim
  · exact h1.elim
variable {apos pos : Pos} (hs : starEach [e] X.env = [(false, eval e X.env)]) (hline : (apos.endLine == pos.line) = true)
theorem se_split (ho : SE X xa o fo) (he : SE X xa e fe) (hs : starEach [e] X.env = [(false, eval e X.env)]) (hb : attributeBase o "split" X.env (eval o X.env) = eval o X.env) (hline : (apos.endLine == pos.line) = true) : SE X xa (.Call (.Attribute o "split" apos) [e] [] pos) (fSm splitT fo fe) := fun W tk =>
  PE.weak (pe_split (ho W tk) (he W tk) hs hb hline) fun σ H Q h => fSm_read (fun φ M H a b z Q st hz q => by
    unfold splitT at hz
    split at hz
    · rename_i c
      cases hz
      have hl : (Txt.split a b).length ≤ sizeLine := Nat.le_trans (PyProof.Rows.split_le a b) c.2
      have hl' : ((Txt.split a b).map V.str).length ≤ sizeLine := by rw [List.length_map]; exact hl
      exact ⟨a, b, rfl, rfl, c.1, c.2, fun p hp => q φ _ _ (st.new hp hl') (Ext.new st hp) (vrL st hp (drs_strs _))⟩
    · cases hz) h
theorem se_partition (ho : SE X xa o fo) (he : SE X xa e fe) (hs : starEach [e] X.env = [(false, eval e X.env)]) (hb : attributeBase o "partition" X.env (eval o X.env) = eval o X.env) (hline : (apos.endLine == pos.line) = true) : SE X xa (.Call (.Attribute o "partition" apos) [e] [] pos) (fSm partT fo fe) := fun W tk =>
  PE.weak (pe_partition (ho W tk) (he W tk) hs hb hline) fun σ H Q h => fSm_read (fun φ M H a b z Q st hz q => by
    unfold partT at hz
    split at hz
    · rename_i c
      cases hz
      have hl' : [V.str (Txt.partition a b).1, V.str (Txt.partition a b).2.1, V.str (Txt.partition a b).2.2].length ≤ sizeLine := by simp [sizeLine]
      exact ⟨a, b, rfl, rfl, c.1, c.2, fun p hp => q φ _ _ (st.new hp hl') (Ext.new st hp) (vrT st hp (drs_strs [(Txt.partition a b).1, (Txt.partition a b).2.1, (Txt.partition a b).2.2]))⟩
    · cases hz) h
theorem se_startswith (ho : SE X xa o fo) (he : SE X xa e fe) (hs : starEach [e] X.env = [(false, eval e X.env)]) (hb : attributeBase o "startswith" X.env (eval o X.env) = eval o X.env) (hline : (apos.endLine == pos.line) = true) : SE X xa (.Call (.Attribute o "startswith" apos) [e] [] pos) (fSm startT fo fe) := fun W tk =>
  PE.weak (pe_m1 F.slot_str_startswith F.type_str_startswith mt_startswith (ho W tk) (he W tk) hs hb hline) fun σ H Q h => fSm_read (fun φ M H a b z Q st hz q => by
    cases hz
    exact ⟨a, b, rfl, rfl, q φ H _ st .refl vrB⟩) h
theorem se_find (ho : SE X xa o fo) (he : SE X xa e fe) (hs : starEach [e] X.env = [(false, eval e X.env)]) (hb : attributeBase o "find" X.env (eval o X.env) = eval o X.env) (hline : (apos.endLine == pos.line) = true) : SE X xa (.Call (.Attribute o "find" apos) [e] [] pos) (fSm findT fo fe) := fun W tk =>
  PE.weak (pe_m1 F.slot_str_find F.type_str_find mt_find (ho W tk) (he W tk) hs hb hline) fun σ H Q h => fSm_read (fun φ M H a b z Q st hz q => by
    cases hz
    exact ⟨a, b, rfl, rfl, q φ H _ st .refl vrI⟩) h
/-! ### sep.join(row) -/
def joinT (a : Str) (x : Vl) (M : Store) : Option Vl := (sqn x M).bind fun xs => (strsOf xs).bind fun ys => if (ys.map (·.length)).sum + ys.length * a.length ≤ 16777216 then some (.d (.str (Txt.join a ys))) else none
def fJoin (fo fe : RF Vl) : RF Vl := fun ρ M => (fo ρ M).bind fun x M1 => match x with
  | .d (.str a) => (fe ρ M1).bind fun y M2 => match y with
    | .ro _ => .bad
    | y => ofO (joinT a y M2) M2
  | _ => .bad
theorem se_join (ho : SE X xa o fo) (he : SE X xa e fe) (hs : starEach [e] X.env = [(false, eval e X.env)]) (hb : attributeBase o "join" X.env (eval o X.env) = eval o X.env) (hline : (apos.endLine == pos.line) = true) : SE X xa (.Call (.Attribute o "join" apos) [e] [] pos) (fJoin fo fe) := fun W tk =>
  PE.weak (pe_join (ho W tk) (he W tk) hs hb hline) fun σ H Q h => by
    obtain ⟨φ, ρ, M, env, sto, h⟩ := h
    refine ⟨φ, ρ, M, env, sto, RP.bind h fun φ1 H1 x M1 v s1 e1 r1 h1 => ?_⟩
    split at h1
    · rename_i a
      cases drS r1
      refine ⟨⟨a, rfl⟩, φ1, ρ, M1, env.ext e1, s1, RP.bind h1 fun φ2 H2 y M2 w s2 e2 r2 h2 => ?_⟩
      split at h2
      · exact h2.elim
      · obtain ⟨z, hz, h3⟩ := RP.ofO h2
        unfold joinT at hz
        obtain ⟨xs, hx, hz⟩ := Option.bind_eq_some_iff.mp hz
        obtain ⟨ys, hy, hz⟩ := Option.bind_eq_some_iff.mp hz
        split at hz
        · rename_i c
          cases hz
          obtain ⟨p, vs, rfl, k1, k2⟩ := sqn_ok s2 r2 hx
          have := strsOf_ok hy k2
          subst this
          exact ⟨a, p, ys, rfl, rfl, k1, c, h3 φ2 H2 _ s2 .refl vrS⟩
        · cases hz
    · exact h1.elim
/-! ### f-strings -/
def fFmt (fe : RF Vl) : RF Vl := fun ρ M => (fe ρ M).bind fun x M1 => match x with
  | .d (.str y) => if y.length ≤ sizeLine then .ok (.d (.str y)) M1 else .bad
  | .d (.int i) => if i.natAbs.log2 < 1920 then .ok (.d (.str (toString i))) M1 else .bad
  | _ => .bad
theorem se_fmt (he : SE X xa e fe) : SE X xa (.FormattedValue e (-1) none pos) (fFmt fe) := fun W tk =>
  PE.weak (pe_fmt (he W tk)) fun σ H Q h => by
    obtain ⟨φ, ρ, M, env, sto, h⟩ := h
    refine ⟨φ, ρ, M, env, sto, RP.bind h fun φ1 H1 x M1 v s1 e1 r1 h1 => ?_⟩
    split at h1
    · rename_i y
      cases drS r1
      split at h1
      · rename_i c
        exact .inl ⟨y, rfl, c, h1 φ1 H1 _ s1 .refl vrS⟩
      · exact h1.elim
    · rename_i i
      cases drI r1
      split at h1
      · rename_i c
        exact .inr ⟨i, rfl, c, h1 φ1 H1 _ s1 .refl vrS⟩
      · exact h1.elim
    · exact h1.elim
def fJs : List (RF Vl) → Str → RF Vl
  | [], acc => fun _ M => .ok (.d (.str acc)) M
  | f :: fs, acc => fun ρ M => (f ρ M).bind fun x M1 => match x with
    | .d (.str y) => if (acc ++ y).length ≤ sizeLine then fJs fs (acc ++ y) ρ M1 else .bad
    | _ => .bad
inductive SJ (X : Cx) (xa : XA) : List Expr → List (RF Vl) → Prop where
  | nil : SJ X xa [] []
  | cons {e : Expr} {f : RF Vl} {es : List Expr} {fs : List (RF Vl)} (h : SE X xa e f) (r : SJ X xa es fs) : SJ X xa (e :: es) (f :: fs)
theorem SJ.pj {es : List Expr} {fs : List (RF Vl)} (h : SJ X xa es fs) {W : WQ} (tk : Tk X W) : PJ X es (fs.map (tEx X.K xa W)) := by
  induction h with
  | nil => exact .nil
  | cons h _ ih => exact .cons (h W tk) ih
theorem fJs_read {K : PySem.W.Frag} {W : WQ} {σ : L2.St} : ∀ (fs : List (RF Vl)) (acc : Str) (H : Hp) (Q : VK), tEx K xa W (fJs fs acc) σ H Q → tJs (fs.map (tEx K xa W)) acc σ H fun out H1 => Q (.str out) H1
  | [], acc, H, Q, h => by
    obtain ⟨φ, ρ, M, env, sto, h⟩ := h
    exact h φ H _ sto .refl vrS
  | f :: fs, acc, H, Q, h => by
    obtain ⟨φ, ρ, M, env, sto, h⟩ := h
    refine ⟨φ, ρ, M, env, sto, RP.bind h fun φ1 H1 x M1 v s1 e1 r1 h1 => ?_⟩
    split at h1
    · rename_i y
      cases drS r1
      split at h1
      · rename_i c
        exact ⟨y, rfl, c, fJs_read fs (acc ++ y) H1 Q ⟨φ1, ρ, M1, env.ext e1, s1, h1⟩⟩
      · exact h1.elim
    · exact h1.elim
theorem se_joined {v1 v2 : Expr} {rest : List Expr} {fs : List (RF Vl)} (h : SJ X xa (v1 :: v2 :: rest) fs) : SE X xa (.JoinedStr (v1 :: v2 :: rest) pos) (fJs fs Str.empty) := fun W tk =>
  PE.weak (pe_joined (h.pj tk)) fun σ H Q q => fJs_read fs Str.empty H Q q
end

/-! ### a, *b = row -/
def gStar (K : PySem.W.Frag) (t : TGs) : TG := fun v σ H Q => ∃ a x xs, v = .ref a ∧ SqL K H a (x :: xs) ∧ (x :: xs).length ≤ 16384 ∧ ∀ p, H p = none → t [x, .ref p] σ (upd H p (.lst xs)) Q
section
variable {X : Cx} {pos sp : Pos}
theorem pg_star {t0 t1 : Expr} {k : Nat} {t : TGs} (hc : X.calm = true) (h : PGs X [t0, t1] t) (e1 : (assignEach [t0, .Starred t1 sp] X.env).map (·.2) = (assignEach [t0, t1] X.env).map (·.2))
    (hn : (assignEach [t0, .Starred t1 sp] X.env).length = 2) (hst : (assignEach [t0, .Starred t1 sp] X.env).findIdx? (·.1) = some 1) : PG X (.Tuple [t0, .Starred t1 sp] k pos) (gStar X.K t) := by
  refine ⟨fun pins s σ H v u Q I r hw => ?_⟩
  obtain ⟨l, x, xs, rfl, hq, hl, hw⟩ := hw
  cases r
  obtain ⟨its, rv, pl, hz⟩ := I.list hq
  have hL := pl.isList
  cases rv with
  | @cons _ y _ ys ry rys =>
  have hlen : ys.length = xs.length := rys.length.symm
  have hll : (y :: ys).toArray.size = xs.length + 1 := by simp [hlen]
  have hh := I.ok.hd hc
  rw [PyProof.Rows.assign_Tuple]
  refine wpAny_bind (wpAny_standAt ?_)
  unfold unpack
  rw [hn, hst, e1]
  refine wpAny_bind (wpAny_holding ?_)
  have hlt : l ≠ s.heap.objs.size := by obtain ⟨o, ho, _⟩ := hL; exact Nat.ne_of_lt (Heap.lt_size ho)
  unfold unpackItems
  refine wpAny_bind ?_
  unfold notIterableAtAll
  refine wpAny_bind (wpAny_specialOf hL.typeIs slot_list_iter.lookup ?_)
  refine wpAny_pure ?_
  simp only [Bool.false_eq_true, if_false]
  refine wpAny_bind (wpAny_holding (wpAny_pyIter_list hL ?_))
  refine wpAny_bind (wpAny_holding (PySem.W.kun_draw hlt 1 0 _ _ ⟨_, Heap.get?_push_size _ rfl, rfl, rfl⟩ (hL.push _) (by omega) fun h₁ hit₁ hs₁ => ?_))
  have hl₁ : h₁.IsList l (y :: ys).toArray := (hL.push _).extBut hs₁.extBut hlt
  rw [Nat.zero_add] at hit₁
  have hit₁' := hit₁
  obtain ⟨oi, hoi, _⟩ := hit₁'
  have hl₁' := hl₁
  obtain ⟨ol, hol, _⟩ := hl₁'
  rw [List.drop_zero]
  show wpAny _ _ (if [y].length < 1 then _ else _) _ _ _
  rw [if_neg (show ¬ ([y].length < 1) by simp)]
  refine wpAny_bind (wpAny_holding (PySem.W.kun_collect (s := { s with heap := h₁ }) (T := "list_iterator") (.inr (.inr (.inl rfl))) (Walks.list (A := X.A.in1) hh s.heap.objs.size l hlt (y :: ys).toArray) (fun j u st => st.1.typeIs) (k := 1) (by omega) ⟨hit₁, hl₁⟩ (Heap.lt_size hoi) (Heap.lt_size hol) (fun h₂ tk hk => ?_) (by rw [hll]; simp only [List.length_cons] at hl; simp only [sizeLine]; omega)))
  have he : ∀ b o, s.heap.get? b = some o → h₂.get? b = some o := fun b o e => hk b o (Nat.ne_of_lt (Heap.lt_size e)) (hs₁.extBut b o (Nat.ne_of_lt (Heap.lt_size e)) (Heap.get?_push_of_some _ e))
  show wpAny _ _ (if ys.length < 0 then _ else _) _ _ _
  rw [if_neg (Nat.not_lt_zero _)]
  show wpAny _ _ (newList (ys.take (ys.length - 0)) >>= fun d => pure ([y] ++ [d] ++ ys.drop (ys.length - 0))) _ _ _
  rw [Nat.sub_zero, List.take_length, List.drop_length]
  have I1 : Inv X pins σ H { s with heap := h₂, toks := tk } := I.kept he
  refine wpAny_bind (wpAny_newList (s := { s with heap := h₂, toks := tk }) (wpAny_pure ?_))
  have hp := I1.hok.fresh (Nat.le_refl _)
  have I2 : Inv X pins σ (upd H h₂.objs.size (.lst xs)) { s with heap := h₂.push { cls := .type "list", data := .seq ys.toArray }, toks := tk } :=
    I1.laid (t' := tk) (fun b u q => Heap.get?_push_of_some _ q) (Nat.le_refl _) ⟨by simp only [List.length_cons] at hl; simp only [sizeLine]; omega, ys, _, rys, Heap.get?_push_size _ rfl⟩
  exact h.run pins _ σ _ [x, .ref h₂.objs.size] [y, .ref h₂.objs.size] Q I2 (.cons ry (.cons rfl .nil)) (hw _ hp)
end

def fUnst (i j : Nat) (fe : RF Vl) : SF := fun ρ M => (fe ρ M).then ρ fun x M1 => match lsq x M1 with
  | some (y :: ys) => if (y :: ys).length ≤ 16384 then .nx ((ρ.set i (some (.d y))).set j (some (.d (.list ys)))) M1 else .bad
  | _ => .bad
/-! ### str(x) -/
def strG : BF
  | [.d (.int i)], M => if i.natAbs.log2 < 1920 then some (.d (.str (toString i)), M) else none
  | [.d (.str a)], M => some (.d (.str a), M)
  | _, _ => none
section
variable {X : Cx} {xa : XA}
theorem cr_str : CallR X (.type "str") (CRr X.K xa strG) := by
  intro pins s σ H xs us Q I rs ⟨φ, M, as, z, M', st, ra, hz, q⟩
  unfold strG at hz
  split at hz
  · split at hz
    · rename_i _ i c
      cases hz
      obtain ⟨v, rfl, r⟩ := vrs1 ra
      cases drI r
      exact call_str_int pins s σ H _ us Q I rs ⟨i, rfl, c, q φ H _ st .refl vrS⟩
    · cases hz
  · rename_i _ a
    cases hz
    obtain ⟨v, rfl, r⟩ := vrs1 ra
    cases drS r
    exact SkE.call_str_str pins s σ H _ us Q I rs ⟨a, rfl, q φ H _ st .refl vrS⟩
  · cases hz
end
/-! ### tables of the text: dicts whose keys are texts -/
structure TabOk (K : PySem.W.Frag) (w : World) (a : Addr) (kvs : List (Str × D)) : Prop where
  ex : ∃ es n, K.lookup a = some ⟨.type "dict", none, .dict es n, #[]⟩ ∧ PySem.W.KeysLit w.params es.toList
  low : (a == sysModules) = false
  hit : ∀ x d, kvs.lookup x = some d → ∃ u v, PySem.W.nsIn K a x = some (some u) ∧ RelV v u ∧ ∀ φ H, DR K φ H d v
  miss : ∀ x, kvs.lookup x = none → PySem.W.nsIn K a x = some none
def fCdix (kvs : List (Str × D)) (fe : RF Vl) : RF Vl := fun ρ M => (fe ρ M).bind fun x M1 => match x with
  | .d (.str z) => match kvs.lookup z with
    | some d => .ok (.d d) M1
    | none => .bad
  | _ => .bad
def fCdin (kvs : List (Str × D)) (fe : RF Vl) : RF Bool := fun ρ M => (fe ρ M).bind fun x M1 => match x with
  | .d (.str z) => .ok (kvs.lookup z).isSome M1
  | _ => .bad
abbrev rKin (K : PySem.W.Frag) (w : World) : R2 := fun x y H Q => ∃ (p : Addr) (z : Str) (es : Array DictEntry) (n : Nat) (r : Option Value), x = .str z ∧ y = .ref p ∧ K.lookup p = some ⟨.type "dict", none, .dict es n, #[]⟩ ∧ PySem.W.KeysLit w.params es.toList ∧ PySem.W.nsIn K p z = some r ∧ (p == sysModules) = false ∧ Q (.bl r.isSome) H
section
variable {X : Cx} {xa : XA} {e : Expr} {fe : RF Vl} {x : Str} {a : Addr} {kvs : List (Str × D)} {p pos : Pos}
theorem op_kin : OpR X (compareOp .In) (rKin X.K X.w) := by
  intro pins s σ H x y v u Q I rx ry h
  obtain ⟨p, z, es, n, r, rfl, rfl, hl, hk, hr, low, q⟩ := h
  obtain ⟨t, rfl⟩ := rx
  cases ry
  refine wpAny_in_of (strKind_is X.prog X.w z t) low (PySem.W.mapOf_K (prog := X.prog) (w := X.w) I.kIn hl hk) ?_
  rw [PySem.W.find_K hl hr]
  exact ⟨.bl _, H, I.tok _, rfl, q⟩
theorem se_cdix (hc : X.calm = true) (hg : Gl X x) (hm : X.mg x = some (.ref a)) (hd : (x == ("__debug__" : Str)) = false) (ht : TabOk X.K X.w a kvs) (he : SE X xa e fe) (hs : PlainIx e) : SE X xa (.Subscript (.Name x p) e pos) (fCdix kvs fe) := fun W tk =>
  PE.weak (pe_ixDX hc tk (pe_glob hg hm (v := .ref a) rfl hd) (he W tk) hs) fun σ H Q h => by
    obtain ⟨φ, ρ, M, env, sto, h⟩ := h
    refine ⟨φ, ρ, M, env, sto, RP.bind h fun φ1 H1 y M1 v s1 e1 r1 h1 => ?_⟩
    split at h1
    · rename_i z
      cases drS r1
      split at h1
      · rename_i d hd'
        obtain ⟨u, w, k1, k2, k3⟩ := ht.hit z d hd'
        obtain ⟨es, n, k4, k5⟩ := ht.ex
        exact ⟨a, z, rfl, rfl, .inl ⟨w, ⟨es, n, u, k4, k5, k1, k2⟩, h1 φ1 H1 w s1 .refl (k3 φ1 H1)⟩⟩
      · exact h1.elim
    · exact h1.elim
theorem st_cdin (hg : Gl X x) (hm : X.mg x = some (.ref a)) (hd : (x == ("__debug__" : Str)) = false) (ht : TabOk X.K X.w a kvs) (he : SE X xa e fe) : ST X xa (.Compare e [.In] [.Name x p] pos) (fCdin kvs fe) := fun W tk =>
  PT.weak (pt_cmpR op_kin (he W tk) (pe_glob hg hm (v := .ref a) rfl hd) (by rfl)) fun σ H Q h => by
    obtain ⟨φ, ρ, M, env, sto, h⟩ := h
    refine ⟨φ, ρ, M, env, sto, RP.bind h fun φ1 H1 y M1 v s1 e1 r1 h1 => ?_⟩
    split at h1
    · rename_i z
      cases drS r1
      obtain ⟨es, n, k4, k5⟩ := ht.ex
      cases hk : kvs.lookup z with
      | none =>
        rw [hk] at h1
        exact ⟨a, z, es, n, none, rfl, rfl, k4, k5, ht.miss z hk, ht.low, false, rfl, h1 φ1 H1 false s1 .refl rfl⟩
      | some d =>
        rw [hk] at h1
        obtain ⟨u, w, k1, k2, k3⟩ := ht.hit z d hk
        exact ⟨a, z, es, n, some u, rfl, rfl, k4, k5, k1, ht.low, true, rfl, h1 φ1 H1 true s1 .refl rfl⟩
    · exact h1.elim
end

/-! ### a display of a dict: texts to texts -/
def fDd (kvs : List (Str × Str)) : RF Vl := fun _ M => .ok (.fz (.dct (kvs.map fun p => (.inr p.1, .str p.2)))) M
theorem upd_upd {H : Hp} {p : Addr} {a b : HO} : upd (upd H p a) p b = upd H p b := by
  funext x
  by_cases h : x = p
  · subst h; rw [upd_same, upd_same]
  · rw [upd_ne h, upd_ne h, upd_ne h]
theorem merge_app : ∀ (l acc : List (Key × V)), (l.map (·.1)).Nodup → (∀ k ∈ l.map (·.1), k ∉ acc.map (·.1)) → mergeK acc l = acc ++ l
  | [], acc, _, _ => by simp [mergeK]
  | p :: l, acc, hn, hd => by
    simp only [List.map_cons, List.nodup_cons] at hn
    have h0 := hd p.1 (by simp)
    have e : L2.putK acc p.1 p.2 = acc ++ [p] := by
      unfold L2.putK
      have : (acc.any fun kv => decide (kv.1 = p.1)) = false := by
        rw [List.any_eq_false]
        intro q hq z
        exact h0 (List.mem_map.mpr ⟨q, hq, of_decide_eq_true z⟩)
      rw [this]
      simp
    have ih := merge_app l (acc ++ [p]) hn.2 fun k hk z => by
      rw [List.map_append, List.mem_append] at z
      rcases z with z | z
      · exact hd k (by simp only [List.map_cons, List.mem_cons]; exact .inr hk) z
      · simp only [List.map_cons, List.map_nil, List.mem_singleton] at z
        subst z
        exact hn.1 hk
    unfold mergeK at ih ⊢
    rw [List.foldl_cons, e, ih]
    simp
section
variable {X : Cx} {xa : XA} {pos : Pos}
theorem pps_txt : ∀ (kvs : List (Str × Str)) (keys : List (Option Expr)) (values : List Expr), keys.length = kvs.length → values.length = kvs.length → (∀ (i : Nat) (p : Str × Str), kvs[i]? = some p → ∃ kx vx, keys[i]? = some (some kx) ∧ values[i]? = some vx ∧ PE X kx (tC (.str p.1)) ∧ PE X vx (tC (.str p.2))) →
    PPs X pos keys values (kvs.map fun p => (tC (V.str p.1), tC (V.str p.2)))
  | [], keys, values, h1, h2, _ => by
    cases List.length_eq_zero_iff.mp h1
    cases List.length_eq_zero_iff.mp h2
    exact pps_nil
  | p :: kvs, keys, values, h1, h2, h => by
    cases keys with
    | nil => simp at h1
    | cons k keys =>
      cases values with
      | nil => simp at h2
      | cons v values =>
        obtain ⟨kx, vx, e1, e2, e3, e4⟩ := h 0 p rfl
        simp only [List.getElem?_cons_zero, Option.some.injEq] at e1 e2
        subst e1 e2
        exact pps_cons e3 e4 (pps_txt kvs keys values (by simpa using h1) (by simpa using h2) fun i q hq => by
          obtain ⟨kx, vx, f1, f2, f3, f4⟩ := h (i + 1) q (by simpa using hq)
          exact ⟨kx, vx, by simpa using f1, by simpa using f2, f3, f4⟩)
theorem pairs_txt {σ : L2.St} : ∀ (kvs : List (Str × Str)) (H : Hp) (Q : List (V × V) → Hp → Prop), Q (kvs.map fun p => (V.str p.1, V.str p.2)) H → tPairs (kvs.map fun p => (tC (V.str p.1), tC (V.str p.2))) σ H Q
  | [], _, _, h => h
  | p :: kvs, H, Q, h => pairs_txt kvs H (fun ps H3 => Q ((V.str p.1, V.str p.2) :: ps) H3) h
theorem drs_vals {K : PySem.W.Frag} {φ : Fm} {H : Hp} (kvs : List (Str × Str)) : DRs K φ H ((kvs.map fun p => ((.inr p.1, .str p.2) : Key × D)).map (·.2)) ((kvs.map fun p => ((.inr p.1, V.str p.2) : Key × V)).map (·.2)) := by
  have := drs_strs (K := K) (φ := φ) (H := H) (kvs.map (·.2))
  simpa [List.map_map, Function.comp_def] using this
theorem se_dd {kvs : List (Str × Str)} {keys : List (Option Expr)} {values : List Expr} (hk : keys.length = kvs.length) (hv : values.length = kvs.length) (h0 : keys ≠ []) (h15 : keys.length ≤ 15) (hnd : (kvs.map (·.1)).Nodup)
    (h : ∀ (i : Nat) (p : Str × Str), kvs[i]? = some p → ∃ kx vx, keys[i]? = some (some kx) ∧ values[i]? = some vx ∧ PE X kx (tC (.str p.1)) ∧ PE X vx (tC (.str p.2))) : SE X xa (.Dict keys values pos) (fDd kvs) := fun W tk =>
  PE.weak (pe_disp (pps_txt kvs keys values hk hv h) (by
    rw [List.all_eq_true]
    intro k hk'
    obtain ⟨i, hi, rfl⟩ := List.getElem_of_mem hk'
    have hi' : i < kvs.length := by omega
    obtain ⟨kx, vx, e1, _⟩ := h i kvs[i] (List.getElem?_eq_getElem hi')
    rw [List.getElem?_eq_getElem hi] at e1
    rw [Option.some.inj e1]; rfl) (by omega) h0 h15) fun σ H Q q => by
    obtain ⟨φ, ρ, M, env, sto, q⟩ := q
    intro p hp
    refine pairs_txt kvs _ _ ⟨upd_same, kvs.map fun p => (.inr p.1, V.str p.2), by simp [List.map_map, Function.comp_def, kV], by rw [List.length_map]; omega, ?_⟩
    have hm : mergeK [] (kvs.map fun p => ((.inr p.1, V.str p.2) : Key × V)) = kvs.map fun p => (.inr p.1, V.str p.2) := by
      rw [merge_app _ [] (by
        rw [List.map_map]
        have : (fun x : Key × V => x.1) ∘ (fun p : Str × Str => ((.inr p.1, V.str p.2) : Key × V)) = Sum.inr ∘ (·.1) := rfl
        rw [this, ← List.map_map]
        exact List.Pairwise.map _ (fun _ _ e z => e (Sum.inr.inj z)) hnd) (fun _ _ z => by cases z), List.nil_append]
    rw [upd_upd, hm]
    exact q φ _ (.ref p) (sto.new hp trivial) (Ext.new sto hp) ⟨p, _, rfl, upd_same, fun z => sto.mem z.1 hp, by simp [List.map_map, Function.comp_def], drs_vals kvs⟩
end

section
variable {X : Cx} {xa : XA} {e : Expr} {fe : RF Vl} {i j kk : Nat} {a b : Str} {pa pb sp tp pos : Pos}
theorem ss_unst (hc : X.calm = true) (hN : X.N.Nodup) (hi : X.N[i]? = some a) (hj : X.N[j]? = some b) (la : Loc X.env.scope a) (lb : Loc X.env.scope b) (fa : X.fn a = true ∨ X.env.scope.names.lookup a = some .local) (fb : X.fn b = true ∨ X.env.scope.names.lookup b = some .local)
    (he : SE X xa e fe) (hs : swapsWithSole [.Tuple [.Name a pa, .Starred (.Name b pb) sp] kk tp] e pos.line X.env = pure false) (hw : swappedStores [.Tuple [.Name a pa, .Starred (.Name b pb) sp] kk tp] e X.env = pure none) :
    SS X xa (.Assign [.Tuple [.Name a pa, .Starred (.Name b pb) sp] kk tp] e pos) (fUnst i j fe) := fun W tk =>
  PS.weak (ps_asg (he W tk) (pg_star hc (pgs_cons (pg_name hN hi la fa) (pgs_cons (pg_name hN hj lb fb) pgs_nil)) rfl rfl rfl) hs hw rfl) fun D σ H h => by
    obtain ⟨φ, ρ, M, env, sto, h⟩ := h
    refine ⟨φ, ρ, M, env, sto, then_read env h fun φ1 H1 x M1 v s1 e1 env1 r1 h1 => ?_⟩
    split at h1
    · rename_i y ys hx
      split at h1
      · rename_i hl
        obtain ⟨p, vs, rfl, k1, k2⟩ := lsq_ok s1 r1 hx
        have hlen := k2.length
        simp only [DRs] at k2
        obtain ⟨w, ws, rfl, k3, k4⟩ := k2
        have hl' : ws.length ≤ sizeLine := by simp only [List.length_cons] at hl hlen; simp only [sizeLine]; omega
        refine ⟨p, w, ws, rfl, SqL.of k1, by rw [hlen]; exact hl, fun q hq => ⟨w, [.ref q], rfl, ⟨.ref q, [], rfl, ⟨rfl, ?_⟩⟩⟩⟩
        have ex := Ext.new (o := .lst ws) s1 hq
        exact h1 φ1 _ _ (s1.new hq hl') ex (((env1.ext ex).set (VR.ext (x := .d _) ex k3)).set (vrL s1 hq k4))
      · exact h1.elim
    · exact h1.elim
end
end TL

namespace TL
open PySem PySem.Spec
open PyProof.Rows L2

/-! ### an error that leaves a comprehension -/
section
variable {M : Model} {A : Around} {E : Value → Shared → Prop} {s : Shared} {env : Env}
/-- a comprehension's end: its value, or an error that is passed on by its own frame -/
def cEnd (M : Model) (A : Around) (E : Value → Shared → Prop) (Q : Value → Shared → Prop) (acc : Value) (ce : Env) (r : Result) (t : Shared) : Prop :=
  ∃ m, t.heap.Ns ce.locals m ∧ ∀ h', Heap.SameBut ce.locals t.heap h' → match r with
    | .ok _ => Q acc { t with heap := h' }
    | .error x => wpAny M A (passOn "comprehension.variables-let-go" x ce : Sem Value) (fun _ _ => False) E { t with heap := h' }
theorem comp_own {e : Expr} {scope : Scope} {pos : Pos} {mk src : Sem Value} {g : Comprehension} {gs : List Comprehension} {cl : List (Str × Addr)} {Q : Value → Shared → Prop}
    (h1 : clausesOf e = g :: gs) (h2 : ∀ x, foldedSetIterable g.iter env x = pure x) (h3 : closureFor scope env = pure cl)
    (h4 : scope.kind = .function) (h5 : ∀ x ∈ scope.names, x.2 = .local → scope.names.lookup x.1 = some .local)
    (h : wpAny M A src (fun x t1 => wpAny M A (pyIter x) (fun it t2 => wpAny M A mk (fun acc t3 =>
      wpAny M A (newFunctionEnv scope env.globals cl [] env.qual none .none (some env)) (fun c0 t4 =>
        codeAny M A (.compStart e 0 it acc { c0 with scope := relabel scope env }) (cEnd M A E Q acc { c0 with scope := relabel scope env }) t4) E t3) E t2) E t1) E s) :
    wpAny M A (comprehension e scope env pos mk false src none) Q E s := by
  unfold comprehension
  rw [h3, h1]
  refine wpAny_bind (wpAny_mono h (fun x t1 k1 => ?_) fun _ _ z => z)
  refine wpAny_bind (wpAny_standAt (wpAny_bind (wpAny_of_eq (h2 x) (wpAny_bind (wpAny_holding (wpAny_mono k1 (fun it t2 k2 => ?_) fun _ _ z => z))))))
  refine wpAny_standIf (wpAny_bind (wpAny_mono k2 (fun acc t3 k3 => ?_) fun _ _ z => z))
  refine wpAny_bind (wpAny_pure (wpAny_bind (wpAny_mono k3 (fun c0 t4 k4 => ?_) fun _ _ z => z)))
  dsimp only
  have kd : ∀ x ∈ (scope.names.filter fun x => (x.2 == .local || x.2 == .cell) && x.1 != (".0" : Str)).reverse, x.2 = .local → Env.kindOf { c0 with scope := relabel scope env } x.1 = some .local := fun x hx hl =>
    lookup_relabel_local (h5 x (List.mem_filter.mp (List.mem_reverse.mp hx)).1 hl)
  refine wpAny_holding (wpAny_bind (wpAny_attempt (wpAny_holding (wpAny_run (codeAny_mono k4 fun r t5 k5 => ?_)))))
  obtain ⟨m, k6, k7⟩ := k5
  cases r with
  | ok f =>
    refine wpAny_bind (wpAny_holding (wpAny_comp_letGo (cenv := { c0 with scope := relabel scope env }) h4 _ t5 m kd k6 fun h' m' _ k8 => ?_))
    exact wpAny_pure (k7 h' k8)
  | error x =>
    refine wpAny_bind (wpAny_holding (wpAny_comp_letGo (cenv := { c0 with scope := relabel scope env }) h4 _ t5 m kd k6 fun h' m' _ k8 => ?_))
    exact wpAny_mono (k7 h' k8) (fun _ _ f => f.elim) fun _ _ y => y
end
/-! the frame notes it once more -/
section
variable {M : Model} {A : Around} {E : Value → Shared → Prop} {s : Shared} {Z : Obj → Prop} {base : Heap} {env : Env} {outer : List Env} {L e : Addr}
theorem note_any {v : Value} {Q : Unit → Shared → Prop} (hZ : HandSPX.Steady Z) (hfr : A.frames = some (env :: outer)) (hf : env.frame = some L) (hv : (v == rawInt L) = false)
    (hkb : base.StaysIn s.heap) (hen : base.get? e = none) (hl : s.heap.FunFrames base (env :: outer)) (tr : HandSPX.TracedZ s.heap base e Z v)
    (hQ : ∀ h', HandSPX.HeldZ base (env :: outer) e Z L h' → s.heap.UpToSlots h' → Q () { s with heap := h' }) : wpAny M A (noteFrame (.ref e) env) Q E s := by
  obtain ⟨oe, vs, T, oT, ts, he, hz, hd, h1, hnT, hTe, hT, hdT, h3⟩ := tr
  unfold noteFrame
  simp only [hf]
  refine wpAny_bind (wpAny_field he hd h1 ?_)
  rw [if_pos (by simp : (Value.ref T != Value.none) = true)]
  refine wpAny_bind (wpAny_field hT hdT h3 ?_)
  rw [hv, if_neg Bool.false_ne_true]
  refine wpAny_bind (wpAny_setField hT hdT (Array.getElem?_eq_some_iff.mp h3).1 ?_)
  have oth : ∀ b, b ≠ T → (s.heap.update T (Obj.mapFields (·.setIfInBounds 3 Value.none))).get? b = s.heap.get? b := fun b hb =>
    Heap.get?_update_other _ _ (Ne.symm hb)
  have nr : ∀ b o, s.heap.get? b = some o → (∀ ws, o.data ≠ .fields ws) → b ≠ T := fun b o hb hnf q => by
    subst q
    rw [hT] at hb
    injection hb with hb
    exact hnf ts (hb ▸ hdT)
  refine HandSPX.wpAny_entryZ hZ hfr (hl.of_keeps fun b o hb hnf => ⟨o, (oth b (nr b o hb hnf)).trans hb, rfl⟩) hf ((oth e (Ne.symm hTe)).trans he) (fun b o hbo => ?_) hen hd (Array.getElem?_eq_some_iff.mp h1).1 hz fun h' hN => ?_
  · exact (oth b fun q => by rw [q, hnT] at hbo; cases hbo).trans (hkb b o hbo)
  · obtain ⟨x1, x2, x3, x4⟩ := hN
    exact hQ h' ⟨x1, hen, x2, x3⟩ fun b o hb hnf => x4 b o ((oth b (nr b o hb hnf)).trans hb) hnf
theorem Sky.held {B : Heap} {C : Addr} {Q : Unit → Shared → Prop} (hZ : HandSPX.Steady Z) (hfr : A.frames = some (env :: outer)) (hf : env.frame = some L) (hC : C ≠ L) (x : Sky B (env :: outer) e Z C s.heap)
    (hQ : ∀ h', HandSPX.HeldZ B (env :: outer) e Z L h' → s.heap.UpToSlots h' → Q () { s with heap := h' }) : wpAny M A (noteFrame (.ref e) env) Q E s := by
  rcases x with ⟨hB, hn, hl, oe, vs, he, hz, hd, h1⟩ | ⟨f1, f2, f3, f4⟩ | ⟨f1, f2, f3, f4⟩
  · exact HandSPX.look_newZ hZ hfr hl hf he hB hn hd h1 hz hQ
  · exact note_any hZ hfr hf (by simp [rawInt]) f1 f2 f3 f4 hQ
  · have nC : (C : Int) ≠ (L : Int) := fun h => hC (Int.ofNat_inj.mp h)
    exact note_any hZ hfr hf (by simp [rawInt, nC]) f1 f2 f3 f4 hQ
end

/-! the block's context with a wish about errors -/
section
variable {X : Cx} {pins : List (Addr × Obj)} {σ : L2.St} {H : Hp} {s : Shared}
abbrev Cx.wish (Y : Cx) (xe : Value → Shared → Prop) : Cx := { Y with xe := xe }
theorem Inv.wish {Y : Cx} (xe : Value → Shared → Prop) (I : Inv Y pins σ H s) : Inv (Cx.wish Y xe) pins σ H s :=
  ⟨⟨I.ok.mod, I.ok.kind, I.ok.glob, I.ok.blt, I.ok.above, I.ok.inj, I.ok.has, I.ok.cab, I.ok.hd, I.ok.frames, I.ok.stk, I.ok.exf, I.ok.bs, I.ok.bsz, I.ok.noex, I.ok.exfs, I.ok.funs, I.ok.frf⟩,
    I.os, I.bare, I.base, I.loc, I.cell, I.free, I.freeC, I.pin, I.hok, I.len⟩
theorem Inv.unwish {Y : Cx} {xe : Value → Shared → Prop} (I : Inv (Cx.wish Y xe) pins σ H s) : Inv Y pins σ H s := Inv.wish (Y := Cx.wish Y xe) Y.xe I
theorem frames_same {base h h' : Heap} : ∀ {l : List Env}, h.FunFrames base l → (∀ b ∈ frs l, h'.get? b = h.get? b) → h'.FunFrames base l
  | [], _, _ => trivial
  | env :: l, x, k => by
    obtain ⟨hk, ⟨L, o, hf, hn, ho, hd⟩, hr⟩ := x
    refine ⟨hk, ⟨L, o, hf, hn, (k L (List.mem_filterMap.mpr ⟨env, List.mem_cons_self, hf⟩)).trans ho, hd⟩, frames_same hr fun b hb => ?_⟩
    obtain ⟨e, he, q⟩ := List.mem_filterMap.mp hb
    exact k b (List.mem_filterMap.mpr ⟨e, List.mem_cons_of_mem _ he, q⟩)
/-- an error in a block's air, noted by the def's frame: the block's names let go, it is passed on in the def's own air -/
theorem blk_out {scope : Scope} {ce : Env} {fp : List Addr} {W W' : WX} {s3 : Shared} {H3 : Hp} {xe : Value → Shared → Prop} {u : Value} {t : Shared} {Q : Value → Shared → Prop} {acc : Value}
    (hs : X.stack = X.env :: X.outer) (hf : X.env.frame = some X.env.locals) (hcf : ce.frame = X.env.frame) (hcl : ce.locals = s3.heap.objs.size) (tk : Takes X W) (I3 : Inv X pins σ H3 s3)
    (hfp : ∀ b ∈ fp, FpOk X pins H3 b) (hW : ∀ cls d σ' H', W' cls d σ' H' → W cls d σ H')
    (x : XE (Cx.wish (X.blk s3 H3 scope ce fp) xe) W' u t) : notedBy (model X.prog X.w) X.A ce (fun e t' => cEnd (model X.prog X.w) X.A X.xe Q acc ce (.error e) t') u t := by
  obtain ⟨a, B, sI, pinsb, σb, Hb, cls, d, rfl, Ib, nb, up, sky, na, os, ag, w⟩ := x
  have I6 : Inv (X.blk s3 H3 scope ce fp) pinsb σb Hb sI := Inv.unwish Ib
  have nb : ∀ b o, sI.heap.get? b = some o → b ∉ frs X.stack → B.get? b = some o := nb
  have hlt : X.env.locals < s3.heap.objs.size := I3.lt
  have hCL : ce.locals ≠ X.env.locals := by rw [hcl]; exact Nat.ne_of_gt hlt
  have hCfr : ce.locals ∉ frs X.stack := fun hm => by
    rcases List.mem_cons.mp (I3.stkSub _ hm) with z | z
    · exact hCL z
    · exact I3.nofs (Nat.le_of_eq hcl.symm) z
  have nC : Hb ce.locals = none := I6.free
  have hfr : X.A.frames = some (X.env :: X.outer) := by rw [I3.ok.frames, hs]
  have sky : Sky B X.stack a (Zc cls d) ce.locals t.heap := sky
  show wpAny (model X.prog X.w) X.A (noteFrame (.ref a) ce) _ _ _
  rw [show noteFrame (.ref a) ce = noteFrame (.ref a) X.env by unfold noteFrame PySem.frameOf; rw [hcf]]
  refine Sky.held Zc.steady hfr hf hCL (by rw [← hs]; exact sky) fun h1 hh up1 => ?_
  obtain ⟨g1, g2, g3, g4⟩ := hh
  -- the block's names stand as they stood
  have J : Inv (X.blk s3 H3 scope ce fp) pinsb σb Hb { t with heap := h1 } := I6.landed nb g1 (up.trans up1) os ag
  obtain ⟨m, hm, _⟩ := J.loc
  refine ⟨m, hm, fun h2 sb => ?_⟩
  have same : ∀ b, b ≠ ce.locals → h2.get? b = h1.get? b := sb.2
  -- without the block's own dict
  let B2 : Heap := PySem.W.hideAll B [ce.locals]
  have b2 : ∀ b o, B2.get? b = some o → B.get? b = some o ∧ b ≠ ce.locals := fun b o e => ⟨PySem.W.of_hideAll _ e, fun z => by
    have := PySem.W.hideAll_none (h := B) [ce.locals] (b := b) (by simp [z])
    rw [show B2.get? b = (PySem.W.hideAll B [ce.locals]).get? b from rfl, this] at e
    cases e⟩
  have b2n : ∀ b, B.get? b = none → B2.get? b = none := fun b e => by
    cases q : B2.get? b with
    | none => rfl
    | some o => rw [(b2 b o q).1] at e; cases e
  have cdict : ∃ o, h1.get? ce.locals = some o ∧ ∀ vs, o.data ≠ .fields vs := by
    obtain ⟨o, es, ep, ho, hd, _⟩ := hm
    exact ⟨o, ho, fun vs q => by rw [hd] at q; cases q⟩
  obtain ⟨oc, hoc, hnc⟩ := cdict
  obtain ⟨oe, vs, T, oT, ts, he, hz, hd, e1, hnT, hTe, hT, hdT, h3⟩ := g4
  have ha : a ≠ ce.locals := fun z => by rw [z, hoc] at he; cases he; exact hnc _ hd
  have hTC : T ≠ ce.locals := fun z => by rw [z, hoc] at hT; cases hT; exact hnc _ hdT
  have held : HandSPX.HeldZ B2 X.stack a (Zc cls d) X.env.locals h2 := by
    refine ⟨fun b o e => ?_, b2n _ g2, ?_, oe, vs, T, oT, ts, (same a ha).trans he, hz, hd, e1, b2n _ hnT, hTe, (same T hTC).trans hT, hdT, h3⟩
    · obtain ⟨k1, k2⟩ := b2 b o e
      exact (same b k2).trans (g1 b o k1)
    · rw [← hs] at g3
      refine frames_same (funFrames_none g3 fun L hL => b2n _ (g3.mem hL).1) fun b hb => same b fun z => hCfr (z ▸ hb)
  unfold PySem.passOn
  refine wpAny_bind (wpAny_field ((same a ha).trans he) hd e1 ?_)
  rw [if_neg (by simp : ¬ ((Value.ref T == Value.none) = true))]
  have fin : wpAny (model X.prog X.w) X.A (setFlight (.ref a) ce.frame) (fun _ s4 => wpAny (model X.prog X.w) X.A (throw (.ref a) : Sem Value) (fun _ _ => False) X.xe s4) X.xe { t with heap := h2 } := by
    rw [hcf, hf]
    refine HandSPX.setFlight_onZ held fun h4 hh4 up4 => wpAny_throw (tk _ _ ?_)
    have I7 : Inv X pins σ Hb sI := I3.call' (ch := fp) I6.os I6.base I6.hok I6.bare fun b hb => ⟨(hfp b hb).2.2.2.1, (hfp b hb).2.1, (hfp b hb).2.2.2.2.1, (hfp b hb).2.2.2.2.2⟩
    obtain ⟨f0, f1, f2, f3, f4, f5⟩ := I3.fpOk (H' := Hb) (Nat.le_of_eq hcl.symm) nC
    have I8 : Inv X pins σ Hb { sI with heap := PySem.W.hideAll sI.heap [ce.locals] } := I7.turned (t' := sI.toks) (fun b o hb e => PySem.W.hideAll_get _ e (by simpa using hb)) f0 f1 f3 f4 f5
    refine ⟨a, B2, _, pins, σ, Hb, cls, d, rfl, I8, fun b o e hb => ?_, fun b o e hnf => ?_, .inr (.inr hh4), na, os, ag, hW _ _ _ _ w⟩
    · have e' := PySem.W.of_hideAll _ e
      refine PySem.W.hideAll_get _ (nb b o e' hb) fun z => ?_
      rw [PySem.W.hideAll_none _ z] at e
      cases e
    · have e' := PySem.W.of_hideAll _ e
      have hb : b ≠ ce.locals := fun z => by
        rw [PySem.W.hideAll_none _ (show b ∈ [ce.locals] by simp [z])] at e
        cases e
      obtain ⟨sl, q⟩ := (up.trans up1) b o e' hnf
      obtain ⟨sl2, q2⟩ := up4 b _ ((same b hb).trans q) hnf
      exact ⟨sl2, q2⟩
  first
    | exact wpAny_bind (wpAny_pure (wpAny_bind fin))
    | exact wpAny_bind fin
end

/-! a comprehension whose tests and items may raise -/
section
variable {X : Cx}
theorem pe_lcx {elt tg iter : Expr} {ifs : List Expr} {scope : Scope} {own : List (Str × Nat)} {pos : Pos} {wi : TI} {g : TG} {tt : L2.St → TT} {te : L2.St → TE} {W : WX} {Wq : L2.St → WX} (hst : X.stack = X.env :: X.outer) (hf : X.env.frame = some X.env.locals) (tk : Takes X W) (hW : ∀ σ cls d σ' H', Wq σ cls d σ' H' → W cls d σ H')
    (hc : X.calm = true) (hN : X.N.Nodup) (hi : PI X tg iter wi) (ok : BlkOk X.N X.env.scope scope own)
    (hg : ∀ (s : Shared) (H : Hp) (A : Addr) (cl : List (Str × Addr)) (fp : List Addr), PG (X.blk s H scope (compEnvC scope cl A X.env) fp) tg g)
    (ht : ∀ (s : Shared) (H : Hp) (A : Addr) (cl : List (Str × Addr)) (fp : List Addr) (xe : Value → Shared → Prop) (σ : L2.St), Takes (Cx.wish (X.blk s H scope (compEnvC scope cl A X.env) fp) xe) (Wq σ) → PTs (Cx.wish (X.blk s H scope (compEnvC scope cl A X.env) fp) xe) ifs (tt σ))
    (he : ∀ (s : Shared) (H : Hp) (A : Addr) (cl : List (Str × Addr)) (fp : List Addr) (xe : Value → Shared → Prop) (σ : L2.St), Takes (Cx.wish (X.blk s H scope (compEnvC scope cl A X.env) fp) xe) (Wq σ) → PE (Cx.wish (X.blk s H scope (compEnvC scope cl A X.env) fp) xe) elt (te σ))
    (hs : ∀ x, foldedSetIterable iter X.env x = pure x) : PE X (.ListComp elt [⟨tg, iter, ifs, 0⟩] scope pos) (fun σ => tLc wi g (tt σ) (te σ) (own.map (·.2)) σ) := by
  refine ⟨fun pins s σ H Q I h => ?_⟩
  rw [eval_ListComp]
  have hfree : ∀ y ∈ scope.names, y.2 = .free → ∃ c, X.env.cells.lookup y.1 = some c := fun y hy e =>
    (ok.free y hy e).elim (fun k => I.ok.has _ (.inl k)) fun k => I.ok.has _ (.inr k)
  refine comp_own rfl hs (closure_ok hfree) ok.kind (fun y hy e => by rw [ok.uniq y hy, e]) (thn (hi.run pins s σ H _ I h) fun xv s1 hx => thn hx fun itv s2 h2 => ?_)
  obtain ⟨it, fp, tn, J, H2, e, I2, T, st2, f2, q⟩ := h2
  subst e
  refine wpAny_newObj_type (newEnv_comp ?_) (by show 0 ≤ sizeLine; decide)
  generalize hD : s2.heap.objs.size = D
  have hDn : H2 D = none := I2.hok.fresh (Nat.le_of_eq hD)
  obtain ⟨Wi, ⟨m0, w0⟩, turn⟩ := q D hDn
  generalize hs3 : ({ s2 with heap := s2.heap.push { cls := .type "list", data := .seq ([] : List Value).toArray } } : Shared) = s3
  have I3 : Inv X pins σ (upd H2 D (.lst [])) s3 := by
    subst hs3
    refine I2.laid (t' := s2.toks) (fun b o e => Heap.get?_push_of_some _ e) (Nat.le_of_eq hD) ⟨Nat.zero_le _, [], 0, .nil, ?_⟩
    subst hD
    exact Heap.get?_push_size _ rfl
  have h3 : s3.heap = s2.heap.push { cls := .type "list", data := .seq ([] : List Value).toArray } := by subst hs3; rfl
  have sz : ∀ b ∈ fp, b < s2.heap.objs.size := fun b hb => (T.obj _ _ st2 b hb).elim fun o e => Heap.lt_size e.1
  have f3 : ∀ b ∈ fp, FpOk X pins (upd H2 D (.lst [])) b ∧ b < s3.heap.objs.size := fun b hb => by
    have hlt := sz b hb
    refine ⟨⟨(upd_ne (show b ≠ D by subst hD; exact Nat.ne_of_lt hlt)).trans (f2 b hb).1, (f2 b hb).2⟩, ?_⟩
    rw [h3, Heap.size_push]
    exact Nat.lt_succ_of_lt hlt
  have st3 : tn 0 s3.heap := T.keep _ _ _ st2 fun b _ o e => by rw [h3]; exact Heap.get?_push_of_some _ e
  have I4 := block_start I3 ok hN f3
  generalize hcl : cellsFrom (s3.heap.objs.size + 1) scope.names (cloFrom X.env.cells scope.names []) = cl at I4
  have pg := hg s3 (upd H2 D (.lst [])) s3.heap.objs.size cl fp
  have pt := ht s3 (upd H2 D (.lst [])) s3.heap.objs.size cl fp
  have pe := he s3 (upd H2 D (.lst [])) s3.heap.objs.size cl fp
  show codeAny _ _ (.compStart (.ListComp elt [⟨tg, iter, ifs, 0⟩] scope pos) 0 (.ref it) (.ref D) (compEnvC scope cl s3.heap.objs.size X.env)) (cEnd (model X.prog X.w) X.A X.xe (EP X pins σ Q) (.ref D) (compEnvC scope cl s3.heap.objs.size X.env)) { s3 with heap := pushCells (s3.heap.push { cls := .type "dict", data := .dict #[] }) scope.names }
  have nfp : ∀ b ∈ fp, (upd H2 D (.lst [])) b = none := fun b hb => (f3 b hb).1.1
  generalize hce : compEnvC scope cl s3.heap.objs.size X.env = ce at I4 pg pt pe ⊢
  have cL : ce.locals = s3.heap.objs.size := by subst hce; rfl
  have cF : ce.frame = X.env.frame := by subst hce; rfl
  generalize hH3 : upd H2 D (.lst []) = H3 at I3 I4 pg pt pe w0 nfp f3
  generalize hs4 : ({ s3 with heap := pushCells (s3.heap.push { cls := .type "dict", data := .dict #[] }) scope.names } : Shared) = s4 at I4 ⊢
  have st4 : tn 0 s4.heap := T.keep _ _ _ st3 fun b _ o e => by subst hs4; exact pushCells_keeps _ _ _ _ (Heap.get?_push_of_some _ e)
  -- what an error in the block is to reach
  let xe : Value → Shared → Prop := notedBy (model X.prog X.w) X.A ce (fun e t' => cEnd (model X.prog X.w) X.A X.xe (EP X pins σ Q) (.ref D) ce (.error e) t')
  have tkb : Takes (Cx.wish (X.blk s3 H3 scope ce fp) xe) (Wq σ) := fun u t x => blk_out hst hf cF cL tk I3 (fun b hb => (f3 b hb).1) (hW σ) x
  have pt := pt xe σ tkb
  have pe := pe xe σ tkb
  have stat : ∀ {σ' : L2.St} {H' : Hp} {s' : Shared}, Inv (X.blk s3 H3 scope ce fp) [] σ' H' s' → (∀ b ∈ fp, H' b = none) → ∀ b ∈ fp, FpOk (X.blk s3 H3 scope ce fp) [] H' b := fun {σ' H' s'} I' hn b hb =>
    ⟨hn b hb, (I'.ok.exf b hb).1, I'.ok.exfs b hb, .inl hb, fun x c e => (I'.ok.exf b hb).2 x c e, fun p hp => by cases hp⟩
  have loop : codeAny (model X.prog X.w) X.A (.compLoop (.ListComp elt [⟨tg, iter, ifs, 0⟩] scope pos) 0 (.ref it) (.ref D) ce) (cEnd (model X.prog X.w) X.A X.xe (EP X pins σ Q) (.ref D) ce) s4 := by
    refine compLoop_any (fun n s' => ∃ i H', Inv (X.blk s3 H3 scope ce fp) [] (wipe σ (own.map (·.2))) H' s' ∧ tn i s'.heap ∧ (∀ b ∈ fp, H' b = none) ∧ Wi i n H') ?_ m0 ⟨0, H3, I4, st4, nfp, w0⟩
    rintro n s5 ⟨i, H5, I5, st5, n5, w5⟩
    rcases turn i n H5 w5 with ⟨stop, qq⟩ | ⟨go, Nx, hNx, step⟩
    · refine thnF (T.done (X.blk s3 H3 scope ce fp) rfl rfl rfl hc i [] s5 _ H5 (fun _ _ => False) I5 (stat I5 n5) st5 stop) fun r s6 ⟨hr, I6⟩ => ?_
      subst hr
      have I7 : Inv X pins σ H5 s6 := I3.call' (ch := fp) I6.os I6.base I6.hok I6.bare fun b hb => ⟨(f3 b hb).1.2.2.2.1, (f3 b hb).1.2.1, (f3 b hb).1.2.2.2.2.1, (f3 b hb).1.2.2.2.2.2⟩
      have nC : H5 ce.locals = none := I6.free
      obtain ⟨m, hn, _⟩ := I6.loc
      refine ⟨m, hn, fun h'' sb => ?_⟩
      obtain ⟨f0, f1, f2, f4, f5, f6⟩ := I3.fpOk (H' := H5) (Nat.le_of_eq cL.symm) nC
      exact ⟨.ref D, H5, I7.turned (t' := s6.toks) (fun b o hb e => (sb.2 b hb).trans e) f0 f1 f4 f5 f6, rfl, qq⟩
    · refine thnF (T.item (X.blk s3 H3 scope ce fp) rfl rfl rfl hc i [] s5 _ H5 (fun _ _ => False) I5 (stat I5 n5) st5 go) fun r s6 ⟨u, hr, h6⟩ => ?_
      subst hr
      refine thnF h6 fun _ s7 ⟨x, H7, I7, r7, y7, st7, n7⟩ => ?_
      have I7' := I7.pinned (stat I7 n7) (T.obj _ _ st7)
      refine thnF (pg.run _ s7 _ H7 x u _ I7' r7 (step x H7 y7)) fun _ s8 ⟨σ8, H8, I8, hw8, q8⟩ => ?_
      refine wpAny_mono (pt.run _ s8 σ8 H8 _ (Inv.wish xe I8) q8) (fun b s9 ⟨H9, I9, q9⟩ => ?_) fun _ _ z => z
      have I9 : Inv (X.blk s3 H3 scope ce fp) ([] ++ pinsAt fp s7.heap) σ8 H9 s9 := Inv.unwish I9
      have fin : ∀ {s' : Shared} {H' : Hp}, Inv (X.blk s3 H3 scope ce fp) ([] ++ pinsAt fp s7.heap) σ8 H' s' → Nx H' → ∃ m, m < n ∧ ∃ i H', Inv (X.blk s3 H3 scope ce fp) [] (wipe σ (own.map (·.2))) H' s' ∧ tn i s'.heap ∧ (∀ b ∈ fp, H' b = none) ∧ Wi i m H' := fun {s' H'} I' nx => by
        obtain ⟨m', hm, w'⟩ := hNx H' nx
        have pin' : ∀ b ∈ fp, ∀ o, s7.heap.get? b = some o → s'.heap.get? b = some o ∧ H' b = none := fun b hb o e =>
          let z := I'.pin (b, o) (List.mem_append_right _ (List.mem_append_right _ (mem_pinsAt hb e)))
          ⟨z.1, z.2.1⟩
        refine ⟨m', hm, i + 1, H', (I'.unpinned (pins := [])).weak (by rw [← hw8, wipe_length]) (fun j v e => ?_), T.keep _ _ _ st7 fun b hb o e => (pin' b hb o e).1, fun b hb => ?_, w'⟩
        · rw [← hw8] at e
          exact (wipe_some e).1
        · obtain ⟨o, e, _⟩ := T.obj _ _ st7 b hb
          exact (pin' b hb o e).2
      cases b with
      | false =>
        simp only [Bool.false_eq_true, if_false] at q9 ⊢
        exact fin I9 q9
      | true =>
        simp only [if_true] at q9 ⊢
        refine wpAny_mono (pe.run _ s9 σ8 H9 _ (Inv.wish xe I9) q9) (fun z s10 ⟨yv, H10, I10, r10, acc, hD10, hz10, nx⟩ => ?_) fun _ _ z => z
        exact app_ok (X := X.blk s3 H3 scope ce fp) (Inv.unwish I10) hD10 hz10 r10 fun s11 I11 => fin I11 nx
  exact codeAny_compStart_list loop (T.self X.A 0 _ _ _ st4 loop)
end

/-! as the mirror has it -/
def fLcx (cell : Bool) (own : List Nat) (t : Tg) (fi : RF (List D)) (tt : RF Bool) (te : RF Vl) : RF Vl := fun ρ M => (fi ρ M).bind fun items M1 =>
  match compF M1.length own t tt te 0 items ρ (M1 ++ [.lst []]) with
  | .ok _ M' => fin cell M1.length (.loc M1.length) M'
  | .exc c M' => .exc c (M'.take M1.length)
  | .bad => .bad
section
variable {X : Cx} {xa : XA} {elt tg iter : Expr} {ifs : List Expr} {scope : Scope} {own : List (Str × Nat)} {pos : Pos} {t : Tg} {fi : RF (List D)} {tt : RF Bool} {te : RF Vl}
/-- the wish of the def's slots -/
abbrev WQ.at (W : WQ) (σ : L2.St) : WQ := fun c _ H => W c σ H
theorem lcx_read {W : WQ} {σ : L2.St} {H : Hp} {Q : VK} {gt : TG} {cell : Bool} (hsl : ∀ i ∈ t.slots, i ∈ own.map (·.2))
    (hg : ∀ v σ H Q φ ρ x ρ', EnvR X.K xa φ H ρ σ → VR X.K φ H xa x v → asgT t x ρ = some ρ' → (∀ σ', EnvR X.K xa φ H ρ' σ' → (∀ vs, (∀ i ∈ t.slots, i ∈ vs) → wipe σ' vs = wipe σ vs) → Q σ' H) → gt v σ H Q)
    (h : tEx X.K xa W (fLcx cell (own.map (·.2)) t fi tt te) σ H Q) : tLc (tIx X.K xa W fi) gt (tTx X.K xa (W.at σ) tt) (tEx X.K xa (W.at σ) te) (own.map (·.2)) σ H Q := by
  obtain ⟨φ, ρ, M, env, sto, h⟩ := h
  refine ⟨φ, ρ, M, env, sto, RP.bind h fun φ1 H1 items M1 J s1 e1 r1 h1 => ?_⟩
  obtain ⟨hl, hJ⟩ := r1
  intro Da hD
  let Well : Res Unit → Prop := fun r => match r with
    | .ok _ M' => RP X.K W σ φ1 H1 (relV X.K xa) Q (fin cell M1.length (.loc M1.length) M')
    | .exc c M' => ∀ φ' H', Sto X.K φ' M' H' → Ext φ1 H1 φ' H' → W c σ H'
    | .bad => False
  have h2 : Well (compF M1.length (own.map (·.2)) t tt te 0 items ρ (M1 ++ [.lst []])) := by
    revert h1
    show RP X.K W σ φ1 H1 (relV X.K xa) Q (match compF M1.length (own.map (·.2)) t tt te 0 items ρ (M1 ++ [.lst []]) with | .ok _ M' => fin cell M1.length (.loc M1.length) M' | .exc c M' => .exc c (M'.take M1.length) | .bad => .bad) → Well _
    cases compF M1.length (own.map (·.2)) t tt te 0 items ρ (M1 ++ [.lst []]) with
    | ok u M' => exact fun h1 => h1
    | exc c M' => exact fun h1 φ' H' s' x' => h1 _ H' (s'.trunc M1.length) (Ext.back s1 x').1
    | bad => exact fun h1 => h1
  have n1 : M1.length = φ1.l.length := s1.ln.symm
  refine ⟨fun i m H' => m = items.length - i ∧ i ≤ items.length ∧ ∃ φ M, EnvR X.K xa φ H' ρ σ ∧ Sto X.K φ M H' ∧ Ext φ1 H1 φ H' ∧ φ.l[M1.length]? = some Da ∧ Well (compF M1.length (own.map (·.2)) t tt te i (items.drop i) ρ M),
    ⟨_, rfl, Nat.zero_le _, φ1.push Da, M1 ++ [.lst []], (env.ext e1).ext (Ext.alloc s1 hD), s1.alloc hD DRs.nil (Nat.zero_le _), Ext.alloc s1 hD, by rw [n1, List.getElem?_append_right (Nat.le_refl _)]; simp, by simpa using h2⟩, ?_⟩
  rintro i m H' ⟨rfl, hi, φ2, M2, env2, s2, x2, hDa, g2⟩
  obtain ⟨j1, j2, j3⟩ := hJ φ2 H' M2 x2 s2 i
  by_cases hlt : i < items.length
  · refine .inr ⟨j1 hlt, fun H' => ∃ φ M, EnvR X.K xa φ H' ρ σ ∧ Sto X.K φ M H' ∧ Ext φ1 H1 φ H' ∧ φ.l[M1.length]? = some Da ∧ Well (compF M1.length (own.map (·.2)) t tt te (i + 1) (items.drop (i + 1)) ρ M), fun H3 n => ⟨items.length - (i + 1), by omega, rfl, hlt, n⟩, fun v H3 hy => ?_⟩
    obtain ⟨x3, s3, r3⟩ := j3 items[i] v H3 (List.getElem?_eq_getElem hlt) hy
    rw [List.drop_eq_getElem_cons hlt] at g2
    simp only [compF] at g2
    cases ea : asgT t (.d items[i]) (wip ρ (own.map (·.2))) with
    | none => rw [ea] at g2; exact g2.elim
    | some ρ3 =>
      rw [ea] at g2
      simp only at g2
      have env3 := env2.ext x3
      refine hg v (wipe σ (own.map (·.2))) H3 _ φ2 (wip ρ (own.map (·.2))) (.d items[i]) ρ3 (env3.wip _) r3 ea ?_
      intro σ4 env4 w4
      refine ⟨(w4 (own.map (·.2)) hsl).trans (lc_read.wipe_wipe σ _), φ2, ρ3, M2, env4, s3, ?_⟩
      cases ht : tt ρ3 M2 with
      | bad => rw [ht] at g2; exact g2.elim
      | exc c M' =>
        rw [ht] at g2
        exact fun φ' H' s' x' => g2 φ' H' s' ((x2.trans x3).trans x')
      | ok k M4 =>
        rw [ht] at g2
        simp only [Res.bind_ok] at g2
        intro φ5 H5 b s5 x5 rb
        have rb : k = b := rb
        subst rb
        cases k with
        | false =>
          rw [if_neg Bool.false_ne_true] at g2 ⊢
          exact ⟨φ5, M4, (env2.ext x3).ext x5, s5, (x2.trans x3).trans x5, x5.at hDa, g2⟩
        | true =>
          rw [if_pos rfl] at g2 ⊢
          refine ⟨φ5, ρ3, M4, env4.ext x5, s5, ?_⟩
          cases he : te ρ3 M4 with
          | bad => rw [he] at g2; exact g2.elim
          | exc c M' =>
            rw [he] at g2
            exact fun φ' H' s' x' => g2 φ' H' s' (((x2.trans x3).trans x5).trans x')
          | ok y M6 =>
            rw [he] at g2
            simp only [Res.bind_ok] at g2
            intro φ7 H7 w s7 x7 ry
            split at g2
            · rename_i y acc eacc
              split at g2
              · rename_i hacc
                have hD7 := x7.at (x5.at hDa)
                obtain ⟨ws, k1, k2⟩ := s7.at eacc hD7
                have hz : (acc ++ [y]).length ≤ sizeLine := by rw [List.length_append, List.length_singleton]; omega
                refine ⟨ws, k1, by rw [k2.length]; omega, φ7, _, ((((env2.ext x3).ext x5).ext x7).ext (Ext.write s7 (s7.uns eacc hD7))), s7.write eacc hD7 (k2.append (DRs.one ry)) hz, (((x2.trans x3).trans x5).trans x7).trans (Ext.write s7 (s7.uns eacc hD7)), hD7, g2⟩
              · exact g2.elim
            · exact g2.elim
  · have e : i = items.length := by omega
    subst e
    rw [List.drop_length] at g2
    simp only [compF] at g2
    exact .inl ⟨j2 (Nat.le_refl _), fin_ok (xa := xa) (r := .loc M1.length) s1 s2 x2 ⟨Da, rfl, hDa⟩ g2⟩
theorem se_lcx (cell : Bool) (hst : X.stack = X.env :: X.outer) (hf : X.env.frame = some X.env.locals) (hc : X.calm = true) (hN : X.N.Nodup) (hi : SI X xa tg iter fi) (ok : BlkOk X.N X.env.scope scope own) (hsl : ∀ i ∈ t.slots, i ∈ own.map (·.2))
    (hg : ∃ gt, (∀ (s : Shared) (H : Hp) (A : Addr) (cl : List (Str × Addr)) (fp : List Addr), PG (X.blk s H scope (compEnvC scope cl A X.env) fp) tg gt) ∧ ∀ v σ H Q φ ρ x ρ', EnvR X.K xa φ H ρ σ → VR X.K φ H xa x v → asgT t x ρ = some ρ' → (∀ σ', EnvR X.K xa φ H ρ' σ' → (∀ vs, (∀ i ∈ t.slots, i ∈ vs) → wipe σ' vs = wipe σ vs) → Q σ' H) → gt v σ H Q)
    (ht : ∀ (s : Shared) (H : Hp) (A : Addr) (cl : List (Str × Addr)) (fp : List Addr) (xe : Value → Shared → Prop), SPTs (Cx.wish (X.blk s H scope (compEnvC scope cl A X.env) fp) xe) xa ifs tt)
    (he : ∀ (s : Shared) (H : Hp) (A : Addr) (cl : List (Str × Addr)) (fp : List Addr) (xe : Value → Shared → Prop), SE (Cx.wish (X.blk s H scope (compEnvC scope cl A X.env) fp) xe) xa elt te) (hs : ∀ x, foldedSetIterable iter X.env x = pure x) :
    SE X xa (.ListComp elt [⟨tg, iter, ifs, 0⟩] scope pos) (fLcx cell (own.map (·.2)) t fi tt te) := fun W tk => by
  obtain ⟨gt, pg, hg⟩ := hg
  refine PE.weak (pe_lcx (W := wx X.mg W) (Wq := fun σ => wx X.mg (W.at σ)) (tt := fun σ => tTx X.K xa (W.at σ) tt) (te := fun σ => tEx X.K xa (W.at σ) te) hst hf tk (fun σ cls d σ' H' h => h) hc hN (hi W tk) ok pg ?_ ?_ hs) fun σ H Q h => lcx_read hsl hg h
  · exact fun s H A cl fp xe σ tk' => ht s H A cl fp xe (W.at σ) tk'
  · exact fun s H A cl fp xe σ tk' => he s H A cl fp xe (W.at σ) tk'
end
end TL

namespace TL
open PySem PySem.Spec
open PyProof.Rows L2

/-! ### a tuple or a list backwards -/
section
variable {prog : Program} {w : World} {A : Around} {E : Value → Shared → Prop} {s : Shared}
theorem back_adjust (n : Nat) : Builtin.Slice.sliceAdjust none none (-1) (n : Int) = ((n : Int) - 1, -1) := by
  unfold Builtin.Slice.sliceAdjust
  simp
theorem back_places (n : Nat) : Builtin.Slice.slicePlaces ((n : Int) - 1) (-1) (-1) = n := by
  unfold Builtin.Slice.slicePlaces
  rw [if_neg (by decide : ¬ ((-1 : Int) > 0))]
  by_cases h : n = 0
  · subst h; rfl
  · rw [if_pos (by omega)]
    have : ((n : Int) - 1 - -1 - 1) / (- -1) + 1 = (n : Int) := by
      rw [show (- -1 : Int) = 1 by decide, Int.ediv_one]; omega
    rw [this]; rfl
theorem back_applied {sl : Addr} {vs : Value} {n : Nat} {Q : Int × Int × Nat → Shared → Prop} (hs : s.heap.IsSliceOf sl .none .none vs) (ps : IsPart vs (some (-1)))
    (h : Q ((n : Int) - 1, -1, n) s) : wpAny (model prog w) A (Builtin.Slice.sliceApplied (.ref sl) (pure (n : Int))) Q E s := by
  obtain ⟨os, hos, hcs, hds⟩ := id hs
  unfold Builtin.Slice.sliceApplied Builtin.Slice.sliceFields
  refine wpAny_bind (wpAny_bind (wpAny_field hos hds (x := .none) rfl ?_))
  refine wpAny_bind (wpAny_field hos hds (x := .none) rfl ?_)
  refine wpAny_bind (wpAny_field hos hds (x := vs) rfl (wpAny_pure ?_))
  refine wpAny_bind (HT.slicePart_ ps ?_)
  show wpAny _ _ (if ((-1 : Int) == 0) = true then _ else _) _ _ s
  rw [if_neg (by decide)]
  refine wpAny_bind (slicePart_none (wpAny_bind (slicePart_none ?_)))
  refine wpAny_bind (wpAny_pure ?_)
  show wpAny _ _ (match Builtin.Slice.sliceAdjust none none (-1) (n : Int) with | (lo, hi) => pure (lo, (-1 : Int), Builtin.Slice.slicePlaces lo hi (-1))) _ _ s
  rw [back_adjust n]
  show wpAny _ _ (pure ((n : Int) - 1, (-1 : Int), Builtin.Slice.slicePlaces ((n : Int) - 1) (-1) (-1))) _ _ s
  rw [back_places]
  exact wpAny_pure h
theorem back_pick (xs : Array Value) : ((List.range xs.size).filterMap fun (m : Nat) => xs[((xs.size : Int) - 1 + (m : Int) * -1).toNat]?).toArray = xs.toList.reverse.toArray := by
  have e : ((List.range xs.size).filterMap fun (m : Nat) => xs[((xs.size : Int) - 1 + (m : Int) * -1).toNat]?) = ((List.range xs.size).map fun k => xs.size - 1 - k).filterMap (xs[·]?) := by
    rw [List.filterMap_map]
    have : ∀ l : List Nat, (∀ k ∈ l, k < xs.size) → l.filterMap (fun (m : Nat) => xs[((xs.size : Int) - 1 + (m : Int) * -1).toNat]?) = l.filterMap ((fun x => xs[x]?) ∘ fun k => xs.size - 1 - k) := by
      intro l
      induction l with
      | nil => intro _; rfl
      | cons a l ih =>
        intro h
        have ha := h a List.mem_cons_self
        have e2 : ((xs.size : Int) - 1 + (a : Int) * -1).toNat = xs.size - 1 - a := by omega
        rw [List.filterMap_cons, List.filterMap_cons, ih (fun k hk => h k (List.mem_cons_of_mem _ hk)), e2]
        rfl
    exact this _ fun k hk => List.mem_range.mp hk
  rw [e, PySem.W.krv_range, List.filterMap_reverse, PySem.W.krv_all]
theorem getItem_tup_back {t sl : Addr} {items : Array Value} {vs : Value} {Q : Value → Shared → Prop} (ht : IsTup s.heap t items) (hs : s.heap.IsSliceOf sl .none .none vs) (ps : IsPart vs (some (-1)))
    (h : Q (.ref s.heap.objs.size) { s with heap := s.heap.push { cls := .type "tuple", data := .seq items.toList.reverse.toArray } })
    (hz : items.size ≤ sizeLine) : wpAny (model prog w) A (getItem (.ref t) (.ref sl)) Q E s := by
  have hok : sizeOk (.seq items.toList.reverse.toArray) := by
    show items.toList.reverse.toArray.size ≤ sizeLine
    rw [List.size_toArray, List.length_reverse, Array.length_toList]
    exact hz
  obtain ⟨os, hos, hcs, hds⟩ := id hs
  have hT : s.TypeIs (.ref sl) "slice" := ⟨os, hos, hcs⟩
  unfold getItem
  try with_reducible refine wpAny_holding ?_
  first | refine wpAny_bind (wpAny_pure ?_) | skip
  refine wpAny_bind (wpAny_sequenceKey ht.typeIs (by decide) ?_)
  refine wpAny_bind (wpAny_callSpecial?_slot (name := Str.ofString "__getitem__") ht.typeIs PyProof.Rows.slot_tuple_getitem ?_)
  refine wpAny_call_entry PyProof.Rows.slot_tuple_getitem ht.typeIs entry_tuple_getitem ?_ (args_tuple_getitem _ _)
  show wpAny _ _ (Builtin.Tuple.tupleItemsOf (.ref t) >>= _) _ _ s
  refine wpAny_bind (tupleItemsOf_ ht ?_)
  refine wpAny_bind (wpAny_typeOf hT ?_)
  rw [if_pos (by decide)]
  refine wpAny_bind (back_applied hs ps ?_)
  have hno : ¬ ((((items.size : Int) - 1 == 0) && ((-1 : Int) == 1) && (items.size == items.size)) = true) := by
    rw [show ((-1 : Int) == 1) = false by decide, Bool.and_false, Bool.false_and]
    exact Bool.false_ne_true
  show wpAny _ _ (if (((items.size : Int) - 1 == 0) && ((-1 : Int) == 1) && (items.size == items.size)) = true then _ else _) _ _ s
  rw [if_neg hno, back_pick]
  first
    | exact wpAny_bind (m := Builtin.Tuple.tupleExact _) (wpAny_newObj_type (wpAny_pure ⟨_, rfl, wpAny_pure h⟩) hok)
    | exact wpAny_bind (m := Builtin.Tuple.tupleExact _) (wpAny_newObj_type (wpAny_bind (wpAny_pure (wpAny_pure ⟨_, rfl, wpAny_pure h⟩))) hok)
    | exact wpAny_bind (wpAny_bind (m := Builtin.Tuple.tupleExact _) (wpAny_newObj_type (wpAny_pure (wpAny_pure ⟨_, rfl, wpAny_pure h⟩)) hok))
    | exact wpAny_bind (wpAny_bind (m := Builtin.Tuple.tupleExact _) (wpAny_newObj_type (wpAny_pure ⟨_, rfl, wpAny_pure h⟩) hok))
end
section
variable {X : Cx} {xa : XA} {e : Expr} {fe : RF Vl} {k : Nat} {p1 p2 p3 pos : Pos}
abbrev minusOne (k : Nat) (p1 p2 : Pos) : Expr := .UnaryOp .USub (.Constant (.int 1) k p1) p2
def tBackT (K : PySem.W.Frag) (te : TE) : TE := fun σ H Q => te σ H fun x H1 => ∃ a xs, x = .ref a ∧ SqT K H1 a xs ∧ ∀ p, H1 p = none → Q (.ref p) (upd H1 p (.tup xs.reverse))
/-- either kind -/
def tBack (K : PySem.W.Frag) (te : TE) : TE := fun σ H Q => te σ H fun x H1 => ∃ a xs, x = .ref a ∧
  ((SqT K H1 a xs ∧ ∀ p, H1 p = none → Q (.ref p) (upd H1 p (.tup xs.reverse))) ∨ (SqL K H1 a xs ∧ ∀ p, H1 p = none → Q (.ref p) (upd H1 p (.lst xs.reverse))))
theorem pe_back {te : TE} (he : PE X e te) : PE X (.Subscript e (.Slice none none (some (minusOne k p1 p2)) p3) pos) (tBack X.K te) := by
  refine ⟨fun pins s σ H Q I h => ?_⟩
  refine Subscript_ (thn (he.run pins s σ H _ I h) fun v s1 ⟨x, H1, I1, r1, q1⟩ => ?_)
  obtain ⟨a, xs, ex, hx⟩ := q1
  subst ex
  cases r1
  have hst : PO X (some (minusOne k p1 p2)) (tPart (tUn (rU fun i => .int (-i)) (tC (.int 1)))) := po_some (pe_un un_neg pe_int)
  refine wpAny_Slice (thn (po_none.run pins s1 σ H1 (fun o H2 => o = none ∧ H2 = H1) I1 ⟨rfl, rfl⟩) fun vl s2 ⟨l, H2, I2, pl, el, e2⟩ => ?_)
  subst el e2
  refine thn (po_none.run pins s2 σ H2 (fun o H3 => o = none ∧ H3 = H2) I2 ⟨rfl, rfl⟩) fun vu s3 ⟨u, H3, I3, pu, eu, e3⟩ => ?_
  subst eu e3
  refine thn (hst.run pins s3 σ H3 (fun o H4 => o = some (-1) ∧ H4 = H3) I3 ⟨1, rfl, -1, rfl, rfl, rfl⟩) fun vs s4 ⟨o, H4, I4, ps, eo, e4⟩ => ?_
  subst eo e4
  have I5 : Inv X pins σ H4 { s4 with heap := s4.heap.push { cls := .type "slice", data := .fields #[vl, vu, vs] } } := I4.kept (t' := s4.toks) fun b ob q => Heap.get?_push_of_some _ q
  cases pl
  cases pu
  show wpAny (model X.prog X.w) X.A (subscriptTail e (.Slice none none (some (minusOne k p1 p2)) p3) (.ref a) (.ref s4.heap.objs.size)) (EP X pins σ Q) X.xe { s4 with heap := s4.heap.push { cls := .type "slice", data := .fields #[.none, .none, vs] } }
  rcases hx with ⟨hx, q⟩ | ⟨hx, q⟩
  · obtain ⟨its, r, ht, hz⟩ := I5.tuple hx
    have hlen := r.length
    refine tail_any (ops := [.ref a, .ref s4.heap.objs.size]) ht.typeIs (PyProof.Rows.slot_tuple_getitem.lookup) ?_ (by with_unfolding_all rfl)
    refine getItem_tup_back ht (Heap.IsSliceOf.new _ .none .none vs) ps ?_ (by rw [List.size_toArray]; omega)
    refine ⟨.ref _, _, I5.laid (t' := s4.toks) (o := .tup xs.reverse) (fun b ob q => Heap.get?_push_of_some _ q) (Nat.le_refl _) ?_, rfl, q _ (I5.hok.fresh (Nat.le_refl _))⟩
    exact ⟨by rw [List.length_reverse]; exact hz, _, r.reverse, IsTup.new _ _⟩
  · obtain ⟨its, r, ht, hz⟩ := I5.list hx
    have hlen := r.length
    refine tail_any (ops := [.ref a, .ref s4.heap.objs.size]) ht.isList.typeIs (PySem.slot_list_getitem.lookup) ?_ (by with_unfolding_all rfl)
    refine wpAny_getItem_list_slice ht.isList (Heap.IsSliceOf.new _ .none .none vs) .none .none ps (by decide) ?_ (by rw [List.size_toArray]; omega)
    rw [PySem.W.krv_pick]
    refine ⟨.ref _, _, I5.laid (t' := s4.toks) (o := .lst xs.reverse) (fun b ob q => Heap.get?_push_of_some _ q) (Nat.le_refl _) ?_, rfl, q _ (I5.hok.fresh (Nat.le_refl _))⟩
    exact ⟨by rw [List.length_reverse]; exact hz, _, 0, r.reverse, Heap.get?_push_size _ rfl⟩
def back2 (x : Vl) (M : Store) : Option Vl := match x with
  | .d (.tuple xs) => some (.d (.tuple xs.reverse))
  | .d (.list xs) => some (.d (.list xs.reverse))
  | .ro xs => some (.d (.list xs.reverse))
  | .loc n => match M[n]? with
    | some (.lst xs) => some (.d (.list xs.reverse))
    | _ => none
  | _ => none
def fBack (fe : RF Vl) : RF Vl := fun ρ M => (fe ρ M).bind fun x M1 => ofO (back2 x M1) M1
theorem se_back (he : SE X xa e fe) : SE X xa (.Subscript e (.Slice none none (some (minusOne k p1 p2)) p3) pos) (fBack fe) := fun W tk =>
  PE.weak (pe_back (he W tk)) fun σ H Q h => by
    obtain ⟨φ, ρ, M, env, sto, h⟩ := h
    refine ⟨φ, ρ, M, env, sto, RP.bind h fun φ1 H1 x M1 v s1 e1 r1 h1 => ?_⟩
    obtain ⟨z, hz, h2⟩ := RP.ofO h1
    unfold back2 at hz
    split at hz
    · cases hz
      obtain ⟨a, vs, rfl, k1, k2⟩ := drT r1
      have hl : vs.reverse.length ≤ sizeLine := by rw [List.length_reverse]; exact sq_len s1.sz (.inr k1.sq)
      exact ⟨a, vs, rfl, .inl ⟨k1.sq, fun p hp => h2 φ1 _ _ (s1.new hp hl) (Ext.new s1 hp) (vrT s1 hp k2.reverse)⟩⟩
    · cases hz
      obtain ⟨a, vs, rfl, k1, k2⟩ := rdL s1 r1 (.inl rfl)
      have k1 := k1 _ _ .refl
      have hl : vs.reverse.length ≤ sizeLine := by rw [List.length_reverse]; exact sq_len s1.sz (.inl k1)
      exact ⟨a, vs, rfl, .inr ⟨k1, fun p hp => h2 φ1 _ _ (s1.new hp hl) (Ext.new s1 hp) (vrL s1 hp k2.reverse)⟩⟩
    · cases hz
      obtain ⟨a, vs, rfl, k1, k2⟩ := rdL s1 r1 (.inr rfl)
      have k1 := k1 _ _ .refl
      have hl : vs.reverse.length ≤ sizeLine := by rw [List.length_reverse]; exact sq_len s1.sz (.inl k1)
      exact ⟨a, vs, rfl, .inr ⟨k1, fun p hp => h2 φ1 _ _ (s1.new hp hl) (Ext.new s1 hp) (vrL s1 hp k2.reverse)⟩⟩
    · rename_i n
      split at hz
      · rename_i xs hx
        cases hz
        obtain ⟨a, vs, rfl, k1, k2⟩ := lsq_ok (xs := xs) s1 r1 (by simp [lsq, hx])
        have k1 := SqL.of (K := X.K) k1
        have hl : vs.reverse.length ≤ sizeLine := by rw [List.length_reverse]; exact sq_len s1.sz (.inl k1)
        exact ⟨a, vs, rfl, .inr ⟨k1, fun p hp => h2 φ1 _ _ (s1.new hp hl) (Ext.new s1 hp) (vrL s1 hp k2.reverse)⟩⟩
      · cases hz
    · cases hz
end
end TL

namespace TL
open PySem PySem.Spec
open PyProof.Rows L2

/-! ### starred items -/
def itemsS : Vl → Option (List D)
  | .d (.list xs) => some xs
  | .d (.tuple xs) => some xs
  | .ro xs => some xs
  | _ => none
def fSCons (fa : RF Vl) (fr : RF (List Vl)) : RF (List Vl) := fun ρ M => (fa ρ M).bind fun x M1 => match itemsS x with
  | some xs => (fr ρ M1).bind fun ys M2 => .ok (xs.map Vl.d ++ ys) M2
  | none => .bad
theorem vrs_append {K : PySem.W.Frag} {xa : XA} {φ : Fm} {H : Hp} {ys : List Vl} {ws : List V} (h2 : VRs K φ H xa ys ws) : ∀ {xs : List D} {vs : List V}, DRs K φ H xs vs → VRs K φ H xa (xs.map Vl.d ++ ys) (vs ++ ws)
  | [], vs, h => by simp only [DRs] at h; subst h; exact h2
  | x :: xs, vs, h => by
    simp only [DRs] at h
    obtain ⟨v, r, rfl, h3, h4⟩ := h
    exact ⟨v, _, rfl, h3, vrs_append h2 h4⟩
theorem sa_star {X : Cx} {xa : XA} {e : Expr} {p : Pos} {fe : RF Vl} {es : List Expr} {fr : RF (List Vl)} (ha : SE X xa e fe) (hr : SA X xa es fr) : SA X xa (.Starred e p :: es) (fSCons fe fr) := fun W tk =>
  PA.weak (StX.pa_star (ha W tk) (hr W tk)) fun σ H Q h => by
    obtain ⟨φ, ρ, M, env, sto, h⟩ := h
    refine ⟨φ, ρ, M, env, sto, RP.bind h fun φ1 H1 x M1 v s1 e1 r1 h1 => ?_⟩
    split at h1
    · rename_i xs hx
      have key : ∃ p ws, v = V.ref p ∧ (SqT X.K H1 p ws ∨ SqL X.K H1 p ws) ∧ DRs X.K φ1 H1 xs ws := by
        unfold itemsS at hx
        split at hx
        · cases hx
          obtain ⟨a, vs, rfl, k1, k2⟩ := rdL s1 r1 (.inl rfl)
          exact ⟨a, vs, rfl, .inr (k1 _ _ .refl), k2⟩
        · cases hx
          obtain ⟨a, vs, rfl, k1, k2⟩ := drT r1
          exact ⟨a, vs, rfl, .inl k1.sq, k2⟩
        · cases hx
          obtain ⟨a, vs, rfl, k1, k2⟩ := rdL s1 r1 (.inr rfl)
          exact ⟨a, vs, rfl, .inr (k1 _ _ .refl), k2⟩
        · cases hx
      obtain ⟨q, ws, rfl, k1, k2⟩ := key
      refine ⟨q, ws, rfl, k1, φ1, ρ, M1, env.ext e1, s1, RP.bind h1 fun φ2 H2 ys M2 us s2 e2 r2 h2 => ?_⟩
      exact h2 φ2 H2 (ws ++ us) s2 .refl (vrs_append r2 (DRs.kp e2.keep xs ws k2))
    · exact h1.elim

/-! ### the mirror's syntax -/
inductive Bi where | len | abs | int | tuple | list | clist | all | any | sum | max | min | str
inductive Me where | append | pop | popAt | extend | reverse | clear | count
def Bi.g : Bi → BF
  | .len => lenG | .abs => absG | .int => intG | .tuple => tupleG | .list => listG false | .clist => listG true | .all => allG | .any => anyG | .sum => sumG | .max => max2G | .min => min2G | .str => strG
def Bi.name : Bi → Str
  | .len => "len" | .abs => "abs" | .int => "int" | .tuple => "tuple" | .list => "list" | .clist => "list" | .all => "all" | .any => "any" | .sum => "sum" | .max => "max" | .min => "min" | .str => "str"
def Me.g : Me → MF
  | .append => appendM | .pop => popM | .popAt => popAtM | .extend => extendM | .reverse => reverseM | .clear => clearM | .count => countM
def Me.name : Me → Str
  | .append => "append" | .pop => "pop" | .popAt => "pop" | .extend => "extend" | .reverse => "reverse" | .clear => "clear" | .count => "count"
/-- methods of texts of one argument -/
inductive Sm where | split | partition | startswith | find
def Sm.g : Sm → Str → Str → Option Vl
  | .split => splitT | .partition => partT | .startswith => startT | .find => findT
def Sm.name : Sm → Str
  | .split => "split" | .partition => "partition" | .startswith => "startswith" | .find => "find"
/-- further kinds: d[k] of a dict; an attribute; a method; a class called; a comprehension with two clauses; one of a dict -/
inductive Xk where
  | dix
  | fld (f : Str)
  | mcall (c m q : Str) (keep : Bool)
  | new (c q : Str)
  | lc2 (cell : Bool) (t t1 : Tg) (own own1 : List Nat)
  | dc (t : Tg) (own : List Nat)
  | sm (m : Sm) | join | fmt | fstr (n : Nat) | cdix (x : Str) | cdin (x : Str) | dd (kvs : List (Str × Str)) | back | lcx (cell : Bool) (t : Tg) (own : List Nat)
/-- expressions; nil, cons: rows of arguments; tt: a value as a test; it: a value that is walked; pt: a slice's part -/
inductive E where
  | nil | cons (a b : E) | scons (a b : E)
  | var (i : Nat) | con (x : D) | glb (x : Str)
  | bin (o : Op) (a b : E) | neg (a : E) | not (a : E) | and (a b : E) | or (a b : E)
  | cmp (o : Cm) (a b : E) | chain (o o' : Cm) (a b c : E) | ife (c a b : E)
  | tup (l : E) | lst (l : E) | cls (l : E)
  | call (f : Str) (keep : Bool) (l : E)
  | bi (f : Bi) (l : E) | isi (t : String) (a : E) | isx (x : Str) (i : Nat)
  | meth (m : Me) (o l : E)
  | ix (a b : E) | sl (cell : Bool) (a lo hi : E)
  | lc (cell : Bool) (elt : E) (t : Tg) (it c : E) (own : List Nat)
  | tt (a : E) | it (a : E) | pt (a : E)
  | rng (rev : Bool) (l : E) | zip (l : E) | enm (l : E) | rev (a : E)
  | x (k : Xk) (a b c d e : E)
inductive S where
  | nil | cons (a b : S)
  | pass | brk | cnt
  | asg (t : Tg) (e : E) | aug (o : Op) (i : Nat) (e : E) | exp (e : E)
  | ife (c : E) (a b : S) | forS (t : Tg) (it : E) (b : S) | whl (c : E) (b : S)
  | ret (e : E) | retN | raise (x : Str)
  | setf (f : Str) (o e : E) | unst (i j : Nat) (e : E) | slo (i : Nat) | par (is : List Nat) (l : E)
  | try_ (b : S) (x : Str) (h : S) | tryAs (b : S) (x : Str) (i : Nat) (h : S)
/-- what the text's top says: constants, defs (their numbers of parameters), errors, which names are free for built-ins; what isinstance and except say of the errors -/
structure GI where
  con : List (Str × D) := []
  fns : List (Str × Nat) := []
  exs : List Str := []
  fre : List Str := []
  isx : List ((Str × Str) × Bool) := []
  exm : List ((Str × Str) × Bool) := []
  ci : CI := {}
  cds : List (Str × List (Str × D)) := []
section
variable (g : GI) (F : Nat) (C : CallF)
def tabOf (x : Str) : List (Str × D) := (g.cds.lookup x).getD []
def fGlb (x : Str) : RF Vl := fun _ M => match g.con.lookup x with
  | some d => .ok (.d d) M
  | none => .bad
def fIsx (x : Str) (i : Nat) : RF Vl := fun ρ M => match ρ[i]? with
  | some (some (.ex k)) => match g.isx.lookup (k, x) with
    | some b => .ok (.d (.bool b)) M
    | none => .bad
  | _ => .bad
def fBad {α : Type} : RF α := fun _ _ => .bad
mutual
def evE : E → RF Vl
  | .var i => fVar i
  | .con x => fCon x
  | .glb x => fGlb g x
  | .bin o a b => fBin (bin2 o) (evE a) (evE b)
  | .neg a => fNeg (evE a)
  | .not a => fBl (fNotT (fTru (evE a)))
  | .and a b => fAndV (evE a) (evE b)
  | .or a b => fOrV (evE a) (evE b)
  | .cmp o a b => fBl (fCmpT o (evE a) (evE b))
  | .chain o o' a b c => fBl (fCh o o' (evE a) (evE b) (evE c))
  | .ife c a b => fIf (evT c) (evE a) (evE b)
  | .tup l => fTup (evL l)
  | .lst l => fLst (evL l)
  | .cls l => fCls (evL l)
  | .call f k l => fCall C f k (evL l)
  | .bi f l => fApp f.g (evL l)
  | .isi t a => fIsi t (evE a)
  | .isx x i => fIsx g x i
  | .meth m o l => fMeth m.g (evE o) (evL l)
  | .ix a b => fBin ix2 (evE a) (evE b)
  | .sl c a lo hi => fSl c (evE a) (evP lo) (evP hi)
  | .lc cell elt t it c own => fLc cell own t (evI it) (evC c) (evE elt)
  | .x k a b c d e => match k with
    | .dix => fDix (evE a) (evE b)
    | .fld f => fFld g.ci f (evE a)
    | .mcall cl m q keep => fMcall C cl m q keep (evE a) (evL b)
    | .new cl q => fNew C cl q (evL a)
    | .lc2 cell t t1 own own1 => fLc2 cell own own1 t (evI a) (evC b) t1 (evI c) (evC d) (evE e)
    | .dc t own => fDc own t (evI a) (evC b) (evE c) (evE d)
    | .sm m => fSm m.g (evE a) (evE b)
    | .join => fJoin (evE a) (evE b)
    | .fmt => fFmt (evE a)
    | .fstr n => fJs ([evE a, evE b, evE c, evE d, evE e].take n) Str.empty
    | .cdix x => fCdix (tabOf g x) (evE a)
    | .cdin _ => fBad
    | .dd kvs => fDd kvs
    | .back => fBack (evE a)
    | .lcx cell t own => fLcx cell own t (evI a) (evC b) (evE c)
  | .nil => fBad | .cons _ _ => fBad | .scons _ _ => fBad | .tt _ => fBad | .it _ => fBad | .pt _ => fBad | .rng _ _ => fBad | .zip _ => fBad | .enm _ => fBad | .rev _ => fBad
def evL : E → RF (List Vl)
  | .x _ _ _ _ _ _ => fBad
  | .nil => fNil
  | .cons a b => fCons (evE a) (evL b)
  | .scons a b => fSCons (evE a) (evL b)
  | .var _ => fBad | .con _ => fBad | .glb _ => fBad | .bin _ _ _ => fBad | .neg _ => fBad | .not _ => fBad | .and _ _ => fBad | .or _ _ => fBad | .cmp _ _ _ => fBad | .chain _ _ _ _ _ => fBad | .ife _ _ _ => fBad
  | .tup _ => fBad | .lst _ => fBad | .cls _ => fBad | .call _ _ _ => fBad | .bi _ _ => fBad | .isi _ _ => fBad | .isx _ _ => fBad | .meth _ _ _ => fBad | .ix _ _ => fBad | .sl _ _ _ _ => fBad | .lc _ _ _ _ _ _ => fBad
  | .tt _ => fBad | .it _ => fBad | .pt _ => fBad | .rng _ _ => fBad | .zip _ => fBad | .enm _ => fBad | .rev _ => fBad
def evT : E → RF Bool
  | .x k a _ _ _ _ => match k with
    | .cdin x => fCdin (tabOf g x) (evE a)
    | _ => fBad
  | .not a => fNotT (evT a)
  | .and a b => fAndT (evT a) (evT b)
  | .or a b => fOrT (evT a) (evT b)
  | .cmp o a b => fCmpT o (evE a) (evE b)
  | .chain o o' a b c => fCh o o' (evE a) (evE b) (evE c)
  | .tt a => fTru (evE a)
  | .var _ => fBad | .con _ => fBad | .glb _ => fBad | .bin _ _ _ => fBad | .neg _ => fBad | .ife _ _ _ => fBad | .nil => fBad | .cons _ _ => fBad | .scons _ _ => fBad
  | .tup _ => fBad | .lst _ => fBad | .cls _ => fBad | .call _ _ _ => fBad | .bi _ _ => fBad | .isi _ _ => fBad | .isx _ _ => fBad | .meth _ _ _ => fBad | .ix _ _ => fBad | .sl _ _ _ _ => fBad | .lc _ _ _ _ _ _ => fBad
  | .it _ => fBad | .pt _ => fBad | .rng _ _ => fBad | .zip _ => fBad | .enm _ => fBad | .rev _ => fBad
def evP : E → RF (Option Int)
  | .x _ _ _ _ _ _ => fBad
  | .nil => fNoPart
  | .pt a => fPart (evE a)
  | .cons _ _ => fBad | .scons _ _ => fBad | .var _ => fBad | .con _ => fBad | .glb _ => fBad | .bin _ _ _ => fBad | .neg _ => fBad | .not _ => fBad | .and _ _ => fBad | .or _ _ => fBad | .cmp _ _ _ => fBad | .chain _ _ _ _ _ => fBad | .ife _ _ _ => fBad
  | .tup _ => fBad | .lst _ => fBad | .cls _ => fBad | .call _ _ _ => fBad | .bi _ _ => fBad | .isi _ _ => fBad | .isx _ _ => fBad | .meth _ _ _ => fBad | .ix _ _ => fBad | .sl _ _ _ _ => fBad | .lc _ _ _ _ _ _ => fBad
  | .tt _ => fBad | .it _ => fBad | .rng _ _ => fBad | .zip _ => fBad | .enm _ => fBad | .rev _ => fBad
/-- a comprehension's test: none, or one -/
def evC : E → RF Bool
  | .x _ _ _ _ _ _ => fBad
  | .nil => fYes
  | .cons a _ => evT a
  | .scons _ _ => fBad
  | .var _ => fBad | .con _ => fBad | .glb _ => fBad | .bin _ _ _ => fBad | .neg _ => fBad | .not _ => fBad | .and _ _ => fBad | .or _ _ => fBad | .cmp _ _ _ => fBad | .chain _ _ _ _ _ => fBad | .ife _ _ _ => fBad
  | .tup _ => fBad | .lst _ => fBad | .cls _ => fBad | .call _ _ _ => fBad | .bi _ _ => fBad | .isi _ _ => fBad | .isx _ _ => fBad | .meth _ _ _ => fBad | .ix _ _ => fBad | .sl _ _ _ _ => fBad | .lc _ _ _ _ _ _ => fBad
  | .tt _ => fBad | .it _ => fBad | .pt _ => fBad | .rng _ _ => fBad | .zip _ => fBad | .enm _ => fBad | .rev _ => fBad
def evI : E → RF (List D)
  | .x _ _ _ _ _ _ => fBad
  | .it a => fIt (evE a)
  | .rng r l => fRng r (evL l)
  | .zip l => fZip (evL l)
  | .enm l => fEnum (evL l)
  | .rev a => fRev (evE a)
  | .nil => fBad | .cons _ _ => fBad | .scons _ _ => fBad | .var _ => fBad | .con _ => fBad | .glb _ => fBad | .bin _ _ _ => fBad | .neg _ => fBad | .not _ => fBad | .and _ _ => fBad | .or _ _ => fBad | .cmp _ _ _ => fBad | .chain _ _ _ _ _ => fBad | .ife _ _ _ => fBad
  | .tup _ => fBad | .lst _ => fBad | .cls _ => fBad | .call _ _ _ => fBad | .bi _ _ => fBad | .isi _ _ => fBad | .isx _ _ => fBad | .meth _ _ _ => fBad | .ix _ _ => fBad | .sl _ _ _ _ => fBad | .lc _ _ _ _ _ _ => fBad
  | .tt _ => fBad | .pt _ => fBad
end
def evS : S → SF
  | .nil => fSkip
  | .cons a b => fSeq (evS a) (evS b)
  | .pass => fSkip
  | .brk => fBrk
  | .cnt => fCnt
  | .asg t e => fAsg t (evE g C e)
  | .aug o i e => fAug2 o i (evE g C e)
  | .exp e => fExp (evE g C e)
  | .ife c a b => fIfS (evT g C c) (evS a) (evS b)
  | .forS t it b => fFor t (evI g C it) (evS b)
  | .whl c b => whlL (evT g C c) (evS b) F
  | .ret e => fRet (evE g C e)
  | .retN => fRetN
  | .raise x => fRaise x
  | .setf f o e => fSetF g.ci f (evE g C o) (evE g C e)
  | .unst i j e => fUnst i j (evE g C e)
  | .slo i => fSeal i
  | .par is l => fPar is (evL g C l)
  | .try_ b x h => fTry (fun c => g.exm.lookup (c, x)) (evS b) (evS h)
  | .tryAs b x i h => fTryAs (fun c => g.exm.lookup (c, x)) i (evS b) (evS h)
end
end TL

namespace TL
open PySem PySem.Spec
open PyProof.Rows L2

/-! ### looks at the text -/
def notStar : Expr → Bool
  | .Starred _ _ => false
  | _ => true
def notSlice : Expr → Bool
  | .Slice _ _ _ _ => false
  | _ => true
def notComp : Expr → Bool
  | .ListComp _ _ _ _ => false
  | .SetComp _ _ _ _ => false
  | .DictComp _ _ _ _ _ => false
  | _ => true
def notTup : Expr → Bool
  | .Tuple _ _ _ => false
  | _ => true
def notSet : Expr → Bool
  | .Set _ _ _ => false
  | _ => true
def notSuper : Expr → Bool
  | .Call _ [] [] _ => false
  | _ => true
def plainT : Expr → Bool
  | .UnaryOp _ _ _ => false
  | .BoolOp _ _ _ => false
  | .IfExp _ _ _ _ => false
  | .Compare _ _ _ _ => false
  | _ => true
theorem star_cons {e : Expr} {es : List Expr} {env : Env} (h : notStar e = true) : starEach (e :: es) env = (false, eval e env) :: starEach es env := by
  cases e <;> first | rfl | cases h
theorem stars_all {es : List Expr} {env : Env} {pos : Pos} (h : es.all notStar = true) : (backTo pos (starEach es env)).any (·.1) = false ∧ (backTo pos (starEach es env)).all (fun x => !x.1) = true := by
  induction es with
  | nil => exact ⟨rfl, rfl⟩
  | cons e es ih =>
    simp only [List.all_cons, Bool.and_eq_true] at h
    rw [star_cons h.1]
    obtain ⟨i1, i2⟩ := ih h.2
    constructor
    · show (false || (backTo pos (starEach es env)).any (·.1)) = false
      rw [i1]; rfl
    · show (true && (backTo pos (starEach es env)).all (fun x => !x.1)) = true
      rw [i2]; rfl
theorem ix_plain {e : Expr} (h : notSlice e = true) : PlainIx e := fun o i => by
  cases e <;> first | rfl | cases h
theorem nosl {e : Expr} (h : notSlice e = true) : NoSl e := fun o i => by
  cases e <;> first | rfl | cases h
theorem noswapAttr {e o : Expr} {f : Str} {p : Pos} {l : Nat} {env : Env} : swapsWith e (some (.Attribute o f p)) l env = pure false := by
  cases e <;> rfl
theorem noswap {e : Expr} {t : Option Expr} {l : Nat} {env : Env} (h : notComp e = true) : swapsWith e t l env = pure false := by
  cases e <;> first | rfl | cases h
theorem noswapTup {e : Expr} {es : List Expr} {k : Nat} {p : Pos} {l : Nat} {env : Env} : swapsWithSole [.Tuple es k p] e l env = pure false := by
  cases e <;> rfl
theorem nostore {e tg : Expr} {env : Env} (h : notTup e = true) : swappedStores [tg] e env = pure none := by
  cases e <;> first | (cases tg <;> rfl) | cases h
def longT (es : List Expr) : Bool := match es with
  | _ :: _ :: _ :: _ :: _ => true
  | _ => false
theorem nostoreL {e : Expr} {es : List Expr} {k : Nat} {p : Pos} {env : Env} (h : (notTup e || longT es) = true) : swappedStores [.Tuple es k p] e env = pure none := by
  by_cases q : notTup e = true
  · exact nostore q
  · have hl : longT es = true := by simpa [q] using h
    match es, hl with
    | a :: b :: c :: d :: r, _ =>
      cases e with
      | Tuple vs k2 p2 =>
        unfold swappedStores
        have e1 : (r.length + 1 + 1 + 1 + 1 == 2) = false := beq_eq_false_iff_ne.mpr (by omega)
        have e2 : (r.length + 1 + 1 + 1 + 1 == 3) = false := beq_eq_false_iff_ne.mpr (by omega)
        simp only [List.length_cons, e1, e2, Bool.or_self, Bool.not_false, Bool.true_or, if_true]
      | _ => exact absurd rfl q
theorem nofold {e : Expr} {env : Env} (h : notSet e = true) : ∀ x, foldedSetIterable e env x = pure x := fun x => by
  cases e <;> first | rfl | cases h
theorem nobehindIn {e : Expr} {op : CmpOp} (h : notSet e = true) : behindInMarks op e = false := by
  cases e <;> first | rfl | cases h
theorem nobase {e : Expr} {n : Str} {env : Env} (h : notSuper e = true) : attributeBase e n env (eval e env) = eval e env := by
  cases e with
  | Call f as kws p =>
    cases as with
    | nil =>
      cases kws with
      | nil => cases h
      | cons k ks => cases f <;> rfl
    | cons a as => cases f <;> rfl
  | _ => rfl
theorem true_plain {e : Expr} {env : Env} (h : plainT e = true) : ∀ whole, isTrue e env whole = (do let v ← whole; standAt e.pos; holding [v] (truthy v)) := fun whole => by
  cases e <;> first | rfl | cases h
theorem asgEach_one {e : Expr} {env : Env} (h : notStar e = true) : (assignEach [e] env).map (·.2) = [assign e env] := by
  cases e <;> first | rfl | cases h
theorem asgEach_cons {e : Expr} {es : List Expr} {env : Env} (h : notStar e = true) : assignEach (e :: es) env = (false, assign e env) :: assignEach es env := by
  cases e <;> first | rfl | cases h

/-! ### the looks' context -/
structure TC where
  N : List Str
  sc : Scope
  asg : Str → Bool
  cm : Bool
  top : Bool := false
def visB (sc : Scope) (x : Str) : Bool := match sc.names.lookup x with
  | some .local => true
  | some .cell => true
  | some .free => true
  | _ => false
def locB (sc : Scope) (x : Str) : Bool := match sc.names.lookup x with
  | some .local => true
  | some .cell => true
  | _ => false
def glB (sc : Scope) (x : Str) : Bool := decide (sc.names.lookup x = some .globalImplicit) && !(x == ("__debug__" : Str))
structure Cxt (g : GI) (C : CallF) (lv : Nat) (c : TC) (xa : XA) (X : Cx) : Prop where
  N : X.N = c.N
  nd : c.N.Nodup
  sc : X.env.scope = c.sc
  asg : ∀ x, c.asg x = true → Loc X.env.scope x ∧ (X.fn x = true ∨ X.env.scope.names.lookup x = some .local)
  cm : c.cm = true → X.calm = true ∧ Room (lv + 1) X.A ∧ ∀ a k, ¬ xa a k
  un : X.A.units + 64 < cLine
  con : ∀ x d, g.con.lookup x = some d → ∃ u v, X.mg x = some u ∧ RelV v u ∧ ∀ φ H, DR X.K φ H d v
  fre : ∀ x, g.fre.contains x = true → X.mg x = none
  fns : ∀ x n, g.fns.lookup x = some n → ∃ f fd ps, X.mg x = some (.ref f) ∧ PySem.W.keepIn X.K (.ref f) = true ∧ Binds X.K fd ps [] ∧ FnOk X.prog X.w X.K X.mg X.base (L2.CX X.prog X.w) lv f fd ps (spOf X.K X.mg n (C x))
  exs : ∀ x, g.exs.contains x = true → ∃ A, X.mg x = some (.ref A) ∧ ExOk X.K A ∧ ExcC X.K A
  exr : ∀ f as M c M', C f as M = .exc c M' → ∃ A, X.mg c = some (.ref A)
  exm : ∀ c x b, g.exm.lookup (c, x) = some b → ∀ A B, X.mg c = some (.ref A) → X.mg x = some (.ref B) → PySem.W.exmOne X.K (.ref A) (.ref B) = some b
  isx : ∀ k T b, g.isx.lookup (k, T) = some b → ∀ A, X.mg k = some (.ref A) → ExcC X.K A ∧ ∃ u v, ((X.mg T = some u) ∨ (X.mg T = none ∧ bootBuiltins T = some u ∧ T ≠ "__name__")) ∧ RelV v u ∧ (∀ u', RelV v u' → u' = u) ∧ PySem.W.kitOne X.K (.ref A) u = some b
  xis : ∀ a k, xa a k → ∀ T b, g.isx.lookup (k, T) = some b → ∃ u v, ((X.mg T = some u) ∨ (X.mg T = none ∧ bootBuiltins T = some u ∧ T ≠ "__name__")) ∧ RelV v u ∧ CallR X (.builtin "isinstance") (fun xs H Q => xs = [.ref a, v] ∧ Q (.bl b) H)
  noat : ∀ c f, g.ci.noat.contains (c, f) = true → Cls X.K (He.ga X.K c) ∧ NoAttr X.K (He.ga X.K c) f
  mets : ∀ c m q n, g.ci.mets.lookup (c, m) = some (q, n) → ∃ f fd ps, Cls X.K (He.ga X.K c) ∧ Meth X.K (He.ga X.K c) m f ∧ Binds X.K fd ps [] ∧ FnOk X.prog X.w X.K X.mg X.base (L2.CX X.prog X.w) lv f fd ps (spOf X.K X.mg n (C q))
  tabs : ∀ x kvs, g.cds.lookup x = some kvs → ∃ a, X.mg x = some (.ref a) ∧ TabOk X.K X.w a kvs
  news : ∀ c q n, g.ci.news.lookup c = some (q, n) → ∃ f fd ps, Mk X.K (He.ga X.K c) f ∧ X.mg c = some (.ref (He.ga X.K c)) ∧ Binds X.K fd ps [] ∧ FnOk X.prog X.w X.K X.mg X.base (L2.CX X.prog X.w) lv f fd ps (spOf X.K X.mg n (C q))
  tp : c.top = true → X.stack = X.env :: X.outer ∧ X.env.frame = some X.env.locals
section
variable {g : GI} {C : CallF} {lv : Nat} {c : TC} {xa : XA} {X : Cx}
theorem vis_of (h : Cxt g C lv c xa X) {x : Str} (v : visB c.sc x = true) : Vis X.env.scope x := by
  unfold visB at v
  rw [h.sc]
  split at v
  · exact .inl (by assumption)
  · exact .inr (.inl (by assumption))
  · exact .inr (.inr (by assumption))
  · cases v
theorem gl_of (h : Cxt g C lv c xa X) {x : Str} (v : glB c.sc x = true) : Gl X x ∧ (x == ("__debug__" : Str)) = false := by
  unfold glB at v
  rw [Bool.and_eq_true] at v
  refine ⟨?_, by simpa using v.2⟩
  show X.env.scope.names.lookup x = _
  rw [h.sc]
  exact of_decide_eq_true v.1
theorem fr_of (h : Cxt g C lv c xa X) {x : Str} (v : (glB c.sc x && g.fre.contains x) = true) : Gl X x ∧ X.mg x = none ∧ (x == ("__debug__" : Str)) = false := by
  rw [Bool.and_eq_true] at v
  exact ⟨(gl_of h v.1).1, h.fre x v.2, (gl_of h v.1).2⟩
theorem units_of (h : Cxt g C lv c xa X) (v : c.cm = true) : X.A.units + 64 < cLine := (h.cm v).2.1.units
end

/-! ### targets -/
mutual
def chkTg (N : List Str) (asg : Str → Bool) : Tg → Expr → Bool
  | .nm i, e => match e with
    | .Name x _ => decide (N[i]? = some x) && asg x
    | _ => false
  | .tup l, e => match e with
    | .Tuple es _ _ => chkTgs N asg l es
    | _ => false
  | .nil, _ => false
  | .cons _ _, _ => false
def chkTgs (N : List Str) (asg : Str → Bool) : Tg → List Expr → Bool
  | .nil, es => match es with
    | [] => true
    | _ => false
  | .cons a b, es => match es with
    | e :: es => notStar e && chkTg N asg a e && chkTgs N asg b es
    | _ => false
  | .nm _, _ => false
  | .tup _, _ => false
end
/-- what a target's rule wants of a context -/
structure TCx (N : List Str) (asg : Str → Bool) (X : Cx) : Prop where
  NN : X.N = N
  nd : N.Nodup
  asg : ∀ x, asg x = true → Loc X.env.scope x ∧ (X.fn x = true ∨ X.env.scope.names.lookup x = some .local)
  calm : X.calm = true
mutual
/-- one reading of a target for all contexts of a kind -/
theorem chkTg_ok {N : List Str} {asg : Str → Bool} (K : PySem.W.Frag) (xa : XA) : ∀ (t : Tg) (e : Expr), chkTg N asg t e = true → ∃ gt, (∀ X, X.K = K → TCx N asg X → PG X e gt) ∧ ∀ v σ H Q φ ρ x ρ', EnvR K xa φ H ρ σ → VR K φ H xa x v → asgT t x ρ = some ρ' →
    (∀ σ', EnvR K xa φ H ρ' σ' → (∀ vs, (∀ i ∈ t.slots, i ∈ vs) → wipe σ' vs = wipe σ vs) → Q σ' H) → gt v σ H Q
  | .nm i, e, h => by
    simp only [chkTg] at h
    split at h
    · rename_i x p
      rw [Bool.and_eq_true] at h
      refine ⟨gName i, fun X eK T => ?_, fun v σ H Q φ ρ x ρ' env r h q => ?_⟩
      · obtain ⟨a1, a2⟩ := T.asg x h.2
        exact pg_name (by rw [T.NN]; exact T.nd) (by rw [T.NN]; exact of_decide_eq_true h.1) a1 a2
      · simp only [asgT] at h
        cases h
        exact q _ (env.set r) fun vs hv => wipe_set (hv i (by simp [Tg.slots]))
    · cases h
  | .tup l, e, h => by
    simp only [chkTg] at h
    split at h
    · rename_i es k p
      obtain ⟨gt, g1, g2, g3, g4⟩ := chkTgs_ok K xa l es h
      refine ⟨gTup K l.len gt, fun X eK T => ?_, fun v σ H Q φ ρ x ρ' env r h q => ?_⟩
      · subst eK
        exact pg_tup T.calm (g1 X rfl T) (g3 _) (g4 _)
      · cases x with
        | d x =>
          cases x with
          | tuple xs =>
            simp only [asgT] at h
            obtain ⟨a, vs, rfl, h1, h2⟩ := drT r
            exact ⟨a, vs, rfl, h1.sq, by rw [h2.length]; exact asgL_len h, g2 vs σ H Q φ ρ xs ρ' env h2 h q⟩
          | _ => simp [asgT] at h
        | _ => simp [asgT] at h
    · cases h
  | .nil, e, h => by simp [chkTg] at h
  | .cons _ _, e, h => by simp [chkTg] at h
theorem chkTgs_ok {N : List Str} {asg : Str → Bool} (K : PySem.W.Frag) (xa : XA) : ∀ (t : Tg) (es : List Expr), chkTgs N asg t es = true → ∃ gt, (∀ X, X.K = K → TCx N asg X → PGs X es gt) ∧ (∀ vs σ H Q φ ρ xs ρ', EnvR K xa φ H ρ σ → DRs K φ H xs vs → asgL t xs ρ = some ρ' →
    (∀ σ', EnvR K xa φ H ρ' σ' → (∀ vs, (∀ i ∈ t.slots, i ∈ vs) → wipe σ' vs = wipe σ vs) → Q σ' H) → gt vs σ H Q) ∧ (∀ env, (assignEach es env).length = t.len) ∧ ∀ env, (assignEach es env).findIdx? (·.1) = none
  | .nil, es, h => by
    simp only [chkTgs] at h
    split at h
    · refine ⟨gNil, fun X eK T => pgs_nil, fun vs σ H Q φ ρ xs ρ' env r h q => ?_, fun _ => rfl, fun _ => rfl⟩
      cases xs with
      | nil =>
        simp only [asgL] at h
        cases h
        simp only [DRs] at r
        subst r
        exact ⟨rfl, q σ env fun _ _ => rfl⟩
      | cons x xs => simp [asgL] at h
    · cases h
  | .cons a b, es, h => by
    simp only [chkTgs] at h
    split at h
    · rename_i e es
      rw [Bool.and_eq_true, Bool.and_eq_true] at h
      obtain ⟨ga, a1, a2⟩ := chkTg_ok K xa a e h.1.2
      obtain ⟨gb, b1, b2, b3, b4⟩ := chkTgs_ok K xa b es h.2
      refine ⟨gCons ga gb, fun X eK T => pgs_cons (a1 X eK T) (b1 X eK T) (by rw [asgEach_cons h.1.1]; rfl), fun vs σ H Q φ ρ xs ρ' env r h q => ?_, fun env => ?_, fun env => ?_⟩
      · cases xs with
        | nil => simp [asgL] at h
        | cons x xs =>
          simp only [asgL] at h
          cases e1 : asgT a (.d x) ρ with
          | none => rw [e1] at h; cases h
          | some ρ1 =>
            rw [e1] at h
            simp only [Option.bind_some] at h
            simp only [DRs] at r
            obtain ⟨v, w, rfl, r1, r2⟩ := r
            refine ⟨v, w, rfl, a2 v σ H _ φ ρ (.d x) ρ1 env r1 e1 fun σ1 env1 w1 => b2 w σ1 H _ φ ρ1 xs ρ' env1 r2 h fun σ2 env2 w2 => q σ2 env2 fun vs hv => ?_⟩
            rw [w2 vs fun i hi => hv i (by simp [Tg.slots, hi]), w1 vs fun i hi => hv i (by simp [Tg.slots, hi])]
      · rw [asgEach_cons h.1.1, List.length_cons, b3]
        rfl
      · rw [asgEach_cons h.1.1, List.findIdx?_cons, b4]
        rfl
    · cases h
  | .nm _, es, h => by simp [chkTgs] at h
  | .tup _, es, h => by simp [chkTgs] at h
end

/-! ### expressions -/
def strB (e : Expr) (s : Str) : Bool := match e with
  | .Constant (.str t) _ _ => t == s
  | _ => false
def ddB : List (Str × Str) → List (Option Expr) → List Expr → Bool
  | [], [], [] => true
  | p :: r, some k :: ks, v :: vs => strB k p.1 && (strB v p.2 && ddB r ks vs)
  | _, _, _ => false
def conB : D → Const → Bool
  | .int i, .int j => i == j
  | .bool i, .bool j => i == j
  | .str i, .str j => i == j
  | .none, .none => true
  | _, _ => false
def ownP (N : List Str) (own : List Nat) : List (Str × Nat) := own.map fun i => (N.getD i Str.empty, i)
theorem ownP_snd (N : List Str) (own : List Nat) : (ownP N own).map (·.2) = own := by
  unfold ownP
  rw [List.map_map]
  exact List.map_id' own
def blkTC (c : TC) (scope : Scope) : TC := { c with top := false, sc := relS scope c.sc, asg := fun x => match scope.names.lookup x with
  | some .local => true
  | some .cell => true
  | _ => false }
variable (g : GI)
mutual
def chkE : E → TC → Expr → Bool
  | .var i, c, e => match e with
    | .Name x _ => decide (c.N[i]? = some x) && visB c.sc x && !(x == ("__debug__" : Str)) && !(x == ("__classdict__" : Str))
    | _ => false
  | .con d, _, e => match e with
    | .Constant k _ _ => conB d k
    | _ => false
  | .glb x, c, e => match e with
    | .Name y _ => y == x && glB c.sc x
    | _ => false
  | .bin o a b, c, e => match e with
    | .BinOp l op r _ => decide (o.op = op) && chkE a c l && chkE b c r
    | _ => false
  | .neg a, c, e => match e with
    | .UnaryOp op x _ => decide (op = .USub) && chkE a c x
    | _ => false
  | .not a, c, e => match e with
    | .UnaryOp op x _ => decide (op = .Not) && chkE a c x
    | _ => false
  | .and a b, c, e => match e with
    | .BoolOp op (x :: y :: rest) p => decide (op = .And) && chkE a c x && (match rest with
      | [] => chkE b c y
      | _ => chkE b c (.BoolOp .And (y :: rest) p))
    | _ => false
  | .or a b, c, e => match e with
    | .BoolOp op (x :: y :: rest) p => decide (op = .Or) && chkE a c x && (match rest with
      | [] => chkE b c y
      | _ => chkE b c (.BoolOp .Or (y :: rest) p))
    | _ => false
  | .cmp o a b, c, e => match e with
    | .Compare l [op] [r] _ => decide (o.op = op) && notSet r && chkE a c l && chkE b c r
    | _ => false
  | .chain o o' a b d, c, e => match e with
    | .Compare l [op, op'] [r, r'] _ => c.cm && decide (o.op = op) && decide (o'.op = op') && notSet r' && chkE a c l && chkE b c r && chkE d c r'
    | _ => false
  | .ife d a b, c, e => match e with
    | .IfExp t x y _ => chkT d c t && chkE a c x && chkE b c y
    | _ => false
  | .tup l, c, e => match e with
    | .Tuple es _ _ => chkL l c es
    | _ => false
  | .lst l, c, e => match e with
    | .List es _ => chkL l c es
    | _ => false
  | .cls l, c, e => match e with
    | .List es _ => chkL l c es
    | _ => false
  | .call f _ l, c, e => match e with
    | .Call (.Name x _) (a :: as) [] _ => c.cm && x == f && glB c.sc f && decide (g.fns.lookup f = some (a :: as).length) && (a :: as).all notStar && chkL l c (a :: as)
    | _ => false
  | .bi f l, c, e => match e with
    | .Call (.Name x _) (a :: as) [] _ => c.cm && x == f.name && (glB c.sc f.name && g.fre.contains f.name) && (a :: as).all notStar && chkL l c (a :: as)
    | _ => false
  | .isi t a, c, e => match e with
    | .Call (.Name x _) [y, .Name z _] [] _ => x == ("isinstance" : Str) && z == Str.ofString t && knownTy.contains t && (glB c.sc "isinstance" && g.fre.contains "isinstance") && (glB c.sc (Str.ofString t) && g.fre.contains (Str.ofString t)) && notStar y && chkE a c y
    | _ => false
  | .isx t i, c, e => match e with
    | .Call (.Name x _) [.Name y _, .Name z _] [] _ => x == ("isinstance" : Str) && z == t && (glB c.sc "isinstance" && g.fre.contains "isinstance") && glB c.sc t && decide (c.N[i]? = some y) && visB c.sc y && !(y == ("__debug__" : Str)) && !(y == ("__classdict__" : Str))
    | _ => false
  | .meth m o l, c, e => match e with
    | .Call (.Attribute v n ap) as [] cp => c.cm && n == m.name && notSuper v && ap.endLine == cp.line && decide (as.length < 29) && as.all notStar && chkE o c v && chkL l c as
    | _ => false
  | .ix a b, c, e => match e with
    | .Subscript x y _ => notSlice y && chkE a c x && chkE b c y
    | _ => false
  | .sl _ a lo hi, c, e => match e with
    | .Subscript x (.Slice l h none _) _ => chkE a c x && chkP lo c l && chkP hi c h
    | _ => false
  | .lc _ elt t it d own, c, e => match e with
    | .ListComp x [⟨tg, iter, ifs, ia⟩] scope _ => decide (ia = 0) && c.cm && blkC c.N c.sc scope (ownP c.N own) && t.slots.all (fun i => own.contains i) && notSet iter && chkTg c.N (blkTC c scope).asg t tg && chkI it c tg iter && chkC d (blkTC c scope) ifs && chkE elt (blkTC c scope) x
    | _ => false
  | .x k a b d d' d'', c, e => match k with
    | .dix => match e with
      | .Subscript x y _ => c.cm && notSlice y && chkE a c x && chkE b c y
      | _ => false
    | .fld f => match e with
      | .Attribute v n _ => n == f && notSuper v && chkE a c v
      | _ => false
    | .mcall cl m q _ => match e with
      | .Call (.Attribute v n ap) as [] cp => c.cm && n == m && notSuper v && ap.endLine == cp.line && decide (as.length < 29) && as.all notStar && decide (g.ci.mets.lookup (cl, m) = some (q, as.length + 1)) && chkE a c v && chkL b c as
      | _ => false
    | .new cl q => match e with
      | .Call (.Name x _) (u :: us) [] _ => c.cm && x == cl && glB c.sc cl && decide (g.ci.news.lookup cl = some (q, us.length + 2)) && (u :: us).all notStar && chkL a c (u :: us)
      | _ => false
    | .lc2 _ t t1 own own1 => match e with
      | .ListComp x [⟨tg, iter, ifs, ia⟩, ⟨tg1, iter1, ifs1, ia1⟩] scope _ => decide (ia = 0) && decide (ia1 = 0) && c.cm && blkC c.N c.sc scope (ownP c.N own) && t.slots.all (fun i => own.contains i) && t1.slots.all (fun i => own1.contains i) && own1.all (fun i => own.contains i) && notSet iter && notSet iter1 &&
        chkTg c.N (blkTC c scope).asg t tg && chkTg c.N (blkTC c scope).asg t1 tg1 && chkI a c tg iter && chkC b (blkTC c scope) ifs && chkI d (blkTC c scope) tg1 iter1 && chkC d' (blkTC c scope) ifs1 && chkE d'' (blkTC c scope) x
      | _ => false
    | .dc t own => match e with
      | .DictComp x y [⟨tg, iter, ifs, ia⟩] scope _ => decide (ia = 0) && c.cm && blkC c.N c.sc scope (ownP c.N own) && t.slots.all (fun i => own.contains i) && notSet iter && chkTg c.N (blkTC c scope).asg t tg && chkI a c tg iter && chkC b (blkTC c scope) ifs && chkE d (blkTC c scope) x && chkE d' (blkTC c scope) y
      | _ => false
    | .sm m => match e with
      | .Call (.Attribute v n ap) [u] [] cp => n == m.name && notSuper v && ap.endLine == cp.line && notStar u && chkE a c v && chkE b c u
      | _ => false
    | .join => match e with
      | .Call (.Attribute v n ap) [u] [] cp => n == ("join" : Str) && notSuper v && ap.endLine == cp.line && notStar u && chkE a c v && chkE b c u
      | _ => false
    | .lcx _ t own => match e with
      | .ListComp x [⟨tg, iter, ifs, ia⟩] scope _ => decide (ia = 0) && (c.cm && c.top) && blkC c.N c.sc scope (ownP c.N own) && t.slots.all (fun i => own.contains i) && notSet iter && chkTg c.N (blkTC c scope).asg t tg && chkI a c tg iter && chkC b (blkTC c scope) ifs && chkE d (blkTC c scope) x
      | _ => false
    | .back => match e with
      | .Subscript u (.Slice none none (some (.UnaryOp .USub (.Constant (.int 1) _ _) _)) _) _ => chkE a c u
      | _ => false
    | .fmt => match e with
      | .FormattedValue x cv none _ => decide (cv = -1) && chkE a c x
      | _ => false
    | .fstr n => match e with
      | .JoinedStr [u, v] _ => n == 2 && chkE a c u && chkE b c v
      | .JoinedStr [u, v, w] _ => n == 3 && chkE a c u && chkE b c v && chkE d c w
      | .JoinedStr [u, v, w, z] _ => n == 4 && chkE a c u && chkE b c v && chkE d c w && chkE d' c z
      | _ => false
    | .cdix x => match e with
      | .Subscript (.Name y _) i _ => c.cm && y == x && glB c.sc x && (g.cds.lookup x).isSome && notSlice i && chkE a c i
      | _ => false
    | .cdin _ => false
    | .dd kvs => match e with
      | .Dict keys values _ => decide (keys.length = kvs.length) && decide (values.length = kvs.length) && !keys.isEmpty && decide (keys.length ≤ 15) && decide (kvs.map (·.1)).Nodup && ddB kvs keys values
      | _ => false
  | .nil, _, _ => false | .cons _ _, _, _ => false | .scons _ _, _, _ => false | .tt _, _, _ => false | .it _, _, _ => false | .pt _, _, _ => false | .rng _ _, _, _ => false | .zip _, _, _ => false | .enm _, _, _ => false | .rev _, _, _ => false
def chkL : E → TC → List Expr → Bool
  | .x _ _ _ _ _ _, _, _ => false
  | .nil, _, es => match es with
    | [] => true
    | _ => false
  | .cons a b, c, es => match es with
    | e :: es => notStar e && chkE a c e && chkL b c es
    | _ => false
  | .scons a b, c, es => match es with
    | .Starred e _ :: es => chkE a c e && chkL b c es
    | _ => false
  | .var _, _, _ => false | .con _, _, _ => false | .glb _, _, _ => false | .bin _ _ _, _, _ => false | .neg _, _, _ => false | .not _, _, _ => false | .and _ _, _, _ => false | .or _ _, _, _ => false | .cmp _ _ _, _, _ => false | .chain _ _ _ _ _, _, _ => false | .ife _ _ _, _, _ => false
  | .tup _, _, _ => false | .lst _, _, _ => false | .cls _, _, _ => false | .call _ _ _, _, _ => false | .bi _ _, _, _ => false | .isi _ _, _, _ => false | .isx _ _, _, _ => false | .meth _ _ _, _, _ => false | .ix _ _, _, _ => false | .sl _ _ _ _, _, _ => false | .lc _ _ _ _ _ _, _, _ => false
  | .tt _, _, _ => false | .it _, _, _ => false | .pt _, _, _ => false | .rng _ _, _, _ => false | .zip _, _, _ => false | .enm _, _, _ => false | .rev _, _, _ => false
def chkT : E → TC → Expr → Bool
  | .x k a _ _ _ _, c, e => match k with
    | .cdin x => match e with
      | .Compare u [op] [.Name y _] _ => decide (op = .In) && y == x && glB c.sc x && (g.cds.lookup x).isSome && chkE a c u
      | _ => false
    | _ => false
  | .not a, c, e => match e with
    | .UnaryOp op x _ => decide (op = .Not) && chkT a c x
    | _ => false
  | .and a b, c, e => match e with
    | .BoolOp op (x :: y :: rest) p => decide (op = .And) && chkT a c x && (match rest with
      | [] => chkT b c y
      | _ => chkT b c (.BoolOp .And (y :: rest) p))
    | _ => false
  | .or a b, c, e => match e with
    | .BoolOp op (x :: y :: rest) p => decide (op = .Or) && chkT a c x && (match rest with
      | [] => chkT b c y
      | _ => chkT b c (.BoolOp .Or (y :: rest) p))
    | _ => false
  | .cmp o a b, c, e => match e with
    | .Compare l [op] [r] _ => decide (o.op = op) && notSet r && chkE a c l && chkE b c r
    | _ => false
  | .chain o o' a b d, c, e => match e with
    | .Compare l [op, op'] [r, r'] _ => c.cm && decide (o.op = op) && decide (o'.op = op') && notSet r' && chkE a c l && chkE b c r && chkE d c r'
    | _ => false
  | .tt a, c, e => plainT e && chkE a c e
  | .var _, _, _ => false | .con _, _, _ => false | .glb _, _, _ => false | .bin _ _ _, _, _ => false | .neg _, _, _ => false | .ife _ _ _, _, _ => false | .nil, _, _ => false | .cons _ _, _, _ => false | .scons _ _, _, _ => false
  | .tup _, _, _ => false | .lst _, _, _ => false | .cls _, _, _ => false | .call _ _ _, _, _ => false | .bi _ _, _, _ => false | .isi _ _, _, _ => false | .isx _ _, _, _ => false | .meth _ _ _, _, _ => false | .ix _ _, _, _ => false | .sl _ _ _ _, _, _ => false | .lc _ _ _ _ _ _, _, _ => false
  | .it _, _, _ => false | .pt _, _, _ => false | .rng _ _, _, _ => false | .zip _, _, _ => false | .enm _, _, _ => false | .rev _, _, _ => false
def chkP : E → TC → Option Expr → Bool
  | .x _ _ _ _ _ _, _, _ => false
  | .nil, _, e => match e with
    | none => true
    | _ => false
  | .pt a, c, e => match e with
    | some x => chkE a c x
    | _ => false
  | .cons _ _, _, _ => false | .scons _ _, _, _ => false | .var _, _, _ => false | .con _, _, _ => false | .glb _, _, _ => false | .bin _ _ _, _, _ => false | .neg _, _, _ => false | .not _, _, _ => false | .and _ _, _, _ => false | .or _ _, _, _ => false | .cmp _ _ _, _, _ => false | .chain _ _ _ _ _, _, _ => false | .ife _ _ _, _, _ => false
  | .tup _, _, _ => false | .lst _, _, _ => false | .cls _, _, _ => false | .call _ _ _, _, _ => false | .bi _ _, _, _ => false | .isi _ _, _, _ => false | .isx _ _, _, _ => false | .meth _ _ _, _, _ => false | .ix _ _, _, _ => false | .sl _ _ _ _, _, _ => false | .lc _ _ _ _ _ _, _, _ => false
  | .tt _, _, _ => false | .it _, _, _ => false | .rng _ _, _, _ => false | .zip _, _, _ => false | .enm _, _, _ => false | .rev _, _, _ => false
def chkC : E → TC → List Expr → Bool
  | .x _ _ _ _ _ _, _, _ => false
  | .nil, _, es => match es with
    | [] => true
    | _ => false
  | .cons a _, c, es => match es with
    | [x] => chkT a c x
    | _ => false
  | .scons _ _, _, _ => false | .var _, _, _ => false | .con _, _, _ => false | .glb _, _, _ => false | .bin _ _ _, _, _ => false | .neg _, _, _ => false | .not _, _, _ => false | .and _ _, _, _ => false | .or _ _, _, _ => false | .cmp _ _ _, _, _ => false | .chain _ _ _ _ _, _, _ => false | .ife _ _ _, _, _ => false
  | .tup _, _, _ => false | .lst _, _, _ => false | .cls _, _, _ => false | .call _ _ _, _, _ => false | .bi _ _, _, _ => false | .isi _ _, _, _ => false | .isx _ _, _, _ => false | .meth _ _ _, _, _ => false | .ix _ _, _, _ => false | .sl _ _ _ _, _, _ => false | .lc _ _ _ _ _ _, _, _ => false
  | .tt _, _, _ => false | .it _, _, _ => false | .pt _, _, _ => false | .rng _ _, _, _ => false | .zip _, _, _ => false | .enm _, _, _ => false | .rev _, _, _ => false
def chkI : E → TC → Expr → Expr → Bool
  | .x _ _ _ _ _ _, _, _, _ => false
  | .it a, c, _, e => chkE a c e
  | .rng false l, c, _, e => match e with
    | .Call (.Name x _) as [] _ => x == ("range" : Str) && (glB c.sc "range" && g.fre.contains "range") && (as.length == 1 || as.length == 2) && as.all notStar && chkL l c as
    | _ => false
  | .rng true l, c, _, e => match e with
    | .Call (.Name y _) [.Call (.Name x _) as [] _] [] _ => y == ("reversed" : Str) && x == ("range" : Str) && (glB c.sc "range" && g.fre.contains "range") && (glB c.sc "reversed" && g.fre.contains "reversed") && (match l, as with
      | .cons a .nil, [u] => notStar u && chkE a c u
      | .cons a (.cons b .nil), [u, v] => notStar u && notStar v && chkE a c u && chkE b c v
      | _, _ => false)
    | _ => false
  | .zip l, c, tg, e => match tg, e with
    | .Tuple _ _ _, .Call (.Name x _) [u, v] [] _ => x == ("zip" : Str) && (glB c.sc "zip" && g.fre.contains "zip") && [u, v].all notStar && chkL l c [u, v]
    | _, _ => false
  | .enm l, c, tg, e => match tg, e with
    | .Tuple _ _ _, .Call (.Name x _) [u] [] _ => x == ("enumerate" : Str) && (glB c.sc "enumerate" && g.fre.contains "enumerate") && [u].all notStar && chkL l c [u]
    | _, _ => false
  | .rev a, c, _, e => match e with
    | .Call (.Name x _) [u] [] _ => x == ("reversed" : Str) && (glB c.sc "reversed" && g.fre.contains "reversed") && notStar u && chkE a c u
    | _ => false
  | .nil, _, _, _ => false | .cons _ _, _, _, _ => false | .scons _ _, _, _, _ => false | .var _, _, _, _ => false | .con _, _, _, _ => false | .glb _, _, _, _ => false | .bin _ _ _, _, _, _ => false | .neg _, _, _, _ => false | .not _, _, _, _ => false | .and _ _, _, _, _ => false | .or _ _, _, _, _ => false | .cmp _ _ _, _, _, _ => false | .chain _ _ _ _ _, _, _, _ => false | .ife _ _ _, _, _, _ => false
  | .tup _, _, _, _ => false | .lst _, _, _, _ => false | .cls _, _, _, _ => false | .call _ _ _, _, _, _ => false | .bi _ _, _, _, _ => false | .isi _ _, _, _, _ => false | .isx _ _, _, _, _ => false | .meth _ _ _, _, _, _ => false | .ix _ _, _, _, _ => false | .sl _ _ _ _, _, _, _ => false | .lc _ _ _ _ _ _, _, _, _ => false
  | .tt _, _, _, _ => false | .pt _, _, _, _ => false
end
end TL

set_option maxHeartbeats 2000000
namespace TL
open PySem PySem.Spec
open PyProof.Rows L2
section
variable {g : GI} {C : CallF} {lv : Nat}
theorem evL_len : ∀ (l : E) {c : TC} {es : List Expr} {ρ : Rho} {M M' : Store} {as : List Vl}, es.all notStar = true → chkL g l c es = true → evL g C l ρ M = .ok as M' → as.length = es.length
  | .nil, c, es, ρ, M, M', as, hs, h, e => by
    simp only [chkL] at h
    split at h
    · simp only [evL, fNil] at e
      cases e; rfl
    · cases h
  | .cons a b, c, es, ρ, M, M', as, hs, h, e => by
    simp only [chkL] at h
    split at h
    · rename_i x xs
      simp only [Bool.and_eq_true] at h
      simp only [evL, fCons] at e
      cases h1 : evE g C a ρ M with
      | bad => rw [h1] at e; cases e
      | exc k M1 => rw [h1] at e; cases e
      | ok y M1 =>
        rw [h1] at e
        simp only [Res.bind_ok] at e
        cases h2 : evL g C b ρ M1 with
        | bad => rw [h2] at e; cases e
        | exc k M1 => rw [h2] at e; cases e
        | ok ys M2 =>
          rw [h2] at e
          simp only [Res.bind_ok] at e
          cases e
          simp only [List.all_cons, Bool.and_eq_true] at hs
          simp [evL_len b hs.2 h.2 h2]
    · cases h
  | .scons a b, c, es, ρ, M, M', as, hs, h, e => by
    simp only [chkL] at h
    split at h
    · simp only [List.all_cons, notStar, Bool.false_and] at hs
      cases hs
    · cases h
  | .var _, _, _, _, _, _, _, _, h, _ => by simp [chkL] at h
  | .con _, _, _, _, _, _, _, _, h, _ => by simp [chkL] at h
  | .glb _, _, _, _, _, _, _, _, h, _ => by simp [chkL] at h
  | .bin _ _ _, _, _, _, _, _, _, _, h, _ => by simp [chkL] at h
  | .neg _, _, _, _, _, _, _, _, h, _ => by simp [chkL] at h
  | .not _, _, _, _, _, _, _, _, h, _ => by simp [chkL] at h
  | .and _ _, _, _, _, _, _, _, _, h, _ => by simp [chkL] at h
  | .or _ _, _, _, _, _, _, _, _, h, _ => by simp [chkL] at h
  | .cmp _ _ _, _, _, _, _, _, _, _, h, _ => by simp [chkL] at h
  | .chain _ _ _ _ _, _, _, _, _, _, _, _, h, _ => by simp [chkL] at h
  | .ife _ _ _, _, _, _, _, _, _, _, h, _ => by simp [chkL] at h
  | .tup _, _, _, _, _, _, _, _, h, _ => by simp [chkL] at h
  | .lst _, _, _, _, _, _, _, _, h, _ => by simp [chkL] at h
  | .cls _, _, _, _, _, _, _, _, h, _ => by simp [chkL] at h
  | .call _ _ _, _, _, _, _, _, _, _, h, _ => by simp [chkL] at h
  | .bi _ _, _, _, _, _, _, _, _, h, _ => by simp [chkL] at h
  | .isi _ _, _, _, _, _, _, _, _, h, _ => by simp [chkL] at h
  | .isx _ _, _, _, _, _, _, _, _, h, _ => by simp [chkL] at h
  | .meth _ _ _, _, _, _, _, _, _, _, h, _ => by simp [chkL] at h
  | .ix _ _, _, _, _, _, _, _, _, h, _ => by simp [chkL] at h
  | .sl _ _ _ _, _, _, _, _, _, _, _, h, _ => by simp [chkL] at h
  | .lc _ _ _ _ _ _, _, _, _, _, _, _, _, h, _ => by simp [chkL] at h
  | .tt _, _, _, _, _, _, _, _, h, _ => by simp [chkL] at h
  | .it _, _, _, _, _, _, _, _, h, _ => by simp [chkL] at h
  | .pt _, _, _, _, _, _, _, _, h, _ => by simp [chkL] at h
  | .rng _ _, _, _, _, _, _, _, _, h, _ => by simp [chkL] at h
  | .zip _, _, _, _, _, _, _, _, h, _ => by simp [chkL] at h
  | .enm _, _, _, _, _, _, _, _, h, _ => by simp [chkL] at h
  | .rev _, _, _, _, _, _, _, _, h, _ => by simp [chkL] at h
  | .x _ _ _ _ _ _, _, _, _, _, _, _, _, h, _ => by simp [chkL] at h
/-- the block's context -/
theorem cxt_blk {c : TC} {xa : XA} {X : Cx} (h : Cxt g C lv c xa X) (hc : c.cm = true) (scope : Scope) (s : Shared) (H : Hp) (A : Addr) (cl : List (Str × Addr)) (fp : List Addr) : Cxt g C lv (blkTC c scope) xa (X.blk s H scope (compEnvC scope cl A X.env) fp) where
  N := h.N
  nd := h.nd
  sc := by show relS scope X.env.scope = _; rw [h.sc]; rfl
  asg := fun x e => by
    simp only [blkTC] at e
    show Loc (relS scope X.env.scope) x ∧ ((scope.names.lookup x == some .cell) = true ∨ (relS scope X.env.scope).names.lookup x = some .local)
    split at e
    · rename_i q
      have k := lookup_relS_keep (sc := X.env.scope) (k := .local) (by decide) q
      exact ⟨.inl k, .inr k⟩
    · rename_i q
      have k := lookup_relS_keep (sc := X.env.scope) (k := .cell) (by decide) q
      exact ⟨.inr k, .inl (by rw [q]; rfl)⟩
    · cases e
  cm := h.cm
  un := h.un
  con := h.con
  fre := h.fre
  fns := h.fns
  exs := h.exs
  exr := h.exr
  exm := h.exm
  isx := h.isx
  xis := fun a k hx => absurd hx ((h.cm hc).2.2 a k)
  noat := h.noat
  mets := h.mets
  tabs := h.tabs
  news := h.news
  tp := fun e => by cases e
theorem cxt_blkx {c : TC} {xa : XA} {X : Cx} (h : Cxt g C lv c xa X) (hc : c.cm = true) (scope : Scope) (s : Shared) (H : Hp) (A : Addr) (cl : List (Str × Addr)) (fp : List Addr) (xe : Value → Shared → Prop) : Cxt g C lv (blkTC c scope) xa (Cx.wish (X.blk s H scope (compEnvC scope cl A X.env) fp) xe) :=
  let h0 := cxt_blk h hc scope s H A cl fp
  ⟨h0.N, h0.nd, h0.sc, h0.asg, h0.cm, h0.un, h0.con, h0.fre, h0.fns, h0.exs, h0.exr, h0.exm, h0.isx, fun a k hx => absurd hx ((h.cm hc).2.2 a k), h0.noat, h0.mets, h0.tabs, h0.news, h0.tp⟩
theorem strB_ok {X : Cx} {e : Expr} {s : Str} (h : strB e s = true) : PE X e (tC (.str s)) := by
  unfold strB at h
  split at h
  · rw [beq_iff_eq.mp h]; exact pe_str
  · cases h
theorem ddB_ok {X : Cx} : ∀ {kvs : List (Str × Str)} {keys : List (Option Expr)} {values : List Expr}, ddB kvs keys values = true → ∀ (i : Nat) (p : Str × Str), kvs[i]? = some p → ∃ kx vx, keys[i]? = some (some kx) ∧ values[i]? = some vx ∧ PE X kx (tC (.str p.1)) ∧ PE X vx (tC (.str p.2))
  | [], _, _, _, i, p, h => by simp at h
  | q :: r, [], _, hb, _, _, _ => by simp [ddB] at hb
  | q :: r, none :: ks, _, hb, _, _, _ => by simp [ddB] at hb
  | q :: r, some k :: ks, [], hb, _, _, _ => by simp [ddB] at hb
  | q :: r, some k :: ks, v :: vs, hb, i, p, h => by
    simp only [ddB, Bool.and_eq_true] at hb
    obtain ⟨b1, b2, b3⟩ := hb
    cases i with
    | zero =>
      simp only [List.getElem?_cons_zero, Option.some.injEq] at h
      subst h
      exact ⟨k, v, rfl, rfl, strB_ok b1, strB_ok b2⟩
    | succ i =>
      obtain ⟨kx, vx, e1, e2, e3, e4⟩ := ddB_ok b3 i p (by simpa using h)
      exact ⟨kx, vx, by simpa using e1, by simpa using e2, e3, e4⟩
theorem tab_of {X : Cx} {xa : XA} {c : TC} (h : Cxt g C lv c xa X) {x : Str} (k : (g.cds.lookup x).isSome = true) : ∃ a, X.mg x = some (.ref a) ∧ TabOk X.K X.w a (tabOf g x) := by
  obtain ⟨kvs, hk⟩ := Option.isSome_iff_exists.mp k
  obtain ⟨a, h1, h2⟩ := h.tabs _ _ hk
  exact ⟨a, h1, by unfold tabOf; rw [hk]; exact h2⟩
theorem SE.bad {X : Cx} {xa : XA} {e : Expr} {f : RF Vl} (h : False) : SE X xa e f := h.elim
theorem bi_ok {X : Cx} {xa : XA} {c : TC} (h : Cxt g C lv c xa X) (hc : c.cm = true) (f : Bi) {e : Expr} {es : List Expr} {fl : RF (List Vl)} {p pos : Pos} (hf : (glB c.sc f.name && g.fre.contains f.name) = true) (ha : SA X xa (e :: es) fl)
    (he : starEach (e :: es) X.env = (false, eval e X.env) :: starEach es X.env) (hpl : (backTo pos (starEach es X.env)).any (·.1) = false) : SE X xa (.Call (.Name f.name p) (e :: es) [] pos) (fApp f.g fl) := by
  obtain ⟨h1, h2, h3⟩ := fr_of h hf
  have hcalm := (h.cm hc).1
  cases f with
  | len => exact se_callB cr_len h1 h2 PySem.boot_len ha (by decide) h3 he hpl
  | abs => exact se_callB cr_abs h1 h2 (by decide +kernel) ha (by decide) h3 he hpl
  | int => exact se_callTy cr_int h1 h2 boot_int ha (by decide) h3 he hpl
  | tuple => exact se_callTy cr_tuple h1 h2 boot_tuple ha (by decide) h3 he hpl
  | list => exact se_callTy (cr_list false) h1 h2 boot_list ha (by decide) h3 he hpl
  | clist => exact se_callTy (cr_list true) h1 h2 boot_list ha (by decide) h3 he hpl
  | all => exact se_callB (cr_all2 hcalm) h1 h2 boot_all ha (by decide) h3 he hpl
  | any => exact se_callB (cr_any2 hcalm) h1 h2 (by decide +kernel) ha (by decide) h3 he hpl
  | sum => exact se_callB (cr_sum2 hcalm) h1 h2 boot_sum ha (by decide) h3 he hpl
  | max => exact se_callB (cr_max2 hcalm) h1 h2 boot_max ha (by decide) h3 he hpl
  | min => exact se_callB (cr_min2 hcalm) h1 h2 boot_min ha (by decide) h3 he hpl
  | str => exact se_callTy cr_str h1 h2 (by decide +kernel) ha (by decide) h3 he hpl
theorem me_ok {X : Cx} {xa : XA} {c : TC} (h : Cxt g C lv c xa X) (hc : c.cm = true) (m : Me) : ∃ id, PySem.Slot "list" m.name id ∧ typeOf (.builtin id) = pure (.type "method_descriptor") ∧ MtR X id (MRr X.K xa m.g) := by
  cases m with
  | append => exact ⟨_, PySem.F.slot_list_append, PySem.F.type_list_append, mt_append2⟩
  | pop => exact ⟨_, PySem.F.slot_list_pop, PySem.F.type_list_pop, mt_pop2⟩
  | popAt => exact ⟨_, PySem.F.slot_list_pop, PySem.F.type_list_pop, mt_popAt2⟩
  | extend => exact ⟨_, PySem.F.slot_list_extend, PySem.F.type_list_extend, mt_extend2⟩
  | reverse => exact ⟨_, PySem.F.slot_list_reverse, PySem.F.type_list_reverse, mt_reverse2⟩
  | clear => exact ⟨_, PySem.F.slot_list_clear, PySem.F.type_list_clear, mt_clear2⟩
  | count => exact ⟨_, PySem.F.slot_list_count, PySem.F.type_list_count, mt_count2 (units_of h hc)⟩
theorem few_ok {e : Expr} {es : List Expr} {env : Env} {pos : Pos} (h : (e :: es).all notStar = true) (hl : (e :: es).length < 29) : ((backTo pos (starEach (e :: es) env)).all (fun x => !x.1) && (backToKw pos (keywordEach [] env)).all (fun x => x.1.isSome)
      && decide ((e :: es).length + ([] : List Keyword).length + (if ([] : List Keyword).isEmpty then 0 else 1) < 30)) = true := by
  rw [(stars_all (pos := pos) h).2]
  show (true && true && _) = true
  simp only [Bool.true_and]
  refine decide_eq_true ?_
  show (e :: es).length + 0 + 0 < 30
  omega
mutual
theorem chkE_ok : ∀ (m : E) (c : TC) (xa : XA) (X : Cx) (e : Expr), Cxt g C lv c xa X → chkE g m c e = true → SE X xa e (evE g C m)
  | .var i, c, xa, X, e, h, k => by
    simp only [chkE] at k
    split at k
    · rename_i x p
      simp only [Bool.and_eq_true, decide_eq_true_eq, Bool.not_eq_true'] at k
      obtain ⟨⟨⟨k1, k2⟩, k3⟩, k4⟩ := k
      simp only [evE]
      exact se_var (by rw [h.N]; exact k1) (vis_of h k2) k3 k4
    · cases k
  | .con d, c, xa, X, e, h, k => by
    simp only [chkE] at k
    split at k
    · rename_i kk j p
      simp only [evE]
      unfold conB at k
      split at k
      · rw [beq_iff_eq.mp k]; exact se_int
      · rw [beq_iff_eq.mp k]; exact se_bl
      · rw [beq_iff_eq.mp k]; exact se_str
      · exact se_non
      · cases k
    · cases k
  | .glb x, c, xa, X, e, h, k => by
    simp only [chkE] at k
    split at k
    · rename_i y p
      simp only [Bool.and_eq_true, beq_iff_eq] at k
      obtain ⟨rfl, k2⟩ := k
      obtain ⟨g1, g2⟩ := gl_of h k2
      simp only [evE]
      cases q : g.con.lookup y with
      | none =>
        intro W tk
        refine ⟨fun pins s σ H Q I z => ?_⟩
        obtain ⟨φ, ρ, M, _, _, z⟩ := z
        unfold fGlb at z
        rw [q] at z
        exact z.elim
      | some d =>
        obtain ⟨u, v, h1, h2, h3⟩ := h.con y d q
        have := se_glob (xa := xa) (pos := p) g1 h1 h2 h3 g2
        intro W tk
        exact PE.weak (this W tk) fun σ H Q z => by
          obtain ⟨φ, ρ, M, env, sto, z⟩ := z
          refine ⟨φ, ρ, M, env, sto, ?_⟩
          unfold fGlb at z
          rw [q] at z
          exact z
    · cases k
  | .bin o a b, c, xa, X, e, h, k => by
    simp only [chkE] at k
    split at k
    · simp only [Bool.and_eq_true, decide_eq_true_eq] at k
      obtain ⟨⟨rfl, k2⟩, k3⟩ := k
      simp only [evE]
      exact se_bin (op_bin2 o) (chkE_ok a c xa X _ h k2) (chkE_ok b c xa X _ h k3)
    · cases k
  | .neg a, c, xa, X, e, h, k => by
    simp only [chkE] at k
    split at k
    · simp only [Bool.and_eq_true, decide_eq_true_eq] at k
      obtain ⟨rfl, k2⟩ := k
      simp only [evE]
      exact se_neg (chkE_ok a c xa X _ h k2)
    · cases k
  | .not a, c, xa, X, e, h, k => by
    simp only [chkE] at k
    split at k
    · simp only [Bool.and_eq_true, decide_eq_true_eq] at k
      obtain ⟨rfl, k2⟩ := k
      simp only [evE]
      exact se_not (chkE_ok a c xa X _ h k2)
    · cases k
  | .and a b, c, xa, X, e, h, k => by
    simp only [chkE] at k
    split at k
    · simp only [Bool.and_eq_true, decide_eq_true_eq] at k
      obtain ⟨⟨rfl, k2⟩, k3⟩ := k
      simp only [evE]
      split at k3
      · exact se_and (chkE_ok a c xa X _ h k2) (se_one (chkE_ok b c xa X _ h k3))
      · exact se_and (chkE_ok a c xa X _ h k2) (chkE_ok b c xa X _ h k3)
    · cases k
  | .or a b, c, xa, X, e, h, k => by
    simp only [chkE] at k
    split at k
    · simp only [Bool.and_eq_true, decide_eq_true_eq] at k
      obtain ⟨⟨rfl, k2⟩, k3⟩ := k
      simp only [evE]
      split at k3
      · exact se_or (chkE_ok a c xa X _ h k2) (se_one (chkE_ok b c xa X _ h k3))
      · exact se_or (chkE_ok a c xa X _ h k2) (chkE_ok b c xa X _ h k3)
    · cases k
  | .cmp o a b, c, xa, X, e, h, k => by
    simp only [chkE] at k
    split at k
    · simp only [Bool.and_eq_true, decide_eq_true_eq] at k
      obtain ⟨⟨⟨rfl, k1⟩, k2⟩, k3⟩ := k
      simp only [evE]
      exact se_cmpB o h.un (nobehindIn k1) (chkE_ok a c xa X _ h k2) (chkE_ok b c xa X _ h k3)
    · cases k
  | .chain o o' a b d, c, xa, X, e, h, k => by
    simp only [chkE] at k
    split at k
    · simp only [Bool.and_eq_true, decide_eq_true_eq] at k
      obtain ⟨⟨⟨⟨⟨⟨k0, rfl⟩, rfl⟩, k1⟩, k2⟩, k3⟩, k4⟩ := k
      simp only [evE]
      exact se_chain o o' (units_of h k0) (nobehindIn k1) (chkE_ok a c xa X _ h k2) (chkE_ok b c xa X _ h k3) (chkE_ok d c xa X _ h k4)
    · cases k
  | .ife d a b, c, xa, X, e, h, k => by
    simp only [chkE] at k
    split at k
    · simp only [Bool.and_eq_true] at k
      obtain ⟨⟨k1, k2⟩, k3⟩ := k
      simp only [evE]
      exact se_ife (chkT_ok d c xa X _ h k1).1 (chkE_ok a c xa X _ h k2) (chkE_ok b c xa X _ h k3)
    · cases k
  | .tup l, c, xa, X, e, h, k => by
    simp only [chkE] at k
    split at k
    · simp only [evE]
      exact se_tup (chkL_ok l c xa X _ h k)
    · cases k
  | .lst l, c, xa, X, e, h, k => by
    simp only [chkE] at k
    split at k
    · simp only [evE]
      exact se_lst (chkL_ok l c xa X _ h k)
    · cases k
  | .cls l, c, xa, X, e, h, k => by
    simp only [chkE] at k
    split at k
    · simp only [evE]
      exact se_cls (chkL_ok l c xa X _ h k)
    · cases k
  | .call f keep l, c, xa, X, e, h, k => by
    simp only [chkE] at k
    split at k
    · rename_i x p a as pos
      simp only [Bool.and_eq_true, decide_eq_true_eq, beq_iff_eq] at k
      obtain ⟨⟨⟨⟨⟨k0, rfl⟩, k2⟩, k3⟩, s2⟩, k4⟩ := k
      have s1 := chkL_ok l c xa X _ h k4
      have s3 : notStar a = true ∧ as.all notStar = true := by simpa only [List.all_cons, Bool.and_eq_true] using s2
      obtain ⟨A, fd, ps, f1, f2, f3, f4⟩ := h.fns x _ k3
      obtain ⟨g1, g2⟩ := gl_of h k2
      obtain ⟨c1, c2, c3⟩ := h.cm k0
      simp only [evE]
      exact se_call C keep f4 (c2.mono (Nat.le_succ _)) g1 f1 f2 f3 c3 (fun ρ M as M' q => evL_len l s2 k4 q) (h.exr x) s1 g2 (star_cons s3.1) (stars_all s3.2).1
    · cases k
  | .bi f l, c, xa, X, e, h, k => by
    simp only [chkE] at k
    split at k
    · rename_i x p a as pos
      rw [Bool.and_eq_true] at k
      obtain ⟨k, k4⟩ := k
      rw [Bool.and_eq_true] at k
      obtain ⟨k, s2⟩ := k
      rw [Bool.and_eq_true] at k
      obtain ⟨k, k3⟩ := k
      rw [Bool.and_eq_true, beq_iff_eq] at k
      obtain ⟨k0, rfl⟩ := k
      have s1 := chkL_ok l c xa X _ h k4
      simp only [List.all_cons, Bool.and_eq_true] at s2
      simp only [evE]
      exact bi_ok h k0 f k3 s1 (star_cons s2.1) (stars_all s2.2).1
    · cases k
  | .isi t a, c, xa, X, e, h, k => by
    simp only [chkE] at k
    split at k
    · rename_i x p y z q pos
      rw [Bool.and_eq_true] at k
      obtain ⟨k, k6⟩ := k
      rw [Bool.and_eq_true] at k
      obtain ⟨k, k5⟩ := k
      rw [Bool.and_eq_true] at k
      obtain ⟨k, k4⟩ := k
      rw [Bool.and_eq_true] at k
      obtain ⟨k, k3⟩ := k
      rw [Bool.and_eq_true] at k
      obtain ⟨k, k2⟩ := k
      rw [Bool.and_eq_true, beq_iff_eq, beq_iff_eq] at k
      obtain ⟨rfl, rfl⟩ := k
      have hT : t ∈ knownTy := by simpa using k2
      obtain ⟨i1, i2, i3⟩ := fr_of h k3
      obtain ⟨j1, j2, j3⟩ := fr_of h k4
      simp only [evE]
      refine se_isi hT i1 i2 j1 j2 ?_ ?_ j3 (chkE_ok a c xa X _ h k6) (star_cons k5)
      · simp only [knownTy, List.mem_cons, List.not_mem_nil, or_false] at hT
        rcases hT with rfl | rfl | rfl | rfl | rfl | rfl <;> decide +kernel
      · simp only [knownTy, List.mem_cons, List.not_mem_nil, or_false] at hT
        rcases hT with rfl | rfl | rfl | rfl | rfl | rfl <;> decide +kernel
    · cases k
  | .isx t i, c, xa, X, e, h, k => by
    simp only [chkE] at k
    split at k
    · rename_i x p y p2 z p3 pos
      rw [Bool.and_eq_true] at k
      obtain ⟨k, k8⟩ := k
      rw [Bool.and_eq_true] at k
      obtain ⟨k, k7⟩ := k
      rw [Bool.and_eq_true] at k
      obtain ⟨k, k6⟩ := k
      rw [Bool.and_eq_true] at k
      obtain ⟨k, k5⟩ := k
      rw [Bool.and_eq_true] at k
      obtain ⟨k, k4⟩ := k
      rw [Bool.and_eq_true] at k
      obtain ⟨k, k3⟩ := k
      rw [Bool.and_eq_true, beq_iff_eq, beq_iff_eq] at k
      obtain ⟨rfl, rfl⟩ := k
      obtain ⟨i1, i2, i3⟩ := fr_of h k3
      obtain ⟨j1, j2⟩ := gl_of h k4
      have hv := vis_of h k6
      have hN : X.N[i]? = some y := by rw [h.N]; exact of_decide_eq_true k5
      simp only [Bool.not_eq_true'] at k7 k8
      simp only [evE]
      intro W tk
      refine ⟨fun pins s σ H Q I w => ?_⟩
      obtain ⟨φ, ρ, M, env, sto, w⟩ := w
      unfold fIsx at w
      split at w
      · rename_i kk hk
        split at w
        · rename_i b hb
          obtain ⟨v, hv1, a, rfl, hx⟩ := env.2 i _ hk
          obtain ⟨u, cv, hu, ru, hc⟩ := h.xis a kk hx z b hb
          have pa : PE X (.Name z p3) (tC cv) := by
            rcases hu with hu | ⟨hu, hu2, hu3⟩
            · exact pe_glob j1 hu ru j2
            · exact pe_bltn j1 hu hu2 ru hu3 j2
          have pc := pe_callB (p := p) (pos := pos) hc i1 i2 boot_isinstance (pa_cons (pe_var (pos := p2) hN hv k7 k8) (pa_cons pa pa_nil rfl) rfl) (by decide) i3 rfl rfl
          exact pc.run pins s σ H Q I ⟨_, hv1, rfl, w φ H _ sto .refl vrB⟩
        · exact w.elim
      · exact w.elim
    · cases k
  | .meth m o l, c, xa, X, e, h, k => by
    simp only [chkE] at k
    split at k
    · rename_i v n ap as cp
      simp only [Bool.and_eq_true, decide_eq_true_eq, beq_iff_eq] at k
      obtain ⟨⟨⟨⟨⟨⟨⟨k0, rfl⟩, k2⟩, k3⟩, k4⟩, s2⟩, k5⟩, k6⟩ := k
      obtain ⟨id, m1, m2, m3⟩ := me_ok (xa := xa) h k0 m
      have s1 := chkL_ok l c xa X _ h k6
      simp only [evE]
      cases as with
      | nil =>
        have el : evL g C l = fNil := by
          cases l with
          | nil => simp only [evL]
          | cons a b => simp [chkL] at k6
          | scons a b => simp [chkL] at k6
          | _ => simp [chkL] at k6
        rw [el]
        exact se_meth0 m1 m2 m3 (chkE_ok o c xa X _ h k5) (nobase k2) (by rw [k3]; exact beq_self_eq_true _)
      | cons a as =>
        have s3 := s2
        simp only [List.all_cons, Bool.and_eq_true] at s3
        exact se_meth m1 m2 m3 (chkE_ok o c xa X _ h k5) s1 (nobase k2) (few_ok s2 k4) (by rw [k3]; exact beq_self_eq_true _) (star_cons s3.1) (stars_all s3.2).1
    · cases k
  | .ix a b, c, xa, X, e, h, k => by
    simp only [chkE] at k
    split at k
    · simp only [Bool.and_eq_true] at k
      obtain ⟨⟨k1, k2⟩, k3⟩ := k
      simp only [evE]
      exact se_ix (chkE_ok a c xa X _ h k2) (chkE_ok b c xa X _ h k3) (ix_plain k1)
    · cases k
  | .sl cell a lo hi, c, xa, X, e, h, k => by
    simp only [chkE] at k
    split at k
    · simp only [Bool.and_eq_true] at k
      obtain ⟨⟨k1, k2⟩, k3⟩ := k
      simp only [evE]
      exact se_slice cell (chkE_ok a c xa X _ h k1) (chkP_ok lo c xa X _ h k2) (chkP_ok hi c xa X _ h k3)
    · cases k
  | .lc cell elt t it d own, c, xa, X, e, h, k => by
    simp only [chkE] at k
    split at k
    · rename_i x tg iter ifs ia scope pos
      simp only [Bool.and_eq_true, decide_eq_true_eq] at k
      obtain ⟨⟨⟨⟨⟨⟨⟨⟨rfl, k0⟩, k1⟩, k2⟩, k3⟩, k4⟩, k5⟩, k6⟩, k7⟩ := k
      simp only [evE]
      obtain ⟨c1, c2, c3⟩ := h.cm k0
      obtain ⟨gt, g1, g2⟩ := chkTg_ok X.K xa t tg k4
      have B : BlkOk X.N X.env.scope scope (ownP c.N own) := by rw [h.N, h.sc]; exact blkOk_by k1
      have := se_lc (xa := xa) (own := ownP c.N own) (pos := pos) (t := t) (fi := evI g C it) (tt := evC g C d) (te := evE g C elt) cell c1 (by rw [h.N]; exact h.nd) (chkI_ok it c xa X tg iter h k5) B
        (by rw [ownP_snd]; intro i hi; simpa using List.all_eq_true.mp k2 i hi)
        ⟨gt, fun s H A cl fp => g1 _ rfl ⟨h.N, h.nd, (cxt_blk h k0 scope s H A cl fp).asg, c1⟩, g2⟩
        (fun s H A cl fp => chkC_ok d (blkTC c scope) xa _ ifs (cxt_blk h k0 scope s H A cl fp) k6)
        (fun s H A cl fp => chkE_ok elt (blkTC c scope) xa _ x (cxt_blk h k0 scope s H A cl fp) k7) (nofold k3)
      rw [ownP_snd] at this
      exact this
    · cases k
  | .x kx a b d d' d'', c, xa, X, e, h, k => by
    cases kx with
    | dix =>
      simp only [chkE] at k
      split at k
      · simp only [Bool.and_eq_true] at k
        obtain ⟨⟨⟨k0, k1⟩, k2⟩, k3⟩ := k
        simp only [evE]
        exact se_dix (by have := units_of h k0; omega) (chkE_ok a c xa X _ h k2) (chkE_ok b c xa X _ h k3) (nosl k1)
      · cases k
    | fld f =>
      simp only [chkE] at k
      split at k
      · simp only [Bool.and_eq_true, beq_iff_eq] at k
        obtain ⟨⟨rfl, k1⟩, k2⟩ := k
        simp only [evE]
        exact se_fld h.noat (chkE_ok a c xa X _ h k2) (nobase k1)
      · cases k
    | mcall cl m q keep =>
      simp only [chkE] at k
      split at k
      · rename_i v n ap as cp
        simp only [Bool.and_eq_true, decide_eq_true_eq, beq_iff_eq] at k
        obtain ⟨⟨⟨⟨⟨⟨⟨⟨k0, rfl⟩, k1⟩, k2⟩, k3⟩, k4⟩, k5⟩, k6⟩, k7⟩ := k
        obtain ⟨A, fd, ps, f1, f2, f3, f4⟩ := h.mets _ _ _ _ k5
        obtain ⟨c1, c2, c3⟩ := h.cm k0
        have o1 := chkE_ok a c xa X _ h k6
        have s1 := chkL_ok b c xa X _ h k7
        simp only [evE]
        cases as with
        | nil =>
          have e0 : evL g C b = fNil := by
            cases b <;> simp [chkL] at k7
            simp only [evL]
          rw [e0]
          exact se_mcall0 C q keep f1 f2 f4 (c2.mono (Nat.le_succ _)) f3 c3 (h.exr q) o1 (nobase k1) (by rw [k2]; exact beq_self_eq_true _)
        | cons u us =>
          have s3 : notStar u = true ∧ us.all notStar = true := by simpa only [List.all_cons, Bool.and_eq_true] using k4
          exact se_mcall C q keep f1 f2 f4 (c2.mono (Nat.le_succ _)) f3 c3 (fun ρ M as M' q => by rw [evL_len b k4 k7 q]) (h.exr q) o1 s1 (star_cons s3.1) (stars_all s3.2).1 (nobase k1) (few_ok k4 k3) (by rw [k2]; exact beq_self_eq_true _)
      · cases k
    | new cl q =>
      simp only [chkE] at k
      split at k
      · rename_i x p u us pos
        simp only [Bool.and_eq_true, decide_eq_true_eq, beq_iff_eq] at k
        obtain ⟨⟨⟨⟨⟨k0, rfl⟩, k1⟩, k2⟩, k3⟩, k4⟩ := k
        obtain ⟨A, fd, ps, f1, f2, f3, f4⟩ := h.news _ _ _ k2
        obtain ⟨c1, c2, c3⟩ := h.cm k0
        obtain ⟨g1, g2⟩ := gl_of h k1
        have s1 := chkL_ok a c xa X _ h k4
        have s3 : notStar u = true ∧ us.all notStar = true := by simpa only [List.all_cons, Bool.and_eq_true] using k3
        simp only [evE]
        exact se_new C q f1 f4 c2 g1 f2 f3 c3 (fun ρ M as M' q => by rw [evL_len a k3 k4 q]; rfl) (h.exr q) s1 g2 (star_cons s3.1) (stars_all s3.2).1
      · cases k
    | lc2 cell t t1 own own1 =>
      simp only [chkE] at k
      split at k
      · rename_i x tg iter ifs ia tg1 iter1 ifs1 ia1 scope pos
        simp only [Bool.and_eq_true, decide_eq_true_eq] at k
        obtain ⟨⟨⟨⟨⟨⟨⟨⟨⟨⟨⟨⟨⟨⟨⟨rfl, rfl⟩, k0⟩, k1⟩, k2⟩, k3⟩, k4⟩, k5⟩, k6⟩, k7⟩, k8⟩, k9⟩, l1⟩, l2⟩, l3⟩, l4⟩ := k
        simp only [evE]
        obtain ⟨c1, c2, c3⟩ := h.cm k0
        obtain ⟨gt, g1, g2⟩ := chkTg_ok X.K xa t tg k7
        obtain ⟨gt1, g3, g4⟩ := chkTg_ok X.K xa t1 tg1 k8
        have B : BlkOk X.N X.env.scope scope (ownP c.N own) := by rw [h.N, h.sc]; exact blkOk_by k1
        have z := se_lc2 (xa := xa) (ownp := ownP c.N own) (own1 := own1) (pos := pos) (t := t) (t1 := t1) (fi := evI g C a) (tt := evC g C b) (fi1 := evI g C d) (tt1 := evC g C d') (te := evE g C d'') (gt := gt) (gt1 := gt1) cell c1 (by rw [h.N]; exact h.nd) (chkI_ok a c xa X tg iter h k9) B
          (by rw [ownP_snd]; intro i hi; simpa using List.all_eq_true.mp k4 i hi) (by rw [ownP_snd]; intro i hi; simpa using List.all_eq_true.mp k2 i hi) (by intro i hi; simpa using List.all_eq_true.mp k3 i hi)
          (fun s H A cl fp => g1 _ rfl ⟨h.N, h.nd, (cxt_blk h k0 scope s H A cl fp).asg, c1⟩) g2 (fun s H A cl fp => g3 _ rfl ⟨h.N, h.nd, (cxt_blk h k0 scope s H A cl fp).asg, c1⟩) g4
          (fun s H A cl fp => chkC_ok b (blkTC c scope) xa _ ifs (cxt_blk h k0 scope s H A cl fp) l1) (fun s H A cl fp => chkI_ok d (blkTC c scope) xa _ tg1 iter1 (cxt_blk h k0 scope s H A cl fp) l2)
          (fun s H A cl fp => chkC_ok d' (blkTC c scope) xa _ ifs1 (cxt_blk h k0 scope s H A cl fp) l3) (fun s H A cl fp => chkE_ok d'' (blkTC c scope) xa _ x (cxt_blk h k0 scope s H A cl fp) l4) (nofold k5) (fun env => nofold k6)
        rw [ownP_snd] at z
        exact z
      · cases k
    | dc t own =>
      simp only [chkE] at k
      split at k
      · rename_i x y tg iter ifs ia scope pos
        simp only [Bool.and_eq_true, decide_eq_true_eq] at k
        obtain ⟨⟨⟨⟨⟨⟨⟨⟨⟨rfl, k0⟩, k1⟩, k2⟩, k5⟩, k7⟩, k9⟩, l1⟩, l2⟩, l3⟩ := k
        simp only [evE]
        obtain ⟨c1, c2, c3⟩ := h.cm k0
        obtain ⟨gt, g1, g2⟩ := chkTg_ok X.K xa t tg k7
        have B : BlkOk X.N X.env.scope scope (ownP c.N own) := by rw [h.N, h.sc]; exact blkOk_by k1
        have z := se_dc (xa := xa) (ownp := ownP c.N own) (pos := pos) (t := t) (fi := evI g C a) (tt := evC g C b) (tk := evE g C d) (tv := evE g C d') (gt := gt) c1 (by rw [h.N]; exact h.nd) (chkI_ok a c xa X tg iter h k9) B
          (by rw [ownP_snd]; intro i hi; simpa using List.all_eq_true.mp k2 i hi)
          (fun s H A cl fp => g1 _ rfl ⟨h.N, h.nd, (cxt_blk h k0 scope s H A cl fp).asg, c1⟩) g2
          (fun s H A cl fp => chkC_ok b (blkTC c scope) xa _ ifs (cxt_blk h k0 scope s H A cl fp) l1)
          (fun s H A cl fp => chkE_ok d (blkTC c scope) xa _ x (cxt_blk h k0 scope s H A cl fp) l2) (fun s H A cl fp => chkE_ok d' (blkTC c scope) xa _ y (cxt_blk h k0 scope s H A cl fp) l3) (nofold k5)
        rw [ownP_snd] at z
        exact z
      · cases k
    | sm m =>
      simp only [chkE] at k
      split at k
      · simp only [Bool.and_eq_true, beq_iff_eq] at k
        obtain ⟨⟨⟨⟨⟨rfl, k1⟩, k2⟩, k3⟩, k4⟩, k5⟩ := k
        have o1 := chkE_ok a c xa X _ h k4
        have o2 := chkE_ok b c xa X _ h k5
        simp only [evE]
        cases m with
        | split => exact se_split o1 o2 (star_cons k3) (nobase k1) (by rw [k2]; exact beq_self_eq_true _)
        | partition => exact se_partition o1 o2 (star_cons k3) (nobase k1) (by rw [k2]; exact beq_self_eq_true _)
        | startswith => exact se_startswith o1 o2 (star_cons k3) (nobase k1) (by rw [k2]; exact beq_self_eq_true _)
        | find => exact se_find o1 o2 (star_cons k3) (nobase k1) (by rw [k2]; exact beq_self_eq_true _)
      · cases k
    | join =>
      simp only [chkE] at k
      split at k
      · simp only [Bool.and_eq_true, beq_iff_eq] at k
        obtain ⟨⟨⟨⟨⟨rfl, k1⟩, k2⟩, k3⟩, k4⟩, k5⟩ := k
        simp only [evE]
        exact se_join (chkE_ok a c xa X _ h k4) (chkE_ok b c xa X _ h k5) (star_cons k3) (nobase k1) (by rw [k2]; exact beq_self_eq_true _)
      · cases k
    | fmt =>
      simp only [chkE] at k
      split at k
      · simp only [Bool.and_eq_true, decide_eq_true_eq] at k
        obtain ⟨rfl, k1⟩ := k
        simp only [evE]
        exact se_fmt (chkE_ok a c xa X _ h k1)
      · cases k
    | fstr n =>
      simp only [chkE] at k
      split at k
      · simp only [Bool.and_eq_true, beq_iff_eq] at k
        obtain ⟨⟨rfl, k1⟩, k2⟩ := k
        simp only [evE]
        exact se_joined (.cons (chkE_ok a c xa X _ h k1) (.cons (chkE_ok b c xa X _ h k2) .nil))
      · simp only [Bool.and_eq_true, beq_iff_eq] at k
        obtain ⟨⟨⟨rfl, k1⟩, k2⟩, k3⟩ := k
        simp only [evE]
        exact se_joined (.cons (chkE_ok a c xa X _ h k1) (.cons (chkE_ok b c xa X _ h k2) (.cons (chkE_ok d c xa X _ h k3) .nil)))
      · simp only [Bool.and_eq_true, beq_iff_eq] at k
        obtain ⟨⟨⟨⟨rfl, k1⟩, k2⟩, k3⟩, k4⟩ := k
        simp only [evE]
        exact se_joined (.cons (chkE_ok a c xa X _ h k1) (.cons (chkE_ok b c xa X _ h k2) (.cons (chkE_ok d c xa X _ h k3) (.cons (chkE_ok d' c xa X _ h k4) .nil))))
      · cases k
    | cdix x =>
      simp only [chkE] at k
      split at k
      · simp only [Bool.and_eq_true, beq_iff_eq] at k
        obtain ⟨⟨⟨⟨⟨k0, rfl⟩, k1⟩, k2⟩, k3⟩, k4⟩ := k
        obtain ⟨g1, g2⟩ := gl_of h k1
        obtain ⟨a0, hm, ht⟩ := tab_of h k2
        simp only [evE]
        exact se_cdix (h.cm k0).1 g1 hm g2 ht (chkE_ok a c xa X _ h k4) (ix_plain k3)
      · cases k
    | cdin x => simp [chkE] at k
    | lcx cell t own =>
      simp only [chkE] at k
      split at k
      · rename_i x tg iter ifs ia scope pos
        simp only [Bool.and_eq_true, decide_eq_true_eq] at k
        obtain ⟨⟨⟨⟨⟨⟨⟨⟨rfl, k0, kt⟩, k1⟩, k2⟩, k3⟩, k4⟩, k5⟩, k6⟩, k7⟩ := k
        simp only [evE]
        obtain ⟨c1, c2, c3⟩ := h.cm k0
        obtain ⟨t1, t2⟩ := h.tp kt
        obtain ⟨gt, g1, g2⟩ := chkTg_ok X.K xa t tg k4
        have B : BlkOk X.N X.env.scope scope (ownP c.N own) := by rw [h.N, h.sc]; exact blkOk_by k1
        have := se_lcx (xa := xa) (own := ownP c.N own) (pos := pos) (t := t) (fi := evI g C a) (tt := evC g C b) (te := evE g C d) cell t1 t2 c1 (by rw [h.N]; exact h.nd) (chkI_ok a c xa X tg iter h k5) B
          (by rw [ownP_snd]; intro i hi; simpa using List.all_eq_true.mp k2 i hi)
          ⟨gt, fun s H A cl fp => g1 _ rfl ⟨h.N, h.nd, (cxt_blk h k0 scope s H A cl fp).asg, c1⟩, g2⟩
          (fun s H A cl fp xe => chkC_ok b (blkTC c scope) xa _ ifs (cxt_blkx h k0 scope s H A cl fp xe) k6)
          (fun s H A cl fp xe => chkE_ok d (blkTC c scope) xa _ x (cxt_blkx h k0 scope s H A cl fp xe) k7) (nofold k3)
        rw [ownP_snd] at this
        exact this
      · cases k
    | back =>
      simp only [chkE] at k
      split at k
      · simp only [evE]
        exact se_back (chkE_ok a c xa X _ h k)
      · cases k
    | dd kvs =>
      simp only [chkE] at k
      split at k
      · simp only [Bool.and_eq_true, decide_eq_true_eq, Bool.not_eq_true'] at k
        obtain ⟨⟨⟨⟨⟨k0, k1⟩, k2⟩, k3⟩, k4⟩, k5⟩ := k
        simp only [evE]
        exact se_dd k0 k1 (fun z => by rw [z] at k2; simp at k2) k3 k4 (ddB_ok k5)
      · cases k
  | .nil, _, _, _, _, _, k => by simp [chkE] at k
  | .cons _ _, _, _, _, _, _, k => by simp [chkE] at k
  | .scons _ _, _, _, _, _, _, k => by simp [chkE] at k
  | .tt _, _, _, _, _, _, k => by simp [chkE] at k
  | .it _, _, _, _, _, _, k => by simp [chkE] at k
  | .pt _, _, _, _, _, _, k => by simp [chkE] at k
  | .rng _ _, _, _, _, _, _, k => by simp [chkE] at k
  | .zip _, _, _, _, _, _, k => by simp [chkE] at k
  | .enm _, _, _, _, _, _, k => by simp [chkE] at k
  | .rev _, _, _, _, _, _, k => by simp [chkE] at k
  termination_by m => sizeOf m
theorem chkL_ok : ∀ (m : E) (c : TC) (xa : XA) (X : Cx) (es : List Expr), Cxt g C lv c xa X → chkL g m c es = true → SA X xa es (evL g C m)
  | .nil, c, xa, X, es, h, k => by
    simp only [chkL] at k
    split at k
    · simp only [evL]
      exact sa_nil
    · cases k
  | .cons a b, c, xa, X, es, h, k => by
    simp only [chkL] at k
    split at k
    · simp only [Bool.and_eq_true] at k
      obtain ⟨⟨k1, k2⟩, k3⟩ := k
      simp only [evL]
      exact sa_cons (chkE_ok a c xa X _ h k2) (chkL_ok b c xa X _ h k3) (star_cons k1)
    · cases k
  | .scons a b, c, xa, X, es, h, k => by
    simp only [chkL] at k
    split at k
    · simp only [Bool.and_eq_true] at k
      simp only [evL]
      exact sa_star (chkE_ok a c xa X _ h k.1) (chkL_ok b c xa X _ h k.2)
    · cases k
  | .var _, _, _, _, _, _, k => by simp [chkL] at k
  | .con _, _, _, _, _, _, k => by simp [chkL] at k
  | .glb _, _, _, _, _, _, k => by simp [chkL] at k
  | .bin _ _ _, _, _, _, _, _, k => by simp [chkL] at k
  | .neg _, _, _, _, _, _, k => by simp [chkL] at k
  | .not _, _, _, _, _, _, k => by simp [chkL] at k
  | .and _ _, _, _, _, _, _, k => by simp [chkL] at k
  | .or _ _, _, _, _, _, _, k => by simp [chkL] at k
  | .cmp _ _ _, _, _, _, _, _, k => by simp [chkL] at k
  | .chain _ _ _ _ _, _, _, _, _, _, k => by simp [chkL] at k
  | .ife _ _ _, _, _, _, _, _, k => by simp [chkL] at k
  | .tup _, _, _, _, _, _, k => by simp [chkL] at k
  | .lst _, _, _, _, _, _, k => by simp [chkL] at k
  | .cls _, _, _, _, _, _, k => by simp [chkL] at k
  | .call _ _ _, _, _, _, _, _, k => by simp [chkL] at k
  | .bi _ _, _, _, _, _, _, k => by simp [chkL] at k
  | .isi _ _, _, _, _, _, _, k => by simp [chkL] at k
  | .isx _ _, _, _, _, _, _, k => by simp [chkL] at k
  | .meth _ _ _, _, _, _, _, _, k => by simp [chkL] at k
  | .ix _ _, _, _, _, _, _, k => by simp [chkL] at k
  | .sl _ _ _ _, _, _, _, _, _, k => by simp [chkL] at k
  | .lc _ _ _ _ _ _, _, _, _, _, _, k => by simp [chkL] at k
  | .tt _, _, _, _, _, _, k => by simp [chkL] at k
  | .it _, _, _, _, _, _, k => by simp [chkL] at k
  | .pt _, _, _, _, _, _, k => by simp [chkL] at k
  | .x _ _ _ _ _ _, _, _, _, _, _, k => by simp [chkL] at k
  | .rng _ _, _, _, _, _, _, k => by simp [chkL] at k
  | .zip _, _, _, _, _, _, k => by simp [chkL] at k
  | .enm _, _, _, _, _, _, k => by simp [chkL] at k
  | .rev _, _, _, _, _, _, k => by simp [chkL] at k
  termination_by m => sizeOf m
theorem chkT_ok : ∀ (m : E) (c : TC) (xa : XA) (X : Cx) (e : Expr), Cxt g C lv c xa X → chkT g m c e = true → ST X xa e (evT g C m) ∧ ∀ op vs p, e = .BoolOp op vs p → SW X xa e (evT g C m)
  | .not a, c, xa, X, e, h, k => by
    simp only [chkT] at k
    split at k
    · simp only [Bool.and_eq_true, decide_eq_true_eq] at k
      obtain ⟨rfl, k2⟩ := k
      simp only [evT]
      exact ⟨st_not (chkT_ok a c xa X _ h k2).1, fun _ _ _ q => by cases q⟩
    · cases k
  | .and a b, c, xa, X, e, h, k => by
    simp only [chkT] at k
    split at k
    · rename_i pp
      simp only [Bool.and_eq_true, decide_eq_true_eq] at k
      obtain ⟨⟨rfl, k2⟩, k3⟩ := k
      simp only [evT]
      have ha := (chkT_ok a c xa X _ h k2).1
      split at k3
      · have w := sw_and (pos := pp) ha (sw_and1 (chkT_ok b c xa X _ h k3).1)
        exact ⟨w.st, fun _ _ _ _ => w⟩
      · have w := sw_and ha ((chkT_ok b c xa X _ h k3).2 _ _ _ rfl)
        exact ⟨w.st, fun _ _ _ _ => w⟩
    · cases k
  | .or a b, c, xa, X, e, h, k => by
    simp only [chkT] at k
    split at k
    · rename_i pp
      simp only [Bool.and_eq_true, decide_eq_true_eq] at k
      obtain ⟨⟨rfl, k2⟩, k3⟩ := k
      simp only [evT]
      have ha := (chkT_ok a c xa X _ h k2).1
      split at k3
      · have w := sw_or (pos := pp) ha (sw_or1 (chkT_ok b c xa X _ h k3).1)
        exact ⟨w.st, fun _ _ _ _ => w⟩
      · have w := sw_or ha ((chkT_ok b c xa X _ h k3).2 _ _ _ rfl)
        exact ⟨w.st, fun _ _ _ _ => w⟩
    · cases k
  | .cmp o a b, c, xa, X, e, h, k => by
    simp only [chkT] at k
    split at k
    · simp only [Bool.and_eq_true, decide_eq_true_eq] at k
      obtain ⟨⟨⟨rfl, k1⟩, k2⟩, k3⟩ := k
      simp only [evT]
      exact ⟨st_cmp o h.un (nobehindIn k1) (chkE_ok a c xa X _ h k2) (chkE_ok b c xa X _ h k3), fun _ _ _ q => by cases q⟩
    · cases k
  | .chain o o' a b d, c, xa, X, e, h, k => by
    simp only [chkT] at k
    split at k
    · simp only [Bool.and_eq_true, decide_eq_true_eq] at k
      obtain ⟨⟨⟨⟨⟨⟨k0, rfl⟩, rfl⟩, k1⟩, k2⟩, k3⟩, k4⟩ := k
      simp only [evT]
      exact ⟨st_chain o o' (units_of h k0) (nobehindIn k1) (chkE_ok a c xa X _ h k2) (chkE_ok b c xa X _ h k3) (chkE_ok d c xa X _ h k4), fun _ _ _ q => by cases q⟩
    · cases k
  | .tt a, c, xa, X, e, h, k => by
    simp only [chkT, Bool.and_eq_true] at k
    simp only [evT]
    exact ⟨st_truth (chkE_ok a c xa X _ h k.2) (true_plain k.1), fun _ _ _ q => by rw [q] at k; cases k.1⟩
  | .nil, _, _, _, _, _, k => by simp [chkT] at k
  | .cons _ _, _, _, _, _, _, k => by simp [chkT] at k
  | .scons _ _, _, _, _, _, _, k => by simp [chkT] at k
  | .var _, _, _, _, _, _, k => by simp [chkT] at k
  | .con _, _, _, _, _, _, k => by simp [chkT] at k
  | .glb _, _, _, _, _, _, k => by simp [chkT] at k
  | .bin _ _ _, _, _, _, _, _, k => by simp [chkT] at k
  | .neg _, _, _, _, _, _, k => by simp [chkT] at k
  | .ife _ _ _, _, _, _, _, _, k => by simp [chkT] at k
  | .tup _, _, _, _, _, _, k => by simp [chkT] at k
  | .lst _, _, _, _, _, _, k => by simp [chkT] at k
  | .cls _, _, _, _, _, _, k => by simp [chkT] at k
  | .call _ _ _, _, _, _, _, _, k => by simp [chkT] at k
  | .bi _ _, _, _, _, _, _, k => by simp [chkT] at k
  | .isi _ _, _, _, _, _, _, k => by simp [chkT] at k
  | .isx _ _, _, _, _, _, _, k => by simp [chkT] at k
  | .meth _ _ _, _, _, _, _, _, k => by simp [chkT] at k
  | .ix _ _, _, _, _, _, _, k => by simp [chkT] at k
  | .sl _ _ _ _, _, _, _, _, _, k => by simp [chkT] at k
  | .lc _ _ _ _ _ _, _, _, _, _, _, k => by simp [chkT] at k
  | .it _, _, _, _, _, _, k => by simp [chkT] at k
  | .pt _, _, _, _, _, _, k => by simp [chkT] at k
  | .x kx a _ _ _ _, c, xa, X, e, h, k => by
    cases kx with
    | cdin x =>
      simp only [chkT] at k
      split at k
      · simp only [Bool.and_eq_true, decide_eq_true_eq, beq_iff_eq] at k
        obtain ⟨⟨⟨⟨rfl, rfl⟩, k1⟩, k2⟩, k3⟩ := k
        obtain ⟨g1, g2⟩ := gl_of h k1
        obtain ⟨a0, hm, ht⟩ := tab_of h k2
        simp only [evT]
        exact ⟨st_cdin g1 hm g2 ht (chkE_ok a c xa X _ h k3), fun op vs p q => by cases q⟩
      · cases k
    | _ => simp [chkT] at k
  | .rng _ _, _, _, _, _, _, k => by simp [chkT] at k
  | .zip _, _, _, _, _, _, k => by simp [chkT] at k
  | .enm _, _, _, _, _, _, k => by simp [chkT] at k
  | .rev _, _, _, _, _, _, k => by simp [chkT] at k
  termination_by m => sizeOf m
theorem chkP_ok : ∀ (m : E) (c : TC) (xa : XA) (X : Cx) (e : Option Expr), Cxt g C lv c xa X → chkP g m c e = true → SO X xa e (evP g C m)
  | .nil, c, xa, X, e, h, k => by
    simp only [chkP] at k
    split at k
    · simp only [evP]
      exact so_none
    · cases k
  | .pt a, c, xa, X, e, h, k => by
    simp only [chkP] at k
    split at k
    · simp only [evP]
      exact so_some (chkE_ok a c xa X _ h k)
    · cases k
  | .cons _ _, _, _, _, _, _, k => by simp [chkP] at k
  | .scons _ _, _, _, _, _, _, k => by simp [chkP] at k
  | .var _, _, _, _, _, _, k => by simp [chkP] at k
  | .con _, _, _, _, _, _, k => by simp [chkP] at k
  | .glb _, _, _, _, _, _, k => by simp [chkP] at k
  | .bin _ _ _, _, _, _, _, _, k => by simp [chkP] at k
  | .neg _, _, _, _, _, _, k => by simp [chkP] at k
  | .not _, _, _, _, _, _, k => by simp [chkP] at k
  | .and _ _, _, _, _, _, _, k => by simp [chkP] at k
  | .or _ _, _, _, _, _, _, k => by simp [chkP] at k
  | .cmp _ _ _, _, _, _, _, _, k => by simp [chkP] at k
  | .chain _ _ _ _ _, _, _, _, _, _, k => by simp [chkP] at k
  | .ife _ _ _, _, _, _, _, _, k => by simp [chkP] at k
  | .tup _, _, _, _, _, _, k => by simp [chkP] at k
  | .lst _, _, _, _, _, _, k => by simp [chkP] at k
  | .cls _, _, _, _, _, _, k => by simp [chkP] at k
  | .call _ _ _, _, _, _, _, _, k => by simp [chkP] at k
  | .bi _ _, _, _, _, _, _, k => by simp [chkP] at k
  | .isi _ _, _, _, _, _, _, k => by simp [chkP] at k
  | .isx _ _, _, _, _, _, _, k => by simp [chkP] at k
  | .meth _ _ _, _, _, _, _, _, k => by simp [chkP] at k
  | .ix _ _, _, _, _, _, _, k => by simp [chkP] at k
  | .sl _ _ _ _, _, _, _, _, _, k => by simp [chkP] at k
  | .lc _ _ _ _ _ _, _, _, _, _, _, k => by simp [chkP] at k
  | .tt _, _, _, _, _, _, k => by simp [chkP] at k
  | .it _, _, _, _, _, _, k => by simp [chkP] at k
  | .x _ _ _ _ _ _, _, _, _, _, _, k => by simp [chkP] at k
  | .rng _ _, _, _, _, _, _, k => by simp [chkP] at k
  | .zip _, _, _, _, _, _, k => by simp [chkP] at k
  | .enm _, _, _, _, _, _, k => by simp [chkP] at k
  | .rev _, _, _, _, _, _, k => by simp [chkP] at k
  termination_by m => sizeOf m
theorem chkC_ok : ∀ (m : E) (c : TC) (xa : XA) (X : Cx) (es : List Expr), Cxt g C lv c xa X → chkC g m c es = true → SPTs X xa es (evC g C m)
  | .nil, c, xa, X, e, h, k => by
    simp only [chkC] at k
    split at k
    · simp only [evC]
      exact spts_nil
    · cases k
  | .cons a b, c, xa, X, e, h, k => by
    simp only [chkC] at k
    split at k
    · simp only [evC]
      exact spts_one (chkT_ok a c xa X _ h k).1
    · cases k
  | .scons _ _, _, _, _, _, _, k => by simp [chkC] at k
  | .var _, _, _, _, _, _, k => by simp [chkC] at k
  | .con _, _, _, _, _, _, k => by simp [chkC] at k
  | .glb _, _, _, _, _, _, k => by simp [chkC] at k
  | .bin _ _ _, _, _, _, _, _, k => by simp [chkC] at k
  | .neg _, _, _, _, _, _, k => by simp [chkC] at k
  | .not _, _, _, _, _, _, k => by simp [chkC] at k
  | .and _ _, _, _, _, _, _, k => by simp [chkC] at k
  | .or _ _, _, _, _, _, _, k => by simp [chkC] at k
  | .cmp _ _ _, _, _, _, _, _, k => by simp [chkC] at k
  | .chain _ _ _ _ _, _, _, _, _, _, k => by simp [chkC] at k
  | .ife _ _ _, _, _, _, _, _, k => by simp [chkC] at k
  | .tup _, _, _, _, _, _, k => by simp [chkC] at k
  | .lst _, _, _, _, _, _, k => by simp [chkC] at k
  | .cls _, _, _, _, _, _, k => by simp [chkC] at k
  | .call _ _ _, _, _, _, _, _, k => by simp [chkC] at k
  | .bi _ _, _, _, _, _, _, k => by simp [chkC] at k
  | .isi _ _, _, _, _, _, _, k => by simp [chkC] at k
  | .isx _ _, _, _, _, _, _, k => by simp [chkC] at k
  | .meth _ _ _, _, _, _, _, _, k => by simp [chkC] at k
  | .ix _ _, _, _, _, _, _, k => by simp [chkC] at k
  | .sl _ _ _ _, _, _, _, _, _, k => by simp [chkC] at k
  | .lc _ _ _ _ _ _, _, _, _, _, _, k => by simp [chkC] at k
  | .tt _, _, _, _, _, _, k => by simp [chkC] at k
  | .it _, _, _, _, _, _, k => by simp [chkC] at k
  | .pt _, _, _, _, _, _, k => by simp [chkC] at k
  | .x _ _ _ _ _ _, _, _, _, _, _, k => by simp [chkC] at k
  | .rng _ _, _, _, _, _, _, k => by simp [chkC] at k
  | .zip _, _, _, _, _, _, k => by simp [chkC] at k
  | .enm _, _, _, _, _, _, k => by simp [chkC] at k
  | .rev _, _, _, _, _, _, k => by simp [chkC] at k
  termination_by m => sizeOf m
theorem chkI_ok : ∀ (m : E) (c : TC) (xa : XA) (X : Cx) (tg e : Expr), Cxt g C lv c xa X → chkI g m c tg e = true → SI X xa tg e (evI g C m)
  | .it a, c, xa, X, tg, e, h, k => by
    simp only [chkI] at k
    simp only [evI]
    exact si_val (chkE_ok a c xa X _ h k)
  | .rng false l, c, xa, X, tg, e, h, k => by
    simp only [chkI] at k
    split at k
    · rename_i x p as pos
      rw [Bool.and_eq_true] at k
      obtain ⟨k, k4⟩ := k
      rw [Bool.and_eq_true] at k
      obtain ⟨k, s2⟩ := k
      rw [Bool.and_eq_true] at k
      obtain ⟨k, k3⟩ := k
      rw [Bool.and_eq_true, beq_iff_eq] at k
      obtain ⟨rfl, k2⟩ := k
      have s1 := chkL_ok l c xa X _ h k4
      have s3 := s2
      obtain ⟨i1, i2, i3⟩ := fr_of h k2
      simp only [evI]
      match as, k3, k4, s1, s2, s3 with
      | [u], _, k4, s1, s2, s3 =>
        simp only [List.all_cons, Bool.and_eq_true] at s2
        exact si_rng1 i1 i2 s1 (by rw [star_cons s2.1]; rfl) fun ρ M as M' q => evL_len l s3 k4 q
      | [u, v], _, k4, s1, s2, s3 =>
        simp only [List.all_cons, Bool.and_eq_true] at s2
        exact si_rng2 i1 i2 s1 (by rw [star_cons s2.1, star_cons s2.2.1]; rfl) (by rw [star_cons s2.2.1]; rfl) fun ρ M as M' q => evL_len l s3 k4 q
      | [], k3, _, _, _, _ => simp at k3
      | _ :: _ :: _ :: _, k3, _, _, _, _ => simp at k3
    · cases k
  | .rng true l, c, xa, X, tg, e, h, k => by
    unfold chkI at k
    split at k
    · rename_i y p2 x p as pos2 pos
      rw [Bool.and_eq_true] at k
      obtain ⟨k, k4⟩ := k
      rw [Bool.and_eq_true] at k
      obtain ⟨k, k3⟩ := k
      rw [Bool.and_eq_true] at k
      obtain ⟨k, k2⟩ := k
      rw [Bool.and_eq_true, beq_iff_eq, beq_iff_eq] at k
      obtain ⟨rfl, rfl⟩ := k
      obtain ⟨i1, i2, i3⟩ := fr_of h k2
      obtain ⟨j1, j2, j3⟩ := fr_of h k3
      simp only [evI]
      split at k4
      · rename_i a u
        rw [Bool.and_eq_true] at k4
        simp only [evL]
        exact si_revrng1 j1 j2 i1 i2 (chkE_ok a c xa X _ h k4.2) (star_cons k4.1) (star_cons rfl)
      · rename_i a b u v
        simp only [Bool.and_eq_true] at k4
        obtain ⟨⟨⟨k5, k6⟩, k7⟩, k8⟩ := k4
        simp only [evL]
        exact si_revrng2 j1 j2 i1 i2 (chkE_ok a c xa X _ h k7) (chkE_ok b c xa X _ h k8) (star_cons k5) (star_cons k6) (star_cons rfl)
      · cases k4
    · cases k
  | .zip l, c, xa, X, tg, e, h, k => by
    simp only [chkI] at k
    split at k
    · rename_i es kk tp x p u v pos
      rw [Bool.and_eq_true] at k
      obtain ⟨k, k4⟩ := k
      rw [Bool.and_eq_true] at k
      obtain ⟨k, s2⟩ := k
      rw [Bool.and_eq_true, beq_iff_eq] at k
      obtain ⟨rfl, k2⟩ := k
      have s1 := chkL_ok l c xa X _ h k4
      obtain ⟨i1, i2, i3⟩ := fr_of h k2
      simp only [List.all_cons, Bool.and_eq_true] at s2
      simp only [evI]
      exact si_zip i1 i2 s1 (star_cons s2.1) (by rw [star_cons s2.2.1]; rfl)
    · cases k
  | .enm l, c, xa, X, tg, e, h, k => by
    simp only [chkI] at k
    split at k
    · rename_i es kk tp x p u pos
      rw [Bool.and_eq_true] at k
      obtain ⟨k, k4⟩ := k
      rw [Bool.and_eq_true] at k
      obtain ⟨k, s2⟩ := k
      rw [Bool.and_eq_true, beq_iff_eq] at k
      obtain ⟨rfl, k2⟩ := k
      have s1 := chkL_ok l c xa X _ h k4
      obtain ⟨i1, i2, i3⟩ := fr_of h k2
      simp only [List.all_cons, Bool.and_eq_true] at s2
      simp only [evI]
      exact si_enum i1 i2 s1 (by rw [star_cons s2.1]; rfl)
    · cases k
  | .rev a, c, xa, X, tg, e, h, k => by
    simp only [chkI] at k
    split at k
    · rename_i x p u pos
      rw [Bool.and_eq_true] at k
      obtain ⟨k, k4⟩ := k
      rw [Bool.and_eq_true] at k
      obtain ⟨k, k3⟩ := k
      rw [Bool.and_eq_true, beq_iff_eq] at k
      obtain ⟨rfl, k2⟩ := k
      obtain ⟨i1, i2, i3⟩ := fr_of h k2
      simp only [evI]
      exact si_rev i1 i2 (chkE_ok a c xa X _ h k4) (star_cons k3)
    · cases k
  | .nil, _, _, _, _, _, _, k => by simp [chkI] at k
  | .cons _ _, _, _, _, _, _, _, k => by simp [chkI] at k
  | .scons _ _, _, _, _, _, _, _, k => by simp [chkI] at k
  | .var _, _, _, _, _, _, _, k => by simp [chkI] at k
  | .con _, _, _, _, _, _, _, k => by simp [chkI] at k
  | .glb _, _, _, _, _, _, _, k => by simp [chkI] at k
  | .bin _ _ _, _, _, _, _, _, _, k => by simp [chkI] at k
  | .neg _, _, _, _, _, _, _, k => by simp [chkI] at k
  | .not _, _, _, _, _, _, _, k => by simp [chkI] at k
  | .and _ _, _, _, _, _, _, _, k => by simp [chkI] at k
  | .or _ _, _, _, _, _, _, _, k => by simp [chkI] at k
  | .cmp _ _ _, _, _, _, _, _, _, k => by simp [chkI] at k
  | .chain _ _ _ _ _, _, _, _, _, _, _, k => by simp [chkI] at k
  | .ife _ _ _, _, _, _, _, _, _, k => by simp [chkI] at k
  | .tup _, _, _, _, _, _, _, k => by simp [chkI] at k
  | .lst _, _, _, _, _, _, _, k => by simp [chkI] at k
  | .cls _, _, _, _, _, _, _, k => by simp [chkI] at k
  | .call _ _ _, _, _, _, _, _, _, k => by simp [chkI] at k
  | .bi _ _, _, _, _, _, _, _, k => by simp [chkI] at k
  | .isi _ _, _, _, _, _, _, _, k => by simp [chkI] at k
  | .isx _ _, _, _, _, _, _, _, k => by simp [chkI] at k
  | .meth _ _ _, _, _, _, _, _, _, k => by simp [chkI] at k
  | .ix _ _, _, _, _, _, _, _, k => by simp [chkI] at k
  | .x _ _ _ _ _ _, _, _, _, _, _, _, k => by simp [chkI] at k
  | .sl _ _ _ _, _, _, _, _, _, _, k => by simp [chkI] at k
  | .lc _ _ _ _ _ _, _, _, _, _, _, _, k => by simp [chkI] at k
  | .tt _, _, _, _, _, _, _, k => by simp [chkI] at k
  | .pt _, _, _, _, _, _, _, k => by simp [chkI] at k
  termination_by m => sizeOf m
end
end
end TL

set_option maxHeartbeats 2000000
namespace TL
open PySem PySem.Spec
open PyProof.Rows L2

/-! ### statements -/
structure SCx (g : GI) (C : CallF) (lv : Nat) (c : TC) (xa : XA) (X : Cx) : Prop where
  cx : Cxt g C lv c xa X
  bk : X.env.blockKind = .function
  fnT : ∀ x, X.fn x = true
  lc : ∀ x, locB c.sc x = true → c.asg x = true
  stack : X.stack = X.env :: X.outer
  frame : X.env.frame = some X.env.locals
  po : c.cm = true → PassesOwn (model X.prog X.w) X.A X.env X.xe
def swB (c : TC) (scope : Scope) (y : Str) (py pos : Pos) : Bool := decide (c.sc.names.lookup y = some .local) && decide (py.line = pos.line) && !(scope.names.any fun x => x.1 == y && (x.2 == .local || x.2 == .cell))
def isSeal : S → Bool
  | .slo _ => true
  | _ => false
variable (g : GI)
mutual
def chkS : S → TC → Stmt → Bool
  | .pass, _, s => match s with
    | .Pass _ => true
    | _ => false
  | .brk, _, s => match s with
    | .Break _ => true
    | _ => false
  | .cnt, _, s => match s with
    | .Continue _ => true
    | _ => false
  | .asg t e, c, s => match s with
    | .Assign [tg] x pos => match t, e, tg, x with
      | .nm i, .lc cell elt t it d own, .Name y py, .ListComp xe [⟨tg2, iter, ifs, ia⟩] scope _ =>
        (swB c scope y py x.pos && decide (c.N[i]? = some y) && chkE g (.lc cell elt t it d own) c x) || (decide (c.sc.names.lookup y = some .cell) && decide (c.N[i]? = some y) && c.asg y && chkE g (.lc cell elt t it d own) c x)
      | .nm i, .x (.lc2 cell t t1 own own1) a b d d' d'', .Name y py, .ListComp xe [g1, g2] scope _ =>
        (swB c scope y py x.pos && decide (c.N[i]? = some y) && chkE g (.x (.lc2 cell t t1 own own1) a b d d' d'') c x) || (decide (c.sc.names.lookup y = some .cell) && decide (c.N[i]? = some y) && c.asg y && chkE g (.x (.lc2 cell t t1 own own1) a b d d' d'') c x)
      | .nm i, e, .Name y _, x => notComp x && decide (c.N[i]? = some y) && c.asg y && chkE g e c x
      | t, e, .Tuple es kk p, x => notComp x && (notTup x || longT es) && notStar (.Tuple es kk p) && c.cm && chkTg c.N c.asg t (.Tuple es kk p) && chkE g e c x
      | _, _, _, _ => false
    | _ => false
  | .aug o i e, c, s => match s with
    | .AugAssign (.Name y _) op x _ => decide (o.op = op) && decide (c.N[i]? = some y) && c.asg y && chkE g e c x
    | _ => false
  | .exp e, c, s => match s with
    | .Expr x _ => notComp x && chkE g e c x
    | _ => false
  | .ife d a b, c, s => match s with
    | .If x sa sb _ => chkT g d c x && chkSs a c sa && chkSs b c sb
    | _ => false
  | .forS t it b, c, s => match s with
    | .For tg x body [] _ => c.cm && notSet x && chkTg c.N c.asg t tg && chkI g it c tg x && chkSs b c body
    | _ => false
  | .whl d b, c, s => match s with
    | .While x body [] _ => c.cm && chkT g d c x && chkSs b c body
    | _ => false
  | .ret e, c, s => match s with
    | .Return (some x) _ => chkE g e c x
    | _ => false
  | .retN, _, s => match s with
    | .Return none _ => true
    | _ => false
  | .raise x, c, s => match s with
    | .Raise (some (.Call (.Name y _) [] [] _)) none _ => c.cm && y == x && glB c.sc x && g.exs.contains x
    | _ => false
  | .try_ b x h, c, s => match s with
    | .Try body [.ExceptHandler (some (.Name y _)) none (s0 :: suite) _] [] [] _ => c.cm && y == x && glB c.sc x && g.exs.contains x && chkSs b c body && chkSs h { c with cm := false } (s0 :: suite)
    | _ => false
  | .tryAs b x i h, c, s => match s with
    | .Try body [.ExceptHandler (some (.Name y _)) (some n) (s0 :: suite) _] [] [] _ => c.cm && y == x && glB c.sc x && g.exs.contains x && decide (c.N[i]? = some n) && decide (c.sc.names.lookup n = some .local) && chkSs b c body && chkSs h { c with cm := false } (s0 :: suite)
    | _ => false
  | .setf f o e, c, s => match s with
    | .Assign [.Attribute v n _] x _ => n == f && chkE g o c v && chkE g e c x
    | _ => false
  | .slo _, _, _ => false
  | .par is l, c, s => match s with
    | .Assign [.Tuple [.Name x px, .Name y py] _ _] (.Tuple [a, b] _ _) _ => match is with
      | [i, j] => c.cm && decide (c.N[i]? = some x) && decide (c.N[j]? = some y) && decide (i ≠ j) && decide (c.sc.names.lookup x = some .local) && decide (c.sc.names.lookup y = some .local) && decide (py.line = px.line) && !(x == y) && !(isStar a) && !(isStar b) &&
        !([a, b].all (foldedForSure 8)) && !([a, b].all (constantsAlone 8)) && chkL g l c [a, b]
      | _ => false
    | .Assign [.Tuple [.Name x px, .Name y py, .Name z pz] _ _] (.Tuple [a, b, d] _ _) _ => match is with
      | [i, j, m] => c.cm && decide (c.N[i]? = some x) && decide (c.N[j]? = some y) && decide (c.N[m]? = some z) && decide (i ≠ j) && decide (i ≠ m) && decide (j ≠ m) && decide (c.sc.names.lookup x = some .local) && decide (c.sc.names.lookup y = some .local) && decide (c.sc.names.lookup z = some .local) &&
        decide (py.line = px.line) && decide (pz.line = px.line) && !(x == y) && !(x == z) && !(y == z) && !(isStar a) && !(isStar b) && !(isStar d) && !([a, b, d].all (foldedForSure 8)) && !([a, b, d].all (constantsAlone 8)) && chkL g l c [a, b, d]
      | _ => false
    | _ => false
  | .unst i j e, c, s => match s with
    | .Assign [.Tuple [.Name a pa, .Starred (.Name b pb) sp] kk tp] x _ => c.cm && decide (c.N[i]? = some a) && c.asg a && decide (c.N[j]? = some b) && c.asg b && notTup x && chkE g e c x
    | _ => false
  | .nil, _, _ => false
  | .cons _ _, _, _ => false
def chkSs : S → TC → List Stmt → Bool
  | .nil, _, ss => match ss with
    | [] => true
    | _ => false
  | .cons a b, c, ss => match isSeal a with
    | true => chkSs b c ss
    | false => match ss with
      | s :: r => chkS a c s && chkSs b c r
      | _ => false
  | .setf _ _ _, _, _ => false | .unst _ _ _, _, _ => false | .slo _, _, _ => false | .par _ _, _, _ => false
  | .pass, _, _ => false | .brk, _, _ => false | .cnt, _, _ => false | .asg _ _, _, _ => false | .aug _ _ _, _, _ => false | .exp _, _, _ => false | .ife _ _ _, _, _ => false | .forS _ _ _, _, _ => false
  | .whl _ _, _, _ => false | .ret _, _, _ => false | .retN, _, _ => false | .raise _, _, _ => false | .try_ _ _ _, _, _ => false | .tryAs _ _ _ _, _, _ => false
end
section
variable {g : GI} {C : CallF} {lv F : Nat} {c : TC} {xa : XA} {X : Cx}
theorem SCx.tcx (h : SCx g C lv c xa X) (hc : X.calm = true) : TCx c.N c.asg X := ⟨h.cx.N, h.cx.nd, fun x e => h.cx.asg x e, hc⟩
theorem SCx.tr (h : SCx g C lv c xa X) (hc : c.cm = true) (pn : List (Addr × Obj)) (xe : Value → Shared → Prop) (ho : PassesOwn (model X.prog X.w) X.A X.env xe) : SCx g C lv c xa (X.tr pn xe) where
  cx := ⟨h.cx.N, h.cx.nd, h.cx.sc, h.cx.asg, h.cx.cm, h.cx.un, h.cx.con, h.cx.fre, h.cx.fns, h.cx.exs, h.cx.exr, h.cx.exm, h.cx.isx, fun a k q => ((h.cx.cm hc).2.2 a k q).elim, h.cx.noat, h.cx.mets, h.cx.tabs, h.cx.news, h.cx.tp⟩
  bk := h.bk
  fnT := h.fnT
  lc := h.lc
  stack := h.stack
  frame := h.frame
  po := fun _ => ho
theorem SCx.su (h : SCx g C lv c xa X) (hc : c.cm = true) (a : Addr) (pn : List (Addr × Obj)) (xa' : XA)
    (hx : ∀ a' k, xa' a' k → ∀ T b, g.isx.lookup (k, T) = some b → ∃ u v, ((X.mg T = some u) ∨ (X.mg T = none ∧ bootBuiltins T = some u ∧ T ≠ "__name__")) ∧ RelV v u ∧ CallR (X.suite a pn) (.builtin "isinstance") (fun xs H Q => xs = [.ref a', v] ∧ Q (.bl b) H)) :
    SCx g C lv { c with cm := false } xa' (X.suite a pn) where
  cx := ⟨h.cx.N, h.cx.nd, h.cx.sc, h.cx.asg, (fun q => by cases q), h.cx.un, h.cx.con, h.cx.fre, h.cx.fns, h.cx.exs, h.cx.exr, h.cx.exm, h.cx.isx, hx, h.cx.noat, h.cx.mets, h.cx.tabs, h.cx.news, h.cx.tp⟩
  bk := h.bk
  fnT := h.fnT
  lc := h.lc
  stack := h.stack
  frame := h.frame
  po := fun q => by cases q
theorem SCx.exN (h : SCx g C lv c xa X) {x : Str} (h1 : glB c.sc x = true) (h2 : g.exs.contains x = true) : ∃ A, Names X x (.ref A) ∧ X.mg x = some (.ref A) ∧ ExOk X.K A := by
  obtain ⟨A, e1, e2, e3⟩ := h.cx.exs x h2
  obtain ⟨g1, g2⟩ := gl_of h.cx h1
  exact ⟨A, ⟨g1, g2, .inl e1⟩, e1, e2⟩
theorem SCx.sg (h : SCx g C lv c xa X) (hc : c.cm = true) {t : Tg} {e : Expr} (k : chkTg c.N c.asg t e = true) : SG X xa e t := by
  obtain ⟨gt, g1, g2⟩ := chkTg_ok X.K xa t e k
  exact ⟨gt, g1 X rfl (h.tcx (h.cx.cm hc).1), fun v σ H Q φ ρ x ρ' a b d q => g2 v σ H Q φ ρ x ρ' a b d q⟩
theorem SCx.nm (h : SCx g C lv c xa X) {i : Nat} {x : Str} (h1 : c.N[i]? = some x) (h2 : c.asg x = true) : X.N.Nodup ∧ X.N[i]? = some x ∧ Loc X.env.scope x ∧ (X.fn x = true ∨ X.env.scope.names.lookup x = some .local) :=
  ⟨by rw [h.cx.N]; exact h.cx.nd, by rw [h.cx.N]; exact h1, (h.cx.asg x h2).1, (h.cx.asg x h2).2⟩
theorem swaps_false {elt : Expr} {gens : List Comprehension} {scope : Scope} {pos py : Pos} {y : Str} {env : Env} {line : Nat} (hy : env.scope.names.lookup y = some .cell) : swapsWith (.ListComp elt gens scope pos) (some (.Name y py)) line env = pure false := by
  have h2 : (env.kindOf y == some NameKind.local) = false := by
    rw [show env.kindOf y = some .cell from hy]; rfl
  show (pure (env.blockKind == ScopeKind.function && env.kindOf y == some NameKind.local && py.line == pos.line
    && !(scope.names.any fun x => x.1 == y && (x.2 == .local || x.2 == .cell))) : Sem Bool) = pure false
  rw [h2, Bool.and_false, Bool.false_and, Bool.false_and]
mutual
theorem chkS_ok : ∀ (m : S) (c : TC) (xa : XA) (X : Cx) (s : Stmt), SCx g C lv c xa X → chkS g m c s = true → SS X xa s (evS g F C m)
  | .pass, c, xa, X, s, h, k => by
    unfold chkS at k
    split at k
    · simp only [evS]; exact ss_pass
    · cases k
  | .brk, c, xa, X, s, h, k => by
    unfold chkS at k
    split at k
    · simp only [evS]; exact ss_brk
    · cases k
  | .cnt, c, xa, X, s, h, k => by
    unfold chkS at k
    split at k
    · simp only [evS]; exact ss_cnt
    · cases k
  | .asg t e, c, xa, X, s, h, k => by
    unfold chkS at k
    split at k
    · rename_i tg x pos
      split at k
      · rename_i i cell elt t2 it d own y py xe tg2 iter ifs ia scope pp
        rw [Bool.or_eq_true] at k
        rcases k with k | k
        rotate_left
        · simp only [Bool.and_eq_true, decide_eq_true_eq] at k
          obtain ⟨⟨⟨k1, k2⟩, k3⟩, k4⟩ := k
          obtain ⟨n1, n2, n3, n4⟩ := h.nm k2 k3
          rw [← h.cx.sc] at k1
          simp only [evS]
          exact ss_set n1 n2 n3 (chkE_ok _ c xa X _ h.cx k4) (swaps_false k1) n4
        rw [Bool.and_eq_true, Bool.and_eq_true, decide_eq_true_eq] at k
        obtain ⟨⟨k1, k2⟩, k3⟩ := k
        unfold swB at k1
        simp only [Bool.and_eq_true, decide_eq_true_eq, Bool.not_eq_true'] at k1
        obtain ⟨⟨s1, s2⟩, s3⟩ := k1
        simp only [chkE] at k3
        simp only [Bool.and_eq_true, decide_eq_true_eq] at k3
        obtain ⟨⟨⟨⟨⟨⟨⟨⟨rfl, k0⟩, b1⟩, b2⟩, b3⟩, b4⟩, b5⟩, b6⟩, b7⟩ := k3
        simp only [evS, evE]
        obtain ⟨c1, c2, c3⟩ := h.cx.cm k0
        obtain ⟨gt, g1, g2⟩ := chkTg_ok X.K xa t2 tg2 b4
        have B : BlkOk X.N X.env.scope scope (ownP c.N own) := by rw [h.cx.N, h.cx.sc]; exact blkOk_by b1
        have := ss_setLc (xa := xa) (own := ownP c.N own) (pos := pp) (py := py) (spos := pos) (t := t2) (fi := evI g C it) (tt := evC g C d) (te := evE g C elt) (cell := cell) (i := i) (y := y) c1 (by rw [h.cx.N]; exact h.cx.nd) (by rw [h.cx.N]; exact k2)
          (by rw [h.cx.sc]; exact s1) (swaps_true h.bk (by show X.env.scope.names.lookup y = _; rw [h.cx.sc]; exact s1) s2 s3) (chkI_ok it c xa X tg2 iter h.cx b5) B
          (by rw [ownP_snd]; intro i hi; simpa using List.all_eq_true.mp b2 i hi)
          ⟨gt, fun s H A cl fp => g1 _ rfl ⟨h.cx.N, h.cx.nd, (cxt_blk h.cx k0 scope s H A cl fp).asg, c1⟩, g2⟩
          (fun s H A cl fp => chkC_ok d (blkTC c scope) xa _ ifs (cxt_blk h.cx k0 scope s H A cl fp) b6)
          (fun s H A cl fp => chkE_ok elt (blkTC c scope) xa _ xe (cxt_blk h.cx k0 scope s H A cl fp) b7) (nofold b3)
        rw [ownP_snd] at this
        exact this
      · rename_i i cell t2 t3 own own1 a b d d' d'' y py xe g1 g2 scope pp
        rw [Bool.or_eq_true] at k
        rcases k with k | k
        rotate_left
        · simp only [Bool.and_eq_true, decide_eq_true_eq] at k
          obtain ⟨⟨⟨k1, k2⟩, k3⟩, k4⟩ := k
          obtain ⟨n1, n2, n3, n4⟩ := h.nm k2 k3
          rw [← h.cx.sc] at k1
          simp only [evS]
          exact ss_set n1 n2 n3 (chkE_ok _ c xa X _ h.cx k4) (swaps_false k1) n4
        rw [Bool.and_eq_true, Bool.and_eq_true, decide_eq_true_eq] at k
        obtain ⟨⟨k1, k2⟩, k3⟩ := k
        unfold swB at k1
        simp only [Bool.and_eq_true, decide_eq_true_eq, Bool.not_eq_true'] at k1
        obtain ⟨⟨s1, s2⟩, s3⟩ := k1
        obtain ⟨tg, iter, ifs, ia⟩ := g1
        obtain ⟨tg1, iter1, ifs1, ia1⟩ := g2
        simp only [chkE] at k3
        simp only [Bool.and_eq_true, decide_eq_true_eq] at k3
        obtain ⟨⟨⟨⟨⟨⟨⟨⟨⟨⟨⟨⟨⟨⟨⟨rfl, rfl⟩, k0⟩, b1⟩, b2⟩, b3⟩, b4⟩, b5⟩, b6⟩, b7⟩, b8⟩, b9⟩, l1⟩, l2⟩, l3⟩, l4⟩ := k3
        simp only [evS, evE]
        obtain ⟨c1, c2, c3⟩ := h.cx.cm k0
        obtain ⟨gt, q1, q2⟩ := chkTg_ok X.K xa t2 tg b7
        obtain ⟨gt1, q3, q4⟩ := chkTg_ok X.K xa t3 tg1 b8
        have B : BlkOk X.N X.env.scope scope (ownP c.N own) := by rw [h.cx.N, h.cx.sc]; exact blkOk_by b1
        have z := ss_setLc2 (xa := xa) (ownp := ownP c.N own) (own1 := own1) (pos := pp) (py := py) (spos := pos) (t := t2) (t1 := t3) (fi := evI g C a) (tt := evC g C b) (fi1 := evI g C d) (tt1 := evC g C d') (te := evE g C d'') (gt := gt) (gt1 := gt1) (i := i) (y := y) cell c1 (by rw [h.cx.N]; exact h.cx.nd) (by rw [h.cx.N]; exact k2)
          (by rw [h.cx.sc]; exact s1) (swaps_true h.bk (by show X.env.scope.names.lookup y = _; rw [h.cx.sc]; exact s1) s2 s3) (chkI_ok a c xa X tg iter h.cx b9) B
          (by rw [ownP_snd]; intro i hi; simpa using List.all_eq_true.mp b4 i hi) (by rw [ownP_snd]; intro i hi; simpa using List.all_eq_true.mp b2 i hi) (by intro i hi; simpa using List.all_eq_true.mp b3 i hi)
          (fun s H A cl fp => q1 _ rfl ⟨h.cx.N, h.cx.nd, (cxt_blk h.cx k0 scope s H A cl fp).asg, c1⟩) q2 (fun s H A cl fp => q3 _ rfl ⟨h.cx.N, h.cx.nd, (cxt_blk h.cx k0 scope s H A cl fp).asg, c1⟩) q4
          (fun s H A cl fp => chkC_ok b (blkTC c scope) xa _ ifs (cxt_blk h.cx k0 scope s H A cl fp) l1) (fun s H A cl fp => chkI_ok d (blkTC c scope) xa _ tg1 iter1 (cxt_blk h.cx k0 scope s H A cl fp) l2)
          (fun s H A cl fp => chkC_ok d' (blkTC c scope) xa _ ifs1 (cxt_blk h.cx k0 scope s H A cl fp) l3) (fun s H A cl fp => chkE_ok d'' (blkTC c scope) xa _ xe (cxt_blk h.cx k0 scope s H A cl fp) l4) (nofold b5) (fun env => nofold b6)
        rw [ownP_snd] at z
        exact z
      · rename_i i y py _ _ _
        simp only [Bool.and_eq_true, decide_eq_true_eq] at k
        obtain ⟨⟨⟨k1, k2⟩, k3⟩, k4⟩ := k
        obtain ⟨n1, n2, n3, n4⟩ := h.nm k2 k3
        simp only [evS]
        exact ss_set n1 n2 n3 (chkE_ok _ c xa X _ h.cx k4) (noswap k1) n4
      · rename_i es kk p _ _ _ _
        simp only [Bool.and_eq_true] at k
        obtain ⟨⟨⟨⟨⟨k1, k2⟩, k3⟩, k4⟩, k5⟩, k6⟩ := k
        simp only [evS]
        exact ss_asg (chkE_ok _ c xa X _ h.cx k6) (h.sg k4 k5) noswapTup (nostoreL k2) (asgEach_one k3)
      · cases k
    · cases k
  | .aug o i e, c, xa, X, s, h, k => by
    unfold chkS at k
    split at k
    · simp only [Bool.and_eq_true, decide_eq_true_eq] at k
      obtain ⟨⟨⟨rfl, k2⟩, k3⟩, k4⟩ := k
      obtain ⟨n1, n2, n3, n4⟩ := h.nm k2 k3
      simp only [evS]
      exact ss_aug o n1 n2 n3 (chkE_ok e c xa X _ h.cx k4) n4
    · cases k
  | .exp e, c, xa, X, s, h, k => by
    unfold chkS at k
    split at k
    · simp only [Bool.and_eq_true] at k
      simp only [evS]
      exact ss_expr (chkE_ok e c xa X _ h.cx k.2) (noswap k.1)
    · cases k
  | .ife d a b, c, xa, X, s, h, k => by
    unfold chkS at k
    split at k
    · simp only [Bool.and_eq_true] at k
      simp only [evS]
      exact ss_if (chkT_ok d c xa X _ h.cx k.1.1).1 (chkSs_ok a c xa X _ h k.1.2) (chkSs_ok b c xa X _ h k.2)
    · cases k
  | .forS t it b, c, xa, X, s, h, k => by
    unfold chkS at k
    split at k
    · simp only [Bool.and_eq_true] at k
      obtain ⟨⟨⟨⟨k1, k2⟩, k3⟩, k4⟩, k5⟩ := k
      simp only [evS]
      exact ss_for (h.po k1) (h.cx.cm k1).1 (chkI_ok it c xa X _ _ h.cx k4) (h.sg k1 k3) (chkSs_ok b c xa X _ h k5) (nofold k2)
    · cases k
  | .whl d b, c, xa, X, s, h, k => by
    unfold chkS at k
    split at k
    · simp only [Bool.and_eq_true] at k
      simp only [evS]
      exact ss_while F (h.po k.1.1) (chkT_ok d c xa X _ h.cx k.1.2).1 (chkSs_ok b c xa X _ h k.2)
    · cases k
  | .ret e, c, xa, X, s, h, k => by
    unfold chkS at k
    split at k
    · simp only [evS]
      exact ss_ret (chkE_ok e c xa X _ h.cx k)
    · cases k
  | .retN, c, xa, X, s, h, k => by
    unfold chkS at k
    split at k
    · simp only [evS]; exact ss_retN
    · cases k
  | .raise x, c, xa, X, s, h, k => by
    unfold chkS at k
    split at k
    · simp only [Bool.and_eq_true, beq_iff_eq] at k
      obtain ⟨⟨⟨k1, rfl⟩, k3⟩, k4⟩ := k
      obtain ⟨A, ⟨n1, n2, _⟩, n3, n4⟩ := h.exN k3 k4
      simp only [evS]
      exact ss_raise (h.cx.cm k1).1 n4 n3 n1 n2
    · cases k
  | .try_ b x hs, c, xa, X, s, h, k => by
    unfold chkS at k
    split at k
    · simp only [Bool.and_eq_true, beq_iff_eq] at k
      obtain ⟨⟨⟨⟨⟨k1, rfl⟩, k3⟩, k4⟩, k5⟩, k6⟩ := k
      obtain ⟨A, n1, n2, n3⟩ := h.exN k3 k4
      simp only [evS]
      exact ss_try h.stack h.frame n1 (fun c' b e C hC => h.cx.exm c' _ b e C A hC n2) (fun pn xe ho => chkSs_ok b c xa _ _ (h.tr k1 pn xe ho) k5)
        fun a oe pn => chkSs_ok hs _ xa _ _ (h.su k1 a _ xa fun a' kk q => ((h.cx.cm k1).2.2 a' kk q).elim) k6
    · cases k
  | .tryAs b x i hs, c, xa, X, s, h, k => by
    unfold chkS at k
    split at k
    · simp only [Bool.and_eq_true, beq_iff_eq, decide_eq_true_eq] at k
      obtain ⟨⟨⟨⟨⟨⟨⟨k1, rfl⟩, k3⟩, k4⟩, k5⟩, k6⟩, k7⟩, k8⟩ := k
      obtain ⟨A, n1, n2, n3⟩ := h.exN k3 k4
      simp only [evS]
      refine ss_tryAs h.stack h.frame (by rw [h.cx.N]; exact h.cx.nd) (by rw [h.cx.N]; exact k5) (by show X.env.scope.names.lookup _ = _; rw [h.cx.sc]; exact k6) n1 (h.cx.cm k1).2.2 (fun c' b e C hC => h.cx.exm c' _ b e C A hC n2)
        (fun pn xe ho => chkSs_ok b c xa _ _ (h.tr k1 pn xe ho) k7) fun a oe cls pn hz hv => chkSs_ok hs _ _ _ _ (h.su k1 a _ _ fun a' kk q T b' e => ?_) k8
      obtain ⟨rfl, C', hC, rfl⟩ := q
      obtain ⟨E1, u, v, h1, h2, h3, h4⟩ := h.cx.isx kk T b' e C' hC
      refine ⟨u, v, h1, h2, fun pins s σ H xs us Q I r hh => ?_⟩
      obtain ⟨rfl, hq⟩ := hh
      exact call_isE E1 hz hv pins s σ H _ us Q I r ⟨v, u, b', rfl, h3, h4, hq⟩
    · cases k
  | .setf f o e, c, xa, X, s, h, k => by
    unfold chkS at k
    split at k
    · simp only [Bool.and_eq_true, beq_iff_eq] at k
      obtain ⟨⟨rfl, k1⟩, k2⟩ := k
      simp only [evS]
      exact ss_setf h.cx.noat (chkE_ok o c xa X _ h.cx k1) (chkE_ok e c xa X _ h.cx k2) noswapAttr
    · cases k
  | .slo _, c, xa, X, s, h, k => by simp [chkS] at k
  | .unst i j e, c, xa, X, s, h, k => by
    unfold chkS at k
    split at k
    · simp only [Bool.and_eq_true, decide_eq_true_eq] at k
      obtain ⟨⟨⟨⟨⟨⟨k0, k1⟩, k2⟩, k3⟩, k4⟩, k5⟩, k6⟩ := k
      obtain ⟨n1, n2, n3, n4⟩ := h.nm k1 k2
      obtain ⟨m1, m2, m3, m4⟩ := h.nm k3 k4
      simp only [evS]
      exact ss_unst (h.cx.cm k0).1 n1 n2 m2 n3 m3 n4 m4 (chkE_ok e c xa X _ h.cx k6) noswapTup (nostoreL (by rw [k5]; rfl))
    · cases k
  | .par is l, c, xa, X, s, h, k => by
    unfold chkS at k
    split at k
    · split at k
      · simp only [Bool.and_eq_true, decide_eq_true_eq, Bool.not_eq_true'] at k
        obtain ⟨⟨⟨⟨⟨⟨⟨⟨⟨⟨⟨⟨k0, k1⟩, k2⟩, k3⟩, k4⟩, k5⟩, k6⟩, k7⟩, k8⟩, k9⟩, l1⟩, l2⟩, l3⟩ := k
        have hx := k4
        rw [← h.cx.sc] at hx
        have hy := k5
        rw [← h.cx.sc] at hy
        simp only [evS]
        exact ss_par2 (h.cx.cm k0).1 (by rw [h.cx.N]; exact h.cx.nd) (by rw [h.cx.N]; exact k1) (by rw [h.cx.N]; exact k2) k3 hx hy (chkL_ok l c xa X _ h.cx l3) (sw_two h.bk hx hy k6 k7 k8 k9 l1 l2)
      · cases k
    · split at k
      · simp only [Bool.and_eq_true, decide_eq_true_eq, Bool.not_eq_true'] at k
        obtain ⟨⟨⟨⟨⟨⟨⟨⟨⟨⟨⟨⟨⟨⟨⟨⟨⟨⟨⟨⟨k0, k1⟩, k2⟩, k3⟩, k4⟩, k5⟩, k6⟩, k7⟩, k8⟩, k9⟩, l1⟩, l2⟩, l3⟩, l4⟩, l5⟩, l6⟩, l7⟩, l8⟩, l9⟩, m1⟩, m2⟩ := k
        have hx := k7
        rw [← h.cx.sc] at hx
        have hy := k8
        rw [← h.cx.sc] at hy
        have hz := k9
        rw [← h.cx.sc] at hz
        simp only [evS]
        exact ss_par3 (h.cx.cm k0).1 (by rw [h.cx.N]; exact h.cx.nd) (by rw [h.cx.N]; exact k1) (by rw [h.cx.N]; exact k2) (by rw [h.cx.N]; exact k3) k4 k5 k6 hx hy hz (chkL_ok l c xa X _ h.cx m2) (sw_three h.bk hx hy hz l1 l2 l3 l4 l5 l6 l7 l8 l9 m1)
      · cases k
    · cases k
  | .nil, c, xa, X, s, h, k => by simp [chkS] at k
  | .cons _ _, c, xa, X, s, h, k => by simp [chkS] at k
  termination_by m => sizeOf m
theorem chkSs_ok : ∀ (m : S) (c : TC) (xa : XA) (X : Cx) (s : List Stmt), SCx g C lv c xa X → chkSs g m c s = true → SSs X xa s (evS g F C m)
  | .nil, c, xa, X, s, h, k => by
    unfold chkSs at k
    split at k
    · simp only [evS]; exact ss_nil
    · cases k
  | .cons a b, c, xa, X, s, h, k => by
    unfold chkSs at k
    split at k
    · rename_i hs
      have z := chkSs_ok b c xa X s h k
      cases a <;> first | (cases hs; done) | skip
      rename_i j
      exact sss_seal (j := j) z
    · split at k
      · simp only [Bool.and_eq_true] at k
        simp only [evS]
        exact ss_cons (chkS_ok a c xa X _ h k.1) (chkSs_ok b c xa X _ h k.2)
      · cases k
  | .setf _ _ _, _, _, _, _, _, k => by simp [chkSs] at k
  | .slo _, _, _, _, _, _, k => by simp [chkSs] at k
  | .unst _ _ _, _, _, _, _, _, k => by simp [chkSs] at k
  | .par _ _, _, _, _, _, _, k => by simp [chkSs] at k
  | .pass, _, _, _, _, _, k => by simp [chkSs] at k
  | .brk, _, _, _, _, _, k => by simp [chkSs] at k
  | .cnt, _, _, _, _, _, k => by simp [chkSs] at k
  | .asg _ _, _, _, _, _, _, k => by simp [chkSs] at k
  | .aug _ _ _, _, _, _, _, _, k => by simp [chkSs] at k
  | .exp _, _, _, _, _, _, k => by simp [chkSs] at k
  | .ife _ _ _, _, _, _, _, _, k => by simp [chkSs] at k
  | .forS _ _ _, _, _, _, _, _, k => by simp [chkSs] at k
  | .whl _ _, _, _, _, _, _, k => by simp [chkSs] at k
  | .ret _, _, _, _, _, _, k => by simp [chkSs] at k
  | .retN, _, _, _, _, _, k => by simp [chkSs] at k
  | .raise _, _, _, _, _, _, k => by simp [chkSs] at k
  | .try_ _ _ _, _, _, _, _, _, k => by simp [chkSs] at k
  | .tryAs _ _ _ _, _, _, _, _, _, k => by simp [chkSs] at k
  termination_by m => sizeOf m
end
end
end TL

set_option maxHeartbeats 2000000
namespace TL
open PySem PySem.Spec
open PyProof.Rows L2

/-! ### a program -/
structure Fn where
  ps : List Str
  N : List Str
  body : S
abbrev Prg := List (Str × Fn)
def fnsOf (P : Prg) : List (Str × Nat) := P.map fun p => (p.1, p.2.ps.length)
theorem fnsOf_look : ∀ {P : Prg} {x : Str} {n : Nat}, (fnsOf P).lookup x = some n → ∃ fn, P.lookup x = some fn ∧ fn.ps.length = n
  | [], _, _, h => by cases h
  | (y, fn) :: P, x, n, h => by
    unfold fnsOf at h
    rw [List.map_cons, List.lookup_cons] at h
    rw [List.lookup_cons]
    split at h
    · rename_i e
      cases h
      simp only [e]
      exact ⟨fn, rfl, rfl⟩
    · rename_i e
      simp only [e]
      exact fnsOf_look h
def onlyX (g : GI) : Res Vl → Res Vl
  | .exc c M => if g.exs.contains c = true then .exc c M else .bad
  | r => r
def call (g : GI) (P : Prg) (F : Nat) : Nat → CallF
  | 0, _, _, _ => .bad
  | d + 1, f, as, M => match P.lookup f with
    | none => .bad
    | some fn => onlyX g (bodyF fn.N.length (evS g F (call g P F d) fn.body) as M)
theorem call_exc {g : GI} {P : Prg} {F : Nat} {d : Nat} {f : Str} {as : List Vl} {M M' : Store} {c : Str} (h : call g P F d f as M = .exc c M') : g.exs.contains c = true := by
  cases d with
  | zero => simp [call] at h
  | succ d =>
    simp only [call] at h
    split at h
    · cases h
    · unfold onlyX at h
      split at h
      · split at h
        · cases h; assumption
        · cases h
      · rename_i r hn
        exact absurd h (hn _ _)
def tcOf (N : List Str) (sc : Scope) : TC := { N := N, sc := sc, asg := locB sc, cm := true, top := true }
/-! ### what the head says -/
def IsxOk (K : PySem.W.Frag) (mg : Str → Option Value) (k T : Str) (b : Bool) : Prop := ∀ A, mg k = some (.ref A) → ExcC K A ∧ ∃ u v, ((mg T = some u) ∨ (mg T = none ∧ bootBuiltins T = some u ∧ T ≠ "__name__")) ∧ RelV v u ∧ (∀ u', RelV v u' → u' = u) ∧ PySem.W.kitOne K (.ref A) u = some b
structure Hd (g : GI) (P : Prg) (K : PySem.W.Frag) (w : World) (mg : Str → Option Value) (loc : Str → Addr) : Prop where
  con : ∀ x d, g.con.lookup x = some d → ∃ u v, mg x = some u ∧ RelV v u ∧ ∀ φ H, DR K φ H d v
  fre : ∀ x, g.fre.contains x = true → mg x = none
  exs : ∀ x, g.exs.contains x = true → ∃ A, mg x = some (.ref A) ∧ ExOk K A ∧ ExcC K A
  exm : ∀ c x b, g.exm.lookup (c, x) = some b → ∀ A B, mg c = some (.ref A) → mg x = some (.ref B) → PySem.W.exmOne K (.ref A) (.ref B) = some b
  isx : ∀ k T b, g.isx.lookup (k, T) = some b → IsxOk K mg k T b
  fns : ∀ x n, g.fns.lookup x = some n → ∃ fn, P.lookup x = some fn ∧ fn.ps.length = n ∧ mg x = some (.ref (loc x))
  noat : ∀ c f, g.ci.noat.contains (c, f) = true → Cls K (He.ga K c) ∧ NoAttr K (He.ga K c) f
  mets : ∀ c m q n, g.ci.mets.lookup (c, m) = some (q, n) → ∃ fn, P.lookup q = some fn ∧ fn.ps.length = n ∧ Cls K (He.ga K c) ∧ Meth K (He.ga K c) m (loc q)
  news : ∀ c q n, g.ci.news.lookup c = some (q, n) → ∃ fn, P.lookup q = some fn ∧ fn.ps.length = n ∧ Mk K (He.ga K c) (loc q) ∧ mg c = some (.ref (He.ga K c))
  tabs : ∀ x kvs, g.cds.lookup x = some kvs → ∃ a, mg x = some (.ref a) ∧ TabOk K w a kvs
  defs : ∀ x fn, P.lookup x = some fn → ∃ nm fd params body scope, FunD K nm x params body scope [] [] (loc x) fd ∧ FnScope fn.N fn.ps scope ∧ Binds K fd fn.ps [] ∧ chkSs g fn.body (tcOf fn.N scope) body = true
section
variable {g : GI} {P : Prg} {F : Nat} {K : PySem.W.Frag} {mg : Str → Option Value} {pr : Program} {w : World} {base : Heap}
theorem locB_loc {sc : Scope} {x : Str} (h : locB sc x = true) : Loc sc x := by
  unfold locB at h
  split at h
  · exact .inl (by assumption)
  · exact .inr (by assumption)
  · cases h
theorem prog_ok {loc : Str → Addr} (h : Hd g P K w mg loc) : ∀ (d : Nat) (x : Str) (fn : Fn) (nm : Str) (fd : FuncData) (params : Arguments) (body : List Stmt) (scope : Scope), P.lookup x = some fn → FunD K nm x params body scope [] [] (loc x) fd → FnScope fn.N fn.ps scope →
    chkSs g fn.body (tcOf fn.N scope) body = true → FnOk pr w K mg base (L2.CX pr w) (2 * d) (loc x) fd fn.ps (spOf K mg fn.ps.length (call g P F d x))
  | 0, x, fn, nm, fd, params, body, scope, hl, hF, hS, hk => by
    have no : ∀ vs H Q E, ¬ spOf K mg fn.ps.length (call g P F 0 x) vs H Q E := fun vs H Q E q => by
      obtain ⟨φ, M, as, _, _, _, q⟩ := q
      exact q
    exact ⟨fun vs H Q E q => (no _ _ _ _ q).elim, fun A outer s H args us vs Q E _ _ _ _ q => (no _ _ _ _ q).elim⟩
  | d + 1, x, fn, nm, fd, params, body, scope, hl, hF, hS, hk => by
    have B := fn_body (P := pr) (w := w) (K := K) (mg := mg) (base := base) (k := 2 * d + 1) (fb := evS g F (call g P F d) fn.body) hF hS fun X D => ?_
    · refine B.imp fun vs H Q E q => ?_
      obtain ⟨φ, M, as, h1, h2, h3, q⟩ := q
      refine ⟨φ, M, as, h1, h2, h3, ?_⟩
      simp only [call, hl] at q
      cases hb : bodyF fn.N.length (evS g F (call g P F d) fn.body) as M with
      | ok r M' => rw [hb] at q; exact q
      | bad => rw [hb] at q; exact q
      | exc c M' =>
        rw [hb] at q
        simp only [onlyX] at q
        by_cases hx : g.exs.contains c = true
        · rw [if_pos hx] at q; exact q
        · rw [if_neg hx] at q; exact q.elim
    · have own : ∀ y fn2, P.lookup y = some fn2 → ∃ fd ps, Binds X.K fd ps [] ∧ PySem.W.keepIn X.K (.ref (loc y)) = true ∧ FnOk X.prog X.w X.K X.mg X.base (L2.CX X.prog X.w) (2 * d) (loc y) fd ps (spOf X.K X.mg fn2.ps.length (call g P F d y)) := fun y fn2 e1 => by
        obtain ⟨nm2, fd2, pa2, bo2, sc2, i2, i3, i4, i5⟩ := h.defs y fn2 e1
        refine ⟨fd2, fn2.ps, by rw [D.K]; exact i4, by rw [D.K]; exact i2.kp, ?_⟩
        rw [D.prog, D.w, D.K, D.mg, D.base]
        exact prog_ok h d y fn2 nm2 fd2 pa2 bo2 sc2 e1 i2 i3 i5
      refine chkSs_ok (lv := 2 * d) fn.body (tcOf fn.N scope) noxa X body ⟨⟨D.N, hS.nd, D.sc, fun y e => ?_, fun _ => ⟨D.calm, D.room, fun _ _ q => q⟩, D.room.units, ?_, ?_, ?_, ?_, ?_, ?_, ?_, fun _ _ q => q.elim, ?_, ?_, ?_, ?_, fun _ => ⟨D.stack, D.frame⟩⟩, ?_, D.fn, fun _ e => e, D.stack, D.frame, fun _ => D.po⟩ hk
      · rw [D.sc]; exact ⟨locB_loc e, .inl (D.fn y)⟩
      · rw [D.K, D.mg]; exact h.con
      · rw [D.mg]; exact h.fre
      · intro y n e
        obtain ⟨fn2, e1, e2, e3⟩ := h.fns y n e
        obtain ⟨fd2, ps2, i1, i2, i3⟩ := own y fn2 e1
        rw [e2] at i3
        exact ⟨loc y, fd2, ps2, by rw [D.mg]; exact e3, i2, i1, i3⟩
      · rw [D.K, D.mg]; exact h.exs
      · intro y as M c M' e
        obtain ⟨A, e1, _⟩ := h.exs c (call_exc e)
        exact ⟨A, by rw [D.mg]; exact e1⟩
      · rw [D.K, D.mg]; exact h.exm
      · rw [D.K, D.mg]; exact h.isx
      · rw [D.K]; exact h.noat
      · intro c m q n e
        obtain ⟨fn2, e1, e2, e3, e4⟩ := h.mets c m q n e
        obtain ⟨fd2, ps2, i1, i2, i3⟩ := own q fn2 e1
        rw [e2] at i3
        exact ⟨loc q, fd2, ps2, by rw [D.K]; exact e3, by rw [D.K]; exact e4, i1, i3⟩
      · intro x kvs e
        obtain ⟨a, e1, e2⟩ := h.tabs x kvs e
        exact ⟨a, by rw [D.mg]; exact e1, by rw [D.K, D.w]; exact e2⟩
      · intro c q n e
        obtain ⟨fn2, e1, e2, e3, e4⟩ := h.news c q n e
        obtain ⟨fd2, ps2, i1, i2, i3⟩ := own q fn2 e1
        rw [e2] at i3
        exact ⟨loc q, fd2, ps2, by rw [D.K]; exact e3, by rw [D.K, D.mg]; exact e4, i1, i3⟩
      · unfold Env.blockKind
        rw [D.sc, hS.kind]
        rfl

/-! ### the law -/
def spLaw (K : PySem.W.Frag) (n : Nat) : Sp := fun vs H Q _ => ∃ (a : Addr) (ns : List Int), vs = [.ref a] ∧ ns.length ≤ n ∧ Only H ∧ SqL K H a (ns.map V.int) ∧ ∀ H', Q (.bl true) H'
theorem drs_ints {φ : Fm} {H : Hp} : ∀ ns : List Int, DRs K φ H (ns.map PyData.int) (ns.map V.int)
  | [] => by simp [DRs]
  | n :: ns => by
    simp only [List.map_cons, DRs]
    exact ⟨_, _, rfl, by simp [DR], drs_ints ns⟩
theorem sz_of {H : Hp} {hp : Heap} (h : HOk pr w H hp) : Sz H := by
  intro a xs z
  rcases z with (z | ⟨o, z⟩) | (z | ⟨o, z⟩)
  · exact (h _ _ z).1
  · exact (h _ _ z).2.1
  · exact (h _ _ z).1
  · exact (h _ _ z).2.1
theorem law_ok {loc : Str → Addr} (h : Hd g P K w mg loc) {d n : Nat} {x nm : Str} {fn : Fn} {fd : FuncData} {params : Arguments} {body : List Stmt} {scope : Scope} {y : Str} (hl : P.lookup x = some fn) (hp : fn.ps = [y]) (hF : FunD K nm x params body scope [] [] (loc x) fd) (hS : FnScope fn.N fn.ps scope)
    (hk : chkSs g fn.body (tcOf fn.N scope) body = true) (T : ∀ ns : List Int, ns.length ≤ n → ∃ M', call g P F d x [.ro (ns.map .int)] [] = .ok (.d (.bool true)) M') : FnOk pr w K mg base CX0 (2 * d) (loc x) fd [y] (spLaw K n) := by
  have B := prog_ok (pr := pr) (w := w) (base := base) (F := F) h d x fn nm fd params body scope hl hF hS hk
  rw [hp] at B
  refine ⟨fun vs H Q E q => ?_, fun A outer s H args us vs Q E hr he hb hv q => ?_⟩
  · obtain ⟨a, ns, rfl, _⟩ := q; rfl
  · obtain ⟨a, ns, rfl, q1, q2, q3, q4⟩ := q
    obtain ⟨M', hT⟩ := T ns q1
    have z := B.run A outer s H args us [.ref a] Q (fun _ _ _ => False) hr he hb hv (by
      refine ⟨⟨[], []⟩, [], [.ro (ns.map .int)], rfl, ⟨sz_of he.hok, by simp, rfl, fun n c a e => by simp at e, fun a e => by simp at e⟩, ⟨_, _, rfl, ⟨a, ns.map V.int, rfl, ?_, drs_ints ns⟩, rfl⟩, ?_⟩
      · rcases q3 with (q3 | ⟨o, q3⟩) | q3
        · rcases q2 a with z | ⟨o, xs, z⟩
          · rw [z] at q3; cases q3
          · rw [z] at q3; cases q3
        · exact .inl ⟨⟨o, q3⟩, fun z => by simpa using z.1⟩
        · exact .inr q3
      · show match call g P F d x [.ro (ns.map .int)] [] with
          | .ok r M' => _
          | .exc c M' => _
          | .bad => _
        rw [hT]
        intro φ' H' v _ _ r
        have r' : DR K φ' H' (.bool true) v := r
        simp only [DR] at r'
        subst r'
        exact q4 H')
    refine codeAny_mono z fun r s' c => ?_
    cases r with
    | ok f =>
      cases f with
      | ret u => exact c
      | _ => exact c
    | error e =>
      obtain ⟨_, _, _, _, _, _, _, _, _, _, _, _, c⟩ := c
      exact c
end
end TL

set_option maxHeartbeats 2000000
namespace TL
open PySem PySem.Spec
open PyProof.Rows L2

/-! ### the head's facts, looked up -/
theorem mem_look {α β : Type} [BEq α] [LawfulBEq α] : ∀ {l : List (α × β)} {x : α} {y : β}, l.lookup x = some y → (x, y) ∈ l
  | [], _, _, h => by cases h
  | (a, b) :: l, x, y, h => by
    rw [List.lookup_cons] at h
    split at h
    · rename_i e
      cases h
      rw [beq_iff_eq.mp e]
      exact List.mem_cons_self
    · exact List.mem_cons_of_mem _ (mem_look h)
mutual
def datB (K : PySem.W.Frag) : D → Value → Bool
  | .none, u => match u with
    | .none => true
    | _ => false
  | .bool b, u => match u with
    | .bool c => b == c
    | _ => false
  | .int i, u => match u with
    | .int j _ => decide (i = j)
    | _ => false
  | .str x, u => match u with
    | .str y _ => decide (x = y)
    | _ => false
  | .tuple ds, u => match u with
    | .ref a => match K.lookup a with
      | some ⟨.type c, _, .seq its _, _⟩ => decide (c = "tuple") && (decide (its.size ≤ sizeLine) && datBs K ds its.toList)
      | _ => false
    | _ => false
  | .list _, _ => false
  | .dict _, _ => false
def datBs (K : PySem.W.Frag) : List D → List Value → Bool
  | [], us => match us with
    | [] => true
    | _ => false
  | d :: ds, us => match us with
    | u :: us => datB K d u && datBs K ds us
    | [] => false
end
mutual
theorem datB_ok {K : PySem.W.Frag} : ∀ (d : D) (u : Value), datB K d u = true → ∃ v, RelV v u ∧ ∀ φ H, DR K φ H d v
  | .none, u, h => by
    cases u <;> simp [datB] at h
    exact ⟨.non, rfl, fun _ _ => by simp [DR]⟩
  | .bool b, u, h => by
    cases u <;> simp [datB] at h
    exact ⟨.bl b, by rw [h]; rfl, fun _ _ => by simp [DR]⟩
  | .int i, u, h => by
    cases u <;> simp [datB] at h
    exact ⟨.int i, ⟨_, by rw [h]⟩, fun _ _ => by simp [DR]⟩
  | .str i, u, h => by
    cases u <;> simp [datB] at h
    exact ⟨.str i, ⟨_, by rw [h]⟩, fun _ _ => by simp [DR]⟩
  | .tuple ds, u, h => by
    unfold datB at h
    split at h
    · rename_i a
      split at h
      · rename_i c od its n osl lk
        obtain ⟨h1, h⟩ := He.ba h
        obtain ⟨h2, h3⟩ := He.ba h
        obtain ⟨vs, k1, k2⟩ := datBs_ok ds its.toList h3
        refine ⟨.ref a, rfl, fun φ H => ?_⟩
        simp only [DR]
        exact ⟨a, vs, rfl, .inr ⟨_, its, n, lk, congrArg Value.type (of_decide_eq_true h1), rfl, of_decide_eq_true h2, k1⟩, k2 φ H⟩
      · cases h
    · cases h
  | .list _, _, h => by simp [datB] at h
  | .dict _, _, h => by simp [datB] at h
theorem datBs_ok {K : PySem.W.Frag} : ∀ (ds : List D) (us : List Value), datBs K ds us = true → ∃ vs, Vals vs us ∧ ∀ φ H, DRs K φ H ds vs
  | [], us, h => by
    cases us with
    | nil => exact ⟨[], .nil, fun _ _ => by simp [DRs]⟩
    | cons u us => simp [datBs] at h
  | d :: ds, us, h => by
    cases us with
    | nil => simp [datBs] at h
    | cons u us =>
      unfold datBs at h
      obtain ⟨h1, h2⟩ := He.ba h
      obtain ⟨v, a1, a2⟩ := datB_ok d u h1
      obtain ⟨vs, b1, b2⟩ := datBs_ok ds us h2
      exact ⟨v :: vs, .cons a1 b1, fun φ H => by simp only [DRs]; exact ⟨v, vs, rfl, a2 φ H, b2 φ H⟩⟩
end
def excCB (K : PySem.W.Frag) (D : Addr) : Bool :=
  decide (PySem.W.findIn K (.ref D) "__getattribute__" = some (some (.builtin "BaseException.__getattribute__"))) && (decide (PySem.W.findIn K (.ref D) "__getattr__" = some none) &&
  (decide (PySem.W.subIn K (.ref D) (.type "BaseException") = some true) && (PySem.W.hasDictIn K D && (decide (PySem.W.findIn K (.ref D) "__class__" = some (some (.builtin "object.__class__"))) &&
  (decide (PySem.W.specialIn K (.builtin "object.__class__") "__get__" = some (some (.builtin "getset_descriptor.__get__"))) && (decide (PySem.W.takesIn K (.builtin "object.__class__") = some true) && decide (PySem.W.mroIn K D (.type "object") = some true)))))))
theorem excCB_ok {K : PySem.W.Frag} {D : Addr} (h : excCB K D = true) : ExcC K D := by
  obtain ⟨h1, h⟩ := He.ba h
  obtain ⟨h2, h⟩ := He.ba h
  obtain ⟨h3, h⟩ := He.ba h
  obtain ⟨h4, h⟩ := He.ba h
  obtain ⟨h5, h⟩ := He.ba h
  obtain ⟨h6, h⟩ := He.ba h
  obtain ⟨h7, h8⟩ := He.ba h
  exact ⟨of_decide_eq_true h1, of_decide_eq_true h2, of_decide_eq_true h3, h4, of_decide_eq_true h5, of_decide_eq_true h6, of_decide_eq_true h7, of_decide_eq_true h8⟩
def conK (K : PySem.W.Frag) (x : Str) (d : D) : Bool := match PySem.W.nsIn K mainGlobals x with
  | some (some u) => datB K d u
  | _ => false
def isxK (K : PySem.W.Frag) (k T : Str) (b : Bool) : Bool := (He.Fa.glo k).ok K && (excCB K (He.ga K k) && match PySem.W.nsIn K mainGlobals T with
  | some (some (.ref a)) => decide (PySem.W.kitOne K (.ref (He.ga K k)) (.ref a) = some b)
  | some none => match bootBuiltins T with
    | some (.type n) => decide (PySem.W.kitOne K (.ref (He.ga K k)) (.type n) = some b) && !(T == ("__name__" : Str))
    | _ => false
  | _ => false)
def excK (K : PySem.W.Frag) (x : Str) : Bool := (He.Fa.glo x).ok K && ((He.Fa.exc x).ok K && excCB K (He.ga K x))
def exmK (K : PySem.W.Frag) (c x : Str) (b : Bool) : Bool := (He.Fa.glo c).ok K && ((He.Fa.glo x).ok K && (He.Fa.exm c x b).ok K)
/-- what the lists of classes say, of the text and of the heap -/
def noatK (K : PySem.W.Frag) (p : Str × Str) : Bool := (He.Fa.cls p.1).ok K && (He.Fa.noat p.1 p.2).ok K
def metT (T : List (Str × Nat × Option (Str × Str))) (p : (Str × Str) × (Str × Nat)) : Bool := decide (T.lookup p.2.1 = some (p.2.2, some p.1))
def metK (K : PySem.W.Frag) (p : (Str × Str) × (Str × Nat)) : Bool := (He.Fa.cls p.1.1).ok K && (He.Fa.meth p.1.1 p.1.2).ok K
def newT (T : List (Str × Nat × Option (Str × Str))) (p : Str × (Str × Nat)) : Bool := decide (T.lookup p.2.1 = some (p.2.2, some (p.1, ("__init__" : Str))))
def newK (K : PySem.W.Frag) (p : Str × (Str × Nat)) : Bool := (He.Fa.mkr p.1).ok K && (He.Fa.glo p.1).ok K
/-- a table: where it is, its values -/
def tabK (K : PySem.W.Frag) (p : Str × List (Str × D)) : Bool := (He.Fa.glo p.1).ok K && p.2.all fun q => match PySem.W.nsIn K (He.ga K p.1) q.1 with
  | some (some u) => datB K q.2 u
  | _ => false
def fnT (T : List (Str × Nat × Option (Str × Str))) (p : Str × Nat) : Bool := decide (T.lookup p.1 = some (p.2, none))
def factsK (g : GI) (fs : List Str) (K : PySem.W.Frag) : Bool :=
  g.con.all (fun p => conK K p.1 p.2) && (g.fre.all (fun x => (He.Fa.free x).ok K) && (g.exs.all (excK K) && (g.exm.all (fun p => exmK K p.1.1 p.1.2 p.2) && (g.isx.all (fun p => isxK K p.1.1 p.1.2 p.2) && (fs.all (fun x => (He.Fa.glo x).ok K) &&
    (g.ci.noat.all (noatK K) && (g.ci.mets.all (metK K) && (g.ci.news.all (newK K) && g.cds.all (tabK K)))))))))
section
variable {g : GI} {K : PySem.W.Frag} {h : Heap} {mg : Str → Option Value}
theorem isxK_ok (X : K.In h) (G : h.Ns mainGlobals mg) {k T : Str} {b : Bool} (c : isxK K k T b = true) : IsxOk K mg k T b := by
  intro A hA
  obtain ⟨c1, c⟩ := He.ba c
  obtain ⟨c2, c⟩ := He.ba c
  have e := He.glo_ok X G c1
  rw [hA] at e
  cases e
  refine ⟨excCB_ok c2, ?_⟩
  split at c
  · rename_i a q
    exact ⟨.ref a, .ref a, .inl (PySem.W.mg_of X G q), rfl, fun u' r => r, of_decide_eq_true c⟩
  · rename_i q
    split at c
    · rename_i n q2
      obtain ⟨c3, c4⟩ := He.ba c
      exact ⟨.type n, .ty n, .inr ⟨PySem.W.mg_none_of X G q, q2, by simpa using c4⟩, rfl, fun u' r => r, of_decide_eq_true c3⟩
    · cases c
  · cases c
theorem exs_ok (X : K.In h) (G : h.Ns mainGlobals mg) {x : Str} (c : excK K x = true) : ∃ A, mg x = some (.ref A) ∧ ExOk K A ∧ ExcC K A := by
  obtain ⟨c1, c⟩ := He.ba c
  obtain ⟨c2, c3⟩ := He.ba c
  obtain ⟨e1, e2, e3, e4⟩ := He.exc_ok c2
  exact ⟨_, He.glo_ok X G c1, ⟨e1, e2, e3, e4⟩, excCB_ok c3⟩
end
/-! ### the text -/
/-- a def: its name among the program's, its mirror, its statement, its class and its name there if it is a method -/
abbrev Tx := List (Str × Fn × Stmt × Option (Str × Str))
def Tx.prg (T : Tx) : Prg := T.map fun t => (t.1, t.2.1)
def atOf (x : Str) (o : Option (Str × Str)) : Str × Option Str := match o with
  | none => (x, none)
  | some p => (p.1, some p.2)
def nmOf (x : Str) (o : Option (Str × Str)) : Str := match o with
  | none => x
  | some p => p.2
def dOf (x : Str) (st : Stmt) (o : Option (Str × Str)) : He.DefD := ⟨atOf x o, nmOf x o, x, defArgs st, defBody st, defScope st, [], []⟩
def Tx.defs (T : Tx) : List He.DefD := T.map fun t => dOf t.1 t.2.2.1 t.2.2.2
/-- the i-th statement in a class's suite -/
def subSt (s : Stmt) (i : Nat) : Stmt := match s with
  | .ClassDef _ _ _ body _ _ _ _ _ _ _ => body.getD i (.Pass ⟨0, 0, 0, 0⟩)
  | _ => .Pass ⟨0, 0, 0, 0⟩
def locOf (K : PySem.W.Frag) (T : Tx) (x : Str) : Addr := match T.lookup x with
  | some t => He.fAd K (atOf x t.2.2)
  | none => 0
def nameOf (s : Stmt) : Str := match s with
  | .FunctionDef n _ _ _ _ _ _ _ _ _ => n
  | _ => Str.empty
def isFn : ScopeKind → Bool
  | .function => true
  | _ => false
def isFree : NameKind → Bool
  | .free => true
  | _ => false
def chkFn (g : GI) (fn : Fn) (st : Stmt) : Bool :=
  isFn (defScope st).kind && (!(defScope st).isCoroutine && (!(defScope st).isGenerator && (decide fn.N.Nodup && (decide (fn.N.take fn.ps.length = fn.ps) && (fn.ps.all (fun x => locB (defScope st) x) && ((defScope st).names.all (fun y => !isFree y.2) &&
    chkSs g fn.body (tcOf fn.N (defScope st)) (defBody st)))))))
theorem chkFn_ok {g : GI} {fn : Fn} {st : Stmt} (h : chkFn g fn st = true) : FnScope fn.N fn.ps (defScope st) ∧ chkSs g fn.body (tcOf fn.N (defScope st)) (defBody st) = true := by
  obtain ⟨h1, h⟩ := He.ba h
  obtain ⟨h2, h⟩ := He.ba h
  obtain ⟨h3, h⟩ := He.ba h
  obtain ⟨h4, h⟩ := He.ba h
  obtain ⟨h5, h⟩ := He.ba h
  obtain ⟨h6, h⟩ := He.ba h
  obtain ⟨h7, h8⟩ := He.ba h
  refine ⟨⟨?_, by simpa using h2, by simpa using h3, of_decide_eq_true h4, of_decide_eq_true h5, fun x hx => locB_loc (List.all_eq_true.mp h6 x hx), fun y hy e => ?_⟩, h8⟩
  · cases q : (defScope st).kind <;> rw [q] at h1 <;> first | rfl | cases h1
  · have := List.all_eq_true.mp h7 y hy
    rw [e] at this
    cases this
def chkTx (g : GI) (T : Tx) : Bool := T.all fun t => chkFn g t.2.1 t.2.2.1
def BindOk (nm x : Str) (fn : Fn) (st : Stmt) : Prop := ∀ (kV doc pm : Value) (an : Option Addr) (cdv ct : Value) (us : List Value), us.length = fn.ps.length → bindArgs (PySem.W.fnOf nm x (defArgs st) (defBody st) (defScope st) .none kV doc pm an cdv ct) ⟨us, []⟩ = pure (fn.ps.zip us)
def BindAll : Tx → Prop
  | [] => True
  | t :: T => BindOk (nmOf t.1 t.2.2.2) t.1 t.2.1 t.2.2.1 ∧ BindAll T
theorem BindAll.at : ∀ {T : Tx} {t : Str × Fn × Stmt × Option (Str × Str)}, BindAll T → t ∈ T → BindOk (nmOf t.1 t.2.2.2) t.1 t.2.1 t.2.2.1
  | [], _, _, h => by cases h
  | _ :: T, t, b, h => by
    rcases List.mem_cons.mp h with rfl | h
    · exact b.1
    · exact BindAll.at b.2 h
/-! ### the Hook -/
abbrev Tabs := List (Str × List Str)
def GI.tabs (g : GI) : Tabs := g.cds.map fun p => (p.1, p.2.map (·.1))
def valC (fn : List He.DefD) (ts : Tabs) (w : World) : He.AlT := (He.valD fn, ts.map fun t => some (He.keysIn w.params t.2))
def obsC (ck : PySem.W.Frag → Bool) (fn : List He.DefD) (ts : Tabs) (K : PySem.W.Frag) : He.AlT := ((ck K && fn.all fun d => d.ok K, fn.map fun d => He.fnW K d.at_), ts.map fun t => He.dicW K (He.ga K t.1))
def obsCG (n : Nat) (ck : PySem.W.Frag → Bool) (fn : List He.DefD) (ts : Tabs) (g : Addr → Option Obj) : He.AlT := obsC ck fn ts (He.frG g (He.asD g n))
def hookC (n : Nat) (ck : PySem.W.Frag → Bool) (fn : List He.DefD) (ts : Tabs) : PySem.W.Hook where
  α := He.AlT
  obs := fun s => obsCG n ck fn ts s.heap.get?
  val := fun w => valC fn ts w
  says := fun w h => ∃ K : PySem.W.Frag, K.In h ∧ obsC ck fn ts K = valC fn ts w
  of := fun _ _ e => ⟨_, He.frG_in, e⟩
  keeps := fun _ _ _ ⟨K, hK, c⟩ k => ⟨K, PySem.W.Frag.In.keeps hK k, c⟩
theorem obsCG_eq {n : Nat} {ck : PySem.W.Frag → Bool} {fn : List He.DefD} {ts : Tabs} {g : Addr → Option Obj} {s : Shared} (h : ∀ a, g a = s.heap.get? a) : obsCG n ck fn ts g = (hookC n ck fn ts).obs s := by
  have e : g = s.heap.get? := funext h
  rw [e] <;> rfl
theorem obsC_def {ck : PySem.W.Frag → Bool} {fn : List He.DefD} {ts : Tabs} {w : World} {K : PySem.W.Frag} (c : obsC ck fn ts K = valC fn ts w) {d : He.DefD} (hd : d ∈ fn) : ∃ fd, FunD K d.name d.qual d.params d.body d.scope (d.dvs K) (d.kws K) (He.fAd K d.at_) fd := by
  have c0 : ((ck K && fn.all fun d => d.ok K, fn.map fun d => He.fnW K d.at_) : He.AlD) = He.valD fn := congrArg (fun z : He.AlT => z.1) c
  have c2 := (He.ba (show (ck K && fn.all fun d => d.ok K) = true from congrArg (fun z : He.AlD => z.1) c0)).2
  have e : fn.map (fun d => He.fnW K d.at_) = fn.map He.DefD.val := congrArg (fun z : He.AlD => z.2) c0
  have e2 : He.fnW K d.at_ = d.val := by
    obtain ⟨i, hi, rfl⟩ := List.getElem_of_mem hd
    have e3 : (fn.map fun d => He.fnW K d.at_)[i]? = (fn.map He.DefD.val)[i]? := by rw [e]
    rw [List.getElem?_map, List.getElem?_map, List.getElem?_eq_getElem hi] at e3
    exact Option.some.inj e3
  exact He.DefD.funD e2 (List.all_eq_true.mp c2 d hd)
theorem obsC_tab {ck : PySem.W.Frag → Bool} {fn : List He.DefD} {ts : Tabs} {w : World} {K : PySem.W.Frag} (c : obsC ck fn ts K = valC fn ts w) {t : Str × List Str} (ht : t ∈ ts) : He.dicW K (He.ga K t.1) = some (He.keysIn w.params t.2) := by
  have e : ts.map (fun t => He.dicW K (He.ga K t.1)) = ts.map fun t => some (He.keysIn w.params t.2) := congrArg (fun z : He.AlT => z.2) c
  obtain ⟨i, hi, rfl⟩ := List.getElem_of_mem ht
  have e2 : (ts.map fun t => He.dicW K (He.ga K t.1))[i]? = (ts.map fun t => some (He.keysIn w.params t.2))[i]? := by rw [e]
  rw [List.getElem?_map, List.getElem?_map, List.getElem?_eq_getElem hi] at e2
  exact Option.some.inj e2
/-- no such key -/
theorem keys_none {P : Params} : ∀ {l : List DictEntry} {ks : List Str}, l.map He.keyOf = He.keysIn P ks → ∀ x, x ∉ ks → l.find? (·.key.isStr x) = none ∧ l.any (·.refKey) = false
  | [], ks, h, x, hx => ⟨rfl, rfl⟩
  | e :: r, [], h, x, hx => by cases h
  | e :: r, k :: ks, h, x, hx => by
    have h1 : He.keyOf e :: r.map He.keyOf = some (k, PyData.keyHash P k) :: He.keysIn P ks := h
    injection h1 with h2 h3
    obtain ⟨i1, i2⟩ := keys_none h3 x (fun z => hx (List.mem_cons_of_mem _ z))
    unfold He.keyOf at h2
    split at h2
    · rename_i y t q
      have h4 := (Prod.mk.inj (Option.some.inj h2)).1
      have hne : e.key.isStr x = false := by
        rw [q]
        show (y == x) = false
        rw [beq_eq_false_iff_ne]
        intro z
        exact hx (by rw [← z, h4]; exact List.mem_cons_self)
      have hr : e.refKey = false := by
        unfold DictEntry.refKey
        rw [q]
      exact ⟨by rw [List.find?_cons, hne]; exact i1, by rw [List.any_cons, hr, Bool.false_or]; exact i2⟩
    · cases h2
theorem dic_miss {K : PySem.W.Frag} {w : World} {a : Addr} {ks : List Str} (h : He.dicW K a = some (He.keysIn w.params ks)) (x : Str) (hx : x ∉ ks) : PySem.W.nsIn K a x = some none := by
  obtain ⟨es, n, D⟩ := He.dicW_ok h
  have hk : es.toList.map He.keyOf = He.keysIn w.params ks := by
    unfold He.dicW at h
    rw [D.at_] at h
    simp only [D.low] at h
    exact Option.some.inj h
  obtain ⟨i1, i2⟩ := keys_none hk x hx
  unfold PySem.W.nsIn
  rw [D.at_]
  simp only [i1, i2]
  rfl
theorem look_none {α : Type} : ∀ {l : List (Str × α)} {x : Str}, l.lookup x = none → x ∉ l.map (·.1)
  | [], x, _ => by simp
  | p :: l, x, h => by
    rw [List.lookup_cons] at h
    split at h
    · cases h
    · rename_i e
      simp only [List.map_cons, List.mem_cons, not_or]
      exact ⟨by simpa using e, look_none h⟩
/-- the text's defs, shortly: name, number of parameters, class and name there -/
def Tx.sh (T : Tx) : List (Str × Nat × Option (Str × Str)) := T.map fun t => (t.1, t.2.1.ps.length, t.2.2.2)
/-- the lists of g fit the text -/
def listsOk (g : GI) (T : Tx) : Bool := g.fns.all (fnT T.sh) && (g.ci.mets.all (metT T.sh) && (g.ci.news.all (newT T.sh) && decide (T.map (·.1)).Nodup))
/-- the functions that are no methods -/
def Tx.fnp (T : Tx) : List (Str × Nat) := (T.filter fun t => t.2.2.2.isNone).map fun t => (t.1, t.2.1.ps.length)
theorem sh_look : ∀ {T : Tx} {x : Str} {n : Nat} {o : Option (Str × Str)}, T.sh.lookup x = some (n, o) → ∃ fn st, T.lookup x = some (fn, st, o) ∧ fn.ps.length = n
  | [], _, _, _, h => by cases h
  | t :: T, x, n, o, h => by
    obtain ⟨y, fn, st, o2⟩ := t
    unfold Tx.sh at h
    rw [List.map_cons] at h
    by_cases e : x = y
    · have hb : (x == y) = true := beq_iff_eq.mpr e
      simp only [List.lookup, hb, Option.some.injEq, Prod.mk.injEq] at h ⊢
      obtain ⟨h1, h2⟩ := h
      subst h2
      exact ⟨fn, st, ⟨rfl, rfl, rfl⟩, h1⟩
    · have hb : (x == y) = false := beq_eq_false_iff_ne.mpr e
      simp only [List.lookup, hb] at h ⊢
      exact sh_look h
theorem prg_look : ∀ {T : Tx} {x : Str} {fn : Fn} {st : Stmt} {o : Option (Str × Str)}, T.lookup x = some (fn, st, o) → T.prg.lookup x = some fn
  | [], _, _, _, _, h => by cases h
  | t :: T, x, fn, st, o, h => by
    obtain ⟨y, fn', st', o'⟩ := t
    unfold Tx.prg
    rw [List.map_cons]
    by_cases e : x = y
    · have hb : (x == y) = true := beq_iff_eq.mpr e
      simp only [List.lookup, hb, Option.some.injEq, Prod.mk.injEq] at h ⊢
      exact h.1
    · have hb : (x == y) = false := beq_eq_false_iff_ne.mpr e
      simp only [List.lookup, hb] at h ⊢
      exact prg_look h
theorem look_prg : ∀ {T : Tx} {x : Str} {fn : Fn}, T.prg.lookup x = some fn → ∃ st o, T.lookup x = some (fn, st, o)
  | [], _, _, h => by cases h
  | t :: T, x, fn, h => by
    obtain ⟨y, fn', st', o'⟩ := t
    unfold Tx.prg at h
    rw [List.map_cons] at h
    by_cases e : x = y
    · have hb : (x == y) = true := beq_iff_eq.mpr e
      simp only [List.lookup, hb, Option.some.injEq] at h ⊢
      subst h
      exact ⟨st', o', rfl⟩
    · have hb : (x == y) = false := beq_eq_false_iff_ne.mpr e
      simp only [List.lookup, hb] at h ⊢
      exact look_prg h
theorem hd_of {g : GI} {T : Tx} {K : PySem.W.Frag} {w : World} {h : Heap} {mg : Str → Option Value} (hl : listsOk g T = true) (hc : chkTx g T = true) (hb : BindAll T) (X : K.In h) (G : h.Ns mainGlobals mg) (c : obsC (factsK g (g.fns.map (·.1))) T.defs g.tabs K = valC T.defs g.tabs w) : Hd g T.prg K w mg (locOf K T) := by
  have c0 : ((factsK g (g.fns.map (·.1)) K && T.defs.all fun d => d.ok K, T.defs.map fun d => He.fnW K d.at_) : He.AlD) = He.valD T.defs := congrArg (fun z : He.AlT => z.1) c
  have c1 := (He.ba (show (factsK g (g.fns.map (·.1)) K && T.defs.all fun d => d.ok K) = true from congrArg (fun z : He.AlD => z.1) c0)).1
  obtain ⟨a1, c1⟩ := He.ba c1
  obtain ⟨a2, c1⟩ := He.ba c1
  obtain ⟨a3, c1⟩ := He.ba c1
  obtain ⟨a4, c1⟩ := He.ba c1
  obtain ⟨a5, c1⟩ := He.ba c1
  obtain ⟨a6, c1⟩ := He.ba c1
  obtain ⟨a7, c1⟩ := He.ba c1
  obtain ⟨a8, c1⟩ := He.ba c1
  obtain ⟨a9, a10⟩ := He.ba c1
  obtain ⟨l1, l⟩ := He.ba hl
  obtain ⟨l2, l⟩ := He.ba l
  obtain ⟨l3, l4⟩ := He.ba l
  refine ⟨fun x d e => ?_, fun x e => ?_, fun x e => ?_, fun k x b e A B hA hB => ?_, fun k t b e => ?_, fun x n e => ?_, fun c f e => ?_, fun c m q n e => ?_, fun c q n e => ?_, fun x kvs e => ?_, fun x fn e => ?_⟩
  · have z := List.all_eq_true.mp a1 _ (mem_look e)
    unfold conK at z
    split at z
    · rename_i u q
      obtain ⟨v, r1, r2⟩ := datB_ok d u z
      exact ⟨u, v, PySem.W.mg_of X G q, r1, r2⟩
    · cases z
  · exact He.free_ok X G (List.all_eq_true.mp a2 x (by simpa using e))
  · exact exs_ok X G (List.all_eq_true.mp a3 x (by simpa using e))
  · obtain ⟨z1, z⟩ := He.ba (List.all_eq_true.mp a4 _ (mem_look e))
    obtain ⟨z2, z3⟩ := He.ba z
    have e1 := He.glo_ok X G z1
    have e2 := He.glo_ok X G z2
    rw [hA] at e1
    rw [hB] at e2
    cases e1; cases e2
    exact He.exm_ok z3
  · exact isxK_ok X G (List.all_eq_true.mp a5 _ (mem_look e))
  · have m := mem_look e
    have z := of_decide_eq_true (List.all_eq_true.mp l1 _ m)
    obtain ⟨fn, st, z1, z2⟩ := sh_look z
    refine ⟨fn, prg_look z1, z2, ?_⟩
    unfold locOf
    rw [z1]
    exact He.glo_ok X G (List.all_eq_true.mp a6 _ (List.mem_map.mpr ⟨_, m, rfl⟩))
  · obtain ⟨z1, z2⟩ := He.ba (List.all_eq_true.mp a7 (c, f) (by simpa using e))
    exact ⟨He.cls_ok z1, He.noat_ok z2⟩
  · have mm := mem_look e
    have z := of_decide_eq_true (List.all_eq_true.mp l2 _ mm)
    obtain ⟨fn, st, z1, z2⟩ := sh_look z
    obtain ⟨k1, k2⟩ := He.ba (List.all_eq_true.mp a8 _ mm)
    refine ⟨fn, prg_look z1, z2, He.cls_ok k1, ?_⟩
    unfold locOf
    rw [z1]
    exact He.meth_ok k2
  · have mm := mem_look e
    have z := of_decide_eq_true (List.all_eq_true.mp l3 _ mm)
    obtain ⟨fn, st, z1, z2⟩ := sh_look z
    obtain ⟨k1, k2⟩ := He.ba (List.all_eq_true.mp a9 _ mm)
    refine ⟨fn, prg_look z1, z2, ?_, He.glo_ok X G k2⟩
    unfold locOf
    rw [z1]
    exact He.mkr_ok k1
  · have m := mem_look e
    obtain ⟨z1, z2⟩ := He.ba (List.all_eq_true.mp a10 _ m)
    have hd := obsC_tab c (t := (x, kvs.map (·.1))) (List.mem_map.mpr ⟨_, m, rfl⟩)
    obtain ⟨es, n, D⟩ := He.dicW_ok hd
    refine ⟨He.ga K x, He.glo_ok X G z1, ⟨⟨es, n, D.at_, D.lit⟩, D.low, fun y d e2 => ?_, fun y e2 => dic_miss hd y (look_none e2)⟩⟩
    have z3 := List.all_eq_true.mp z2 _ (mem_look e2)
    split at z3
    · rename_i u q
      obtain ⟨v, r1, r2⟩ := datB_ok d u z3
      exact ⟨u, v, q, r1, r2⟩
    · cases z3
  · obtain ⟨st, o, e1⟩ := look_prg e
    have ht := mem_look e1
    obtain ⟨fd, F⟩ := obsC_def c (d := dOf x st o) (List.mem_map.mpr ⟨_, ht, rfl⟩)
    have F' : FunD K (nmOf x o) x (defArgs st) (defBody st) (defScope st) [] [] (locOf K T x) fd := by
      unfold locOf
      rw [e1]
      exact F
    obtain ⟨s1, s2⟩ := chkFn_ok (List.all_eq_true.mp hc _ ht)
    exact ⟨_, fd, _, _, _, F', s1, F'.bindsN (hb.at ht), s2⟩
/-- the law's own end: what walk_ofE asks -/
theorem law_end {g : GI} {T : Tx} {F d n : Nat} {x y : Str} {fn : Fn} {st : Stmt} (hl : listsOk g T = true) (hc : chkTx g T = true) (hb : BindAll T) (hx : T.lookup x = some (fn, st, none)) (hgx : g.fns.lookup x = some fn.ps.length) (hp : fn.ps = [y])
    (tt : ∀ ns : List Int, ns.length ≤ n → ∃ M', call g T.prg F d x [.ro (ns.map .int)] [] = .ok (.d (.bool true)) M')
    {pr : Program} (w : World) (mg : Str → Option Value) (fa : Addr) (h : Heap) (Y : ∃ K : PySem.W.Frag, K.In h ∧ obsC (factsK g (g.fns.map (·.1))) T.defs g.tabs K = valC T.defs g.tabs w) (G : h.Ns mainGlobals mg) (hm : mg x = some (.ref fa)) :
    ∃ (K : PySem.W.Frag) (fd : FuncData) (sp : Sp), K.In h ∧ (∀ (s : Shared) (u : Value), BindsTo s fd ⟨[u], []⟩ [(y, u)]) ∧
      (∀ (H : Hp) (a : Addr) (ns : List Int), ns.length ≤ n → Only H → SqL K H a (ns.map V.int) → sp [.ref a] H (fun v _ => v = .bl true) fun _ _ _ => False) ∧
      ∀ base : Heap, K.In base → base.Ns mainGlobals mg → FnOk pr w K mg base CX0 (2 * d) fa fd [y] sp := by
  obtain ⟨K, X, c⟩ := Y
  have H := hd_of hl hc hb X G c
  have ht := mem_look hx
  obtain ⟨fd, F1⟩ := obsC_def c (d := dOf x st none) (List.mem_map.mpr ⟨_, ht, rfl⟩)
  have F' : FunD K x x (defArgs st) (defBody st) (defScope st) [] [] (locOf K T x) fd := by
    unfold locOf
    rw [hx]
    exact F1
  obtain ⟨s1, s2⟩ := chkFn_ok (List.all_eq_true.mp hc _ ht)
  obtain ⟨fn2, e1, e2, e3⟩ := H.fns x _ hgx
  rw [hm] at e3
  cases e3
  have bb := F'.bindsA (hb.at ht)
  rw [hp] at bb
  exact ⟨K, fd, spLaw K n, X, fun s u => bb s [u] rfl, fun H a ns h1 h2 h3 => ⟨a, ns, rfl, h1, h2, h3, fun _ => rfl⟩, fun base _ _ => law_ok H (prg_look hx) hp F' s1 s2 tt⟩
end TL

set_option maxHeartbeats 0
namespace TL.K03
open PySem PySem.Spec
open PyProof.Rows L2 TL
def w1_law : S := (.cons (.asg (.nm 6) (.bin .add (.call "_law_next" false (.cons (.var 1) .nil)) (.bin .mul (.var 2) (.bin .add (.var 5) (.con (.int 1)))))) (.cons (.asg (.nm 7) (.bin .mod (.bin .fdiv (.var 6) (.con (.int 3))) (.bin .add (.bi .len (.cons (.var 4) .nil)) (.con (.int 1))))) (.cons (.asg (.nm 8) (.ix (.con (.str "ab.!:*>+~, 0127Ax")) (.bin .mod (.bin .fdiv (.var 6) (.con (.int 7))) (.con (.int 17))))) (.cons (.ife (.cmp .eq (.bin .mod (.var 6) (.con (.int 3))) (.con (.int 0))) (.cons (.asg (.nm 4) (.bin .add (.bin .add (.sl false (.var 4) .nil (.pt (.var 7))) (.var 8)) (.sl false (.var 4) (.pt (.var 7)) .nil))) .nil) (.cons (.ife (.cmp .eq (.bin .mod (.var 6) (.con (.int 3))) (.con (.int 1))) (.cons (.asg (.nm 4) (.bin .add (.sl false (.var 4) .nil (.pt (.var 7))) (.sl false (.var 4) (.pt (.bin .add (.var 7) (.con (.int 1)))) .nil))) .nil) (.cons (.asg (.nm 4) (.bin .add (.bin .add (.sl false (.var 4) .nil (.pt (.var 7))) (.var 8)) (.sl false (.var 4) (.pt (.bin .add (.var 7) (.con (.int 1)))) .nil))) .nil)) .nil)) .nil))))
abbrev b_law : S := (.cons (.asg (.nm 1) (.call "_law_draws" true (.cons (.var 0) (.cons (.con (.int 0)) (.cons (.con (.int 90)) .nil))))) (.cons (.asg (.nm 2) (.call "_law_next" false (.cons (.var 1) .nil))) (.cons (.asg (.nm 3) (.bi .tuple (.cons (.lc false (.call "_law_selector" false (.cons (.var 1) (.cons (.con (.int 5)) .nil))) (.nm 5) (.rng false (.cons (.bin .mod (.call "_law_next" false (.cons (.var 1) .nil)) (.con (.int 7))) .nil)) .nil [5]) .nil))) (.cons (.asg (.nm 4) (.x .join (.con (.str ", ")) (.lc false (.call "_law_text" false (.cons (.var 10) .nil)) (.nm 10) (.it (.var 3)) .nil [10]) .nil .nil .nil)) (.cons (.ife (.or (.cmp .ne (.call "selectors_text" false (.cons (.var 3) .nil)) (.var 4)) (.cmp .ne (.call "parse_selectors" false (.cons (.var 4) .nil)) (.var 3))) (.cons (.ret (.con (.bool false))) .nil) .nil) (.cons (.forS (.nm 5) (.rng false (.cons (.bin .add (.con (.int 1)) (.bin .mod (.var 2) (.con (.int 2)))) .nil)) w1_law) (.cons (.try_ (.cons (.asg (.nm 9) (.call "parse_selectors" false (.cons (.var 4) .nil))) .nil) "BadSelector" (.cons (.ret (.cmp .ne (.var 4) (.con (.str "")))) .nil)) (.cons (.ret (.and (.cmp .eq (.call "check_list" false (.cons (.var 9) .nil)) (.var 9)) (.and (.cmp .eq (.call "selectors_text" false (.cons (.var 9) .nil)) (.var 4)) (.isi "tuple" (.var 9))))) .nil))))))))
abbrev f_law : Fn := ⟨["script"], ["script", "draws", "changes", "selectors", "text", "k", "draw", "at", "char", "read", "selector"], b_law⟩
def w1_law_draws : S := (.cons (.ife (.cmp .gt (.var 5) (.con (.int 0))) (.cons (.exp (.meth .append (.var 3) (.cons (.bin .mod (.bi .int (.cons (.var 5) .nil)) (.con (.int 10000))) .nil))) .nil) .nil) (.cons (.asg (.nm 5) (.bin .fdiv (.var 5) (.con (.int 10000)))) .nil))
def w2_law_draws : S := (.cons (.asg (.nm 5) (.bi .abs (.cons (.bi .int (.cons (.var 4) .nil)) .nil))) (.cons (.ife (.cmp .lt (.var 5) (.bin .pow (.con (.int 10)) (.con (.int 18)))) (.cons (.asg (.nm 6) (.bin .mod (.bi .int (.cons (.bin .add (.bin .mul (.var 5) (.con (.int 48271))) (.con (.int 11))) .nil)) (.con (.int 2147483647)))) (.cons (.exp (.meth .append (.var 3) (.cons (.var 5) .nil))) (.cons (.exp (.meth .append (.var 3) (.cons (.bin .fdiv (.bin .mod (.bi .int (.cons (.bin .add (.bin .add (.bin .mul (.var 6) (.con (.int 16807))) (.bin .fdiv (.var 5) (.con (.int 9)))) (.con (.int 3))) .nil)) (.con (.int 2147483647))) (.con (.int 7))) .nil))) (.cons (.exp (.meth .append (.var 3) (.cons (.bin .fdiv (.bin .mod (.bi .int (.cons (.bin .add (.bin .add (.bin .mul (.var 6) (.con (.int 69621))) (.bin .fdiv (.var 5) (.con (.int 5)))) (.con (.int 7))) .nil)) (.con (.int 2147483647))) (.con (.int 11))) .nil))) .nil)))) (.cons (.forS (.nm 7) (.rng false (.cons (.con (.int 20)) .nil)) w1_law_draws) .nil)) .nil))
abbrev b_law_draws : S := (.cons (.asg (.nm 3) (.cls .nil)) (.cons (.forS (.nm 4) (.it (.sl false (.var 0) (.pt (.var 1)) .nil)) w2_law_draws) (.cons (.ret (.sl true (.var 3) .nil (.pt (.var 2)))) .nil)))
abbrev f_law_draws : Fn := ⟨["script", "start", "most"], ["script", "start", "most", "draws", "cell", "number", "mixed", "k"], b_law_draws⟩
abbrev b_law_next : S := (.cons (.ife (.cmp .eq (.bi .len (.cons (.var 0) .nil)) (.con (.int 0))) (.cons (.ret (.con (.int 0))) .nil) .nil) (.cons (.ret (.meth .popAt (.var 0) (.cons (.con (.int 0)) .nil))) .nil))
abbrev f_law_next : Fn := ⟨["draws"], ["draws"], b_law_next⟩
abbrev b_parse_selectors : S := (.cons (.ife (.not (.tt (.isi "str" (.var 0)))) (.cons (.raise "BadSelector") .nil) .nil) (.cons (.ife (.cmp .eq (.var 0) (.con (.str ""))) (.cons (.ret (.tup .nil)) .nil) .nil) (.cons (.asg (.nm 1) (.call "check_list" false (.cons (.bi .tuple (.cons (.x (.lcx false (.nm 2) [2]) (.it (.x (.sm .split) (.var 0) (.con (.str ", ")) .nil .nil .nil)) .nil (.call "_read_selector" false (.cons (.var 2) .nil)) .nil .nil) .nil)) .nil))) (.cons (.ife (.cmp .ne (.call "selectors_text" false (.cons (.var 1) .nil)) (.var 0)) (.cons (.raise "BadSelector") .nil) .nil) (.cons (.ret (.var 1)) .nil)))))
abbrev f_parse_selectors : Fn := ⟨["text"], ["text", "found", "word"], b_parse_selectors⟩
def w1_check_list : S := (.cons (.exp (.call "check_selector" false (.cons (.var 1) .nil))) .nil)
abbrev b_check_list : S := (.cons (.ife (.or (.not (.tt (.isi "tuple" (.var 0)))) (.cmp .gt (.bi .len (.cons (.var 0) .nil)) (.glb "MOST_SELECTORS"))) (.cons (.raise "BadSelector") .nil) .nil) (.cons (.forS (.nm 1) (.it (.var 0)) w1_check_list) (.cons (.ret (.var 0)) .nil)))
abbrev f_check_list : Fn := ⟨["value"], ["value", "selector"], b_check_list⟩
abbrev b_check_selector : S := (.cons (.ife (.not (.tt (.call "_is_selector" false (.cons (.var 0) .nil)))) (.cons (.raise "BadSelector") .nil) .nil) (.cons (.ret (.var 0)) .nil))
abbrev f_check_selector : Fn := ⟨["value"], ["value"], b_check_selector⟩
abbrev b_is_selector : S := (.cons (.ife (.or (.not (.tt (.isi "tuple" (.var 0)))) (.cmp .ne (.bi .len (.cons (.var 0) .nil)) (.con (.int 2)))) (.cons (.ret (.con (.bool false))) .nil) .nil) (.cons (.asg (.tup (.cons (.nm 1) (.cons (.nm 2) .nil))) (.var 0)) (.cons (.ife (.or (.not (.tt (.isi "tuple" (.var 1)))) (.not (.tt (.isi "tuple" (.var 2))))) (.cons (.ret (.con (.bool false))) .nil) .nil) (.cons (.ife (.or (.not (.chain .le .le (.con (.int 1)) (.bi .len (.cons (.var 1) .nil)) (.glb "MOST_PARTS"))) (.cmp .ne (.bi .len (.cons (.var 2) .nil)) (.bin .sub (.bi .len (.cons (.var 1) .nil)) (.con (.int 1))))) (.cons (.ret (.con (.bool false))) .nil) .nil) (.cons (.ret (.and (.bi .all (.cons (.lc false (.call "_is_part" false (.cons (.var 3) .nil)) (.nm 3) (.it (.var 1)) .nil [3]) .nil)) (.bi .all (.cons (.lc false (.cmp .in_ (.var 4) (.glb "LINKS")) (.nm 4) (.it (.var 2)) .nil [4]) .nil)))) .nil)))))
abbrev f_is_selector : Fn := ⟨["value"], ["value", "parts", "links", "part", "link"], b_is_selector⟩
abbrev b_is_part : S := (.cons (.ife (.or (.not (.tt (.isi "tuple" (.var 0)))) (.cmp .ne (.bi .len (.cons (.var 0) .nil)) (.con (.int 5)))) (.cons (.ret (.con (.bool false))) .nil) .nil) (.cons (.asg (.tup (.cons (.nm 1) (.cons (.nm 2) (.cons (.nm 3) (.cons (.nm 4) (.cons (.nm 5) .nil)))))) (.var 0)) (.cons (.ret (.and (.or (.cmp .isN (.var 1) (.con .none)) (.call "is_name" false (.cons (.var 1) .nil))) (.and (.call "are_marks" false (.cons (.var 2) (.cons (.glb "MOST_MARKS") .nil))) (.and (.call "_are_tests" false (.cons (.var 3) .nil)) (.and (.call "_is_count" false (.cons (.var 4) .nil)) (.call "_is_count" false (.cons (.var 5) .nil))))))) .nil)))
abbrev f_is_part : Fn := ⟨["value"], ["value", "kind", "marks", "nots", "step", "first"], b_is_part⟩
abbrev b_are_marks : S := (.cons (.ife (.or (.not (.tt (.isi "tuple" (.var 0)))) (.cmp .gt (.bi .len (.cons (.var 0) .nil)) (.var 1))) (.cons (.ret (.con (.bool false))) .nil) .nil) (.cons (.ret (.and (.bi .all (.cons (.lc false (.call "is_name" false (.cons (.var 2) .nil)) (.nm 2) (.it (.var 0)) .nil [2]) .nil)) (.call "is_rising" false (.cons (.var 0) .nil)))) .nil))
abbrev f_are_marks : Fn := ⟨["value", "most"], ["value", "most", "mark"], b_are_marks⟩
abbrev b_is_rising : S := (.cons (.ret (.bi .all (.cons (.lc false (.cmp .lt (.var 1) (.var 2)) (.tup (.cons (.nm 1) (.cons (.nm 2) .nil))) (.zip (.cons (.var 0) (.cons (.sl false (.var 0) (.pt (.con (.int 1))) .nil) .nil))) .nil [1, 2]) .nil))) .nil)
abbrev f_is_rising : Fn := ⟨["row"], ["row", "left", "right"], b_is_rising⟩
abbrev b_is_name : S := (.cons (.ife (.or (.not (.tt (.isi "str" (.var 0)))) (.not (.chain .le .le (.con (.int 1)) (.bi .len (.cons (.var 0) .nil)) (.glb "LONGEST_NAME")))) (.cons (.ret (.con (.bool false))) .nil) .nil) (.cons (.ret (.bi .all (.cons (.lc false (.chain .le .le (.con (.str "a")) (.var 1) (.con (.str "z"))) (.nm 1) (.it (.var 0)) .nil [1]) .nil))) .nil))
abbrev f_is_name : Fn := ⟨["value"], ["value", "letter"], b_is_name⟩
abbrev b_are_tests : S := (.cons (.ife (.or (.not (.tt (.isi "tuple" (.var 0)))) (.cmp .gt (.bi .len (.cons (.var 0) .nil)) (.glb "MOST_TESTS"))) (.cons (.ret (.con (.bool false))) .nil) .nil) (.cons (.ret (.and (.bi .all (.cons (.lc false (.call "_is_test" false (.cons (.var 1) .nil)) (.nm 1) (.it (.var 0)) .nil [1]) .nil)) (.call "is_rising" false (.cons (.var 0) .nil)))) .nil))
abbrev f_are_tests : Fn := ⟨["value"], ["value", "test"], b_are_tests⟩
abbrev b_is_test : S := (.cons (.ife (.or (.not (.tt (.isi "tuple" (.var 0)))) (.cmp .ne (.bi .len (.cons (.var 0) .nil)) (.con (.int 2)))) (.cons (.ret (.con (.bool false))) .nil) .nil) (.cons (.ret (.and (.cmp .in_ (.ix (.var 0) (.con (.int 0))) (.glb "TESTED")) (.call "is_name" false (.cons (.ix (.var 0) (.con (.int 1))) .nil)))) .nil))
abbrev f_is_test : Fn := ⟨["value"], ["value"], b_is_test⟩
abbrev b_is_count : S := (.cons (.ret (.and (.call "is_whole" false (.cons (.var 0) .nil)) (.chain .le .le (.con (.int 0)) (.var 0) (.glb "GREATEST_STEP")))) .nil)
abbrev f_is_count : Fn := ⟨["value"], ["value"], b_is_count⟩
abbrev b_is_whole : S := (.cons (.ret (.and (.isi "int" (.var 0)) (.not (.isi "bool" (.var 0))))) .nil)
abbrev f_is_whole : Fn := ⟨["value"], ["value"], b_is_whole⟩
abbrev b_selectors_text : S := (.cons (.ret (.x .join (.con (.str ", ")) (.lc false (.call "_selector_text" false (.cons (.var 1) .nil)) (.nm 1) (.it (.var 0)) .nil [1]) .nil .nil .nil)) .nil)
abbrev f_selectors_text : Fn := ⟨["selectors"], ["selectors", "selector"], b_selectors_text⟩
def w1_selector_text : S := (.cons (.exp (.meth .append (.var 3) (.cons (.x (.cdix "LINK_TEXTS") (.var 4) .nil .nil .nil .nil) .nil))) (.cons (.exp (.meth .append (.var 3) (.cons (.call "_part_text" false (.cons (.var 5) .nil)) .nil))) .nil))
abbrev b_selector_text : S := (.cons (.asg (.tup (.cons (.nm 1) (.cons (.nm 2) .nil))) (.var 0)) (.cons (.asg (.nm 3) (.cls (.cons (.call "_part_text" false (.cons (.ix (.var 1) (.con (.int 0))) .nil)) .nil))) (.cons (.forS (.tup (.cons (.nm 4) (.cons (.nm 5) .nil))) (.zip (.cons (.var 2) (.cons (.sl false (.var 1) (.pt (.con (.int 1))) .nil) .nil))) w1_selector_text) (.cons (.ret (.x .join (.con (.str "")) (.var 3) .nil .nil .nil)) .nil))))
abbrev f_selector_text : Fn := ⟨["selector"], ["selector", "parts", "links", "words", "link", "part"], b_selector_text⟩
abbrev b_part_text : S := (.cons (.asg (.tup (.cons (.nm 1) (.cons (.nm 2) (.cons (.nm 3) (.cons (.nm 4) (.cons (.nm 5) .nil)))))) (.var 0)) (.cons (.asg (.nm 6) (.cls (.cons (.ife (.cmp .isN (.var 1) (.con .none)) (.glb "ANY_KIND") (.var 1)) .nil))) (.cons (.exp (.meth .extend (.var 6) (.cons (.lc false (.x (.fstr 2) (.con (.str ".")) (.x .fmt (.var 7) .nil .nil .nil .nil) .nil .nil .nil) (.nm 7) (.it (.var 2)) .nil [7]) .nil))) (.cons (.exp (.meth .extend (.var 6) (.cons (.lc false (.call "_test_text" false (.cons (.var 8) .nil)) (.nm 8) (.it (.var 3)) .nil [8]) .nil))) (.cons (.ife (.cmp .ne (.tup (.cons (.var 4) (.cons (.var 5) .nil))) (.glb "EVERY_NUMBER")) (.cons (.exp (.meth .append (.var 6) (.cons (.x (.fstr 4) (.con (.str ":")) (.x .fmt (.var 4) .nil .nil .nil .nil) (.con (.str "+")) (.x .fmt (.var 5) .nil .nil .nil .nil) .nil) .nil))) .nil) .nil) (.cons (.ret (.x .join (.con (.str "")) (.var 6) .nil .nil .nil)) .nil))))))
abbrev f_part_text : Fn := ⟨["part"], ["part", "kind", "marks", "nots", "step", "first", "words", "mark", "test"], b_part_text⟩
abbrev b_test_text : S := (.cons (.asg (.tup (.cons (.nm 1) (.cons (.nm 2) .nil))) (.var 0)) (.cons (.ret (.ife (.cmp .eq (.var 1) (.con (.str "kind"))) (.x (.fstr 2) (.con (.str "!")) (.x .fmt (.var 2) .nil .nil .nil .nil) .nil .nil .nil) (.x (.fstr 2) (.con (.str "!.")) (.x .fmt (.var 2) .nil .nil .nil .nil) .nil .nil .nil))) .nil))
abbrev f_test_text : Fn := ⟨["test"], ["test", "asked", "name"], b_test_text⟩
def w1_read_selector : S := (.cons (.ife (.x (.cdin "LINK_SIGNS") (.var 4) .nil .nil .nil .nil) (.cons (.asg (.nm 3) (.x (.cdix "LINK_SIGNS") (.var 4) .nil .nil .nil .nil)) .nil) (.cons (.exp (.meth .append (.var 1) (.cons (.call "_read_part" false (.cons (.var 4) .nil)) .nil))) (.cons (.exp (.meth .append (.var 2) (.cons (.var 3) .nil))) (.cons (.asg (.nm 3) (.con (.str "inside"))) .nil)))) .nil)
abbrev b_read_selector : S := (.cons (.asg (.nm 1) (.cls .nil)) (.cons (.asg (.nm 2) (.cls .nil)) (.cons (.asg (.nm 3) (.con (.str "inside"))) (.cons (.forS (.nm 4) (.it (.x (.sm .split) (.var 0) (.con (.str " ")) .nil .nil .nil)) w1_read_selector) (.cons (.ret (.tup (.cons (.bi .tuple (.cons (.var 1) .nil)) (.cons (.bi .tuple (.cons (.sl false (.var 2) (.pt (.con (.int 1))) .nil) .nil)) .nil)))) .nil)))))
abbrev f_read_selector : Fn := ⟨["text"], ["text", "parts", "links", "link", "word"], b_read_selector⟩
abbrev b_read_part : S := (.cons (.asg (.tup (.cons (.nm 1) (.cons (.nm 2) (.cons (.nm 3) .nil)))) (.x (.sm .partition) (.var 0) (.con (.str ":")) .nil .nil .nil)) (.cons (.unst 4 5 (.x (.sm .split) (.var 1) (.con (.str "!")) .nil .nil .nil)) (.cons (.unst 6 7 (.x (.sm .split) (.var 4) (.con (.str ".")) .nil .nil .nil)) (.cons (.asg (.nm 8) (.lc false (.call "_read_test" false (.cons (.var 11) .nil)) (.nm 11) (.it (.var 5)) .nil [11])) (.cons (.asg (.tup (.cons (.nm 9) (.cons (.nm 10) .nil))) (.ife (.cmp .eq (.var 2) (.con (.str ""))) (.glb "EVERY_NUMBER") (.call "_read_pair" false (.cons (.var 3) .nil)))) (.cons (.ret (.tup (.cons (.ife (.cmp .eq (.var 6) (.glb "ANY_KIND")) (.con .none) (.var 6)) (.cons (.bi .tuple (.cons (.var 7) .nil)) (.cons (.bi .tuple (.cons (.var 8) .nil)) (.cons (.var 9) (.cons (.var 10) .nil))))))) .nil))))))
abbrev f_read_part : Fn := ⟨["text"], ["text", "described", "colon", "pair", "named", "tested", "kind", "marks", "nots", "step", "first", "word"], b_read_part⟩
abbrev b_read_test : S := (.cons (.ife (.tt (.x (.sm .startswith) (.var 0) (.con (.str ".")) .nil .nil .nil)) (.cons (.ret (.tup (.cons (.con (.str "mark")) (.cons (.sl false (.var 0) (.pt (.con (.int 1))) .nil) .nil)))) .nil) .nil) (.cons (.ret (.tup (.cons (.con (.str "kind")) (.cons (.var 0) .nil)))) .nil))
abbrev f_read_test : Fn := ⟨["text"], ["text"], b_read_test⟩
abbrev b_read_pair : S := (.cons (.ife (.cmp .ne (.bi .len (.cons (.var 0) .nil)) (.con (.int 3))) (.cons (.raise "BadSelector") .nil) .nil) (.cons (.ret (.tup (.cons (.x (.sm .find) (.glb "DIGITS") (.ix (.var 0) (.con (.int 0))) .nil .nil .nil) (.cons (.x (.sm .find) (.glb "DIGITS") (.ix (.var 0) (.con (.int 2))) .nil .nil .nil) .nil)))) .nil))
abbrev f_read_pair : Fn := ⟨["text"], ["text"], b_read_pair⟩
def w1_law_selector : S := (.cons (.exp (.meth .append (.var 3) (.cons (.ix (.lst (.cons (.con (.str "child")) (.cons (.con (.str "inside")) (.cons (.con (.str "next")) (.cons (.con (.str "after")) .nil))))) (.bin .mod (.call "_law_next" false (.cons (.var 0) .nil)) (.con (.int 4)))) .nil))) (.cons (.exp (.meth .append (.var 2) (.cons (.call "_law_part" false (.cons (.call "_law_next" false (.cons (.var 0) .nil)) .nil)) .nil))) .nil))
abbrev b_law_selector : S := (.cons (.asg (.nm 2) (.cls (.cons (.call "_law_part" false (.cons (.call "_law_next" false (.cons (.var 0) .nil)) .nil)) .nil))) (.cons (.asg (.nm 3) (.cls .nil)) (.cons (.forS (.nm 4) (.rng false (.cons (.bin .mod (.call "_law_next" false (.cons (.var 0) .nil)) (.var 1)) .nil)) w1_law_selector) (.cons (.ret (.tup (.cons (.bi .tuple (.cons (.var 2) .nil)) (.cons (.bi .tuple (.cons (.var 3) .nil)) .nil)))) .nil))))
abbrev f_law_selector : Fn := ⟨["draws", "most"], ["draws", "most", "parts", "links", "k"], b_law_selector⟩
abbrev b_law_part : S := (.cons (.asg (.nm 1) (.ix (.lst (.cons (.con .none) (.cons (.con .none) (.cons (.con (.str "a")) (.cons (.con (.str "b")) (.cons (.con (.str "c")) .nil)))))) (.bin .mod (.var 0) (.con (.int 5))))) (.cons (.asg (.nm 2) (.ix (.lst (.cons (.tup .nil) (.cons (.tup .nil) (.cons (.tup (.cons (.con (.str "x")) .nil)) (.cons (.tup (.cons (.con (.str "y")) .nil)) (.cons (.tup (.cons (.con (.str "x")) (.cons (.con (.str "y")) .nil))) .nil)))))) (.bin .mod (.bin .fdiv (.var 0) (.con (.int 5))) (.con (.int 5))))) (.cons (.asg (.nm 3) (.ix (.lst (.cons (.tup .nil) (.cons (.tup .nil) (.cons (.tup .nil) (.cons (.tup (.cons (.tup (.cons (.con (.str "kind")) (.cons (.con (.str "b")) .nil))) .nil)) (.cons (.tup (.cons (.tup (.cons (.con (.str "mark")) (.cons (.con (.str "x")) .nil))) .nil)) (.cons (.tup (.cons (.tup (.cons (.con (.str "kind")) (.cons (.con (.str "a")) .nil))) (.cons (.tup (.cons (.con (.str "mark")) (.cons (.con (.str "y")) .nil))) .nil))) .nil))))))) (.bin .mod (.bin .fdiv (.var 0) (.con (.int 25))) (.con (.int 6))))) (.cons (.asg (.nm 4) (.ix (.lst (.cons (.tup (.cons (.con (.int 1)) (.cons (.con (.int 0)) .nil))) (.cons (.tup (.cons (.con (.int 1)) (.cons (.con (.int 0)) .nil))) (.cons (.tup (.cons (.con (.int 1)) (.cons (.con (.int 0)) .nil))) (.cons (.tup (.cons (.con (.int 0)) (.cons (.con (.int 1)) .nil))) (.cons (.tup (.cons (.con (.int 2)) (.cons (.con (.int 1)) .nil))) (.cons (.tup (.cons (.con (.int 3)) (.cons (.con (.int 2)) .nil))) (.cons (.tup (.cons (.con (.int 0)) (.cons (.con (.int 2)) .nil))) (.cons (.tup (.cons (.con (.int 1)) (.cons (.con (.int 2)) .nil))) .nil))))))))) (.bin .mod (.bin .fdiv (.var 0) (.con (.int 150))) (.con (.int 8))))) (.cons (.ret (.tup (.cons (.var 1) (.cons (.var 2) (.cons (.var 3) (.cons (.ix (.var 4) (.con (.int 0))) (.cons (.ix (.var 4) (.con (.int 1))) .nil))))))) .nil)))))
abbrev f_law_part : Fn := ⟨["draw"], ["draw", "kind", "marks", "nots", "pair"], b_law_part⟩
def w1_law_text : S := (.cons (.asg (.nm 2) (.bin .add (.bin .add (.var 2) (.x .dix (.var 1) (.ix (.ix (.var 0) (.con (.int 1))) (.var 3)) .nil .nil .nil)) (.call "_law_part_text" false (.cons (.ix (.ix (.var 0) (.con (.int 0))) (.bin .add (.var 3) (.con (.int 1)))) .nil)))) .nil)
abbrev b_law_text : S := (.cons (.asg (.nm 1) (.x (.dd [("child", " > "), ("inside", " "), ("next", " + "), ("after", " ~ ")]) .nil .nil .nil .nil .nil)) (.cons (.asg (.nm 2) (.call "_law_part_text" false (.cons (.ix (.ix (.var 0) (.con (.int 0))) (.con (.int 0))) .nil))) (.cons (.forS (.nm 3) (.rng false (.cons (.bi .len (.cons (.ix (.var 0) (.con (.int 1))) .nil)) .nil)) w1_law_text) (.cons (.ret (.var 2)) .nil))))
abbrev f_law_text : Fn := ⟨["selector"], ["selector", "signs", "text", "k"], b_law_text⟩
def w1_law_part_text : S := (.cons (.ife (.cmp .eq (.ix (.var 3) (.con (.int 0))) (.con (.str "kind"))) (.cons (.asg (.nm 1) (.bin .add (.bin .add (.var 1) (.con (.str "!"))) (.ix (.var 3) (.con (.int 1))))) .nil) (.cons (.asg (.nm 1) (.bin .add (.bin .add (.var 1) (.con (.str "!."))) (.ix (.var 3) (.con (.int 1))))) .nil)) .nil)
def w2_law_part_text : S := (.cons (.asg (.nm 1) (.bin .add (.bin .add (.var 1) (.con (.str "."))) (.var 2))) .nil)
abbrev b_law_part_text : S := (.cons (.asg (.nm 1) (.ix (.var 0) (.con (.int 0)))) (.cons (.ife (.cmp .isN (.var 1) (.con .none)) (.cons (.asg (.nm 1) (.con (.str "*"))) .nil) .nil) (.cons (.forS (.nm 2) (.it (.ix (.var 0) (.con (.int 1)))) w2_law_part_text) (.cons (.forS (.nm 3) (.it (.ix (.var 0) (.con (.int 2)))) w1_law_part_text) (.cons (.ife (.or (.cmp .ne (.ix (.var 0) (.con (.int 3))) (.con (.int 1))) (.cmp .ne (.ix (.var 0) (.con (.int 4))) (.con (.int 0)))) (.cons (.asg (.nm 1) (.bin .add (.bin .add (.bin .add (.bin .add (.var 1) (.con (.str ":"))) (.bi .str (.cons (.ix (.var 0) (.con (.int 3))) .nil))) (.con (.str "+"))) (.bi .str (.cons (.ix (.var 0) (.con (.int 4))) .nil)))) .nil) .nil) (.cons (.ret (.var 1)) .nil))))))
abbrev f_law_part_text : Fn := ⟨["part"], ["part", "text", "mark", "test"], b_law_part_text⟩
abbrev top (i : Nat) : Stmt := PySem.Challenge.pw_treegarb_k03_notation.main.body.getD i (.Pass ⟨0, 0, 0, 0⟩)
def T : Tx := [("law", f_law, top 50, none), ("_law_draws", f_law_draws, top 42, none), ("_law_next", f_law_next, top 43, none), ("parse_selectors", f_parse_selectors, top 39, none), ("check_list", f_check_list, top 25, none), ("check_selector", f_check_selector, top 24, none), ("_is_selector", f_is_selector, top 23, none), ("_is_part", f_is_part, top 22, none), ("are_marks", f_are_marks, top 9, none), ("is_rising", f_is_rising, top 5, none), ("is_name", f_is_name, top 8, none), ("_are_tests", f_are_tests, top 20, none), ("_is_test", f_is_test, top 19, none), ("_is_count", f_is_count, top 21, none), ("is_whole", f_is_whole, top 4, none), ("selectors_text", f_selectors_text, top 34, none), ("_selector_text", f_selector_text, top 33, none), ("_part_text", f_part_text, top 32, none), ("_test_text", f_test_text, top 31, none), ("_read_selector", f_read_selector, top 38, none), ("_read_part", f_read_part, top 37, none), ("_read_test", f_read_test, top 35, none), ("_read_pair", f_read_pair, top 36, none), ("_law_selector", f_law_selector, top 47, none), ("_law_part", f_law_part, top 46, none), ("_law_text", f_law_text, top 49, none), ("_law_part_text", f_law_part_text, top 48, none)]
def g : GI := { con := [("MOST_SELECTORS", (.int 6)), ("LINKS", (.tuple [(.str "child"), (.str "inside"), (.str "next"), (.str "after")])), ("MOST_PARTS", (.int 5)), ("MOST_MARKS", (.int 3)), ("LONGEST_NAME", (.int 12)), ("MOST_TESTS", (.int 3)), ("TESTED", (.tuple [(.str "kind"), (.str "mark")])), ("GREATEST_STEP", (.int 6)), ("EVERY_NUMBER", (.tuple [(.int 1), (.int 0)])), ("ANY_KIND", (.str "*")), ("DIGITS", (.str "0123456789"))], fns := [("law", 1), ("_law_draws", 3), ("_law_next", 1), ("parse_selectors", 1), ("check_list", 1), ("check_selector", 1), ("_is_selector", 1), ("_is_part", 1), ("are_marks", 2), ("is_rising", 1), ("is_name", 1), ("_are_tests", 1), ("_is_test", 1), ("_is_count", 1), ("is_whole", 1), ("selectors_text", 1), ("_selector_text", 1), ("_part_text", 1), ("_test_text", 1), ("_read_selector", 1), ("_read_part", 1), ("_read_test", 1), ("_read_pair", 1), ("_law_selector", 2), ("_law_part", 1), ("_law_text", 1), ("_law_part_text", 1)], exs := ["BadSelector"], fre := ["isinstance", "tuple", "range", "len", "int", "abs", "str", "all", "zip", "bool"], isx := [], exm := [(("BadSelector", "BadSelector"), true)], ci := { noat := [], mets := [], news := [] }, cds := [("LINK_TEXTS", [("child", (.str " > ")), ("inside", (.str " ")), ("next", (.str " + ")), ("after", (.str " ~ "))]), ("LINK_SIGNS", [(">", (.str "child")), ("+", (.str "next")), ("~", (.str "after"))])] }
theorem binds : BindAll T := ⟨fun _ _ _ _ _ _ us hl => match us, hl with | [_], _ => rfl, fun _ _ _ _ _ _ us hl => match us, hl with | [_, _, _], _ => rfl, fun _ _ _ _ _ _ us hl => match us, hl with | [_], _ => rfl, fun _ _ _ _ _ _ us hl => match us, hl with | [_], _ => rfl, fun _ _ _ _ _ _ us hl => match us, hl with | [_], _ => rfl, fun _ _ _ _ _ _ us hl => match us, hl with | [_], _ => rfl, fun _ _ _ _ _ _ us hl => match us, hl with | [_], _ => rfl, fun _ _ _ _ _ _ us hl => match us, hl with | [_], _ => rfl, fun _ _ _ _ _ _ us hl => match us, hl with | [_, _], _ => rfl, fun _ _ _ _ _ _ us hl => match us, hl with | [_], _ => rfl, fun _ _ _ _ _ _ us hl => match us, hl with | [_], _ => rfl, fun _ _ _ _ _ _ us hl => match us, hl with | [_], _ => rfl, fun _ _ _ _ _ _ us hl => match us, hl with | [_], _ => rfl, fun _ _ _ _ _ _ us hl => match us, hl with | [_], _ => rfl, fun _ _ _ _ _ _ us hl => match us, hl with | [_], _ => rfl, fun _ _ _ _ _ _ us hl => match us, hl with | [_], _ => rfl, fun _ _ _ _ _ _ us hl => match us, hl with | [_], _ => rfl, fun _ _ _ _ _ _ us hl => match us, hl with | [_], _ => rfl, fun _ _ _ _ _ _ us hl => match us, hl with | [_], _ => rfl, fun _ _ _ _ _ _ us hl => match us, hl with | [_], _ => rfl, fun _ _ _ _ _ _ us hl => match us, hl with | [_], _ => rfl, fun _ _ _ _ _ _ us hl => match us, hl with | [_], _ => rfl, fun _ _ _ _ _ _ us hl => match us, hl with | [_], _ => rfl, fun _ _ _ _ _ _ us hl => match us, hl with | [_, _], _ => rfl, fun _ _ _ _ _ _ us hl => match us, hl with | [_], _ => rfl, fun _ _ _ _ _ _ us hl => match us, hl with | [_], _ => rfl, fun _ _ _ _ _ _ us hl => match us, hl with | [_], _ => rfl, trivial⟩

theorem tx_ok : chkTx g T = true := by decide +kernel
theorem lists_ok : listsOk g T = true := by decide +kernel
end TL.K03

set_option maxHeartbeats 400000
namespace TL.K03
open PySem PySem.Spec
open PyProof.Rows L2 TL
theorem st_get {M : Store} {c : Cell} : (M ++ [c])[M.length]? = some c := by simp
theorem st_set {M : Store} {c c' : Cell} : (M ++ [c]).set M.length c' = M ++ [c'] := by simp
theorem st_take {M : Store} {c : Cell} : (M ++ [c]).take M.length = M := by simp
theorem st_len {M : Store} {c : Cell} : (M ++ [c]).length = M.length + 1 := by simp
theorem asgT_nm {i : Nat} {x : Vl} {ρ : Rho} : asgT (.nm i) x ρ = some (ρ.set i (some x)) := by simp only [asgT]
theorem asgT_tup {l : Tg} {xs : List PyData} {ρ : Rho} : asgT (.tup l) (.d (.tuple xs)) ρ = asgL l xs ρ := by simp only [asgT]
theorem asgL_nil {ρ : Rho} : asgL .nil [] ρ = some ρ := by simp only [asgL]
theorem asgL_cons {a b : Tg} {x : PyData} {xs : List PyData} {ρ : Rho} : asgL (.cons a b) (x :: xs) ρ = (asgT a (.d x) ρ).bind fun ρ1 => asgL b xs ρ1 := by simp only [asgL]
abbrev C (d : Nat) : CallF := TL.call g T.prg 100000 d
theorem C_succ {f : Str} {fn : Fn} {d : Nat} {as : List Vl} {M : Store} (h : T.prg.lookup f = some fn) : C (d + 1) f as M = onlyX g (bodyF fn.N.length (evS g 100000 (C d) fn.body) as M) := by
  simp only [C, TL.call, h]
theorem callR_eq {k : Bool} {F : List Vl → Store → Res Vl} {as : List Vl} {M : Store} : callR k F as M = match F as M with
  | .ok r M' => fin k M.length r M'
  | .exc c M' => .exc c (M'.take M.length)
  | .bad => .bad := rfl
theorem compF_map {n : Nat} {own : List Nat} {t : Tg} {tt : RF Bool} {te : RF Vl} {ρ : Rho} {M : Store} (hn : n = M.length) (f : D → D) (p : D → Bool) : ∀ (xs : List D) (i : Nat) (acc : List D), acc.length ≤ i →
    (∀ x ∈ xs, ∃ ρ1, asgT t (.d x) (wip ρ own) = some ρ1 ∧ ∀ c, tt ρ1 (M ++ [c]) = .ok (p x) (M ++ [c]) ∧ (p x = true → te ρ1 (M ++ [c]) = .ok (.d (f x)) (M ++ [c]))) →
    compF n own t tt te i xs ρ (M ++ [.lst acc]) = .ok () (M ++ [.lst (acc ++ (xs.filter p).map f)])
  | [], i, acc, ha, h => by simp [compF]
  | x :: xs, i, acc, ha, h => by
    obtain ⟨ρ1, h1, h2⟩ := h x List.mem_cons_self
    have ht := fun y hy => h y (List.mem_cons_of_mem _ hy)
    obtain ⟨h3, h4⟩ := h2 (.lst acc)
    simp only [compF, h1, h3, Res.bind_ok]
    cases hp : p x with
    | false =>
      rw [if_neg Bool.false_ne_true, compF_map hn f p xs (i + 1) acc (by omega) ht]
      rw [List.filter_cons, hp, if_neg Bool.false_ne_true]
    | true =>
      rw [if_pos rfl, h4 hp]
      subst hn
      simp only [Res.bind_ok, st_get, st_set]
      rw [if_pos ha, compF_map rfl f p xs (i + 1) (acc ++ [f x]) (by simp; omega) ht]
      rw [List.filter_cons, hp, if_pos rfl]
      simp
theorem lc_map {own : List Nat} {t : Tg} {fi : RF (List D)} {tt : RF Bool} {te : RF Vl} {ρ : Rho} {M : Store} {items : List D} (f : D → D) (p : D → Bool) (hi : fi ρ M = .ok items M)
    (h : ∀ x ∈ items, ∃ ρ1, asgT t (.d x) (wip ρ own) = some ρ1 ∧ ∀ c, tt ρ1 (M ++ [c]) = .ok (p x) (M ++ [c]) ∧ (p x = true → te ρ1 (M ++ [c]) = .ok (.d (f x)) (M ++ [c]))) :
    fLc false own t fi tt te ρ M = .ok (.d (.list ((items.filter p).map f))) M := by
  unfold fLc
  simp only [hi, Res.bind_ok, compF_map rfl f p items 0 [] (Nat.le_refl _) h, fin, Nat.lt_irrefl, if_false, st_get, st_take, List.nil_append, Bool.false_eq_true]
theorem lc_all {own : List Nat} {t : Tg} {fi : RF (List D)} {te : RF Vl} {ρ : Rho} {M : Store} {items : List D} (f : D → D) (hi : fi ρ M = .ok items M)
    (h : ∀ x ∈ items, ∃ ρ1, asgT t (.d x) (wip ρ own) = some ρ1 ∧ ∀ c, te ρ1 (M ++ [c]) = .ok (.d (f x)) (M ++ [c])) :
    fLc false own t fi fYes te ρ M = .ok (.d (.list (items.map f))) M := by
  have := lc_map (tt := fYes) (te := te) f (fun _ => true) hi (fun x hx => by
    obtain ⟨ρ1, h1, h2⟩ := h x hx
    exact ⟨ρ1, h1, fun c => ⟨rfl, fun _ => h2 c⟩⟩)
  rw [List.filter_eq_self.mpr (by simp)] at this
  exact this
theorem dat_d {x : D} {M : Store} : dat (.d x) M = some x := rfl
theorem le_int {a b : Int} {M : Store} : cmp2 .le (.d (.int a)) (.d (.int b)) M = some (decide (a ≤ b)) := by
  simp [cmp2, dat, cmpD, ordOk, PySem.W.alike, dOk, PyData.depth, PySem.W.dataLt_int]
  by_cases h : b < a
  · simp [h]
  · simp [h]; omega
theorem lt_int {a b : Int} {M : Store} : cmp2 .lt (.d (.int a)) (.d (.int b)) M = some (decide (a < b)) := by
  simp [cmp2, dat, cmpD, ordOk, PySem.W.alike, dOk, PyData.depth, PySem.W.dataLt_int]
theorem gt_int {a b : Int} {M : Store} : cmp2 .gt (.d (.int a)) (.d (.int b)) M = some (decide (b < a)) := by
  simp [cmp2, dat, cmpD, ordOk, PySem.W.alike, dOk, PyData.depth, PySem.W.dataLt_int]
theorem eq_int {a b : Int} {M : Store} : cmp2 .eq (.d (.int a)) (.d (.int b)) M = some (decide (a = b)) := by
  simp [cmp2, dat, cmpD, dOk, PyData.depth, PyData.eqv]
  rfl
theorem ne_int {a b : Int} {M : Store} : cmp2 .ne (.d (.int a)) (.d (.int b)) M = some (!decide (a = b)) := by
  simp [cmp2, dat, cmpD, dOk, PyData.depth, PyData.eqv]
  rfl
def leS (a b : Str) : Bool := !PySem.W.dataLt (.str b) (.str a)
def ltS (a b : Str) : Bool := PySem.W.dataLt (.str a) (.str b)
theorem le_str {a b : Str} {M : Store} : cmp2 .le (.d (.str a)) (.d (.str b)) M = some (leS a b) := by
  simp [cmp2, dat, cmpD, ordOk, PySem.W.alike, dOk, PyData.depth, leS]
theorem lt_str {a b : Str} {M : Store} : cmp2 .lt (.d (.str a)) (.d (.str b)) M = some (ltS a b) := by
  simp [cmp2, dat, cmpD, ordOk, PySem.W.alike, dOk, PyData.depth, ltS]
theorem boolsOf_map {α : Type} (f : α → Bool) : ∀ xs : List α, boolsOf (xs.map fun x => PyData.bool (f x)) = some (xs.map f)
  | [] => rfl
  | x :: xs => by simp [boolsOf, boolsOf_map f xs]
theorem all_map {α : Type} (f : α → Bool) (xs : List α) {M : Store} : allG [.d (.list (xs.map fun x => PyData.bool (f x)))] M = some (.d (.bool (xs.all f)), M) := by
  simp [allG, lsq, boolsOf_map]
theorem len_d {xs : List D} {M : Store} : lenG [.d (.tuple xs)] M = some (.d (.int xs.length), M) := rfl
theorem len_l {xs : List D} {M : Store} : lenG [.d (.list xs)] M = some (.d (.int xs.length), M) := rfl
theorem len_s {s : Str} {M : Store} (h : s.length ≤ sizeLine) : lenG [.d (.str s)] M = some (.d (.int s.length), M) := if_pos h
theorem ty1 : isTy "str" "str" = true := by decide
theorem ty2 : isTy "tuple" "tuple" = true := by decide
theorem ty3 : isTy "list" "list" = true := by decide
theorem tyn (a b : String) (h : isTy a b = false) : isTy a b = false := h
theorem tyN1 : isTy "NoneType" "str" = false := by decide
theorem tyN2 : isTy "bool" "str" = false := by decide
theorem tyN3 : isTy "int" "str" = false := by decide
theorem tyN4 : isTy "list" "str" = false := by decide
theorem tyN5 : isTy "tuple" "str" = false := by decide
theorem tyT1 : isTy "NoneType" "tuple" = false := by decide
theorem tyT2 : isTy "bool" "tuple" = false := by decide
theorem tyT3 : isTy "int" "tuple" = false := by decide
theorem tyT4 : isTy "list" "tuple" = false := by decide
theorem tyT5 : isTy "str" "tuple" = false := by decide
theorem bnot_t : (!true) = false := rfl
theorem bnot_f : (!false) = true := rfl
theorem then_ite {α : Type} {c : Prop} [Decidable c] {a b : Res α} {ρ : Rho} {k : α → Store → SR} : (if c then a else b).then ρ k = if c then a.then ρ k else b.then ρ k := by split <;> rfl
theorem bind_ite {α β : Type} {c : Prop} [Decidable c] {a b : Res α} {k : α → Store → Res β} : (if c then a else b).bind k = if c then a.bind k else b.bind k := by split <;> rfl
theorem seq_ite {c : Prop} [Decidable c] {a b : SR} {k : Rho → Store → SR} : (if c then a else b).seq k = if c then a.seq k else b.seq k := by split <;> rfl
def inAZ : D → Bool
  | .str l => leS "a" l && leS l "z"
  | _ => false
def isNm : D → Bool
  | .str s => decide ((1 : Int) ≤ s.length) && decide ((s.length : Int) ≤ 12) && (chD s).all inAZ
  | _ => false
def noDict : D → Bool
  | .dict _ => false
  | .str s => decide (s.length ≤ sizeLine)
  | _ => true
theorem cutD_1 (xs : List D) : cutD xs (some 1) none = xs.drop 1 := by
  unfold cutD HT.sIx
  cases xs with
  | nil => simp
  | cons x xs => simp
def isStr : D → Bool
  | .str _ => true
  | _ => false
theorem fLc_congr {own : List Nat} {t : Tg} {fi fi' : RF (List D)} {te : RF Vl} {ρ : Rho} {M : Store} (h : fi ρ M = fi' ρ M) : fLc false own t fi fYes te ρ M = fLc false own t fi' fYes te ρ M := by
  unfold fLc; rw [h]
theorem isNm_str {x : D} (h : isNm x = true) : isStr x = true := by
  cases x <;> first | rfl | simp [isNm] at h
theorem isLst_loc {M : Store} {xs : List D} : isLst (.loc M.length) (M ++ [.lst xs]) = true := by
  simp [isLst, lsq]
theorem pop_snoc {M : Store} {st : List D} {x : D} : popM (.loc M.length) [] (M ++ [.lst (st ++ [x])]) = some (.d x, M ++ [.lst st]) := by
  simp [popM]
theorem ext_snoc {M : Store} {st zs : List D} (h : st.length + zs.length ≤ sizeLine) : extendM (.loc M.length) [.d (.list zs)] (M ++ [.lst st]) = some (.d .none, M ++ [.lst (st ++ zs)]) := by
  simp [extendM, lsq, h]
theorem app_snoc {M : Store} {st : List D} {z : D} (h : st.length < sizeLine) : appendM (.loc M.length) [.d z] (M ++ [.lst st]) = some (.d .none, M ++ [.lst (st ++ [z])]) := by
  simp [appendM, h]
theorem ix_2 {a b c : D} {M : Store} : ix2 (.d (.tuple [a, b, c])) (.d (.int 2)) M = some (.d c) := rfl
theorem aug_int {a b : Int} {M : Store} : aug2 .add (.d (.int a)) (.d (.int b)) M = some (.d (.int (a + b))) := rfl
theorem add_int {a b : Int} {M : Store} : bin2 .add (.d (.int a)) (.d (.int b)) M = some (.d (.int (a + b))) := rfl
theorem tup2 {a b : D} : tupG [.d a, .d b] = some (.d (.tuple [a, b])) := by
  simp [tupG, allD, sizeLine]
theorem truB {b : Bool} {M : Store} : tru (.d (.bool b)) M = some b := rfl
theorem whl_on {tc : RF Bool} {fb : SF} {n : Nat} {ρ ρ' : Rho} {M M' : Store} (h1 : tc ρ M = .ok true M) (h2 : fb ρ M = .nx ρ' M') : whlL tc fb (n + 1) ρ M = whlL tc fb n ρ' M' := by
  simp only [whlL, h1, Res.then_ok, if_true, h2]
theorem whl_off {tc : RF Bool} {fb : SF} {n : Nat} {ρ : Rho} {M : Store} (h1 : tc ρ M = .ok false M) : whlL tc fb (n + 1) ρ M = .nx ρ M := by
  simp only [whlL, h1, Res.then_ok, if_false, Bool.false_eq_true]
theorem whl_exc {tc : RF Bool} {fb : SF} {n : Nat} {ρ ρ' : Rho} {M M' : Store} {c : Str} (h1 : tc ρ M = .ok true M) (h2 : fb ρ M = .exc c ρ' M') : whlL tc fb (n + 1) ρ M = .exc c ρ' M' := by
  simp only [whlL, h1, Res.then_ok, if_true, h2]
theorem lst1 {a : D} : lstG [.d a] = some (.d (.list [a])) := by
  simp [lstG, allD, sizeLine]
theorem atI_nat {xs : List D} {i : Nat} (h : i < xs.length) : L2.atI xs (i : Int) = some (xs.getD i .none) := by
  have h2 : (i : Int) < (xs.length : Int) := by omega
  simp [L2.atI, ixN, h, h2]
theorem ix_nat {xs : List D} {i : Nat} {M : Store} (h : i < xs.length) : ix2 (.d (.tuple xs)) (.d (.int i)) M = some (.d (xs.getD i .none)) := by
  simp [ix2, sqn, atI_nat h]
theorem allD_snoc {p : List D} {z : D} : allD (p.map Vl.d ++ [.d z]) = some (p ++ [z]) := by
  induction p with
  | nil => rfl
  | cons x p ih => simp [allD, ih]
theorem tup_snoc {p : List D} {z : D} (h : p.length ≤ 1000) : tupG (p.map Vl.d ++ [.d z]) = some (.d (.tuple (p ++ [z]))) := by
  have : p.length + 1 ≤ sizeLine := by simp only [sizeLine]; omega
  simp [tupG, allD_snoc, this]
theorem rngD_cons {j n : Nat} : rngD (j : Int) (n + 1) = .int j :: rngD ((j + 1 : Nat) : Int) n := by
  unfold rngD
  rw [List.range_succ_eq_map, List.map_cons, List.map_map]
  rw [List.cons_eq_cons]
  refine ⟨by simp, List.map_congr_left fun a _ => ?_⟩
  simp
  omega
theorem rngD_mem {n : Nat} {x : D} (h : x ∈ rngD 0 n) : ∃ i : Nat, x = .int i ∧ i < n := by
  unfold rngD at h
  obtain ⟨i, hi, rfl⟩ := List.mem_map.mp h
  exact ⟨i, by simp, by simpa using hi⟩
theorem rng_ok {n : Nat} (h : n ≤ 100000) : rngOk 0 (n : Int) = true := by
  simp [rngOk, sizeLine]
  omega
theorem rngG_rev {n : Nat} (h : n ≤ 100000) : rngG true [.d (.int (n : Int))] = some (rngD 0 n).reverse := by
  simp [rngG, rng_ok h]
theorem rngG_fwd {n : Nat} (h : n ≤ 100000) : rngG false [.d (.int (n : Int))] = some (rngD 0 n) := by
  simp [rngG, rng_ok h]
theorem lst0 : lstG [] = some (.d (.list [])) := by simp [lstG, allD]
theorem tup0 : tupG [] = some (.d (.tuple [])) := by simp [tupG, allD]
theorem cat_l {a b : List D} {M : Store} (h : a.length + b.length ≤ sizeLine) : bin2 .add (.d (.list a)) (.d (.list b)) M = some (.d (.list (a ++ b))) := by
  simp [bin2, cat2, lsq, h]
theorem cat_t {a b : List D} {M : Store} (h : a.length + b.length ≤ sizeLine) : bin2 .add (.d (.tuple a)) (.d (.tuple b)) M = some (.d (.tuple (a ++ b))) := by
  simp [bin2, h]
theorem tup1 {a : D} : tupG [.d a] = some (.d (.tuple [a])) := by
  simp [tupG, allD, sizeLine]
theorem for_rng {t : Tg} {fb : SF} {rev : Bool} {l : E} {C' : CallF} {ρ : Rho} {M : Store} {n : Nat} {xs : List D} (h : evL g C' l ρ M = .ok [.d (.int (n : Int))] M) (hx : rngG rev [.d (.int (n : Int))] = some xs) : fFor t (evI g C' (.rng rev l)) fb ρ M = forL t fb xs ρ M := by
  unfold fFor
  rw [show evI g C' (.rng rev l) = fRng rev (evL g C' l) by rw [evI]]
  unfold fRng
  rw [h, Res.bind_ok, hx]
  rfl
theorem bi1 {C' : CallF} {X : E} {f : Bi} {x y : Vl} {ρ : Rho} {M M' M'' : Store} (h : evE g C' X ρ M = .ok x M') (h2 : f.g [x] M' = some (y, M'')) : evE g C' (.bi f (.cons X .nil)) ρ M = .ok y M'' := by
  simp -implicitDefEqProofs only [evE, evL, fApp, fCons, fNil, h, Res.bind_ok, h2]
theorem args1 {C' : CallF} {X : E} {x : Vl} {ρ : Rho} {M M' : Store} (h : evE g C' X ρ M = .ok x M') : evL g C' (.cons X .nil) ρ M = .ok [x] M' := by
  simp -implicitDefEqProofs only [evL, fCons, fNil, h, Res.bind_ok]
theorem call_rt {k : Bool} {f : Str} {fn : Fn} {d : Nat} {as : List Vl} {M M' : Store} {x : Vl} (hl : T.prg.lookup f = some fn) (h : evS g 100000 (C d) fn.body (startR fn.N.length as) M = .rt x M') : callR k (C (d + 1) f) as M = fin k M.length x M' := by
  have e : C (d + 1) f as M = .ok x M' := by
    rw [C_succ hl]
    simp only [bodyF, h, onlyX]
  simp only [callR, e]
theorem call_ex {k : Bool} {f : Str} {fn : Fn} {d : Nat} {as : List Vl} {M M' : Store} {c : Str} {ρ' : Rho} (hl : T.prg.lookup f = some fn) (h : evS g 100000 (C d) fn.body (startR fn.N.length as) M = .exc c ρ' M') (hc : g.exs.contains c = true) : callR k (C (d + 1) f) as M = .exc c (M'.take M.length) := by
  have e : C (d + 1) f as M = .exc c M' := by
    rw [C_succ hl]
    simp only [bodyF, h, onlyX, hc, if_true]
  simp only [callR, e]
theorem fin_d {k : Bool} {n : Nat} {x : D} {M : Store} : fin k n (.d x) M = .ok (.d x) (M.take n) := rfl
abbrev dD (ds : List Int) : Cell := .lst (ds.map .int)
theorem len_loc {ds : List Int} {R : Store} : lenG [.loc 0] (dD ds :: R) = some (.d (.int ds.length), dD ds :: R) := by
  simp [lenG, sqn]
theorem law_next_ok {d : Nat} {ds : List Int} {R : Store} : ∃ x ds', callR false (C (d + 1) "_law_next") [.loc 0] (dD ds :: R) = .ok (.d (.int x)) (dD ds' :: R) ∧ ((ds = [] ∧ ds' = []) ∨ ds.length = ds'.length + 1) := by
  cases ds with
  | nil =>
    refine ⟨0, [], ?_, .inl ⟨rfl, rfl⟩⟩
    refine (call_rt (fn := f_law_next) (x := .d (.int 0)) (M' := dD [] :: R) rfl ?_).trans (by rw [fin_d, List.take_length])
    simp -implicitDefEqProofs only [f_law_next, b_law_next, evS, evE, evL, evT, evI, evC, evP, fSeq, fSkip, fIfS, fRet, fRetN, fAsg, fAug2, fExp, fFor, fVar, fCon, fBin, fBl, fCons, fSCons, fNil, fApp, fCall, fTup, fLst, fCls, fIt, fNotT, fAndT, fOrT, fCmpT, fCh, fTru, fIf, fMeth, fSl, fPart, fNoPart, fRng, fZip, fRev, fIsi, isiG, tyName, fGlb, fRaise, fTry, fTryAs, fIsx, fNeg, fAndV, fOrV, Bi.g, Me.g, asgT_nm, asgT_tup, asgL_nil, asgL_cons, itemsS, startR, Res.bind_ok, Res.bind_exc, Res.bind_bad, Res.then_ok, Res.then_exc, Res.then_bad, SR.seq_nx, SR.seq_rt, SR.seq_bk, SR.seq_ct, SR.seq_exc, SR.seq_bad, ofO_some, ofO_none, List.map_cons, List.map_nil, List.length_cons, List.length_nil, List.cons_append, List.nil_append, List.replicate, List.getElem?_cons_zero, List.getElem?_cons_succ, List.set_cons_zero, List.set_cons_succ, Nat.reduceAdd, Nat.reduceSub, Option.map_some, Option.map_none, Option.bind_some, Option.bind_none, reduceIte, if_true, if_false, Bool.not_true, Bool.not_false, Bool.false_eq_true, decide_true, decide_false, if_pos, st_get, st_set, st_take, st_len, len_loc, eq_int]
    rfl
  | cons x ds =>
    have h0 : ¬ (((ds.length + 1 : Nat) : Int) = 0) := by omega
    refine ⟨x, ds, ?_, .inr rfl⟩
    refine (call_rt (fn := f_law_next) (x := .d (.int x)) (M' := dD ds :: R) rfl ?_).trans (by rw [fin_d]; simp)
    have hp : popAtM (.loc 0) [.d (.int 0)] (dD (x :: ds) :: R) = some (.d (.int x), dD ds :: R) := by
      simp [popAtM, ixN]
    have hi : isLst (.loc 0) (dD (x :: ds) :: R) = true := by simp [isLst, lsq]
    simp -implicitDefEqProofs only [f_law_next, b_law_next, evS, evE, evL, evT, evI, evC, evP, fSeq, fSkip, fIfS, fRet, fRetN, fAsg, fAug2, fExp, fFor, fVar, fCon, fBin, fBl, fCons, fSCons, fNil, fApp, fCall, fTup, fLst, fCls, fIt, fNotT, fAndT, fOrT, fCmpT, fCh, fTru, fIf, fMeth, fSl, fPart, fNoPart, fRng, fZip, fRev, fIsi, isiG, tyName, fGlb, fRaise, fTry, fTryAs, fIsx, fNeg, fAndV, fOrV, Bi.g, Me.g, asgT_nm, asgT_tup, asgL_nil, asgL_cons, itemsS, startR, Res.bind_ok, Res.bind_exc, Res.bind_bad, Res.then_ok, Res.then_exc, Res.then_bad, SR.seq_nx, SR.seq_rt, SR.seq_bk, SR.seq_ct, SR.seq_exc, SR.seq_bad, ofO_some, ofO_none, List.map_cons, List.map_nil, List.length_cons, List.length_nil, List.cons_append, List.nil_append, List.replicate, List.getElem?_cons_zero, List.getElem?_cons_succ, List.set_cons_zero, List.set_cons_succ, Nat.reduceAdd, Nat.reduceSub, Option.map_some, Option.map_none, Option.bind_some, Option.bind_none, reduceIte, if_true, if_false, Bool.not_true, Bool.not_false, Bool.false_eq_true, decide_true, decide_false, if_pos, st_get, st_set, st_take, st_len, len_loc, eq_int, h0, hi, hp]
theorem lst3 {a b c : D} : lstG [.d a, .d b, .d c] = some (.d (.list [a, b, c])) := by simp [lstG, allD, sizeLine]
theorem fdiv_int {a j : Int} {M : Store} (h : 0 < j ∧ j < 1073741824) : bin2 .fdiv (.d (.int a)) (.d (.int j)) M = some (.d (.int (a / j))) := by simp [bin2, h]
theorem mod_int {a j : Int} {M : Store} (h : 0 < j) : bin2 .mod (.d (.int a)) (.d (.int j)) M = some (.d (.int (a % j))) := by simp [bin2, h]
theorem lst4 {a b c e : D} : lstG [.d a, .d b, .d c, .d e] = some (.d (.list [a, b, c, e])) := by simp [lstG, allD, sizeLine]
theorem lst5 {a b c e f : D} : lstG [.d a, .d b, .d c, .d e, .d f] = some (.d (.list [a, b, c, e, f])) := by simp [lstG, allD, sizeLine]
theorem tup3 {a b c : D} : tupG [.d a, .d b, .d c] = some (.d (.tuple [a, b, c])) := by simp [tupG, allD, sizeLine]
theorem seq_nx {C' : CallF} {a b : S} {ρ ρ' : Rho} {M M' : Store} (h : evS g 100000 C' a ρ M = .nx ρ' M') : evS g 100000 C' (.cons a b) ρ M = evS g 100000 C' b ρ' M' := by
  simp -implicitDefEqProofs only [evS, fSeq, h, SR.seq_nx]
theorem seq_rt {C' : CallF} {a b : S} {ρ : Rho} {x : Vl} {M M' : Store} (h : evS g 100000 C' a ρ M = .rt x M') : evS g 100000 C' (.cons a b) ρ M = .rt x M' := by
  simp -implicitDefEqProofs only [evS, fSeq, h, SR.seq_rt]
theorem ret_tail {C' : CallF} {e : E} {b : S} {ρ : Rho} {M : Store} : evS g 100000 C' (.cons (.ret e) b) ρ M = fSeq (fRet (evE g C' e)) (evS g 100000 C' b) ρ M := by
  simp -implicitDefEqProofs only [evS]
theorem if_t {C' : CallF} {c : E} {a b : S} {ρ : Rho} {M M' : Store} (h : evT g C' c ρ M = .ok true M') : evS g 100000 C' (.ife c a b) ρ M = evS g 100000 C' a ρ M' := by
  simp -implicitDefEqProofs only [evS, fIfS, h, Res.then_ok, if_true]
theorem if_f {C' : CallF} {c : E} {a b : S} {ρ : Rho} {M M' : Store} (h : evT g C' c ρ M = .ok false M') : evS g 100000 C' (.ife c a b) ρ M = evS g 100000 C' b ρ M' := by
  simp -implicitDefEqProofs only [evS, fIfS, h, Res.then_ok, if_false, Bool.false_eq_true]
theorem nil_nx {C' : CallF} {ρ : Rho} {M : Store} : evS g 100000 C' .nil ρ M = .nx ρ M := by
  simp -implicitDefEqProofs only [evS, fSkip]
theorem int_g {i : Int} {M : Store} : intG [.d (.int i)] M = some (.d (.int i), M) := rfl
theorem abs_g {i : Int} {M : Store} : absG [.d (.int i)] M = some (.d (.int (if i < 0 then -i else i)), M) := rfl
theorem mul_int {a j : Int} {M : Store} (h : -(2 ^ 64) < j ∧ j < 2 ^ 64) : bin2 .mul (.d (.int a)) (.d (.int j)) M = some (.d (.int (a * j))) := by
  show (if _ then _ else _) = _
  exact if_pos (.inr h)
theorem pow_18 {M : Store} : bin2 .pow (.d (.int 10)) (.d (.int 18)) M = some (.d (.int 1000000000000000000)) := by
  simp [bin2]
theorem app0 {ds : List Int} {x : Int} (h : ds.length ≤ 100000) : appendM (.loc 0) [.d (.int x)] [dD ds] = some (.d .none, [dD (ds ++ [x])]) := by
  have : ds.length < sizeLine := by simp only [sizeLine]; omega
  simp [appendM, this]
theorem isL0 {ds : List Int} : isLst (.loc 0) [dD ds] = true := by simp [isLst, lsq]
abbrev drR (s : Vl) (cell : Option Vl) (n : Option Vl) (mi k : Option Vl) : Rho := [some s, some (.d (.int 0)), some (.d (.int 90)), some (.loc 0), cell, n, mi, k]
theorem dr_in {d : Nat} {s : Vl} {cell mi : Option Vl} : ∀ (xs : List D) (ds : List Int) (n : Int) (k : Option Vl), ds.length + xs.length ≤ 100000 →
    ∃ ds' n' k', forL (.nm 7) (evS g 100000 (C d) w1_law_draws) xs (drR s cell (some (.d (.int n))) mi k) [dD ds] = .nx (drR s cell (some (.d (.int n'))) mi k') [dD ds'] ∧ ds'.length ≤ ds.length + xs.length
  | [], ds, n, k, _ => ⟨ds, n, k, by simp [forL], by simp⟩
  | x :: xs, ds, n, k, h => by
    simp only [List.length_cons] at h
    have e0 : List.set (drR s cell (some (.d (.int n))) mi k) 7 (some (.d x)) = drR s cell (some (.d (.int n))) mi (some (.d x)) := rfl
    by_cases hn : 0 < n
    · obtain ⟨ds', n', k', e, hl⟩ := dr_in (d := d) (s := s) (cell := cell) (mi := mi) xs (ds ++ [n % 10000]) (n / 10000) (some (.d x)) (by simp; omega)
      refine ⟨ds', n', k', ?_, by simp at hl ⊢; omega⟩
      have st : evS g 100000 (C d) w1_law_draws (drR s cell (some (.d (.int n))) mi (some (.d x))) [dD ds] = .nx (drR s cell (some (.d (.int (n / 10000)))) mi (some (.d x))) [dD (ds ++ [n % 10000])] := by
        simp -implicitDefEqProofs only [w1_law_draws, drR, evS, evE, evL, evT, evI, evC, evP, fSeq, fSkip, fIfS, fRet, fRetN, fAsg, fAug2, fExp, fFor, fVar, fCon, fBin, fBl, fCons, fSCons, fNil, fApp, fCall, fTup, fLst, fCls, fIt, fNotT, fAndT, fOrT, fCmpT, fCh, fTru, fIf, fMeth, fSl, fPart, fNoPart, fRng, fZip, fRev, fIsi, isiG, tyName, fGlb, fRaise, fTry, fTryAs, fIsx, fNeg, fAndV, fOrV, Bi.g, Me.g, asgT_nm, asgT_tup, asgL_nil, asgL_cons, itemsS, startR, Res.bind_ok, Res.bind_exc, Res.bind_bad, Res.then_ok, Res.then_exc, Res.then_bad, SR.seq_nx, SR.seq_rt, SR.seq_bk, SR.seq_ct, SR.seq_exc, SR.seq_bad, ofO_some, ofO_none, List.map_cons, List.map_nil, List.length_cons, List.length_nil, List.cons_append, List.nil_append, List.replicate, List.getElem?_cons_zero, List.getElem?_cons_succ, List.set_cons_zero, List.set_cons_succ, Nat.reduceAdd, Nat.reduceSub, Option.map_some, Option.map_none, Option.bind_some, Option.bind_none, reduceIte, if_true, if_false, Bool.not_true, Bool.not_false, Bool.false_eq_true, decide_true, decide_false, if_pos, st_get, st_set, st_take, st_len, gt_int, hn, isL0, int_g, mod_int (show (0 : Int) < 10000 by decide), app0 (x := n % 10000) (show ds.length ≤ 100000 by omega), fdiv_int (show (0 : Int) < 10000 ∧ (10000 : Int) < 1073741824 by decide)]
      simp only [forL, asgT_nm, e0, st, e]
    · obtain ⟨ds', n', k', e, hl⟩ := dr_in (d := d) (s := s) (cell := cell) (mi := mi) xs ds (n / 10000) (some (.d x)) (by omega)
      refine ⟨ds', n', k', ?_, by simp at hl ⊢; omega⟩
      have st : evS g 100000 (C d) w1_law_draws (drR s cell (some (.d (.int n))) mi (some (.d x))) [dD ds] = .nx (drR s cell (some (.d (.int (n / 10000)))) mi (some (.d x))) [dD ds] := by
        simp -implicitDefEqProofs only [w1_law_draws, drR, evS, evE, evL, evT, evI, evC, evP, fSeq, fSkip, fIfS, fRet, fRetN, fAsg, fAug2, fExp, fFor, fVar, fCon, fBin, fBl, fCons, fSCons, fNil, fApp, fCall, fTup, fLst, fCls, fIt, fNotT, fAndT, fOrT, fCmpT, fCh, fTru, fIf, fMeth, fSl, fPart, fNoPart, fRng, fZip, fRev, fIsi, isiG, tyName, fGlb, fRaise, fTry, fTryAs, fIsx, fNeg, fAndV, fOrV, Bi.g, Me.g, asgT_nm, asgT_tup, asgL_nil, asgL_cons, itemsS, startR, Res.bind_ok, Res.bind_exc, Res.bind_bad, Res.then_ok, Res.then_exc, Res.then_bad, SR.seq_nx, SR.seq_rt, SR.seq_bk, SR.seq_ct, SR.seq_exc, SR.seq_bad, ofO_some, ofO_none, List.map_cons, List.map_nil, List.length_cons, List.length_nil, List.cons_append, List.nil_append, List.replicate, List.getElem?_cons_zero, List.getElem?_cons_succ, List.set_cons_zero, List.set_cons_succ, Nat.reduceAdd, Nat.reduceSub, Option.map_some, Option.map_none, Option.bind_some, Option.bind_none, reduceIte, if_true, if_false, Bool.not_true, Bool.not_false, Bool.false_eq_true, decide_true, decide_false, if_pos, st_get, st_set, st_take, st_len, gt_int, hn, fdiv_int (show (0 : Int) < 10000 ∧ (10000 : Int) < 1073741824 by decide)]
      simp only [forL, asgT_nm, e0, st, e]
theorem dr_body {d : Nat} {s : Vl} {n mi k : Option Vl} {x : Int} {ds : List Int} (h : ds.length + 20 ≤ 100000) :
    ∃ ds' n' mi' k', evS g 100000 (C d) w2_law_draws (drR s (some (.d (.int x))) n mi k) [dD ds] = .nx (drR s (some (.d (.int x))) n' mi' k') [dD ds'] ∧ ds'.length ≤ ds.length + 20 := by
  generalize ha : (if x < 0 then -x else x) = a
  have s1 : evS g 100000 (C d) (.asg (.nm 5) (.bi .abs (.cons (.bi .int (.cons (.var 4) .nil)) .nil))) (drR s (some (.d (.int x))) n mi k) [dD ds] = .nx (drR s (some (.d (.int x))) (some (.d (.int a))) mi k) [dD ds] := by
    simp -implicitDefEqProofs only [drR, evS, evE, evL, evT, evI, evC, evP, fSeq, fSkip, fIfS, fRet, fRetN, fAsg, fAug2, fExp, fFor, fVar, fCon, fBin, fBl, fCons, fSCons, fNil, fApp, fCall, fTup, fLst, fCls, fIt, fNotT, fAndT, fOrT, fCmpT, fCh, fTru, fIf, fMeth, fSl, fPart, fNoPart, fRng, fZip, fRev, fIsi, isiG, tyName, fGlb, fRaise, fTry, fTryAs, fIsx, fNeg, fAndV, fOrV, Bi.g, Me.g, asgT_nm, asgT_tup, asgL_nil, asgL_cons, itemsS, startR, Res.bind_ok, Res.bind_exc, Res.bind_bad, Res.then_ok, Res.then_exc, Res.then_bad, SR.seq_nx, SR.seq_rt, SR.seq_bk, SR.seq_ct, SR.seq_exc, SR.seq_bad, ofO_some, ofO_none, List.map_cons, List.map_nil, List.length_cons, List.length_nil, List.cons_append, List.nil_append, List.replicate, List.getElem?_cons_zero, List.getElem?_cons_succ, List.set_cons_zero, List.set_cons_succ, Nat.reduceAdd, Nat.reduceSub, Option.map_some, Option.map_none, Option.bind_some, Option.bind_none, reduceIte, if_true, if_false, Bool.not_true, Bool.not_false, Bool.false_eq_true, decide_true, decide_false, if_pos, st_get, st_set, st_take, st_len, int_g, abs_g, ha]
  have c1 : evT g (C d) (.cmp .lt (.var 5) (.bin .pow (.con (.int 10)) (.con (.int 18)))) (drR s (some (.d (.int x))) (some (.d (.int a))) mi k) [dD ds] = .ok (decide (a < 1000000000000000000)) [dD ds] := by
    simp -implicitDefEqProofs only [drR, evS, evE, evL, evT, evI, evC, evP, fSeq, fSkip, fIfS, fRet, fRetN, fAsg, fAug2, fExp, fFor, fVar, fCon, fBin, fBl, fCons, fSCons, fNil, fApp, fCall, fTup, fLst, fCls, fIt, fNotT, fAndT, fOrT, fCmpT, fCh, fTru, fIf, fMeth, fSl, fPart, fNoPart, fRng, fZip, fRev, fIsi, isiG, tyName, fGlb, fRaise, fTry, fTryAs, fIsx, fNeg, fAndV, fOrV, Bi.g, Me.g, asgT_nm, asgT_tup, asgL_nil, asgL_cons, itemsS, startR, Res.bind_ok, Res.bind_exc, Res.bind_bad, Res.then_ok, Res.then_exc, Res.then_bad, SR.seq_nx, SR.seq_rt, SR.seq_bk, SR.seq_ct, SR.seq_exc, SR.seq_bad, ofO_some, ofO_none, List.map_cons, List.map_nil, List.length_cons, List.length_nil, List.cons_append, List.nil_append, List.replicate, List.getElem?_cons_zero, List.getElem?_cons_succ, List.set_cons_zero, List.set_cons_succ, Nat.reduceAdd, Nat.reduceSub, Option.map_some, Option.map_none, Option.bind_some, Option.bind_none, reduceIte, if_true, if_false, Bool.not_true, Bool.not_false, Bool.false_eq_true, decide_true, decide_false, if_pos, st_get, st_set, st_take, st_len, pow_18, lt_int]
  rw [w2_law_draws, seq_nx s1]
  by_cases hb : a < 1000000000000000000
  · rw [decide_eq_true hb] at c1
    refine ⟨ds ++ [a] ++ [((a * 48271 + 11) % 2147483647 * 16807 + a / 9 + 3) % 2147483647 / 7] ++ [((a * 48271 + 11) % 2147483647 * 69621 + a / 5 + 7) % 2147483647 / 11], some (.d (.int a)), some (.d (.int ((a * 48271 + 11) % 2147483647))), k, (seq_nx ((if_t c1).trans ?_)).trans nil_nx, ?_⟩
    · simp -implicitDefEqProofs only [drR, evS, evE, evL, evT, evI, evC, evP, fSeq, fSkip, fIfS, fRet, fRetN, fAsg, fAug2, fExp, fFor, fVar, fCon, fBin, fBl, fCons, fSCons, fNil, fApp, fCall, fTup, fLst, fCls, fIt, fNotT, fAndT, fOrT, fCmpT, fCh, fTru, fIf, fMeth, fSl, fPart, fNoPart, fRng, fZip, fRev, fIsi, isiG, tyName, fGlb, fRaise, fTry, fTryAs, fIsx, fNeg, fAndV, fOrV, Bi.g, Me.g, asgT_nm, asgT_tup, asgL_nil, asgL_cons, itemsS, startR, Res.bind_ok, Res.bind_exc, Res.bind_bad, Res.then_ok, Res.then_exc, Res.then_bad, SR.seq_nx, SR.seq_rt, SR.seq_bk, SR.seq_ct, SR.seq_exc, SR.seq_bad, ofO_some, ofO_none, List.map_cons, List.map_nil, List.length_cons, List.length_nil, List.cons_append, List.nil_append, List.replicate, List.getElem?_cons_zero, List.getElem?_cons_succ, List.set_cons_zero, List.set_cons_succ, Nat.reduceAdd, Nat.reduceSub, Option.map_some, Option.map_none, Option.bind_some, Option.bind_none, reduceIte, if_true, if_false, Bool.not_true, Bool.not_false, Bool.false_eq_true, decide_true, decide_false, if_pos, st_get, st_set, st_take, st_len, int_g, isL0, mul_int (show -(2 ^ 64) < (48271 : Int) ∧ (48271 : Int) < 2 ^ 64 by decide), mul_int (show -(2 ^ 64) < (16807 : Int) ∧ (16807 : Int) < 2 ^ 64 by decide), mul_int (show -(2 ^ 64) < (69621 : Int) ∧ (69621 : Int) < 2 ^ 64 by decide), add_int,
        mod_int (show (0 : Int) < 2147483647 by decide), fdiv_int (show (0 : Int) < 9 ∧ (9 : Int) < 1073741824 by decide), fdiv_int (show (0 : Int) < 5 ∧ (5 : Int) < 1073741824 by decide), fdiv_int (show (0 : Int) < 7 ∧ (7 : Int) < 1073741824 by decide), fdiv_int (show (0 : Int) < 11 ∧ (11 : Int) < 1073741824 by decide),
        app0 (show ds.length ≤ 100000 by omega), app0 (show (ds ++ [a]).length ≤ 100000 by simp; omega), app0 (ds := ds ++ [a] ++ [((a * 48271 + 11) % 2147483647 * 16807 + a / 9 + 3) % 2147483647 / 7]) (show _ ≤ 100000 by simp; omega)]
    · simp
  · rw [decide_eq_false hb] at c1
    obtain ⟨ds', n', k', e, hl⟩ := dr_in (d := d) (s := s) (cell := some (.d (.int x))) (mi := mi) (rngD 0 20) ds a k (by rw [rngD_length]; omega)
    refine ⟨ds', some (.d (.int n')), mi, k', (seq_nx ((if_f c1).trans ((seq_nx ?_).trans nil_nx))).trans nil_nx, by rw [rngD_length] at hl; exact hl⟩
    rw [show ∀ t it b, evS g 100000 (C d) (.forS t it b) = fFor t (evI g (C d) it) (evS g 100000 (C d) b) from fun t it b => by rw [evS]]
    have hx : evE g (C d) (.con (.int 20)) (drR s (some (.d (.int x))) (some (.d (.int a))) mi k) [dD ds] = .ok (.d (.int ((20 : Nat) : Int))) [dD ds] := by
      simp -implicitDefEqProofs only [evE, fCon]
      rfl
    rw [for_rng (args1 hx) (rngG_fwd (by omega)), e]
theorem evS_for {C' : CallF} {t : Tg} {it : E} {b : S} : evS g 100000 C' (.forS t it b) = fFor t (evI g C' it) (evS g 100000 C' b) := by rw [evS]
theorem for_it {t : Tg} {fb : SF} {e : E} {C' : CallF} {ρ : Rho} {M : Store} {x : Vl} {xs : List D} (h : evE g C' e ρ M = .ok x M) (hx : itemsOf x = some xs) : fFor t (evI g C' (.it e)) fb ρ M = forL t fb xs ρ M := by
  unfold fFor
  rw [show evI g C' (.it e) = fIt (evE g C' e) by rw [evI]]
  unfold fIt
  rw [h, Res.bind_ok, hx]
  rfl
theorem dr_loop {d : Nat} {s : Vl} : ∀ (ns : List Int) (ds : List Int) (ce n mi k : Option Vl), ds.length + 20 * ns.length ≤ 50000 →
    ∃ ds' ce' n' mi' k', forL (.nm 4) (evS g 100000 (C d) w2_law_draws) (ns.map .int) (drR s ce n mi k) [dD ds] = .nx (drR s ce' n' mi' k') [dD ds']
  | [], ds, ce, n, mi, k, _ => ⟨ds, ce, n, mi, k, by simp [forL]⟩
  | x :: ns, ds, ce, n, mi, k, h => by
    simp only [List.length_cons] at h
    obtain ⟨d1, n1, m1, k1, e1, l1⟩ := dr_body (d := d) (s := s) (n := n) (mi := mi) (k := k) (x := x) (ds := ds) (by omega)
    obtain ⟨d2, c2, n2, m2, k2, e2⟩ := dr_loop (d := d) (s := s) ns d1 (some (.d (.int x))) n1 m1 k1 (by omega)
    refine ⟨d2, c2, n2, m2, k2, ?_⟩
    have e0 : List.set (drR s ce n mi k) 4 (some (.d (.int x))) = drR s (some (.d (.int x))) n mi k := rfl
    simp only [List.map_cons, forL, asgT_nm, e0, e1, e2]
theorem cutD_0 (xs : List D) : cutD xs (some 0) none = xs := by
  simp [cutD, HT.sIx]
theorem cutD_90 (ds : List Int) : cutD (ds.map PyData.int) none (some 90) = (ds.take 90).map .int := by
  simp only [cutD, HT.sIx, List.drop_zero, Nat.sub_zero, List.length_map, ← List.map_take]
  rw [if_neg (by omega)]
  congr 1
  rw [show (90 : Int).toNat = 90 from rfl]
  by_cases h : 90 ≤ ds.length
  · rw [Nat.min_eq_left h]
  · rw [Nat.min_eq_right (by omega), List.take_length, List.take_of_length_le (by omega)]
theorem law_draws_ok {d : Nat} {ns : List Int} (h : ns.length ≤ 63) : ∃ ds : List Int, ds.length ≤ 90 ∧ callR true (C (d + 1) "_law_draws") [.ro (ns.map .int), .d (.int 0), .d (.int 90)] [] = .ok (.loc 0) [dD ds] := by
  obtain ⟨ds, ce, n, mi, k, e⟩ := dr_loop (d := d) (s := .ro (ns.map .int)) ns [] none none none none (by simp; omega)
  refine ⟨ds.take 90, by simp; omega, ?_⟩
  refine (call_rt (fn := f_law_draws) (x := .loc 1) (M' := [dD ds, dD (ds.take 90)]) rfl ?_).trans rfl
  have s1 : evS g 100000 (C d) (.asg (.nm 3) (.cls .nil)) (startR f_law_draws.N.length [.ro (ns.map .int), .d (.int 0), .d (.int 90)]) [] = .nx (drR (.ro (ns.map .int)) none none none none) [dD []] := by
    simp -implicitDefEqProofs only [f_law_draws, evS, evE, evL, evT, evI, evC, evP, fSeq, fSkip, fIfS, fRet, fRetN, fAsg, fAug2, fExp, fFor, fVar, fCon, fBin, fBl, fCons, fSCons, fNil, fApp, fCall, fTup, fLst, fCls, fIt, fNotT, fAndT, fOrT, fCmpT, fCh, fTru, fIf, fMeth, fSl, fPart, fNoPart, fRng, fZip, fRev, fIsi, isiG, tyName, fGlb, fRaise, fTry, fTryAs, fIsx, fNeg, fAndV, fOrV, Bi.g, Me.g, asgT_nm, asgT_tup, asgL_nil, asgL_cons, itemsS, startR, Res.bind_ok, Res.bind_exc, Res.bind_bad, Res.then_ok, Res.then_exc, Res.then_bad, SR.seq_nx, SR.seq_rt, SR.seq_bk, SR.seq_ct, SR.seq_exc, SR.seq_bad, ofO_some, ofO_none, List.map_cons, List.map_nil, List.length_cons, List.length_nil, List.cons_append, List.nil_append, List.replicate, List.getElem?_cons_zero, List.getElem?_cons_succ, List.set_cons_zero, List.set_cons_succ, Nat.reduceAdd, Nat.reduceSub, Option.map_some, Option.map_none, Option.bind_some, Option.bind_none, reduceIte, if_true, if_false, Bool.not_true, Bool.not_false, Bool.false_eq_true, decide_true, decide_false, if_pos, st_get, st_set, st_take, st_len, lst0, drR]
    rfl
  have hx : evE g (C d) (.sl false (.var 0) (.pt (.var 1)) .nil) (drR (.ro (ns.map .int)) none none none none) [dD []] = .ok (.d (.list (ns.map .int))) [dD []] := by
    simp -implicitDefEqProofs only [evS, evE, evL, evT, evI, evC, evP, fSeq, fSkip, fIfS, fRet, fRetN, fAsg, fAug2, fExp, fFor, fVar, fCon, fBin, fBl, fCons, fSCons, fNil, fApp, fCall, fTup, fLst, fCls, fIt, fNotT, fAndT, fOrT, fCmpT, fCh, fTru, fIf, fMeth, fSl, fPart, fNoPart, fRng, fZip, fRev, fIsi, isiG, tyName, fGlb, fRaise, fTry, fTryAs, fIsx, fNeg, fAndV, fOrV, Bi.g, Me.g, asgT_nm, asgT_tup, asgL_nil, asgL_cons, itemsS, startR, Res.bind_ok, Res.bind_exc, Res.bind_bad, Res.then_ok, Res.then_exc, Res.then_bad, SR.seq_nx, SR.seq_rt, SR.seq_bk, SR.seq_ct, SR.seq_exc, SR.seq_bad, ofO_some, ofO_none, List.map_cons, List.map_nil, List.length_cons, List.length_nil, List.cons_append, List.nil_append, List.replicate, List.getElem?_cons_zero, List.getElem?_cons_succ, List.set_cons_zero, List.set_cons_succ, Nat.reduceAdd, Nat.reduceSub, Option.map_some, Option.map_none, Option.bind_some, Option.bind_none, reduceIte, if_true, if_false, Bool.not_true, Bool.not_false, Bool.false_eq_true, decide_true, decide_false, if_pos, st_get, st_set, st_take, st_len, drR, sl2, sqn, cutD_0]
  have hr : evE g (C d) (.sl true (.var 3) .nil (.pt (.var 2))) (drR (.ro (ns.map .int)) ce n mi k) [dD ds] = .ok (.loc 1) [dD ds, dD (ds.take 90)] := by
    simp -implicitDefEqProofs only [evS, evE, evL, evT, evI, evC, evP, fSeq, fSkip, fIfS, fRet, fRetN, fAsg, fAug2, fExp, fFor, fVar, fCon, fBin, fBl, fCons, fSCons, fNil, fApp, fCall, fTup, fLst, fCls, fIt, fNotT, fAndT, fOrT, fCmpT, fCh, fTru, fIf, fMeth, fSl, fPart, fNoPart, fRng, fZip, fRev, fIsi, isiG, tyName, fGlb, fRaise, fTry, fTryAs, fIsx, fNeg, fAndV, fOrV, Bi.g, Me.g, asgT_nm, asgT_tup, asgL_nil, asgL_cons, itemsS, startR, Res.bind_ok, Res.bind_exc, Res.bind_bad, Res.then_ok, Res.then_exc, Res.then_bad, SR.seq_nx, SR.seq_rt, SR.seq_bk, SR.seq_ct, SR.seq_exc, SR.seq_bad, ofO_some, ofO_none, List.map_cons, List.map_nil, List.length_cons, List.length_nil, List.cons_append, List.nil_append, List.replicate, List.getElem?_cons_zero, List.getElem?_cons_succ, List.set_cons_zero, List.set_cons_succ, Nat.reduceAdd, Nat.reduceSub, Option.map_some, Option.map_none, Option.bind_some, Option.bind_none, reduceIte, if_true, if_false, Bool.not_true, Bool.not_false, Bool.false_eq_true, decide_true, decide_false, if_pos, st_get, st_set, st_take, st_len, drR, sl2, sqn, cutD_90]
  show evS g 100000 (C d) b_law_draws _ _ = _
  rw [b_law_draws, seq_nx s1, seq_nx (by rw [evS_for, for_it hx rfl, e]), ret_tail]
  simp -implicitDefEqProofs only [fSeq, fRet, hr, Res.then_ok, SR.seq_rt]
theorem alike_str {x : D} (h : isStr x = true) : PySem.W.alike x x = true ∧ x.depth = 0 := by
  cases x with
  | str s => exact ⟨by simp [PySem.W.alike], by simp [PyData.depth]⟩
  | _ => cases h
theorem alike_strs : ∀ xs : List D, xs.all isStr = true → PySem.W.alikeAll xs xs = true ∧ PyData.depthAll xs = 0
  | [], _ => ⟨by simp [PySem.W.alikeAll], by simp [PyData.depthAll]⟩
  | x :: xs, h => by
    simp only [List.all_cons, Bool.and_eq_true] at h
    obtain ⟨a1, a2⟩ := alike_str h.1
    obtain ⟨b1, b2⟩ := alike_strs xs h.2
    exact ⟨by simp [PySem.W.alikeAll, a1, b1], by simp [PyData.depthAll, a2, b2]⟩
theorem ne_same {x : D} {M : Store} (h : PyData.eqv x x = true ∧ dOk x x = true) : cmp2 .ne (.d x) (.d x) M = some false := by
  simp [cmp2, dat, cmpD, h.1, h.2]
theorem ix_p0 {a b : D} {M : Store} : ix2 (.d (.tuple [a, b])) (.d (.int 0)) M = some (.d a) := rfl
theorem ix_p1 {a b : D} {M : Store} : ix2 (.d (.tuple [a, b])) (.d (.int 1)) M = some (.d b) := rfl
theorem call2 {C' : CallF} {f : Str} {keep : Bool} {X Y : E} {x y : Vl} {ρ : Rho} {M : Store} {r : Res Vl} (h1 : evE g C' X ρ M = .ok x M) (h2 : evE g C' Y ρ M = .ok y M) (h : callR keep (C' f) [x, y] M = r) : evE g C' (.call f keep (.cons X (.cons Y .nil))) ρ M = r := by
  simp -implicitDefEqProofs only [evE, evL, fCall, fCons, fNil, h1, h2, Res.bind_ok, h]
theorem call1 {C' : CallF} {f : Str} {keep : Bool} {X : E} {x : Vl} {ρ : Rho} {M : Store} {r : Res Vl} (h1 : evE g C' X ρ M = .ok x M) (h : callR keep (C' f) [x] M = r) : evE g C' (.call f keep (.cons X .nil)) ρ M = r := by
  simp -implicitDefEqProofs only [evE, evL, fCall, fCons, fNil, h1, Res.bind_ok, h]
theorem bin_of {C' : CallF} {o : Op} {X Y : E} {x y z : Vl} {ρ : Rho} {M : Store} (h1 : evE g C' X ρ M = .ok x M) (h2 : evE g C' Y ρ M = .ok y M) (h : bin2 o x y M = some z) : evE g C' (.bin o X Y) ρ M = .ok z M := by
  simp -implicitDefEqProofs only [evE, fBin, h1, h2, Res.bind_ok, h, ofO_some]
theorem tup_of {C' : CallF} {l : E} {as : List Vl} {z : Vl} {ρ : Rho} {M : Store} (h1 : evL g C' l ρ M = .ok as M) (h : tupG as = some z) : evE g C' (.tup l) ρ M = .ok z M := by
  simp -implicitDefEqProofs only [evE, fTup, h1, Res.bind_ok, h, ofO_some]
theorem cmp_of {C' : CallF} {o : Cm} {X Y : E} {x y : Vl} {z : Bool} {ρ : Rho} {M : Store} (h1 : evE g C' X ρ M = .ok x M) (h2 : evE g C' Y ρ M = .ok y M) (h : cmp2 o x y M = some z) : evT g C' (.cmp o X Y) ρ M = .ok z M := by
  simp -implicitDefEqProofs only [evT, fCmpT, h1, h2, Res.bind_ok, h, ofO_some]
theorem or_ff {C' : CallF} {a b : E} {ρ : Rho} {M : Store} (h1 : evT g C' a ρ M = .ok false M) (h2 : evT g C' b ρ M = .ok false M) : evT g C' (.or a b) ρ M = .ok false M := by
  simp -implicitDefEqProofs only [evT, fOrT, h1, h2, Res.bind_ok, if_false, Bool.false_eq_true]
theorem not_tt {C' : CallF} {e : E} {b : Bool} {ρ : Rho} {M : Store} (h1 : evE g C' e ρ M = .ok (.d (.bool b)) M) : evT g C' (.not (.tt e)) ρ M = .ok (!b) M := by
  simp -implicitDefEqProofs only [evT, fNotT, fTru, h1, Res.bind_ok, truB, ofO_some]
def tl : Nat → S → S
  | n + 1, .cons _ b => tl n b
  | _, s => s
def okR : SR → Bool
  | .rt (.d (.bool true)) [_] => true
  | _ => false
theorem okR_of {r : SR} (h : okR r = true) : ∃ M', r = .rt (.d (.bool true)) M' := by
  unfold okR at h
  split at h
  · exact ⟨_, rfl⟩
  · cases h
theorem var_of {C' : CallF} {i : Nat} {x : Vl} {ρ : Rho} {M : Store} (h : ρ[i]? = some (some x)) : evE g C' (.var i) ρ M = .ok x M := by
  simp -implicitDefEqProofs only [evE, fVar, h]
theorem con_of {C' : CallF} {x : D} {ρ : Rho} {M : Store} : evE g C' (.con x) ρ M = .ok (.d x) M := by
  simp -implicitDefEqProofs only [evE, fCon]
theorem isi_of {C' : CallF} {t : String} {a : E} {x : Vl} {b : Bool} {ρ : Rho} {M : Store} (h : evE g C' a ρ M = .ok x M) (h2 : isiG t x M = some (.d (.bool b))) : evE g C' (.isi t a) ρ M = .ok (.d (.bool b)) M := by
  simp -implicitDefEqProofs only [evE, fIsi, h, Res.bind_ok, h2, ofO_some]
theorem list_t {xs : List D} {M : Store} : listG false [.d (.tuple xs)] M = some (.d (.list xs), M) := rfl
theorem tup7 {a b c e f h i : D} : tupG [.d a, .d b, .d c, .d e, .d f, .d h, .d i] = some (.d (.tuple [a, b, c, e, f, h, i])) := by simp [tupG, allD, sizeLine]
theorem lst6 {a b c e f h : D} : lstG [.d a, .d b, .d c, .d e, .d f, .d h] = some (.d (.list [a, b, c, e, f, h])) := by simp [lstG, allD, sizeLine]
theorem lst8 {a b c e f h i j : D} : lstG [.d a, .d b, .d c, .d e, .d f, .d h, .d i, .d j] = some (.d (.list [a, b, c, e, f, h, i, j])) := by simp [lstG, allD, sizeLine]
theorem tup5 {a b c e f : D} : tupG [.d a, .d b, .d c, .d e, .d f] = some (.d (.tuple [a, b, c, e, f])) := by simp [tupG, allD, sizeLine]
theorem t5 {a b c e f : D} {n : Int} {M : Store} : ∃ x ∈ [a, b, c, e, f], ix2 (.d (.list [a, b, c, e, f])) (.d (.int (n % 5))) M = some (.d x) := by
  have : n % 5 = 0 ∨ n % 5 = 1 ∨ n % 5 = 2 ∨ n % 5 = 3 ∨ n % 5 = 4 := by omega
  rcases this with h | h | h | h | h <;> rw [h]
  · exact ⟨a, by simp, rfl⟩
  · exact ⟨b, by simp, rfl⟩
  · exact ⟨c, by simp, rfl⟩
  · exact ⟨e, by simp, rfl⟩
  · exact ⟨f, by simp, rfl⟩
theorem t4 {a b c e : D} {n : Int} {M : Store} : ∃ x ∈ [a, b, c, e], ix2 (.d (.list [a, b, c, e])) (.d (.int (n % 4))) M = some (.d x) := by
  have : n % 4 = 0 ∨ n % 4 = 1 ∨ n % 4 = 2 ∨ n % 4 = 3 := by omega
  rcases this with h | h | h | h <;> rw [h]
  · exact ⟨a, by simp, rfl⟩
  · exact ⟨b, by simp, rfl⟩
  · exact ⟨c, by simp, rfl⟩
  · exact ⟨e, by simp, rfl⟩
theorem t6 {a b c e f h' : D} {n : Int} {M : Store} : ∃ x ∈ [a, b, c, e, f, h'], ix2 (.d (.list [a, b, c, e, f, h'])) (.d (.int (n % 6))) M = some (.d x) := by
  have : n % 6 = 0 ∨ n % 6 = 1 ∨ n % 6 = 2 ∨ n % 6 = 3 ∨ n % 6 = 4 ∨ n % 6 = 5 := by omega
  rcases this with h | h | h | h | h | h <;> rw [h]
  · exact ⟨a, by simp, rfl⟩
  · exact ⟨b, by simp, rfl⟩
  · exact ⟨c, by simp, rfl⟩
  · exact ⟨e, by simp, rfl⟩
  · exact ⟨f, by simp, rfl⟩
  · exact ⟨h', by simp, rfl⟩
theorem t8 {a b c e f h' i j : D} {n : Int} {M : Store} : ∃ x ∈ [a, b, c, e, f, h', i, j], ix2 (.d (.list [a, b, c, e, f, h', i, j])) (.d (.int (n % 8))) M = some (.d x) := by
  have : n % 8 = 0 ∨ n % 8 = 1 ∨ n % 8 = 2 ∨ n % 8 = 3 ∨ n % 8 = 4 ∨ n % 8 = 5 ∨ n % 8 = 6 ∨ n % 8 = 7 := by omega
  rcases this with h | h | h | h | h | h | h | h <;> rw [h]
  · exact ⟨a, by simp, rfl⟩
  · exact ⟨b, by simp, rfl⟩
  · exact ⟨c, by simp, rfl⟩
  · exact ⟨e, by simp, rfl⟩
  · exact ⟨f, by simp, rfl⟩
  · exact ⟨h', by simp, rfl⟩
  · exact ⟨i, by simp, rfl⟩
  · exact ⟨j, by simp, rfl⟩
def Ks : List D := [.none, .str "a", .str "b", .str "c"]
def Ms : List D := [.tuple [], .tuple [.str "x"], .tuple [.str "y"], .tuple [.str "x", .str "y"]]
def Ns : List D := [.tuple [], .tuple [.tuple [.str "kind", .str "b"]], .tuple [.tuple [.str "mark", .str "x"]], .tuple [.tuple [.str "kind", .str "a"], .tuple [.str "mark", .str "y"]]]
def Ps : List (Int × Int) := [(1, 0), (0, 1), (2, 1), (3, 2), (0, 2), (1, 2)]
structure Pt where
  k : D
  m : D
  n : D
  s : Int
  f : Int
def Pt.d (p : Pt) : D := .tuple [p.k, p.m, p.n, .int p.s, .int p.f]
def Pts : List Pt := Ks.flatMap fun k => Ms.flatMap fun m => Ns.flatMap fun n => Ps.map fun q => ⟨k, m, n, q.1, q.2⟩
theorem mem_Pts {k m n : D} {q : Int × Int} (h1 : k ∈ Ks) (h2 : m ∈ Ms) (h3 : n ∈ Ns) (h4 : q ∈ Ps) : (⟨k, m, n, q.1, q.2⟩ : Pt) ∈ Pts := by
  simp only [Pts, List.mem_flatMap, List.mem_map]
  exact ⟨k, h1, m, h2, n, h3, q, h4, rfl⟩
def pairD (q : Int × Int) : D := .tuple [.int q.1, .int q.2]
theorem law_part_ok {d : Nat} {n : Int} {M : Store} : ∃ p ∈ Pts, callR false (C (d + 1) "_law_part") [.d (.int n)] M = .ok (.d p.d) M := by
  obtain ⟨k, hk, e1⟩ := t5 (a := .none) (b := .none) (c := .str "a") (e := .str "b") (f := .str "c") (n := n) (M := M)
  obtain ⟨m, hm, e2⟩ := t5 (a := .tuple []) (b := .tuple []) (c := .tuple [.str "x"]) (e := .tuple [.str "y"]) (f := .tuple [.str "x", .str "y"]) (n := n / 5) (M := M)
  obtain ⟨o, ho, e3⟩ := t6 (a := .tuple []) (b := .tuple []) (c := .tuple []) (e := .tuple [.tuple [.str "kind", .str "b"]]) (f := .tuple [.tuple [.str "mark", .str "x"]]) (h' := .tuple [.tuple [.str "kind", .str "a"], .tuple [.str "mark", .str "y"]]) (n := n / 25) (M := M)
  obtain ⟨q, hq, e4⟩ := t8 (a := pairD (1, 0)) (b := pairD (1, 0)) (c := pairD (1, 0)) (e := pairD (0, 1)) (f := pairD (2, 1)) (h' := pairD (3, 2)) (i := pairD (0, 2)) (j := pairD (1, 2)) (n := n / 150) (M := M)
  have hk' : k ∈ Ks := by
    simp only [Ks, List.mem_cons, List.not_mem_nil, or_false] at hk ⊢
    rcases hk with h | h | h | h | h <;> simp [h]
  have hm' : m ∈ Ms := by
    simp only [Ms, List.mem_cons, List.not_mem_nil, or_false] at hm ⊢
    rcases hm with h | h | h | h | h <;> simp [h]
  have ho' : o ∈ Ns := by
    simp only [Ns, List.mem_cons, List.not_mem_nil, or_false] at ho ⊢
    rcases ho with h | h | h | h | h | h <;> simp [h]
  obtain ⟨r, hr, rfl⟩ : ∃ r ∈ Ps, q = pairD r := by
    simp only [List.mem_cons, List.not_mem_nil, or_false] at hq
    rcases hq with h | h | h | h | h | h | h | h
    · exact ⟨(1, 0), by simp [Ps], h⟩
    · exact ⟨(1, 0), by simp [Ps], h⟩
    · exact ⟨(1, 0), by simp [Ps], h⟩
    · exact ⟨(0, 1), by simp [Ps], h⟩
    · exact ⟨(2, 1), by simp [Ps], h⟩
    · exact ⟨(3, 2), by simp [Ps], h⟩
    · exact ⟨(0, 2), by simp [Ps], h⟩
    · exact ⟨(1, 2), by simp [Ps], h⟩
  refine ⟨⟨k, m, o, r.1, r.2⟩, mem_Pts hk' hm' ho' hr, ?_⟩
  refine (call_rt (fn := f_law_part) (x := .d (Pt.d ⟨k, m, o, r.1, r.2⟩)) (M' := M) rfl ?_).trans (by rw [fin_d, List.take_length])
  simp only [pairD] at e4
  simp -implicitDefEqProofs only [f_law_part, b_law_part, evS, evE, evL, evT, evI, evC, evP, fSeq, fSkip, fIfS, fRet, fRetN, fAsg, fAug2, fExp, fFor, fVar, fCon, fBin, fBl, fCons, fSCons, fNil, fApp, fCall, fTup, fLst, fCls, fIt, fNotT, fAndT, fOrT, fCmpT, fCh, fTru, fIf, fMeth, fSl, fPart, fNoPart, fRng, fZip, fRev, fIsi, isiG, tyName, fGlb, fRaise, fTry, fTryAs, fIsx, fNeg, fAndV, fOrV, Bi.g, Me.g, asgT_nm, asgT_tup, asgL_nil, asgL_cons, itemsS, startR, Res.bind_ok, Res.bind_exc, Res.bind_bad, Res.then_ok, Res.then_exc, Res.then_bad, SR.seq_nx, SR.seq_rt, SR.seq_bk, SR.seq_ct, SR.seq_exc, SR.seq_bad, ofO_some, ofO_none, List.map_cons, List.map_nil, List.length_cons, List.length_nil, List.cons_append, List.nil_append, List.replicate, List.getElem?_cons_zero, List.getElem?_cons_succ, List.set_cons_zero, List.set_cons_succ, Nat.reduceAdd, Nat.reduceSub, Option.map_some, Option.map_none, Option.bind_some, Option.bind_none, reduceIte, if_true, if_false, Bool.not_true, Bool.not_false, Bool.false_eq_true, decide_true, decide_false, if_pos, st_get, st_set, st_take, st_len, lst5, lst6, lst8, tup0, tup1, tup2, fdiv_int (show (0 : Int) < 5 ∧ (5 : Int) < 1073741824 by decide), fdiv_int (show (0 : Int) < 25 ∧ (25 : Int) < 1073741824 by decide), fdiv_int (show (0 : Int) < 150 ∧ (150 : Int) < 1073741824 by decide),
    mod_int (show (0 : Int) < 5 by decide), mod_int (show (0 : Int) < 6 by decide), mod_int (show (0 : Int) < 8 by decide), e1, e2, e3, e4, pairD, ix_p0, ix_p1, tup5, Pt.d]
def Ls : List D := [.str "child", .str "inside", .str "next", .str "after"]
theorem nle {ds ds' : List Int} (h : (ds = [] ∧ ds' = []) ∨ ds.length = ds'.length + 1) : ds'.length ≤ ds.length := by
  rcases h with ⟨rfl, rfl⟩ | h
  · exact Nat.le_refl _
  · omega
end TL.K03

set_option maxHeartbeats 400000
namespace TL.K03
open PySem PySem.Spec
open PyProof.Rows L2 TL
/-! ### what the law draws -/
abbrev slR (n : Int) (p l : Nat) (k : Option Vl) : Rho := [some (.loc 0), some (.d (.int n)), some (.loc p), some (.loc l), k]
abbrev m3 (R : Store) (ds : List Int) (ps ls : List D) : Store := dD ds :: (R ++ [Cell.lst ps, Cell.lst ls])
theorem m3_1 {R : Store} {ds : List Int} {ps ls : List D} : (m3 R ds ps ls)[R.length + 1]? = some (Cell.lst ps) := by simp
theorem m3_2 {R : Store} {ds : List Int} {ps ls : List D} : (m3 R ds ps ls)[R.length + 2]? = some (Cell.lst ls) := by simp
theorem m3_s1 {R : Store} {ds : List Int} {ps ls qs : List D} : (m3 R ds ps ls).set (R.length + 1) (Cell.lst qs) = m3 R ds qs ls := by simp
theorem m3_s2 {R : Store} {ds : List Int} {ps ls qs : List D} : (m3 R ds ps ls).set (R.length + 2) (Cell.lst qs) = m3 R ds ps qs := by
  show dD ds :: ((R ++ [Cell.lst ps, Cell.lst ls]).set (R.length + 1) (Cell.lst qs)) = _
  rw [List.set_append_right _ _ (by omega)]
  simp
theorem sl_loop {d : Nat} {R : Store} {m : Int} : ∀ (xs : List D) (ds : List Int) (ps ls : List D) (k : Option Vl), ps.length + xs.length ≤ 1000 → ls.length + xs.length ≤ 1000 →
    ∃ ds' ps' ls' k', forL (.nm 4) (evS g 100000 (C (d + 1)) w1_law_selector) xs (slR m (R.length + 1) (R.length + 2) k) (m3 R ds ps ls) = .nx (slR m (R.length + 1) (R.length + 2) k') (m3 R ds' (ps ++ ps') (ls ++ ls')) ∧
      ps'.length = xs.length ∧ ls'.length = xs.length ∧ (∀ p ∈ ps', ∃ q ∈ Pts, p = q.d) ∧ ∀ l ∈ ls', l ∈ Ls
  | [], ds, ps, ls, k, _, _ => ⟨ds, [], [], k, by simp [forL], rfl, rfl, by simp, by simp⟩
  | x :: xs, ds, ps, ls, k, h1, h2 => by
    simp only [List.length_cons] at h1 h2
    obtain ⟨n1, d1, e1, _⟩ := law_next_ok (d := d) (ds := ds) (R := R ++ [.lst ps, .lst ls])
    obtain ⟨l, hl, e2⟩ := t4 (a := .str "child") (b := .str "inside") (c := .str "next") (e := .str "after") (n := n1) (M := m3 R d1 ps ls)
    obtain ⟨n2, d2, e3, _⟩ := law_next_ok (d := d) (ds := d1) (R := R ++ [.lst ps, .lst (ls ++ [l])])
    obtain ⟨p, hp, e4⟩ := law_part_ok (d := d) (n := n2) (M := m3 R d2 ps (ls ++ [l]))
    obtain ⟨d3, ps', ls', k', e5, i1, i2, i3, i4⟩ := sl_loop (d := d) (R := R) (m := m) xs d2 (ps ++ [p.d]) (ls ++ [l]) (some (.d x)) (by simp; omega) (by simp; omega)
    have z1 : isLst (.loc (R.length + 2)) (m3 R ds ps ls) = true := by simp [isLst, lsq]
    have z2 : isLst (.loc (R.length + 1)) (m3 R d1 ps (ls ++ [l])) = true := by simp [isLst, lsq]
    have z3 : appendM (.loc (R.length + 2)) [.d l] (m3 R d1 ps ls) = some (.d .none, m3 R d1 ps (ls ++ [l])) := by
      have : ls.length < sizeLine := by simp only [sizeLine]; omega
      simp only [appendM, m3_2, this, if_true, m3_s2]
    have z4 : appendM (.loc (R.length + 1)) [.d p.d] (m3 R d2 ps (ls ++ [l])) = some (.d .none, m3 R d2 (ps ++ [p.d]) (ls ++ [l])) := by
      have : ps.length < sizeLine := by simp only [sizeLine]; omega
      simp only [appendM, m3_1, this, if_true, m3_s1]
    refine ⟨d3, p.d :: ps', l :: ls', k', ?_, by simp [i1], by simp [i2], ?_, ?_⟩
    · have e0 : List.set (slR m (R.length + 1) (R.length + 2) k) 4 (some (.d x)) = slR m (R.length + 1) (R.length + 2) (some (.d x)) := rfl
      have s : evS g 100000 (C (d + 1)) w1_law_selector (slR m (R.length + 1) (R.length + 2) (some (.d x))) (m3 R ds ps ls) = .nx (slR m (R.length + 1) (R.length + 2) (some (.d x))) (m3 R d2 (ps ++ [p.d]) (ls ++ [l])) := by
        simp -implicitDefEqProofs only [w1_law_selector, slR, evS, evE, evL, evT, evI, evC, evP, fSeq, fSkip, fIfS, fRet, fRetN, fAsg, fAug2, fExp, fFor, fVar, fCon, fBin, fBl, fCons, fSCons, fNil, fApp, fCall, fTup, fLst, fCls, fIt, fNotT, fAndT, fOrT, fCmpT, fCh, fTru, fIf, fMeth, fSl, fPart, fNoPart, fRng, fZip, fRev, fIsi, isiG, tyName, fGlb, fRaise, fTry, fTryAs, fIsx, fNeg, fAndV, fOrV, Bi.g, Me.g, asgT_nm, asgT_tup, asgL_nil, asgL_cons, itemsS, startR, Res.bind_ok, Res.bind_exc, Res.bind_bad, Res.then_ok, Res.then_exc, Res.then_bad, SR.seq_nx, SR.seq_rt, SR.seq_bk, SR.seq_ct, SR.seq_exc, SR.seq_bad, ofO_some, ofO_none, List.map_cons, List.map_nil, List.length_cons, List.length_nil, List.cons_append, List.nil_append, List.replicate, List.getElem?_cons_zero, List.getElem?_cons_succ, List.set_cons_zero, List.set_cons_succ, Nat.reduceAdd, Nat.reduceSub, Option.map_some, Option.map_none, Option.bind_some, Option.bind_none, reduceIte, if_true, if_false, Bool.not_true, Bool.not_false, Bool.false_eq_true, decide_true, decide_false, if_pos, st_get, st_set, st_take, st_len, z1, e1, lst4, mod_int (show (0 : Int) < 4 by decide), e2, z3, z2, e3, e4, z4]
      simp only [forL, asgT_nm, e0, s, e5]
      simp
    · intro q hq
      rcases List.mem_cons.mp hq with rfl | hq
      · exact ⟨p, hp, rfl⟩
      · exact i3 q hq
    · intro q hq
      rcases List.mem_cons.mp hq with rfl | hq
      · exact hl
      · exact i4 q hq
/-- a selector of the law: at most m parts -/
structure SelD (m : Nat) (x : D) : Prop where
  sh : ∃ ps ls, x = .tuple [.tuple ps, .tuple ls] ∧ (∀ p ∈ ps, ∃ q ∈ Pts, p = q.d) ∧ (∀ l ∈ ls, l ∈ Ls) ∧ ps.length = ls.length + 1 ∧ ps.length ≤ m
theorem law_selector_ok {d : Nat} {R : Store} {ds : List Int} {m : Nat} (hm : 0 < m) (hm2 : m ≤ 5) : ∃ x ds', callR false (C (d + 2) "_law_selector") [.loc 0, .d (.int m)] (dD ds :: R) = .ok (.d x) (dD ds' :: R) ∧ SelD m x := by
  obtain ⟨n1, d1, e1, _⟩ := law_next_ok (d := d) (ds := ds) (R := R)
  obtain ⟨p, hp, e2⟩ := law_part_ok (d := d) (n := n1) (M := dD d1 :: R)
  obtain ⟨n2, d2, e3, _⟩ := law_next_ok (d := d) (ds := d1) (R := R ++ [.lst [p.d], .lst []])
  obtain ⟨i, hi, hi5⟩ : ∃ i : Nat, n2 % (m : Int) = i ∧ i + 1 ≤ m := ⟨(n2 % (m : Int)).toNat, by
    have := Int.emod_nonneg n2 (show (m : Int) ≠ 0 by omega)
    omega, by
    have h1 := Int.emod_nonneg n2 (show (m : Int) ≠ 0 by omega)
    have h2 := Int.emod_lt_of_pos n2 (show (0 : Int) < m by omega)
    omega⟩
  obtain ⟨d3, ps', ls', k', e5, i1, i2, i3, i4⟩ := sl_loop (d := d) (R := R) (m := m) (rngD 0 i) d2 [p.d] [] none (by rw [rngD_length]; simp; omega) (by rw [rngD_length]; simp; omega)
  rw [rngD_length] at i1 i2
  refine ⟨_, d3, ?_, ⟨p.d :: ps', ls', rfl, ?_, i4, by simp [i1, i2], by simp [i1]; omega⟩⟩
  · refine (call_rt (fn := f_law_selector) (d := d + 1) (x := .d (.tuple [.tuple (p.d :: ps'), .tuple ls'])) (M' := m3 R d3 (p.d :: ps') ls') rfl ?_).trans (by rw [fin_d]; simp)
    have s1 : evS g 100000 (C (d + 1)) (.asg (.nm 2) (.cls (.cons (.call "_law_part" false (.cons (.call "_law_next" false (.cons (.var 0) .nil)) .nil)) .nil))) (startR f_law_selector.N.length [.loc 0, .d (.int m)]) (dD ds :: R) = .nx [some (.loc 0), some (.d (.int m)), some (.loc (R.length + 1)), none, none] (dD d1 :: (R ++ [.lst [p.d]])) := by
      simp -implicitDefEqProofs only [f_law_selector, evS, evE, evL, evT, evI, evC, evP, fSeq, fSkip, fIfS, fRet, fRetN, fAsg, fAug2, fExp, fFor, fVar, fCon, fBin, fBl, fCons, fSCons, fNil, fApp, fCall, fTup, fLst, fCls, fIt, fNotT, fAndT, fOrT, fCmpT, fCh, fTru, fIf, fMeth, fSl, fPart, fNoPart, fRng, fZip, fRev, fIsi, isiG, tyName, fGlb, fRaise, fTry, fTryAs, fIsx, fNeg, fAndV, fOrV, Bi.g, Me.g, asgT_nm, asgT_tup, asgL_nil, asgL_cons, itemsS, startR, Res.bind_ok, Res.bind_exc, Res.bind_bad, Res.then_ok, Res.then_exc, Res.then_bad, SR.seq_nx, SR.seq_rt, SR.seq_bk, SR.seq_ct, SR.seq_exc, SR.seq_bad, ofO_some, ofO_none, List.map_cons, List.map_nil, List.length_cons, List.length_nil, List.cons_append, List.nil_append, List.replicate, List.getElem?_cons_zero, List.getElem?_cons_succ, List.set_cons_zero, List.set_cons_succ, Nat.reduceAdd, Nat.reduceSub, Option.map_some, Option.map_none, Option.bind_some, Option.bind_none, reduceIte, if_true, if_false, Bool.not_true, Bool.not_false, Bool.false_eq_true, decide_true, decide_false, if_pos, st_get, st_set, st_take, st_len, e1, e2, lst1]
    have s2 : evS g 100000 (C (d + 1)) (.asg (.nm 3) (.cls .nil)) [some (.loc 0), some (.d (.int m)), some (.loc (R.length + 1)), none, none] (dD d1 :: (R ++ [.lst [p.d]])) = .nx (slR m (R.length + 1) (R.length + 2) none) (m3 R d1 [p.d] []) := by
      simp -implicitDefEqProofs only [slR, evS, evE, evL, evT, evI, evC, evP, fSeq, fSkip, fIfS, fRet, fRetN, fAsg, fAug2, fExp, fFor, fVar, fCon, fBin, fBl, fCons, fSCons, fNil, fApp, fCall, fTup, fLst, fCls, fIt, fNotT, fAndT, fOrT, fCmpT, fCh, fTru, fIf, fMeth, fSl, fPart, fNoPart, fRng, fZip, fRev, fIsi, isiG, tyName, fGlb, fRaise, fTry, fTryAs, fIsx, fNeg, fAndV, fOrV, Bi.g, Me.g, asgT_nm, asgT_tup, asgL_nil, asgL_cons, itemsS, startR, Res.bind_ok, Res.bind_exc, Res.bind_bad, Res.then_ok, Res.then_exc, Res.then_bad, SR.seq_nx, SR.seq_rt, SR.seq_bk, SR.seq_ct, SR.seq_exc, SR.seq_bad, ofO_some, ofO_none, List.map_cons, List.map_nil, List.length_cons, List.length_nil, List.cons_append, List.nil_append, List.replicate, List.getElem?_cons_zero, List.getElem?_cons_succ, List.set_cons_zero, List.set_cons_succ, Nat.reduceAdd, Nat.reduceSub, Option.map_some, Option.map_none, Option.bind_some, Option.bind_none, reduceIte, if_true, if_false, Bool.not_true, Bool.not_false, Bool.false_eq_true, decide_true, decide_false, if_pos, st_get, st_set, st_take, st_len, lst0, m3, List.append_assoc, List.length_append]
    have hx : evE g (C (d + 1)) (.bin .mod (.call "_law_next" false (.cons (.var 0) .nil)) (.var 1)) (slR m (R.length + 1) (R.length + 2) none) (m3 R d1 [p.d] []) = .ok (.d (.int i)) (m3 R d2 [p.d] []) := by
      simp -implicitDefEqProofs only [slR, evS, evE, evL, evT, evI, evC, evP, fSeq, fSkip, fIfS, fRet, fRetN, fAsg, fAug2, fExp, fFor, fVar, fCon, fBin, fBl, fCons, fSCons, fNil, fApp, fCall, fTup, fLst, fCls, fIt, fNotT, fAndT, fOrT, fCmpT, fCh, fTru, fIf, fMeth, fSl, fPart, fNoPart, fRng, fZip, fRev, fIsi, isiG, tyName, fGlb, fRaise, fTry, fTryAs, fIsx, fNeg, fAndV, fOrV, Bi.g, Me.g, asgT_nm, asgT_tup, asgL_nil, asgL_cons, itemsS, startR, Res.bind_ok, Res.bind_exc, Res.bind_bad, Res.then_ok, Res.then_exc, Res.then_bad, SR.seq_nx, SR.seq_rt, SR.seq_bk, SR.seq_ct, SR.seq_exc, SR.seq_bad, ofO_some, ofO_none, List.map_cons, List.map_nil, List.length_cons, List.length_nil, List.cons_append, List.nil_append, List.replicate, List.getElem?_cons_zero, List.getElem?_cons_succ, List.set_cons_zero, List.set_cons_succ, Nat.reduceAdd, Nat.reduceSub, Option.map_some, Option.map_none, Option.bind_some, Option.bind_none, reduceIte, if_true, if_false, Bool.not_true, Bool.not_false, Bool.false_eq_true, decide_true, decide_false, if_pos, st_get, st_set, st_take, st_len, e3, mod_int (show (0 : Int) < (m : Int) by omega), hi]
    have hf : evS g 100000 (C (d + 1)) (.forS (.nm 4) (.rng false (.cons (.bin .mod (.call "_law_next" false (.cons (.var 0) .nil)) (.var 1)) .nil)) w1_law_selector) (slR m (R.length + 1) (R.length + 2) none) (m3 R d1 [p.d] []) = .nx (slR m (R.length + 1) (R.length + 2) k') (m3 R d3 ([p.d] ++ ps') ([] ++ ls')) := by
      rw [evS_for]
      unfold fFor
      rw [show evI g (C (d + 1)) (.rng false (.cons (.bin .mod (.call "_law_next" false (.cons (.var 0) .nil)) (.var 1)) .nil)) = fRng false (evL g (C (d + 1)) (.cons (.bin .mod (.call "_law_next" false (.cons (.var 0) .nil)) (.var 1)) .nil)) by rw [evI]]
      unfold fRng
      rw [args1 hx, Res.bind_ok, rngG_fwd (by omega)]
      exact e5
    have ht1 : tupleG [.loc (R.length + 1)] (m3 R d3 (p.d :: ps') ls') = some (.d (.tuple (p.d :: ps')), m3 R d3 (p.d :: ps') ls') := by simp only [tupleG, sqn, m3_1]; rfl
    have ht2 : tupleG [.loc (R.length + 2)] (m3 R d3 (p.d :: ps') ls') = some (.d (.tuple ls'), m3 R d3 (p.d :: ps') ls') := by simp only [tupleG, sqn, m3_2]; rfl
    show evS g 100000 (C (d + 1)) b_law_selector _ _ = _
    rw [b_law_selector, seq_nx s1, seq_nx s2, seq_nx hf, ret_tail]
    simp -implicitDefEqProofs only [slR, evS, evE, evL, evT, evI, evC, evP, fSeq, fSkip, fIfS, fRet, fRetN, fAsg, fAug2, fExp, fFor, fVar, fCon, fBin, fBl, fCons, fSCons, fNil, fApp, fCall, fTup, fLst, fCls, fIt, fNotT, fAndT, fOrT, fCmpT, fCh, fTru, fIf, fMeth, fSl, fPart, fNoPart, fRng, fZip, fRev, fIsi, isiG, tyName, fGlb, fRaise, fTry, fTryAs, fIsx, fNeg, fAndV, fOrV, Bi.g, Me.g, asgT_nm, asgT_tup, asgL_nil, asgL_cons, itemsS, startR, Res.bind_ok, Res.bind_exc, Res.bind_bad, Res.then_ok, Res.then_exc, Res.then_bad, SR.seq_nx, SR.seq_rt, SR.seq_bk, SR.seq_ct, SR.seq_exc, SR.seq_bad, ofO_some, ofO_none, List.map_cons, List.map_nil, List.length_cons, List.length_nil, List.cons_append, List.nil_append, List.replicate, List.getElem?_cons_zero, List.getElem?_cons_succ, List.set_cons_zero, List.set_cons_succ, Nat.reduceAdd, Nat.reduceSub, Option.map_some, Option.map_none, Option.bind_some, Option.bind_none, reduceIte, if_true, if_false, Bool.not_true, Bool.not_false, Bool.false_eq_true, decide_true, decide_false, if_pos, st_get, st_set, st_take, st_len, ht1, ht2, tup2]
  · intro q hq
    rcases List.mem_cons.mp hq with rfl | hq
    · exact ⟨p, hp, rfl⟩
    · exact i3 q hq
/-! ### a comprehension that draws -/
theorem compF_draw {own : List Nat} {t : Tg} {te : RF Vl} {ρ : Rho} {R : Store} (P : D → Prop) : ∀ (xs : List D) (i : Nat) (acc : List D) (ds : List Int), acc.length ≤ i →
    (∀ x ∈ xs, ∃ ρ', asgT t (.d x) (wip ρ own) = some ρ' ∧ ∀ ds c, ∃ y ds', te ρ' (dD ds :: (R ++ [c])) = .ok (.d y) (dD ds' :: (R ++ [c])) ∧ P y) →
    ∃ ys ds', compF (R.length + 1) own t fYes te i xs ρ (dD ds :: (R ++ [Cell.lst acc])) = .ok () (dD ds' :: (R ++ [Cell.lst (acc ++ ys)])) ∧ ys.length = xs.length ∧ ∀ y ∈ ys, P y
  | [], i, acc, ds, _, _ => ⟨[], ds, by simp [compF], rfl, by simp⟩
  | x :: xs, i, acc, ds, hl, h => by
    obtain ⟨ρ', h1, h2⟩ := h x List.mem_cons_self
    obtain ⟨y, d1, e1, hp⟩ := h2 ds (.lst acc)
    obtain ⟨ys, d2, e2, hly, hP⟩ := compF_draw P xs (i + 1) (acc ++ [y]) d1 (by simp; omega) fun z hz => h z (List.mem_cons_of_mem _ hz)
    refine ⟨y :: ys, d2, ?_, by simp [hly], fun z hz => ?_⟩
    · have hyes : ∀ (r : Rho) (M : Store), fYes r M = .ok true M := fun _ _ => rfl
      have g1 : (dD d1 :: (R ++ [Cell.lst acc]))[R.length + 1]? = some (.lst acc) := by simp
      have g2 : (dD d1 :: (R ++ [Cell.lst acc])).set (R.length + 1) (.lst (acc ++ [y])) = dD d1 :: (R ++ [.lst (acc ++ [y])]) := by simp
      simp only [compF, h1, hyes, Res.bind_ok, if_true, e1, g1, hl, g2, e2]
      simp
    · rcases List.mem_cons.mp hz with rfl | hz
      · exact hp
      · exact hP z hz
theorem lc_draw {own : List Nat} {t : Tg} {fi : RF (List D)} {te : RF Vl} {ρ : Rho} {R : Store} {ds ds0 : List Int} {items : List D} (P : D → Prop) (hi : fi ρ (dD ds :: R) = .ok items (dD ds0 :: R))
    (h : ∀ x ∈ items, ∃ ρ', asgT t (.d x) (wip ρ own) = some ρ' ∧ ∀ ds c, ∃ y ds', te ρ' (dD ds :: (R ++ [c])) = .ok (.d y) (dD ds' :: (R ++ [c])) ∧ P y) :
    ∃ ys ds', fLc false own t fi fYes te ρ (dD ds :: R) = .ok (.d (.list ys)) (dD ds' :: R) ∧ ys.length = items.length ∧ ∀ y ∈ ys, P y := by
  obtain ⟨ys, ds', e, h1, h2⟩ := compF_draw P items 0 [] ds0 (by simp) h
  refine ⟨ys, ds', ?_, h1, h2⟩
  unfold fLc
  have g1 : (dD ds' :: (R ++ [Cell.lst ys]))[R.length + 1]? = some (Cell.lst ys) := by simp
  have g2 : (dD ds' :: (R ++ [Cell.lst ys])).take (R.length + 1) = dD ds' :: R := by simp
  rw [hi, Res.bind_ok]
  rw [show compF (dD ds0 :: R).length own t fYes te 0 items ρ ((dD ds0 :: R) ++ [Cell.lst []]) = .ok () (dD ds' :: (R ++ [Cell.lst ([] ++ ys)])) from e]
  show fin false (R.length + 1) (.loc (R.length + 1)) (dD ds' :: (R ++ [Cell.lst ys])) = _
  simp only [fin, Nat.lt_irrefl, if_false, g1, g2, Bool.false_eq_true]
end TL.K03

set_option maxHeartbeats 400000
namespace TL.K03
open PySem PySem.Spec
open PyProof.Rows L2 TL
/-! ### texts, as lists of signs -/
abbrev cs (x : Str) : List Nat := x.cps.toList
theorem cs_inj {x y : Str} (h : cs x = cs y) : x = y := by
  obtain ⟨a⟩ := x
  obtain ⟨b⟩ := y
  simp only [cs] at h
  exact congrArg Str.mk (Array.toList_inj.mp h)
theorem cs_app (x y : Str) : cs (x ++ y) = cs x ++ cs y := by
  show (x.cps ++ y.cps).toList = _
  rw [Array.toList_append]
theorem cs_len (x : Str) : (cs x).length = x.length := Array.length_toList
def joinL (s : List Nat) : List (List Nat) → List Nat
  | [] => []
  | [x] => x
  | x :: r => x ++ s ++ joinL s r
theorem cs_join (sep : Str) : ∀ ps : List Str, cs (Txt.join sep ps) = joinL (cs sep) (ps.map cs) := by
  intro ps
  show cs (Builtin.Str.glued sep ps) = _
  rw [StrLaws.glued_eq_join]
  induction ps with
  | nil => rfl
  | cons p r ih =>
    cases r with
    | nil => rfl
    | cons q r =>
      show cs (p ++ sep ++ Str.join sep (q :: r)) = _
      rw [cs_app, cs_app, ih]
      rfl
/-- the first sign of a kind tells where the first piece ends -/
theorem first_eq {c : Nat} : ∀ {p q u v : List Nat}, c ∉ p → c ∉ q → p ++ c :: u = q ++ c :: v → p = q ∧ u = v
  | [], [], u, v, _, _, h => by simpa using h
  | [], b :: q, u, v, _, hq, h => by
    simp only [List.nil_append, List.cons_append, List.cons.injEq] at h
    exact absurd (h.1 ▸ List.mem_cons_self) hq
  | a :: p, [], u, v, hp, _, h => by
    simp only [List.nil_append, List.cons_append, List.cons.injEq] at h
    exact absurd (h.1 ▸ List.mem_cons_self) hp
  | a :: p, b :: q, u, v, hp, hq, h => by
    simp only [List.cons_append, List.cons.injEq] at h
    obtain ⟨e1, e2⟩ := first_eq (fun z => hp (List.mem_cons_of_mem _ z)) (fun z => hq (List.mem_cons_of_mem _ z)) h.2
    exact ⟨by rw [h.1, e1], e2⟩
theorem join_inj {c : Nat} {t : List Nat} : ∀ {ps qs : List (List Nat)}, ps ≠ [] → qs ≠ [] → (∀ p ∈ ps, c ∉ p) → (∀ q ∈ qs, c ∉ q) → joinL (c :: t) ps = joinL (c :: t) qs → ps = qs
  | [], _, h, _, _, _, _ => absurd rfl h
  | _ :: _, [], _, h, _, _, _ => absurd rfl h
  | [p], [q], _, _, _, _, e => by simpa [joinL] using e
  | [p], q :: q2 :: r, _, _, hp, _, e => by
    have : c ∈ p := by
      rw [show p = q ++ (c :: t) ++ joinL (c :: t) (q2 :: r) from e]
      simp
    exact absurd this (hp p List.mem_cons_self)
  | p :: p2 :: r, [q], _, _, _, hq, e => by
    have : c ∈ q := by
      rw [show q = p ++ (c :: t) ++ joinL (c :: t) (p2 :: r) from e.symm]
      simp
    exact absurd this (hq q List.mem_cons_self)
  | p :: p2 :: r, q :: q2 :: r', _, _, hp, hq, e => by
    have e : p ++ (c :: t) ++ joinL (c :: t) (p2 :: r) = q ++ (c :: t) ++ joinL (c :: t) (q2 :: r') := e
    simp only [List.append_assoc, List.cons_append] at e
    obtain ⟨e1, e2⟩ := first_eq (hp p List.mem_cons_self) (hq q List.mem_cons_self) e
    have e3 := List.append_cancel_left e2
    have := join_inj (by simp) (by simp) (fun x hx => hp x (List.mem_cons_of_mem _ hx)) (fun x hx => hq x (List.mem_cons_of_mem _ hx)) e3
    rw [e1, this]
/-! ### split -/
theorem part_cfree (x y : Str) (c a b : Nat) (hb : b ≤ x.length) (hc : ∀ k, (cs x)[k]? = some c → StrLaws.At x y x.length k) (hn : ∀ k, a ≤ k → k < b → ¬ StrLaws.At x y x.length k) : c ∉ cs (Builtin.Str.strSub x a b) := by
  intro hm
  have e : cs (Builtin.Str.strSub x a b) = ((cs x).drop a).take (b - a) := StrLaws.strSub_toList x a b
  rw [e] at hm
  obtain ⟨j, hj⟩ := List.getElem?_of_mem hm
  have hlt : j < b - a := by
    have h1 := (List.getElem?_eq_some_iff.mp hj).1
    simp only [List.length_take] at h1
    omega
  rw [List.getElem?_take_of_lt hlt, List.getElem?_drop] at hj
  exact hn (a + j) (by omega) (by omega) (hc _ hj)
theorem parts_cfree (x y : Str) (c : Nat) (hc : ∀ k, (cs x)[k]? = some c → StrLaws.At x y x.length k) : ∀ (cuts : List Nat) (a f : Nat), StrLaws.ChainG x y x.length a cuts f → (∀ k, f ≤ k → ¬ StrLaws.At x y x.length k) → ∀ p ∈ StrLaws.partsFrom x y.length a cuts, c ∉ cs p
  | [], a, f, h, hn, p, hp => by
    have e : f = a := h
    subst e
    rw [List.mem_singleton.mp hp]
    exact part_cfree x y c f x.length (Nat.le_refl _) hc fun k h1 _ => hn k h1
  | d :: r, a, f, h, hn, p, hp => by
    rcases List.mem_cons.mp hp with rfl | hp'
    · exact part_cfree x y c a d (by have := h.2.1.1; omega) hc h.2.2.1
    · exact parts_cfree x y c hc r _ f h.2.2.2 hn p hp'
theorem split_cfree (x y : Str) (c : Nat) (hy : 1 ≤ y.length) (hc : ∀ k, (cs x)[k]? = some c → StrLaws.At x y x.length k) : ∀ p ∈ Txt.split x y, c ∉ cs p := by
  obtain ⟨f, hG, hn⟩ := StrLaws.occ_tight x y hy
  have whole : (∀ k, ¬ StrLaws.At x y x.length k) → c ∉ cs x := fun h hm => by
    obtain ⟨j, hj⟩ := List.getElem?_of_mem hm
    exact h j (hc j hj)
  unfold Txt.split
  split
  · rename_i h0
    intro p hp
    rw [List.mem_singleton.mp hp]
    refine whole fun k hA => ?_
    rw [Bool.or_eq_true, decide_eq_true_eq, decide_eq_true_eq] at h0
    rcases h0 with h | h
    · have := hA.1; omega
    · exact absurd (PySem.W.kind_le _ _ hA.2) (Nat.not_le.mpr h)
  · split
    · rename_i h1
      intro p hp
      rw [List.mem_singleton.mp hp]
      have e0 : Builtin.Str.occurrences x y 0 x.length (x.length + 1) = [] := List.isEmpty_iff.mp h1
      rw [e0] at hG
      have ef : f = 0 := hG
      exact whole fun k => hn k (by omega)
    · rw [StrLaws.partsBetween_eq]
      exact parts_cfree x y c hc _ 0 f hG hn
theorem split_ne (x y : Str) : Txt.split x y ≠ [] := by
  unfold Txt.split
  split
  · simp
  · split
    · simp
    · rw [StrLaws.partsBetween_eq]
      obtain ⟨p, r, e⟩ := StrLaws.partsFrom_ne x y.length 0 (Builtin.Str.occurrences x y 0 x.length (x.length + 1))
      rw [e]; simp
/-- split takes a join apart -/
theorem split_join {c : Nat} {t : List Nat} {sep : Str} (hs : cs sep = c :: t) (ht : c ∉ t) {ws : List Str} (hne : ws ≠ []) (hw : ∀ w ∈ ws, c ∉ cs w) : Txt.split (Txt.join sep ws) sep = ws := by
  have hj : Txt.join sep (Txt.split (Txt.join sep ws) sep) = Txt.join sep ws := by
    show Builtin.Str.glued sep _ = _
    rw [StrLaws.glued_eq_join, StrLaws.join_split]
  have h1 : 1 ≤ sep.length := by rw [← cs_len, hs]; simp
  -- every such sign begins a separator
  have gen : ∀ (qs : List (List Nat)), (∀ q ∈ qs, c ∉ q) → ∀ k, (joinL (c :: t) qs)[k]? = some c → ((joinL (c :: t) qs).drop k).take (c :: t).length = c :: t := by
    intro qs
    induction qs with
    | nil => intro _ k h; simp [joinL] at h
    | cons q r ih =>
      intro hq k h
      cases r with
      | nil => exact absurd (List.mem_of_getElem? (show q[k]? = some c from h)) (hq q List.mem_cons_self)
      | cons q2 r =>
        have e : joinL (c :: t) (q :: q2 :: r) = q ++ ((c :: t) ++ joinL (c :: t) (q2 :: r)) := by simp [joinL]
        rw [e] at h ⊢
        by_cases hk : k < q.length
        · rw [List.getElem?_append_left hk] at h
          exact absurd (List.mem_of_getElem? h) (hq q List.mem_cons_self)
        · rw [List.getElem?_append_right (by omega)] at h
          rw [List.drop_append, List.drop_eq_nil_of_le (by omega), List.nil_append]
          generalize k - q.length = j at h
          by_cases hj0 : j < (c :: t).length
          · rw [List.getElem?_append_left hj0] at h
            cases j with
            | zero => simp
            | succ j => exact absurd (List.mem_of_getElem? (show t[j]? = some c by simpa using h)) ht
          · rw [List.getElem?_append_right (by omega)] at h
            have := ih (fun x hx => hq x (List.mem_cons_of_mem _ hx)) _ h
            rw [List.drop_append, List.drop_eq_nil_of_le (by omega), List.nil_append]
            exact this
  have hc : ∀ k, (cs (Txt.join sep ws))[k]? = some c → StrLaws.At (Txt.join sep ws) sep (Txt.join sep ws).length k := fun k hk => by
    have hk' := hk
    rw [cs_join, hs] at hk
    have g1 := gen (ws.map cs) (fun q hq => by
      obtain ⟨w, hw', rfl⟩ := List.mem_map.mp hq
      exact hw w hw') k hk
    rw [← hs, ← cs_join, cs_len] at g1
    have g2 : ((cs (Txt.join sep ws)).drop k).length ≥ sep.length := by
      have := congrArg List.length g1
      rw [List.length_take, cs_len] at this
      omega
    have hlt := (List.getElem?_eq_some_iff.mp hk').1
    refine ⟨by rw [List.length_drop, cs_len] at g2; rw [cs_len] at hlt; omega, ?_⟩
    unfold Builtin.Str.subAt
    rw [beq_iff_eq]
    apply Array.toList_inj.mp
    rw [Array.toList_extract, List.extract_eq_take_drop]
    rw [show k + sep.length - k = sep.length by omega]
    exact g1
  have hf := split_cfree _ sep c h1 hc
  have e : joinL (c :: t) ((Txt.split (Txt.join sep ws) sep).map cs) = joinL (c :: t) (ws.map cs) := by
    rw [← hs, ← cs_join, ← cs_join, hj]
  have := join_inj (by simpa using split_ne _ _) (by simpa using hne) (fun p hp => by
    obtain ⟨w, hw', rfl⟩ := List.mem_map.mp hp
    exact hf w hw') (fun p hp => by
    obtain ⟨w, hw', rfl⟩ := List.mem_map.mp hp
    exact hw w hw') e
  exact (List.map_inj_right (fun _ _ h => cs_inj h)).mp this
/-- no piece is longer than the text -/
theorem joinL_le {s : List Nat} : ∀ {ps : List (List Nat)} {p : List Nat}, p ∈ ps → p.length ≤ (joinL s ps).length
  | [q], p, h => by rw [List.mem_singleton.mp h]; exact Nat.le_refl _
  | q :: q2 :: r, p, h => by
    have e : joinL s (q :: q2 :: r) = q ++ s ++ joinL s (q2 :: r) := rfl
    rw [e, List.length_append, List.length_append]
    rcases List.mem_cons.mp h with rfl | h
    · omega
    · have := joinL_le (s := s) h
      omega
theorem split_le {x y p : Str} (h : p ∈ Txt.split x y) : p.length ≤ x.length := by
  have hj : Txt.join y (Txt.split x y) = x := by
    show Builtin.Str.glued y _ = _
    rw [StrLaws.glued_eq_join, StrLaws.join_split]
  have := joinL_le (s := cs y) (ps := (Txt.split x y).map cs) (p := cs p) (List.mem_map.mpr ⟨p, h, rfl⟩)
  rw [← cs_join, hj, cs_len, cs_len] at this
  exact this
theorem sub_le {x : Str} {i j : Nat} : (Builtin.Str.strSub x i j).length ≤ x.length := by
  rw [← cs_len, ← cs_len]
  rw [show cs (Builtin.Str.strSub x i j) = ((cs x).drop i).take (j - i) from StrLaws.strSub_toList x i j]
  rw [List.length_take, List.length_drop]
  omega
theorem part_le {x y : Str} : (Txt.partition x y).1.length ≤ x.length ∧ (Txt.partition x y).2.2.length ≤ x.length := by
  unfold Txt.partition
  split
  · exact ⟨sub_le, sub_le⟩
  · exact ⟨Nat.le_refl _, Nat.zero_le _⟩
end TL.K03

set_option maxHeartbeats 400000
namespace TL.K03
open PySem PySem.Spec
open PyProof.Rows L2 TL
theorem con1 : List.lookup (Str.ofString "LONGEST_NAME") g.con = some (.int 12) := by rfl
theorem is_name_ok {d : Nat} {k : Bool} {v : D} {M : Store} (hv : noDict v = true) : callR k (C (d + 1) "is_name") [.d v] M = .ok (.d (.bool (isNm v))) M := by
  rw [callR_eq, C_succ (fn := f_is_name) rfl]
  cases v with
  | str s =>
    have hs : s.length ≤ sizeLine := of_decide_eq_true hv
    simp only [bodyF, f_is_name, b_is_name, evS, evE, evL, evT, evI, evC, evP, fSeq, fSkip, fIfS, fRet, fRetN, fAsg, fAug2, fExp, fFor, fVar, fCon, fBin, fBl, fCons, fSCons, fNil, fApp, fCall, fTup, fLst, fCls, fIt, fNotT, fAndT, fOrT, fCmpT, fCh, fTru, fIf, fMeth, fSl, fPart, fNoPart, fRng, fZip, fRev, fIsi, isiG, tyName, fGlb, fRaise, fTry, fTryAs, fIsx, fNeg, fAndV, fOrV, Bi.g, Me.g, asgT_nm, asgT_tup, asgL_nil, asgL_cons, itemsS, startR, Res.bind_ok, Res.bind_exc, Res.bind_bad, Res.then_ok, Res.then_exc, Res.then_bad, SR.seq_nx, SR.seq_rt, SR.seq_bk, SR.seq_ct, SR.seq_exc, SR.seq_bad, ofO_some, ofO_none, List.map_cons, List.map_nil, List.length_cons, List.length_nil, List.cons_append, List.nil_append, List.replicate, List.getElem?_cons_zero, List.getElem?_cons_succ, List.set_cons_zero, List.set_cons_succ, Nat.reduceAdd, Nat.reduceSub, Option.map_some, Option.map_none, Option.bind_some, Option.bind_none, reduceIte, if_true, if_false, Bool.not_true, Bool.not_false, Bool.false_eq_true, decide_true, decide_false, if_pos, st_get, st_set, st_take, st_len, ty1, tru, len_s hs, le_int, con1]
    by_cases h1 : (1 : Int) ≤ s.length
    · by_cases h2 : (s.length : Int) ≤ 12
      · simp only [h1, h2, evS, evE, evL, evT, evI, evC, evP, fSeq, fSkip, fIfS, fRet, fRetN, fAsg, fAug2, fExp, fFor, fVar, fCon, fBin, fBl, fCons, fSCons, fNil, fApp, fCall, fTup, fLst, fCls, fIt, fNotT, fAndT, fOrT, fCmpT, fCh, fTru, fIf, fMeth, fSl, fPart, fNoPart, fRng, fZip, fRev, fIsi, isiG, tyName, fGlb, fRaise, fTry, fTryAs, fIsx, fNeg, fAndV, fOrV, Bi.g, Me.g, asgT_nm, asgT_tup, asgL_nil, asgL_cons, itemsS, startR, Res.bind_ok, Res.bind_exc, Res.bind_bad, Res.then_ok, Res.then_exc, Res.then_bad, SR.seq_nx, SR.seq_rt, SR.seq_bk, SR.seq_ct, SR.seq_exc, SR.seq_bad, ofO_some, ofO_none, List.map_cons, List.map_nil, List.length_cons, List.length_nil, List.cons_append, List.nil_append, List.replicate, List.getElem?_cons_zero, List.getElem?_cons_succ, List.set_cons_zero, List.set_cons_succ, Nat.reduceAdd, Nat.reduceSub, Option.map_some, Option.map_none, Option.bind_some, Option.bind_none, reduceIte, if_true, if_false, Bool.not_true, Bool.not_false, Bool.false_eq_true, decide_true, decide_false, if_pos, st_get, st_set, st_take, st_len, tru]
        rw [lc_all (fun x => .bool (inAZ x)) (items := chD s) (by simp only [fIt, fVar, itemsOf, evS, evE, evL, evT, evI, evC, evP, fSeq, fSkip, fIfS, fRet, fRetN, fAsg, fAug2, fExp, fFor, fVar, fCon, fBin, fBl, fCons, fSCons, fNil, fApp, fCall, fTup, fLst, fCls, fIt, fNotT, fAndT, fOrT, fCmpT, fCh, fTru, fIf, fMeth, fSl, fPart, fNoPart, fRng, fZip, fRev, fIsi, isiG, tyName, fGlb, fRaise, fTry, fTryAs, fIsx, fNeg, fAndV, fOrV, Bi.g, Me.g, asgT_nm, asgT_tup, asgL_nil, asgL_cons, itemsS, startR, Res.bind_ok, Res.bind_exc, Res.bind_bad, Res.then_ok, Res.then_exc, Res.then_bad, SR.seq_nx, SR.seq_rt, SR.seq_bk, SR.seq_ct, SR.seq_exc, SR.seq_bad, ofO_some, ofO_none, List.map_cons, List.map_nil, List.length_cons, List.length_nil, List.cons_append, List.nil_append, List.replicate, List.getElem?_cons_zero, List.getElem?_cons_succ, List.set_cons_zero, List.set_cons_succ, Nat.reduceAdd, Nat.reduceSub, Option.map_some, Option.map_none, Option.bind_some, Option.bind_none, reduceIte, if_true, if_false, Bool.not_true, Bool.not_false, Bool.false_eq_true, decide_true, decide_false, if_pos, st_get, st_set, st_take, st_len, hs])]
        · simp only [evS, evE, evL, evT, evI, evC, evP, fSeq, fSkip, fIfS, fRet, fRetN, fAsg, fAug2, fExp, fFor, fVar, fCon, fBin, fBl, fCons, fSCons, fNil, fApp, fCall, fTup, fLst, fCls, fIt, fNotT, fAndT, fOrT, fCmpT, fCh, fTru, fIf, fMeth, fSl, fPart, fNoPart, fRng, fZip, fRev, fIsi, isiG, tyName, fGlb, fRaise, fTry, fTryAs, fIsx, fNeg, fAndV, fOrV, Bi.g, Me.g, asgT_nm, asgT_tup, asgL_nil, asgL_cons, itemsS, startR, Res.bind_ok, Res.bind_exc, Res.bind_bad, Res.then_ok, Res.then_exc, Res.then_bad, SR.seq_nx, SR.seq_rt, SR.seq_bk, SR.seq_ct, SR.seq_exc, SR.seq_bad, ofO_some, ofO_none, List.map_cons, List.map_nil, List.length_cons, List.length_nil, List.cons_append, List.nil_append, List.replicate, List.getElem?_cons_zero, List.getElem?_cons_succ, List.set_cons_zero, List.set_cons_succ, Nat.reduceAdd, Nat.reduceSub, Option.map_some, Option.map_none, Option.bind_some, Option.bind_none, reduceIte, if_true, if_false, Bool.not_true, Bool.not_false, Bool.false_eq_true, decide_true, decide_false, if_pos, st_get, st_set, st_take, st_len, all_map, onlyX, fin, List.take_length, isNm, h1, h2, Bool.true_and]
        · intro x hx
          obtain ⟨c, _, rfl⟩ := List.mem_map.mp hx
          refine ⟨[some (.d (.str s)), some (.d (.str ⟨#[c]⟩))], rfl, fun c' => ?_⟩
          simp only [evS, evE, evL, evT, evI, evC, evP, fSeq, fSkip, fIfS, fRet, fRetN, fAsg, fAug2, fExp, fFor, fVar, fCon, fBin, fBl, fCons, fSCons, fNil, fApp, fCall, fTup, fLst, fCls, fIt, fNotT, fAndT, fOrT, fCmpT, fCh, fTru, fIf, fMeth, fSl, fPart, fNoPart, fRng, fZip, fRev, fIsi, isiG, tyName, fGlb, fRaise, fTry, fTryAs, fIsx, fNeg, fAndV, fOrV, Bi.g, Me.g, asgT_nm, asgT_tup, asgL_nil, asgL_cons, itemsS, startR, Res.bind_ok, Res.bind_exc, Res.bind_bad, Res.then_ok, Res.then_exc, Res.then_bad, SR.seq_nx, SR.seq_rt, SR.seq_bk, SR.seq_ct, SR.seq_exc, SR.seq_bad, ofO_some, ofO_none, List.map_cons, List.map_nil, List.length_cons, List.length_nil, List.cons_append, List.nil_append, List.replicate, List.getElem?_cons_zero, List.getElem?_cons_succ, List.set_cons_zero, List.set_cons_succ, Nat.reduceAdd, Nat.reduceSub, Option.map_some, Option.map_none, Option.bind_some, Option.bind_none, reduceIte, if_true, if_false, Bool.not_true, Bool.not_false, Bool.false_eq_true, decide_true, decide_false, if_pos, st_get, st_set, st_take, st_len, le_str, inAZ]
          cases leS "a" ⟨#[c]⟩ <;> simp
      · simp [h1, h2, onlyX, fin, isNm]
    · simp [h1, onlyX, fin, isNm]
  | dict _ => cases hv
  | _ => simp only [bodyF, f_is_name, b_is_name, evS, evE, evL, evT, evI, evC, evP, fSeq, fSkip, fIfS, fRet, fRetN, fAsg, fAug2, fExp, fFor, fVar, fCon, fBin, fBl, fCons, fSCons, fNil, fApp, fCall, fTup, fLst, fCls, fIt, fNotT, fAndT, fOrT, fCmpT, fCh, fTru, fIf, fMeth, fSl, fPart, fNoPart, fRng, fZip, fRev, fIsi, isiG, tyName, fGlb, fRaise, fTry, fTryAs, fIsx, fNeg, fAndV, fOrV, Bi.g, Me.g, asgT_nm, asgT_tup, asgL_nil, asgL_cons, itemsS, startR, Res.bind_ok, Res.bind_exc, Res.bind_bad, Res.then_ok, Res.then_exc, Res.then_bad, SR.seq_nx, SR.seq_rt, SR.seq_bk, SR.seq_ct, SR.seq_exc, SR.seq_bad, ofO_some, ofO_none, List.map_cons, List.map_nil, List.length_cons, List.length_nil, List.cons_append, List.nil_append, List.replicate, List.getElem?_cons_zero, List.getElem?_cons_succ, List.set_cons_zero, List.set_cons_succ, Nat.reduceAdd, Nat.reduceSub, Option.map_some, Option.map_none, Option.bind_some, Option.bind_none, reduceIte, if_true, if_false, Bool.not_true, Bool.not_false, Bool.false_eq_true, decide_true, decide_false, if_pos, st_get, st_set, st_take, st_len, tyN1, tyN2, tyN3, tyN4, tyN5, tru, onlyX, fin, List.take_length, isNm]
def strD : D → Str
  | .str s => s
  | _ => Str.empty
def pairLt : D → Bool
  | .tuple [.str a, .str b] => ltS a b
  | _ => false
def risesD (xs : List D) : Bool := (zipD xs (xs.drop 1)).all pairLt
theorem is_rising_ok {d : Nat} {k : Bool} {xs : List D} {M : Store} (hv : xs.all isStr = true) : callR k (C (d + 1) "is_rising") [.d (.tuple xs)] M = .ok (.d (.bool (risesD xs))) M := by
  rw [callR_eq, C_succ (fn := f_is_rising) rfl]
  simp only [bodyF, f_is_rising, b_is_rising, evS, evE, evL, evT, evI, evC, evP, fSeq, fSkip, fIfS, fRet, fRetN, fAsg, fAug2, fExp, fFor, fVar, fCon, fBin, fBl, fCons, fSCons, fNil, fApp, fCall, fTup, fLst, fCls, fIt, fNotT, fAndT, fOrT, fCmpT, fCh, fTru, fIf, fMeth, fSl, fPart, fNoPart, fRng, fZip, fRev, fIsi, isiG, tyName, fGlb, fRaise, fTry, fTryAs, fIsx, fNeg, fAndV, fOrV, Bi.g, Me.g, asgT_nm, asgT_tup, asgL_nil, asgL_cons, itemsS, startR, Res.bind_ok, Res.bind_exc, Res.bind_bad, Res.then_ok, Res.then_exc, Res.then_bad, SR.seq_nx, SR.seq_rt, SR.seq_bk, SR.seq_ct, SR.seq_exc, SR.seq_bad, ofO_some, ofO_none, List.map_cons, List.map_nil, List.length_cons, List.length_nil, List.cons_append, List.nil_append, List.replicate, List.getElem?_cons_zero, List.getElem?_cons_succ, List.set_cons_zero, List.set_cons_succ, Nat.reduceAdd, Nat.reduceSub, Option.map_some, Option.map_none, Option.bind_some, Option.bind_none, reduceIte, if_true, if_false, Bool.not_true, Bool.not_false, Bool.false_eq_true, decide_true, decide_false, if_pos, st_get, st_set, st_take, st_len]
  rw [lc_all (fun x => .bool (pairLt x)) (items := zipD xs (xs.drop 1)) (by simp only [fZip, fVar, fSl, fPart, fCon, fNoPart, sl2, cutD_1, zipG, evS, evE, evL, evT, evI, evC, evP, fSeq, fSkip, fIfS, fRet, fRetN, fAsg, fAug2, fExp, fFor, fVar, fCon, fBin, fBl, fCons, fSCons, fNil, fApp, fCall, fTup, fLst, fCls, fIt, fNotT, fAndT, fOrT, fCmpT, fCh, fTru, fIf, fMeth, fSl, fPart, fNoPart, fRng, fZip, fRev, fIsi, isiG, tyName, fGlb, fRaise, fTry, fTryAs, fIsx, fNeg, fAndV, fOrV, Bi.g, Me.g, asgT_nm, asgT_tup, asgL_nil, asgL_cons, itemsS, startR, Res.bind_ok, Res.bind_exc, Res.bind_bad, Res.then_ok, Res.then_exc, Res.then_bad, SR.seq_nx, SR.seq_rt, SR.seq_bk, SR.seq_ct, SR.seq_exc, SR.seq_bad, ofO_some, ofO_none, List.map_cons, List.map_nil, List.length_cons, List.length_nil, List.cons_append, List.nil_append, List.replicate, List.getElem?_cons_zero, List.getElem?_cons_succ, List.set_cons_zero, List.set_cons_succ, Nat.reduceAdd, Nat.reduceSub, Option.map_some, Option.map_none, Option.bind_some, Option.bind_none, reduceIte, if_true, if_false, Bool.not_true, Bool.not_false, Bool.false_eq_true, decide_true, decide_false, if_pos, st_get, st_set, st_take, st_len])]
  · simp only [evS, evE, evL, evT, evI, evC, evP, fSeq, fSkip, fIfS, fRet, fRetN, fAsg, fAug2, fExp, fFor, fVar, fCon, fBin, fBl, fCons, fSCons, fNil, fApp, fCall, fTup, fLst, fCls, fIt, fNotT, fAndT, fOrT, fCmpT, fCh, fTru, fIf, fMeth, fSl, fPart, fNoPart, fRng, fZip, fRev, fIsi, isiG, tyName, fGlb, fRaise, fTry, fTryAs, fIsx, fNeg, fAndV, fOrV, Bi.g, Me.g, asgT_nm, asgT_tup, asgL_nil, asgL_cons, itemsS, startR, Res.bind_ok, Res.bind_exc, Res.bind_bad, Res.then_ok, Res.then_exc, Res.then_bad, SR.seq_nx, SR.seq_rt, SR.seq_bk, SR.seq_ct, SR.seq_exc, SR.seq_bad, ofO_some, ofO_none, List.map_cons, List.map_nil, List.length_cons, List.length_nil, List.cons_append, List.nil_append, List.replicate, List.getElem?_cons_zero, List.getElem?_cons_succ, List.set_cons_zero, List.set_cons_succ, Nat.reduceAdd, Nat.reduceSub, Option.map_some, Option.map_none, Option.bind_some, Option.bind_none, reduceIte, if_true, if_false, Bool.not_true, Bool.not_false, Bool.false_eq_true, decide_true, decide_false, if_pos, st_get, st_set, st_take, st_len, all_map, onlyX, fin, List.take_length, risesD]
  · intro x hx
    unfold zipD at hx
    obtain ⟨p, hp, rfl⟩ := List.mem_map.mp hx
    have h1 : p.1 ∈ xs := (List.of_mem_zip (a := p.1) (b := p.2) hp).1
    have h2 : p.2 ∈ xs := List.mem_of_mem_drop (List.of_mem_zip (a := p.1) (b := p.2) hp).2
    have s1 := List.all_eq_true.mp hv _ h1
    have s2 := List.all_eq_true.mp hv _ h2
    obtain ⟨a, b⟩ := p
    cases a <;> simp [isStr] at s1
    cases b <;> simp [isStr] at s2
    refine ⟨_, rfl, fun c' => ?_⟩
    simp only [evS, evE, evL, evT, evI, evC, evP, fSeq, fSkip, fIfS, fRet, fRetN, fAsg, fAug2, fExp, fFor, fVar, fCon, fBin, fBl, fCons, fSCons, fNil, fApp, fCall, fTup, fLst, fCls, fIt, fNotT, fAndT, fOrT, fCmpT, fCh, fTru, fIf, fMeth, fSl, fPart, fNoPart, fRng, fZip, fRev, fIsi, isiG, tyName, fGlb, fRaise, fTry, fTryAs, fIsx, fNeg, fAndV, fOrV, Bi.g, Me.g, asgT_nm, asgT_tup, asgL_nil, asgL_cons, itemsS, startR, Res.bind_ok, Res.bind_exc, Res.bind_bad, Res.then_ok, Res.then_exc, Res.then_bad, SR.seq_nx, SR.seq_rt, SR.seq_bk, SR.seq_ct, SR.seq_exc, SR.seq_bad, ofO_some, ofO_none, List.map_cons, List.map_nil, List.length_cons, List.length_nil, List.cons_append, List.nil_append, List.replicate, List.getElem?_cons_zero, List.getElem?_cons_succ, List.set_cons_zero, List.set_cons_succ, Nat.reduceAdd, Nat.reduceSub, Option.map_some, Option.map_none, Option.bind_some, Option.bind_none, reduceIte, if_true, if_false, Bool.not_true, Bool.not_false, Bool.false_eq_true, decide_true, decide_false, if_pos, st_get, st_set, st_take, st_len, lt_str, pairLt, wip, List.set_nil]
def marksOk (m : Int) : D → Bool
  | .tuple xs => decide ((xs.length : Int) ≤ m) && (xs.all isNm && risesD xs)
  | _ => false
theorem are_marks_ok {d : Nat} {k : Bool} {v : D} {m : Int} {M : Store} (hv : noDict v = true) (hx : ∀ xs, v = .tuple xs → xs.all noDict = true) : callR k (C (d + 2) "are_marks") [.d v, .d (.int m)] M = .ok (.d (.bool (marksOk m v))) M := by
  rw [callR_eq, C_succ (fn := f_are_marks) rfl]
  cases v with
  | tuple xs =>
    have hx := hx xs rfl
    simp only [bodyF, f_are_marks, b_are_marks, evS, evE, evL, evT, evI, evC, evP, fSeq, fSkip, fIfS, fRet, fRetN, fAsg, fAug2, fExp, fFor, fVar, fCon, fBin, fBl, fCons, fSCons, fNil, fApp, fCall, fTup, fLst, fCls, fIt, fNotT, fAndT, fOrT, fCmpT, fCh, fTru, fIf, fMeth, fSl, fPart, fNoPart, fRng, fZip, fRev, fIsi, isiG, tyName, fGlb, fRaise, fTry, fTryAs, fIsx, fNeg, fAndV, fOrV, Bi.g, Me.g, asgT_nm, asgT_tup, asgL_nil, asgL_cons, itemsS, startR, Res.bind_ok, Res.bind_exc, Res.bind_bad, Res.then_ok, Res.then_exc, Res.then_bad, SR.seq_nx, SR.seq_rt, SR.seq_bk, SR.seq_ct, SR.seq_exc, SR.seq_bad, ofO_some, ofO_none, List.map_cons, List.map_nil, List.length_cons, List.length_nil, List.cons_append, List.nil_append, List.replicate, List.getElem?_cons_zero, List.getElem?_cons_succ, List.set_cons_zero, List.set_cons_succ, Nat.reduceAdd, Nat.reduceSub, Option.map_some, Option.map_none, Option.bind_some, Option.bind_none, reduceIte, if_true, if_false, Bool.not_true, Bool.not_false, Bool.false_eq_true, decide_true, decide_false, if_pos, st_get, st_set, st_take, st_len, ty2, tru, len_d, gt_int]
    by_cases h1 : m < (xs.length : Int)
    · have h2 : ¬ (xs.length : Int) ≤ m := by omega
      simp [h1, h2, onlyX, fin, marksOk]
    · have h2 : (xs.length : Int) ≤ m := by omega
      simp only [h1, evS, evE, evL, evT, evI, evC, evP, fSeq, fSkip, fIfS, fRet, fRetN, fAsg, fAug2, fExp, fFor, fVar, fCon, fBin, fBl, fCons, fSCons, fNil, fApp, fCall, fTup, fLst, fCls, fIt, fNotT, fAndT, fOrT, fCmpT, fCh, fTru, fIf, fMeth, fSl, fPart, fNoPart, fRng, fZip, fRev, fIsi, isiG, tyName, fGlb, fRaise, fTry, fTryAs, fIsx, fNeg, fAndV, fOrV, Bi.g, Me.g, asgT_nm, asgT_tup, asgL_nil, asgL_cons, itemsS, startR, Res.bind_ok, Res.bind_exc, Res.bind_bad, Res.then_ok, Res.then_exc, Res.then_bad, SR.seq_nx, SR.seq_rt, SR.seq_bk, SR.seq_ct, SR.seq_exc, SR.seq_bad, ofO_some, ofO_none, List.map_cons, List.map_nil, List.length_cons, List.length_nil, List.cons_append, List.nil_append, List.replicate, List.getElem?_cons_zero, List.getElem?_cons_succ, List.set_cons_zero, List.set_cons_succ, Nat.reduceAdd, Nat.reduceSub, Option.map_some, Option.map_none, Option.bind_some, Option.bind_none, reduceIte, if_true, if_false, Bool.not_true, Bool.not_false, Bool.false_eq_true, decide_true, decide_false, if_pos, st_get, st_set, st_take, st_len]
      rw [lc_all (fun x => .bool (isNm x)) (items := xs) (by simp only [fIt, fVar, itemsOf, evS, evE, evL, evT, evI, evC, evP, fSeq, fSkip, fIfS, fRet, fRetN, fAsg, fAug2, fExp, fFor, fVar, fCon, fBin, fBl, fCons, fSCons, fNil, fApp, fCall, fTup, fLst, fCls, fIt, fNotT, fAndT, fOrT, fCmpT, fCh, fTru, fIf, fMeth, fSl, fPart, fNoPart, fRng, fZip, fRev, fIsi, isiG, tyName, fGlb, fRaise, fTry, fTryAs, fIsx, fNeg, fAndV, fOrV, Bi.g, Me.g, asgT_nm, asgT_tup, asgL_nil, asgL_cons, itemsS, startR, Res.bind_ok, Res.bind_exc, Res.bind_bad, Res.then_ok, Res.then_exc, Res.then_bad, SR.seq_nx, SR.seq_rt, SR.seq_bk, SR.seq_ct, SR.seq_exc, SR.seq_bad, ofO_some, ofO_none, List.map_cons, List.map_nil, List.length_cons, List.length_nil, List.cons_append, List.nil_append, List.replicate, List.getElem?_cons_zero, List.getElem?_cons_succ, List.set_cons_zero, List.set_cons_succ, Nat.reduceAdd, Nat.reduceSub, Option.map_some, Option.map_none, Option.bind_some, Option.bind_none, reduceIte, if_true, if_false, Bool.not_true, Bool.not_false, Bool.false_eq_true, decide_true, decide_false, if_pos, st_get, st_set, st_take, st_len])]
      · simp only [evS, evE, evL, evT, evI, evC, evP, fSeq, fSkip, fIfS, fRet, fRetN, fAsg, fAug2, fExp, fFor, fVar, fCon, fBin, fBl, fCons, fSCons, fNil, fApp, fCall, fTup, fLst, fCls, fIt, fNotT, fAndT, fOrT, fCmpT, fCh, fTru, fIf, fMeth, fSl, fPart, fNoPart, fRng, fZip, fRev, fIsi, isiG, tyName, fGlb, fRaise, fTry, fTryAs, fIsx, fNeg, fAndV, fOrV, Bi.g, Me.g, asgT_nm, asgT_tup, asgL_nil, asgL_cons, itemsS, startR, Res.bind_ok, Res.bind_exc, Res.bind_bad, Res.then_ok, Res.then_exc, Res.then_bad, SR.seq_nx, SR.seq_rt, SR.seq_bk, SR.seq_ct, SR.seq_exc, SR.seq_bad, ofO_some, ofO_none, List.map_cons, List.map_nil, List.length_cons, List.length_nil, List.cons_append, List.nil_append, List.replicate, List.getElem?_cons_zero, List.getElem?_cons_succ, List.set_cons_zero, List.set_cons_succ, Nat.reduceAdd, Nat.reduceSub, Option.map_some, Option.map_none, Option.bind_some, Option.bind_none, reduceIte, if_true, if_false, Bool.not_true, Bool.not_false, Bool.false_eq_true, decide_true, decide_false, if_pos, st_get, st_set, st_take, st_len, all_map, tru]
        cases hA : xs.all isNm with
        | false => simp [hA, h2, onlyX, fin, marksOk]
        | true =>
          simp only [evS, evE, evL, evT, evI, evC, evP, fSeq, fSkip, fIfS, fRet, fRetN, fAsg, fAug2, fExp, fFor, fVar, fCon, fBin, fBl, fCons, fSCons, fNil, fApp, fCall, fTup, fLst, fCls, fIt, fNotT, fAndT, fOrT, fCmpT, fCh, fTru, fIf, fMeth, fSl, fPart, fNoPart, fRng, fZip, fRev, fIsi, isiG, tyName, fGlb, fRaise, fTry, fTryAs, fIsx, fNeg, fAndV, fOrV, Bi.g, Me.g, asgT_nm, asgT_tup, asgL_nil, asgL_cons, itemsS, startR, Res.bind_ok, Res.bind_exc, Res.bind_bad, Res.then_ok, Res.then_exc, Res.then_bad, SR.seq_nx, SR.seq_rt, SR.seq_bk, SR.seq_ct, SR.seq_exc, SR.seq_bad, ofO_some, ofO_none, List.map_cons, List.map_nil, List.length_cons, List.length_nil, List.cons_append, List.nil_append, List.replicate, List.getElem?_cons_zero, List.getElem?_cons_succ, List.set_cons_zero, List.set_cons_succ, Nat.reduceAdd, Nat.reduceSub, Option.map_some, Option.map_none, Option.bind_some, Option.bind_none, reduceIte, if_true, if_false, Bool.not_true, Bool.not_false, Bool.false_eq_true, decide_true, decide_false, if_pos, st_get, st_set, st_take, st_len]
          rw [is_rising_ok (List.all_eq_true.mpr fun x hx => isNm_str (List.all_eq_true.mp hA x hx))]
          simp [hA, h2, onlyX, fin, marksOk]
      · intro x hx2
        refine ⟨_, rfl, fun c' => ?_⟩
        simp only [evS, evE, evL, evT, evI, evC, evP, fSeq, fSkip, fIfS, fRet, fRetN, fAsg, fAug2, fExp, fFor, fVar, fCon, fBin, fBl, fCons, fSCons, fNil, fApp, fCall, fTup, fLst, fCls, fIt, fNotT, fAndT, fOrT, fCmpT, fCh, fTru, fIf, fMeth, fSl, fPart, fNoPart, fRng, fZip, fRev, fIsi, isiG, tyName, fGlb, fRaise, fTry, fTryAs, fIsx, fNeg, fAndV, fOrV, Bi.g, Me.g, asgT_nm, asgT_tup, asgL_nil, asgL_cons, itemsS, startR, Res.bind_ok, Res.bind_exc, Res.bind_bad, Res.then_ok, Res.then_exc, Res.then_bad, SR.seq_nx, SR.seq_rt, SR.seq_bk, SR.seq_ct, SR.seq_exc, SR.seq_bad, ofO_some, ofO_none, List.map_cons, List.map_nil, List.length_cons, List.length_nil, List.cons_append, List.nil_append, List.replicate, List.getElem?_cons_zero, List.getElem?_cons_succ, List.set_cons_zero, List.set_cons_succ, Nat.reduceAdd, Nat.reduceSub, Option.map_some, Option.map_none, Option.bind_some, Option.bind_none, reduceIte, if_true, if_false, Bool.not_true, Bool.not_false, Bool.false_eq_true, decide_true, decide_false, if_pos, st_get, st_set, st_take, st_len, wip, List.set_nil]
        rw [is_name_ok (List.all_eq_true.mp hx x hx2)]
  | dict _ => cases hv
  | _ => simp only [bodyF, f_are_marks, b_are_marks, evS, evE, evL, evT, evI, evC, evP, fSeq, fSkip, fIfS, fRet, fRetN, fAsg, fAug2, fExp, fFor, fVar, fCon, fBin, fBl, fCons, fSCons, fNil, fApp, fCall, fTup, fLst, fCls, fIt, fNotT, fAndT, fOrT, fCmpT, fCh, fTru, fIf, fMeth, fSl, fPart, fNoPart, fRng, fZip, fRev, fIsi, isiG, tyName, fGlb, fRaise, fTry, fTryAs, fIsx, fNeg, fAndV, fOrV, Bi.g, Me.g, asgT_nm, asgT_tup, asgL_nil, asgL_cons, itemsS, startR, Res.bind_ok, Res.bind_exc, Res.bind_bad, Res.then_ok, Res.then_exc, Res.then_bad, SR.seq_nx, SR.seq_rt, SR.seq_bk, SR.seq_ct, SR.seq_exc, SR.seq_bad, ofO_some, ofO_none, List.map_cons, List.map_nil, List.length_cons, List.length_nil, List.cons_append, List.nil_append, List.replicate, List.getElem?_cons_zero, List.getElem?_cons_succ, List.set_cons_zero, List.set_cons_succ, Nat.reduceAdd, Nat.reduceSub, Option.map_some, Option.map_none, Option.bind_some, Option.bind_none, reduceIte, if_true, if_false, Bool.not_true, Bool.not_false, Bool.false_eq_true, decide_true, decide_false, if_pos, st_get, st_set, st_take, st_len, tyT1, tyT2, tyT3, tyT4, tyT5, tru, onlyX, fin, List.take_length, marksOk]
theorem cn1 : List.lookup (Str.ofString "MOST_PARTS") g.con = some (.int 5) := by rfl
theorem cn2 : List.lookup (Str.ofString "LINKS") g.con = some (.tuple Ls) := by rfl
theorem cn3 : List.lookup (Str.ofString "MOST_SELECTORS") g.con = some (.int 6) := by rfl
theorem sub_int {a b : Int} {M : Store} : bin2 .sub (.d (.int a)) (.d (.int b)) M = some (.d (.int (a - b))) := rfl
def isLn : D → Bool
  | .str l => l == "child" || (l == "inside" || (l == "next" || l == "after"))
  | _ => false
theorem ln_in {l : D} (h : l ∈ .str "under" :: Ls) (M : Store) : cmp2 .in_ (.d l) (.d (.tuple Ls)) M = some (isLn l) := by
  simp only [Ls, List.mem_cons, List.not_mem_nil, or_false] at h
  rcases h with rfl | rfl | rfl | rfl | rfl <;> rfl
abbrev isS (d : Nat) (x : D) (M : Store) : Res Vl := callR false (C (d + 5) "_is_selector") [.d x] M
abbrev bR (b : Bool) (M : Store) : Res Vl := .ok (.d (.bool b)) M
theorem sel_len {d : Nat} {ps ls : List D} {M : Store} (h : ¬ (1 ≤ ps.length ∧ ps.length ≤ 5 ∧ ls.length + 1 = ps.length)) : isS d (.tuple [.tuple ps, .tuple ls]) M = bR false M := by
  refine (call_rt (fn := f_is_selector) (d := d + 4) (x := .d (.bool false)) (M' := M) rfl ?_).trans (by rw [fin_d, List.take_length])
  have e2 : ¬ ¬ ((([PyData.tuple ps, PyData.tuple ls].length : Nat) : Int) = 2) := by simp
  have e3 : (!decide ((([PyData.tuple ps, PyData.tuple ls].length : Nat) : Int) = 2)) = false := by simp
  simp only [List.length_cons, List.length_nil] at e3
  by_cases h1 : (1 : Int) ≤ (ps.length : Int)
  · by_cases h2 : (ps.length : Int) ≤ 5
    · have h3 : ¬ ((ls.length : Int) = (ps.length : Int) - 1) := by omega
      simp -implicitDefEqProofs only [f_is_selector, b_is_selector, evS, evE, evL, evT, evI, evC, evP, fSeq, fSkip, fIfS, fRet, fRetN, fAsg, fAug2, fExp, fFor, fVar, fCon, fBin, fBl, fCons, fSCons, fNil, fApp, fCall, fTup, fLst, fCls, fIt, fNotT, fAndT, fOrT, fCmpT, fCh, fTru, fIf, fMeth, fSl, fPart, fNoPart, fRng, fZip, fRev, fIsi, isiG, tyName, fGlb, fRaise, fTry, fTryAs, fIsx, fNeg, fAndV, fOrV, Bi.g, Me.g, asgT_nm, asgT_tup, asgL_nil, asgL_cons, itemsS, startR, Res.bind_ok, Res.bind_exc, Res.bind_bad, Res.then_ok, Res.then_exc, Res.then_bad, SR.seq_nx, SR.seq_rt, SR.seq_bk, SR.seq_ct, SR.seq_exc, SR.seq_bad, ofO_some, ofO_none, List.map_cons, List.map_nil, List.length_cons, List.length_nil, List.cons_append, List.nil_append, List.replicate, List.getElem?_cons_zero, List.getElem?_cons_succ, List.set_cons_zero, List.set_cons_succ, Nat.reduceAdd, Nat.reduceSub, Option.map_some, Option.map_none, Option.bind_some, Option.bind_none, reduceIte, if_true, if_false, Bool.not_true, Bool.not_false, Bool.false_eq_true, decide_true, decide_false, if_pos, st_get, st_set, st_take, st_len, ty2, truB, len_d, ne_int, e3, tyn, cn1, le_int, h1, h2, sub_int, h3]
    · simp -implicitDefEqProofs only [f_is_selector, b_is_selector, evS, evE, evL, evT, evI, evC, evP, fSeq, fSkip, fIfS, fRet, fRetN, fAsg, fAug2, fExp, fFor, fVar, fCon, fBin, fBl, fCons, fSCons, fNil, fApp, fCall, fTup, fLst, fCls, fIt, fNotT, fAndT, fOrT, fCmpT, fCh, fTru, fIf, fMeth, fSl, fPart, fNoPart, fRng, fZip, fRev, fIsi, isiG, tyName, fGlb, fRaise, fTry, fTryAs, fIsx, fNeg, fAndV, fOrV, Bi.g, Me.g, asgT_nm, asgT_tup, asgL_nil, asgL_cons, itemsS, startR, Res.bind_ok, Res.bind_exc, Res.bind_bad, Res.then_ok, Res.then_exc, Res.then_bad, SR.seq_nx, SR.seq_rt, SR.seq_bk, SR.seq_ct, SR.seq_exc, SR.seq_bad, ofO_some, ofO_none, List.map_cons, List.map_nil, List.length_cons, List.length_nil, List.cons_append, List.nil_append, List.replicate, List.getElem?_cons_zero, List.getElem?_cons_succ, List.set_cons_zero, List.set_cons_succ, Nat.reduceAdd, Nat.reduceSub, Option.map_some, Option.map_none, Option.bind_some, Option.bind_none, reduceIte, if_true, if_false, Bool.not_true, Bool.not_false, Bool.false_eq_true, decide_true, decide_false, if_pos, st_get, st_set, st_take, st_len, ty2, truB, len_d, ne_int, e3, cn1, le_int, h1, h2]
  · simp -implicitDefEqProofs only [f_is_selector, b_is_selector, evS, evE, evL, evT, evI, evC, evP, fSeq, fSkip, fIfS, fRet, fRetN, fAsg, fAug2, fExp, fFor, fVar, fCon, fBin, fBl, fCons, fSCons, fNil, fApp, fCall, fTup, fLst, fCls, fIt, fNotT, fAndT, fOrT, fCmpT, fCh, fTru, fIf, fMeth, fSl, fPart, fNoPart, fRng, fZip, fRev, fIsi, isiG, tyName, fGlb, fRaise, fTry, fTryAs, fIsx, fNeg, fAndV, fOrV, Bi.g, Me.g, asgT_nm, asgT_tup, asgL_nil, asgL_cons, itemsS, startR, Res.bind_ok, Res.bind_exc, Res.bind_bad, Res.then_ok, Res.then_exc, Res.then_bad, SR.seq_nx, SR.seq_rt, SR.seq_bk, SR.seq_ct, SR.seq_exc, SR.seq_bad, ofO_some, ofO_none, List.map_cons, List.map_nil, List.length_cons, List.length_nil, List.cons_append, List.nil_append, List.replicate, List.getElem?_cons_zero, List.getElem?_cons_succ, List.set_cons_zero, List.set_cons_succ, Nat.reduceAdd, Nat.reduceSub, Option.map_some, Option.map_none, Option.bind_some, Option.bind_none, reduceIte, if_true, if_false, Bool.not_true, Bool.not_false, Bool.false_eq_true, decide_true, decide_false, if_pos, st_get, st_set, st_take, st_len, ty2, truB, len_d, ne_int, e3, cn1, le_int, h1]
theorem sel_ok {d : Nat} {ps ls : List D} {M : Store} (fp : D → Bool) (h1 : 1 ≤ ps.length) (h2 : ps.length ≤ 5) (h3 : ls.length + 1 = ps.length) (hp : ∀ p ∈ ps, ∀ c', callR false (C (d + 4) "_is_part") [.d p] (M ++ [c']) = .ok (.d (.bool (fp p))) (M ++ [c'])) (hl : ∀ l ∈ ls, l ∈ .str "under" :: Ls) :
    isS d (.tuple [.tuple ps, .tuple ls]) M = bR (ps.all fp && ls.all isLn) M := by
  refine (call_rt (fn := f_is_selector) (d := d + 4) (x := .d (.bool (ps.all fp && ls.all isLn))) (M' := M) rfl ?_).trans (by rw [fin_d, List.take_length])
  have e3 : (!decide ((([PyData.tuple ps, PyData.tuple ls].length : Nat) : Int) = 2)) = false := by simp
  simp only [List.length_cons, List.length_nil] at e3
  have i1 : (1 : Int) ≤ (ps.length : Int) := by omega
  have i2 : (ps.length : Int) ≤ 5 := by omega
  have i3 : (ls.length : Int) = (ps.length : Int) - 1 := by omega
  simp -implicitDefEqProofs only [f_is_selector, b_is_selector, evS, evE, evL, evT, evI, evC, evP, fSeq, fSkip, fIfS, fRet, fRetN, fAsg, fAug2, fExp, fFor, fVar, fCon, fBin, fBl, fCons, fSCons, fNil, fApp, fCall, fTup, fLst, fCls, fIt, fNotT, fAndT, fOrT, fCmpT, fCh, fTru, fIf, fMeth, fSl, fPart, fNoPart, fRng, fZip, fRev, fIsi, isiG, tyName, fGlb, fRaise, fTry, fTryAs, fIsx, fNeg, fAndV, fOrV, Bi.g, Me.g, asgT_nm, asgT_tup, asgL_nil, asgL_cons, itemsS, startR, Res.bind_ok, Res.bind_exc, Res.bind_bad, Res.then_ok, Res.then_exc, Res.then_bad, SR.seq_nx, SR.seq_rt, SR.seq_bk, SR.seq_ct, SR.seq_exc, SR.seq_bad, ofO_some, ofO_none, List.map_cons, List.map_nil, List.length_cons, List.length_nil, List.cons_append, List.nil_append, List.replicate, List.getElem?_cons_zero, List.getElem?_cons_succ, List.set_cons_zero, List.set_cons_succ, Nat.reduceAdd, Nat.reduceSub, Option.map_some, Option.map_none, Option.bind_some, Option.bind_none, reduceIte, if_true, if_false, Bool.not_true, Bool.not_false, Bool.false_eq_true, decide_true, decide_false, if_pos, st_get, st_set, st_take, st_len, ty2, truB, len_d, ne_int, e3, cn1, le_int, i1, i2, sub_int, i3]
  rw [lc_all (fun x => .bool (fp x)) (items := ps) (by simp -implicitDefEqProofs only [fIt, fVar, itemsOf, evS, evE, evL, evT, evI, evC, evP, fSeq, fSkip, fIfS, fRet, fRetN, fAsg, fAug2, fExp, fFor, fVar, fCon, fBin, fBl, fCons, fSCons, fNil, fApp, fCall, fTup, fLst, fCls, fIt, fNotT, fAndT, fOrT, fCmpT, fCh, fTru, fIf, fMeth, fSl, fPart, fNoPart, fRng, fZip, fRev, fIsi, isiG, tyName, fGlb, fRaise, fTry, fTryAs, fIsx, fNeg, fAndV, fOrV, Bi.g, Me.g, asgT_nm, asgT_tup, asgL_nil, asgL_cons, itemsS, startR, Res.bind_ok, Res.bind_exc, Res.bind_bad, Res.then_ok, Res.then_exc, Res.then_bad, SR.seq_nx, SR.seq_rt, SR.seq_bk, SR.seq_ct, SR.seq_exc, SR.seq_bad, ofO_some, ofO_none, List.map_cons, List.map_nil, List.length_cons, List.length_nil, List.cons_append, List.nil_append, List.replicate, List.getElem?_cons_zero, List.getElem?_cons_succ, List.set_cons_zero, List.set_cons_succ, Nat.reduceAdd, Nat.reduceSub, Option.map_some, Option.map_none, Option.bind_some, Option.bind_none, reduceIte, if_true, if_false, Bool.not_true, Bool.not_false, Bool.false_eq_true, decide_true, decide_false, if_pos, st_get, st_set, st_take, st_len])]
  · simp -implicitDefEqProofs only [evS, evE, evL, evT, evI, evC, evP, fSeq, fSkip, fIfS, fRet, fRetN, fAsg, fAug2, fExp, fFor, fVar, fCon, fBin, fBl, fCons, fSCons, fNil, fApp, fCall, fTup, fLst, fCls, fIt, fNotT, fAndT, fOrT, fCmpT, fCh, fTru, fIf, fMeth, fSl, fPart, fNoPart, fRng, fZip, fRev, fIsi, isiG, tyName, fGlb, fRaise, fTry, fTryAs, fIsx, fNeg, fAndV, fOrV, Bi.g, Me.g, asgT_nm, asgT_tup, asgL_nil, asgL_cons, itemsS, startR, Res.bind_ok, Res.bind_exc, Res.bind_bad, Res.then_ok, Res.then_exc, Res.then_bad, SR.seq_nx, SR.seq_rt, SR.seq_bk, SR.seq_ct, SR.seq_exc, SR.seq_bad, ofO_some, ofO_none, List.map_cons, List.map_nil, List.length_cons, List.length_nil, List.cons_append, List.nil_append, List.replicate, List.getElem?_cons_zero, List.getElem?_cons_succ, List.set_cons_zero, List.set_cons_succ, Nat.reduceAdd, Nat.reduceSub, Option.map_some, Option.map_none, Option.bind_some, Option.bind_none, reduceIte, if_true, if_false, Bool.not_true, Bool.not_false, Bool.false_eq_true, decide_true, decide_false, if_pos, st_get, st_set, st_take, st_len, all_map, truB]
    cases hA : ps.all fp with
    | false => simp
    | true =>
      simp -implicitDefEqProofs only [evS, evE, evL, evT, evI, evC, evP, fSeq, fSkip, fIfS, fRet, fRetN, fAsg, fAug2, fExp, fFor, fVar, fCon, fBin, fBl, fCons, fSCons, fNil, fApp, fCall, fTup, fLst, fCls, fIt, fNotT, fAndT, fOrT, fCmpT, fCh, fTru, fIf, fMeth, fSl, fPart, fNoPart, fRng, fZip, fRev, fIsi, isiG, tyName, fGlb, fRaise, fTry, fTryAs, fIsx, fNeg, fAndV, fOrV, Bi.g, Me.g, asgT_nm, asgT_tup, asgL_nil, asgL_cons, itemsS, startR, Res.bind_ok, Res.bind_exc, Res.bind_bad, Res.then_ok, Res.then_exc, Res.then_bad, SR.seq_nx, SR.seq_rt, SR.seq_bk, SR.seq_ct, SR.seq_exc, SR.seq_bad, ofO_some, ofO_none, List.map_cons, List.map_nil, List.length_cons, List.length_nil, List.cons_append, List.nil_append, List.replicate, List.getElem?_cons_zero, List.getElem?_cons_succ, List.set_cons_zero, List.set_cons_succ, Nat.reduceAdd, Nat.reduceSub, Option.map_some, Option.map_none, Option.bind_some, Option.bind_none, reduceIte, if_true, if_false, Bool.not_true, Bool.not_false, Bool.false_eq_true, decide_true, decide_false, if_pos, st_get, st_set, st_take, st_len, Bool.true_and]
      rw [lc_all (fun x => .bool (isLn x)) (items := ls) (by simp -implicitDefEqProofs only [fIt, fVar, itemsOf, evS, evE, evL, evT, evI, evC, evP, fSeq, fSkip, fIfS, fRet, fRetN, fAsg, fAug2, fExp, fFor, fVar, fCon, fBin, fBl, fCons, fSCons, fNil, fApp, fCall, fTup, fLst, fCls, fIt, fNotT, fAndT, fOrT, fCmpT, fCh, fTru, fIf, fMeth, fSl, fPart, fNoPart, fRng, fZip, fRev, fIsi, isiG, tyName, fGlb, fRaise, fTry, fTryAs, fIsx, fNeg, fAndV, fOrV, Bi.g, Me.g, asgT_nm, asgT_tup, asgL_nil, asgL_cons, itemsS, startR, Res.bind_ok, Res.bind_exc, Res.bind_bad, Res.then_ok, Res.then_exc, Res.then_bad, SR.seq_nx, SR.seq_rt, SR.seq_bk, SR.seq_ct, SR.seq_exc, SR.seq_bad, ofO_some, ofO_none, List.map_cons, List.map_nil, List.length_cons, List.length_nil, List.cons_append, List.nil_append, List.replicate, List.getElem?_cons_zero, List.getElem?_cons_succ, List.set_cons_zero, List.set_cons_succ, Nat.reduceAdd, Nat.reduceSub, Option.map_some, Option.map_none, Option.bind_some, Option.bind_none, reduceIte, if_true, if_false, Bool.not_true, Bool.not_false, Bool.false_eq_true, decide_true, decide_false, if_pos, st_get, st_set, st_take, st_len])]
      · simp -implicitDefEqProofs only [evS, evE, evL, evT, evI, evC, evP, fSeq, fSkip, fIfS, fRet, fRetN, fAsg, fAug2, fExp, fFor, fVar, fCon, fBin, fBl, fCons, fSCons, fNil, fApp, fCall, fTup, fLst, fCls, fIt, fNotT, fAndT, fOrT, fCmpT, fCh, fTru, fIf, fMeth, fSl, fPart, fNoPart, fRng, fZip, fRev, fIsi, isiG, tyName, fGlb, fRaise, fTry, fTryAs, fIsx, fNeg, fAndV, fOrV, Bi.g, Me.g, asgT_nm, asgT_tup, asgL_nil, asgL_cons, itemsS, startR, Res.bind_ok, Res.bind_exc, Res.bind_bad, Res.then_ok, Res.then_exc, Res.then_bad, SR.seq_nx, SR.seq_rt, SR.seq_bk, SR.seq_ct, SR.seq_exc, SR.seq_bad, ofO_some, ofO_none, List.map_cons, List.map_nil, List.length_cons, List.length_nil, List.cons_append, List.nil_append, List.replicate, List.getElem?_cons_zero, List.getElem?_cons_succ, List.set_cons_zero, List.set_cons_succ, Nat.reduceAdd, Nat.reduceSub, Option.map_some, Option.map_none, Option.bind_some, Option.bind_none, reduceIte, if_true, if_false, Bool.not_true, Bool.not_false, Bool.false_eq_true, decide_true, decide_false, if_pos, st_get, st_set, st_take, st_len, all_map]
      · intro x hx
        refine ⟨_, rfl, fun c' => ?_⟩
        simp -implicitDefEqProofs only [evS, evE, evL, evT, evI, evC, evP, fSeq, fSkip, fIfS, fRet, fRetN, fAsg, fAug2, fExp, fFor, fVar, fCon, fBin, fBl, fCons, fSCons, fNil, fApp, fCall, fTup, fLst, fCls, fIt, fNotT, fAndT, fOrT, fCmpT, fCh, fTru, fIf, fMeth, fSl, fPart, fNoPart, fRng, fZip, fRev, fIsi, isiG, tyName, fGlb, fRaise, fTry, fTryAs, fIsx, fNeg, fAndV, fOrV, Bi.g, Me.g, asgT_nm, asgT_tup, asgL_nil, asgL_cons, itemsS, startR, Res.bind_ok, Res.bind_exc, Res.bind_bad, Res.then_ok, Res.then_exc, Res.then_bad, SR.seq_nx, SR.seq_rt, SR.seq_bk, SR.seq_ct, SR.seq_exc, SR.seq_bad, ofO_some, ofO_none, List.map_cons, List.map_nil, List.length_cons, List.length_nil, List.cons_append, List.nil_append, List.replicate, List.getElem?_cons_zero, List.getElem?_cons_succ, List.set_cons_zero, List.set_cons_succ, Nat.reduceAdd, Nat.reduceSub, Option.map_some, Option.map_none, Option.bind_some, Option.bind_none, reduceIte, if_true, if_false, Bool.not_true, Bool.not_false, Bool.false_eq_true, decide_true, decide_false, if_pos, st_get, st_set, st_take, st_len, wip, List.set_nil, cn2, ln_in (hl x hx)]
  · intro x hx
    refine ⟨_, rfl, fun c' => ?_⟩
    have := hp x hx c'
    simp -implicitDefEqProofs only [evS, evE, evL, evT, evI, evC, evP, fSeq, fSkip, fIfS, fRet, fRetN, fAsg, fAug2, fExp, fFor, fVar, fCon, fBin, fBl, fCons, fSCons, fNil, fApp, fCall, fTup, fLst, fCls, fIt, fNotT, fAndT, fOrT, fCmpT, fCh, fTru, fIf, fMeth, fSl, fPart, fNoPart, fRng, fZip, fRev, fIsi, isiG, tyName, fGlb, fRaise, fTry, fTryAs, fIsx, fNeg, fAndV, fOrV, Bi.g, Me.g, asgT_nm, asgT_tup, asgL_nil, asgL_cons, itemsS, startR, Res.bind_ok, Res.bind_exc, Res.bind_bad, Res.then_ok, Res.then_exc, Res.then_bad, SR.seq_nx, SR.seq_rt, SR.seq_bk, SR.seq_ct, SR.seq_exc, SR.seq_bad, ofO_some, ofO_none, List.map_cons, List.map_nil, List.length_cons, List.length_nil, List.cons_append, List.nil_append, List.replicate, List.getElem?_cons_zero, List.getElem?_cons_succ, List.set_cons_zero, List.set_cons_succ, Nat.reduceAdd, Nat.reduceSub, Option.map_some, Option.map_none, Option.bind_some, Option.bind_none, reduceIte, if_true, if_false, Bool.not_true, Bool.not_false, Bool.false_eq_true, decide_true, decide_false, if_pos, st_get, st_set, st_take, st_len, wip, List.set_nil]
    exact this
theorem exS : g.exs.contains (Str.ofString "BadSelector") = true := by decide +kernel
theorem exmS : g.exm.lookup (Str.ofString "BadSelector", Str.ofString "BadSelector") = some true := by decide +kernel
theorem chk_ok {d : Nat} {b : Bool} {v : D} {M : Store} (h : isS d v M = bR true M) : callR b (C (d + 6) "check_selector") [.d v] M = .ok (.d v) M := by
  refine (call_rt (fn := f_check_selector) (d := d + 5) (x := .d v) (M' := M) rfl ?_).trans (by rw [fin_d, List.take_length])
  have h' : callR false (C (d + 5) "_is_selector") [.d v] M = .ok (.d (.bool true)) M := h
  simp -implicitDefEqProofs only [f_check_selector, b_check_selector, evS, evE, evL, evT, evI, evC, evP, fSeq, fSkip, fIfS, fRet, fRetN, fAsg, fAug2, fExp, fFor, fVar, fCon, fBin, fBl, fCons, fSCons, fNil, fApp, fCall, fTup, fLst, fCls, fIt, fNotT, fAndT, fOrT, fCmpT, fCh, fTru, fIf, fMeth, fSl, fPart, fNoPart, fRng, fZip, fRev, fIsi, isiG, tyName, fGlb, fRaise, fTry, fTryAs, fIsx, fNeg, fAndV, fOrV, Bi.g, Me.g, asgT_nm, asgT_tup, asgL_nil, asgL_cons, itemsS, startR, Res.bind_ok, Res.bind_exc, Res.bind_bad, Res.then_ok, Res.then_exc, Res.then_bad, SR.seq_nx, SR.seq_rt, SR.seq_bk, SR.seq_ct, SR.seq_exc, SR.seq_bad, ofO_some, ofO_none, List.map_cons, List.map_nil, List.length_cons, List.length_nil, List.cons_append, List.nil_append, List.replicate, List.getElem?_cons_zero, List.getElem?_cons_succ, List.set_cons_zero, List.set_cons_succ, Nat.reduceAdd, Nat.reduceSub, Option.map_some, Option.map_none, Option.bind_some, Option.bind_none, reduceIte, if_true, if_false, Bool.not_true, Bool.not_false, Bool.false_eq_true, decide_true, decide_false, if_pos, st_get, st_set, st_take, st_len, h', truB]
theorem chk_bad {d : Nat} {b : Bool} {v : D} {M : Store} (h : isS d v M = bR false M) : callR b (C (d + 6) "check_selector") [.d v] M = .exc "BadSelector" M := by
  have h' : callR false (C (d + 5) "_is_selector") [.d v] M = .ok (.d (.bool false)) M := h
  refine (call_ex (fn := f_check_selector) (d := d + 5) (c := "BadSelector") (M' := M) (ρ' := [some (.d v)]) rfl ?_ exS).trans (by rw [List.take_length])
  simp -implicitDefEqProofs only [f_check_selector, b_check_selector, evS, evE, evL, evT, evI, evC, evP, fSeq, fSkip, fIfS, fRet, fRetN, fAsg, fAug2, fExp, fFor, fVar, fCon, fBin, fBl, fCons, fSCons, fNil, fApp, fCall, fTup, fLst, fCls, fIt, fNotT, fAndT, fOrT, fCmpT, fCh, fTru, fIf, fMeth, fSl, fPart, fNoPart, fRng, fZip, fRev, fIsi, isiG, tyName, fGlb, fRaise, fTry, fTryAs, fIsx, fNeg, fAndV, fOrV, Bi.g, Me.g, asgT_nm, asgT_tup, asgL_nil, asgL_cons, itemsS, startR, Res.bind_ok, Res.bind_exc, Res.bind_bad, Res.then_ok, Res.then_exc, Res.then_bad, SR.seq_nx, SR.seq_rt, SR.seq_bk, SR.seq_ct, SR.seq_exc, SR.seq_bad, ofO_some, ofO_none, List.map_cons, List.map_nil, List.length_cons, List.length_nil, List.cons_append, List.nil_append, List.replicate, List.getElem?_cons_zero, List.getElem?_cons_succ, List.set_cons_zero, List.set_cons_succ, Nat.reduceAdd, Nat.reduceSub, Option.map_some, Option.map_none, Option.bind_some, Option.bind_none, reduceIte, if_true, if_false, Bool.not_true, Bool.not_false, Bool.false_eq_true, decide_true, decide_false, if_pos, st_get, st_set, st_take, st_len, h', truB]
theorem ls_plain : Ls.all (fun p => PySem.W.alike p p && decide (p.depth ≤ 3)) = true := by decide +kernel
theorem all_plain {P : D → Bool} (hP : ∀ x, P x = (PySem.W.alike x x && decide (x.depth ≤ 3))) : ∀ xs : List D, (∀ x ∈ xs, P x = true) → PySem.W.alikeAll xs xs = true ∧ PyData.depthAll xs ≤ 3
  | [], _ => ⟨by simp [PySem.W.alikeAll], by simp [PyData.depthAll]⟩
  | x :: xs, h => by
    have h1 := h x List.mem_cons_self
    rw [hP, Bool.and_eq_true, decide_eq_true_eq] at h1
    obtain ⟨b1, b2⟩ := all_plain hP xs fun y hy => h y (List.mem_cons_of_mem _ hy)
    exact ⟨by simp [PySem.W.alikeAll, h1.1, b1], by simp only [PyData.depthAll]; omega⟩
abbrev plain (x : D) : Bool := PySem.W.alike x x && decide (x.depth ≤ 3)
theorem pl_ln {x : D} (h : x ∈ Ls) : plain x = true := List.all_eq_true.mp ls_plain x h
theorem eq_of_alike {x : D} (h : PySem.W.alike x x = true ∧ x.depth ≤ 63) : PyData.eqv x x = true ∧ dOk x x = true :=
  ⟨PySem.W.eqv_refl_alike _ h.1, by simp only [dOk]; simp; omega⟩
theorem ls_isLn : ∀ l ∈ Ls, isLn l = true := by
  intro l h
  simp only [Ls, List.mem_cons, List.not_mem_nil, or_false] at h
  rcases h with rfl | rfl | rfl | rfl <;> decide +kernel
theorem asg_of {C' : CallF} {i : Nat} {e : E} {x : Vl} {ρ : Rho} {M M' : Store} (h : evE g C' e ρ M = .ok x M') : evS g 100000 C' (.asg (.nm i) e) ρ M = .nx (ρ.set i (some x)) M' := by
  simp -implicitDefEqProofs only [evS, fAsg, h, Res.then_ok, asgT_nm]
theorem ret_of {C' : CallF} {e : E} {x : Vl} {b : S} {ρ : Rho} {M M' : Store} (h : evE g C' e ρ M = .ok x M') : evS g 100000 C' (.cons (.ret e) b) ρ M = .rt x M' := by
  simp -implicitDefEqProofs only [evS, fSeq, fRet, h, Res.then_ok, SR.seq_rt]
theorem ix_by {C' : CallF} {X Y : E} {x y z : Vl} {ρ : Rho} {M : Store} (h1 : evE g C' X ρ M = .ok x M) (h2 : evE g C' Y ρ M = .ok y M) (h : ix2 x y M = some z) : evE g C' (.ix X Y) ρ M = .ok z M := by
  simp -implicitDefEqProofs only [evE, fBin, h1, h2, Res.bind_ok, h, ofO_some]

/-! ### what may have been read -/
structure PP where
  k : Option Str
  ms : List Str
  ts : List (Bool × Str)
  s : Int
  f : Int
def tst (t : Bool × Str) : D := .tuple [.str (if t.1 then "mark" else "kind"), .str t.2]
def kd : Option Str → D
  | none => .none
  | some s => .str s
def PP.d (q : PP) : D := .tuple [kd q.k, .tuple (q.ms.map .str), .tuple (q.ts.map tst), .int q.s, .int q.f]
structure PP.le (q : PP) : Prop where
  k : ∀ s, q.k = some s → s.length ≤ 100000
  ms : ∀ s ∈ q.ms, s.length ≤ 100000
  ts : ∀ t ∈ q.ts, t.2.length ≤ 100000
def cntOk (i : Int) : Bool := decide (0 ≤ i) && decide (i ≤ 6)
def tstNm (t : Bool × Str) : Bool := isNm (.str t.2)
def pairT : D → Bool
  | .tuple [a, b] => PySem.W.dataLt a b
  | _ => false
def risesT (xs : List D) : Bool := (zipD xs (xs.drop 1)).all pairT
def testsB (ts : List (Bool × Str)) : Bool := decide (ts.length ≤ 3) && (ts.all tstNm && risesT (ts.map tst))
def partB (q : PP) : Bool := (match q.k with | none => true | some s => isNm (.str s)) && (marksOk 3 (.tuple (q.ms.map .str)) && (testsB q.ts && (cntOk q.s && cntOk q.f)))
theorem nd {s : Str} (h : s.length ≤ 100000) : noDict (.str s) = true := decide_eq_true (by have := sizeLine_eq; omega)
theorem cnT : List.lookup (Str.ofString "TESTED") g.con = some (.tuple [.str "kind", .str "mark"]) := by rfl
theorem cnM : List.lookup (Str.ofString "MOST_MARKS") g.con = some (.int 3) := by rfl
theorem cnU : List.lookup (Str.ofString "MOST_TESTS") g.con = some (.int 3) := by rfl
theorem cnG : List.lookup (Str.ofString "GREATEST_STEP") g.con = some (.int 6) := by rfl
theorem is_test_ok {d : Nat} {t : Bool × Str} {M : Store} (h : t.2.length ≤ 100000) : callR false (C (d + 2) "_is_test") [.d (tst t)] M = .ok (.d (.bool (tstNm t))) M := by
  refine (call_rt (fn := f_is_test) (d := d + 1) (x := .d (.bool (tstNm t))) (M' := M) rfl ?_).trans (by rw [fin_d, List.take_length])
  have hi : ∀ b : Bool, cmp2 .in_ (.d (.str (if b then "mark" else "kind"))) (.d (.tuple [.str "kind", .str "mark"])) M = some true := fun b => by cases b <;> rfl
  have e3 : (!decide ((([PyData.str (if t.1 then "mark" else "kind"), .str t.2].length : Nat) : Int) = 2)) = false := by simp
  simp only [List.length_cons, List.length_nil] at e3
  simp -implicitDefEqProofs only [f_is_test, b_is_test, tst, evS, evE, evL, evT, evI, evC, evP, fSeq, fSkip, fIfS, fRet, fRetN, fAsg, fAug2, fExp, fFor, fVar, fCon, fBin, fBl, fCons, fSCons, fNil, fApp, fCall, fTup, fLst, fCls, fIt, fNotT, fAndT, fOrT, fCmpT, fCh, fTru, fIf, fMeth, fSl, fPart, fNoPart, fRng, fZip, fRev, fIsi, isiG, tyName, fGlb, fRaise, fTry, fTryAs, fIsx, fNeg, fAndV, fOrV, Bi.g, Me.g, asgT_nm, asgT_tup, asgL_nil, asgL_cons, itemsS, startR, Res.bind_ok, Res.bind_exc, Res.bind_bad, Res.then_ok, Res.then_exc, Res.then_bad, SR.seq_nx, SR.seq_rt, SR.seq_bk, SR.seq_ct, SR.seq_exc, SR.seq_bad, ofO_some, ofO_none, List.map_cons, List.map_nil, List.length_cons, List.length_nil, List.cons_append, List.nil_append, List.replicate, List.getElem?_cons_zero, List.getElem?_cons_succ, List.set_cons_zero, List.set_cons_succ, Nat.reduceAdd, Nat.reduceSub, Option.map_some, Option.map_none, Option.bind_some, Option.bind_none, reduceIte, if_true, if_false, Bool.not_true, Bool.not_false, Bool.false_eq_true, decide_true, decide_false, if_pos, st_get, st_set, st_take, st_len, ty2, truB, len_d, ne_int, e3, ix_p0, ix_p1, cnT, hi, is_name_ok (nd h), tstNm]
theorem lt_tst {a b : Bool × Str} {M : Store} : cmp2 .lt (.d (tst a)) (.d (tst b)) M = some (pairT (.tuple [tst a, tst b])) := by
  simp [cmp2, dat, cmpD, ordOk, tst, PySem.W.alike, PySem.W.alikeAll, dOk, PyData.depth, PyData.depthAll, pairT]
theorem rising_tst {d : Nat} {k : Bool} {ts : List (Bool × Str)} {M : Store} : callR k (C (d + 1) "is_rising") [.d (.tuple (ts.map tst))] M = .ok (.d (.bool (risesT (ts.map tst)))) M := by
  rw [callR_eq, C_succ (fn := f_is_rising) rfl]
  simp only [bodyF, f_is_rising, b_is_rising, evS, evE, evL, evT, evI, evC, evP, fSeq, fSkip, fIfS, fRet, fRetN, fAsg, fAug2, fExp, fFor, fVar, fCon, fBin, fBl, fCons, fSCons, fNil, fApp, fCall, fTup, fLst, fCls, fIt, fNotT, fAndT, fOrT, fCmpT, fCh, fTru, fIf, fMeth, fSl, fPart, fNoPart, fRng, fZip, fRev, fIsi, isiG, tyName, fGlb, fRaise, fTry, fTryAs, fIsx, fNeg, fAndV, fOrV, Bi.g, Me.g, asgT_nm, asgT_tup, asgL_nil, asgL_cons, itemsS, startR, Res.bind_ok, Res.bind_exc, Res.bind_bad, Res.then_ok, Res.then_exc, Res.then_bad, SR.seq_nx, SR.seq_rt, SR.seq_bk, SR.seq_ct, SR.seq_exc, SR.seq_bad, ofO_some, ofO_none, List.map_cons, List.map_nil, List.length_cons, List.length_nil, List.cons_append, List.nil_append, List.replicate, List.getElem?_cons_zero, List.getElem?_cons_succ, List.set_cons_zero, List.set_cons_succ, Nat.reduceAdd, Nat.reduceSub, Option.map_some, Option.map_none, Option.bind_some, Option.bind_none, reduceIte, if_true, if_false, Bool.not_true, Bool.not_false, Bool.false_eq_true, decide_true, decide_false, if_pos, st_get, st_set, st_take, st_len]
  rw [lc_all (fun x => .bool (pairT x)) (items := zipD (ts.map tst) ((ts.map tst).drop 1)) (by simp only [fZip, fVar, fSl, fPart, fCon, fNoPart, sl2, cutD_1, zipG, evS, evE, evL, evT, evI, evC, evP, fSeq, fSkip, fIfS, fRet, fRetN, fAsg, fAug2, fExp, fFor, fVar, fCon, fBin, fBl, fCons, fSCons, fNil, fApp, fCall, fTup, fLst, fCls, fIt, fNotT, fAndT, fOrT, fCmpT, fCh, fTru, fIf, fMeth, fSl, fPart, fNoPart, fRng, fZip, fRev, fIsi, isiG, tyName, fGlb, fRaise, fTry, fTryAs, fIsx, fNeg, fAndV, fOrV, Bi.g, Me.g, asgT_nm, asgT_tup, asgL_nil, asgL_cons, itemsS, startR, Res.bind_ok, Res.bind_exc, Res.bind_bad, Res.then_ok, Res.then_exc, Res.then_bad, SR.seq_nx, SR.seq_rt, SR.seq_bk, SR.seq_ct, SR.seq_exc, SR.seq_bad, ofO_some, ofO_none, List.map_cons, List.map_nil, List.length_cons, List.length_nil, List.cons_append, List.nil_append, List.replicate, List.getElem?_cons_zero, List.getElem?_cons_succ, List.set_cons_zero, List.set_cons_succ, Nat.reduceAdd, Nat.reduceSub, Option.map_some, Option.map_none, Option.bind_some, Option.bind_none, reduceIte, if_true, if_false, Bool.not_true, Bool.not_false, Bool.false_eq_true, decide_true, decide_false, if_pos, st_get, st_set, st_take, st_len])]
  · simp only [evS, evE, evL, evT, evI, evC, evP, fSeq, fSkip, fIfS, fRet, fRetN, fAsg, fAug2, fExp, fFor, fVar, fCon, fBin, fBl, fCons, fSCons, fNil, fApp, fCall, fTup, fLst, fCls, fIt, fNotT, fAndT, fOrT, fCmpT, fCh, fTru, fIf, fMeth, fSl, fPart, fNoPart, fRng, fZip, fRev, fIsi, isiG, tyName, fGlb, fRaise, fTry, fTryAs, fIsx, fNeg, fAndV, fOrV, Bi.g, Me.g, asgT_nm, asgT_tup, asgL_nil, asgL_cons, itemsS, startR, Res.bind_ok, Res.bind_exc, Res.bind_bad, Res.then_ok, Res.then_exc, Res.then_bad, SR.seq_nx, SR.seq_rt, SR.seq_bk, SR.seq_ct, SR.seq_exc, SR.seq_bad, ofO_some, ofO_none, List.map_cons, List.map_nil, List.length_cons, List.length_nil, List.cons_append, List.nil_append, List.replicate, List.getElem?_cons_zero, List.getElem?_cons_succ, List.set_cons_zero, List.set_cons_succ, Nat.reduceAdd, Nat.reduceSub, Option.map_some, Option.map_none, Option.bind_some, Option.bind_none, reduceIte, if_true, if_false, Bool.not_true, Bool.not_false, Bool.false_eq_true, decide_true, decide_false, if_pos, st_get, st_set, st_take, st_len, all_map, onlyX, fin, List.take_length, risesT]
  · intro x hx
    unfold zipD at hx
    obtain ⟨p, hp, rfl⟩ := List.mem_map.mp hx
    obtain ⟨a, ha, e1⟩ := List.mem_map.mp (List.of_mem_zip (a := p.1) (b := p.2) hp).1
    obtain ⟨b, hb, e2⟩ := List.mem_map.mp (List.mem_of_mem_drop (List.of_mem_zip (a := p.1) (b := p.2) hp).2)
    refine ⟨_, rfl, fun c' => ?_⟩
    rw [← e1, ← e2]
    simp only [evS, evE, evL, evT, evI, evC, evP, fSeq, fSkip, fIfS, fRet, fRetN, fAsg, fAug2, fExp, fFor, fVar, fCon, fBin, fBl, fCons, fSCons, fNil, fApp, fCall, fTup, fLst, fCls, fIt, fNotT, fAndT, fOrT, fCmpT, fCh, fTru, fIf, fMeth, fSl, fPart, fNoPart, fRng, fZip, fRev, fIsi, isiG, tyName, fGlb, fRaise, fTry, fTryAs, fIsx, fNeg, fAndV, fOrV, Bi.g, Me.g, asgT_nm, asgT_tup, asgL_nil, asgL_cons, itemsS, startR, Res.bind_ok, Res.bind_exc, Res.bind_bad, Res.then_ok, Res.then_exc, Res.then_bad, SR.seq_nx, SR.seq_rt, SR.seq_bk, SR.seq_ct, SR.seq_exc, SR.seq_bad, ofO_some, ofO_none, List.map_cons, List.map_nil, List.length_cons, List.length_nil, List.cons_append, List.nil_append, List.replicate, List.getElem?_cons_zero, List.getElem?_cons_succ, List.set_cons_zero, List.set_cons_succ, Nat.reduceAdd, Nat.reduceSub, Option.map_some, Option.map_none, Option.bind_some, Option.bind_none, reduceIte, if_true, if_false, Bool.not_true, Bool.not_false, Bool.false_eq_true, decide_true, decide_false, if_pos, st_get, st_set, st_take, st_len, wip, List.set_nil, lt_tst]
theorem are_tests_ok {d : Nat} {ts : List (Bool × Str)} {M : Store} (h : ∀ t ∈ ts, t.2.length ≤ 100000) : callR false (C (d + 3) "_are_tests") [.d (.tuple (ts.map tst))] M = .ok (.d (.bool (testsB ts))) M := by
  refine (call_rt (fn := f_are_tests) (d := d + 2) (x := .d (.bool (testsB ts))) (M' := M) rfl ?_).trans (by rw [fin_d, List.take_length])
  by_cases h1 : (3 : Int) < (ts.length : Int)
  · have h2 : ¬ ts.length ≤ 3 := by omega
    have h3 : (3 : Int) < (((ts.map tst).length : Nat) : Int) := by rw [List.length_map]; exact h1
    simp -implicitDefEqProofs only [f_are_tests, b_are_tests, evS, evE, evL, evT, evI, evC, evP, fSeq, fSkip, fIfS, fRet, fRetN, fAsg, fAug2, fExp, fFor, fVar, fCon, fBin, fBl, fCons, fSCons, fNil, fApp, fCall, fTup, fLst, fCls, fIt, fNotT, fAndT, fOrT, fCmpT, fCh, fTru, fIf, fMeth, fSl, fPart, fNoPart, fRng, fZip, fRev, fIsi, isiG, tyName, fGlb, fRaise, fTry, fTryAs, fIsx, fNeg, fAndV, fOrV, Bi.g, Me.g, asgT_nm, asgT_tup, asgL_nil, asgL_cons, itemsS, startR, Res.bind_ok, Res.bind_exc, Res.bind_bad, Res.then_ok, Res.then_exc, Res.then_bad, SR.seq_nx, SR.seq_rt, SR.seq_bk, SR.seq_ct, SR.seq_exc, SR.seq_bad, ofO_some, ofO_none, List.map_cons, List.map_nil, List.length_cons, List.length_nil, List.cons_append, List.nil_append, List.replicate, List.getElem?_cons_zero, List.getElem?_cons_succ, List.set_cons_zero, List.set_cons_succ, Nat.reduceAdd, Nat.reduceSub, Option.map_some, Option.map_none, Option.bind_some, Option.bind_none, reduceIte, if_true, if_false, Bool.not_true, Bool.not_false, Bool.false_eq_true, decide_true, decide_false, if_pos, st_get, st_set, st_take, st_len, ty2, truB, len_d, cnU, gt_int, h3, testsB, h2, Bool.false_and]
  · have h2 : ts.length ≤ 3 := by omega
    have h3 : ¬ (3 : Int) < (((ts.map tst).length : Nat) : Int) := by rw [List.length_map]; exact h1
    simp -implicitDefEqProofs only [f_are_tests, b_are_tests, evS, evE, evL, evT, evI, evC, evP, fSeq, fSkip, fIfS, fRet, fRetN, fAsg, fAug2, fExp, fFor, fVar, fCon, fBin, fBl, fCons, fSCons, fNil, fApp, fCall, fTup, fLst, fCls, fIt, fNotT, fAndT, fOrT, fCmpT, fCh, fTru, fIf, fMeth, fSl, fPart, fNoPart, fRng, fZip, fRev, fIsi, isiG, tyName, fGlb, fRaise, fTry, fTryAs, fIsx, fNeg, fAndV, fOrV, Bi.g, Me.g, asgT_nm, asgT_tup, asgL_nil, asgL_cons, itemsS, startR, Res.bind_ok, Res.bind_exc, Res.bind_bad, Res.then_ok, Res.then_exc, Res.then_bad, SR.seq_nx, SR.seq_rt, SR.seq_bk, SR.seq_ct, SR.seq_exc, SR.seq_bad, ofO_some, ofO_none, List.map_cons, List.map_nil, List.length_cons, List.length_nil, List.cons_append, List.nil_append, List.replicate, List.getElem?_cons_zero, List.getElem?_cons_succ, List.set_cons_zero, List.set_cons_succ, Nat.reduceAdd, Nat.reduceSub, Option.map_some, Option.map_none, Option.bind_some, Option.bind_none, reduceIte, if_true, if_false, Bool.not_true, Bool.not_false, Bool.false_eq_true, decide_true, decide_false, if_pos, st_get, st_set, st_take, st_len, ty2, truB, len_d, cnU, gt_int, h3, testsB, h2, Bool.true_and]
    rw [lc_all (fun x => match x with | .tuple [_, y] => .bool (isNm y) | _ => .none) (items := ts.map tst) (by simp -implicitDefEqProofs only [fIt, fVar, itemsOf, evS, evE, evL, evT, evI, evC, evP, fSeq, fSkip, fIfS, fRet, fRetN, fAsg, fAug2, fExp, fFor, fVar, fCon, fBin, fBl, fCons, fSCons, fNil, fApp, fCall, fTup, fLst, fCls, fIt, fNotT, fAndT, fOrT, fCmpT, fCh, fTru, fIf, fMeth, fSl, fPart, fNoPart, fRng, fZip, fRev, fIsi, isiG, tyName, fGlb, fRaise, fTry, fTryAs, fIsx, fNeg, fAndV, fOrV, Bi.g, Me.g, asgT_nm, asgT_tup, asgL_nil, asgL_cons, itemsS, startR, Res.bind_ok, Res.bind_exc, Res.bind_bad, Res.then_ok, Res.then_exc, Res.then_bad, SR.seq_nx, SR.seq_rt, SR.seq_bk, SR.seq_ct, SR.seq_exc, SR.seq_bad, ofO_some, ofO_none, List.map_cons, List.map_nil, List.length_cons, List.length_nil, List.cons_append, List.nil_append, List.replicate, List.getElem?_cons_zero, List.getElem?_cons_succ, List.set_cons_zero, List.set_cons_succ, Nat.reduceAdd, Nat.reduceSub, Option.map_some, Option.map_none, Option.bind_some, Option.bind_none, reduceIte, if_true, if_false, Bool.not_true, Bool.not_false, Bool.false_eq_true, decide_true, decide_false, if_pos, st_get, st_set, st_take, st_len])]
    · have e : (ts.map tst).map (fun x => match x with | .tuple [_, y] => PyData.bool (isNm y) | _ => .none) = ts.map fun t => PyData.bool (tstNm t) := by
        rw [List.map_map]; rfl
      rw [e]
      simp -implicitDefEqProofs only [evS, evE, evL, evT, evI, evC, evP, fSeq, fSkip, fIfS, fRet, fRetN, fAsg, fAug2, fExp, fFor, fVar, fCon, fBin, fBl, fCons, fSCons, fNil, fApp, fCall, fTup, fLst, fCls, fIt, fNotT, fAndT, fOrT, fCmpT, fCh, fTru, fIf, fMeth, fSl, fPart, fNoPart, fRng, fZip, fRev, fIsi, isiG, tyName, fGlb, fRaise, fTry, fTryAs, fIsx, fNeg, fAndV, fOrV, Bi.g, Me.g, asgT_nm, asgT_tup, asgL_nil, asgL_cons, itemsS, startR, Res.bind_ok, Res.bind_exc, Res.bind_bad, Res.then_ok, Res.then_exc, Res.then_bad, SR.seq_nx, SR.seq_rt, SR.seq_bk, SR.seq_ct, SR.seq_exc, SR.seq_bad, ofO_some, ofO_none, List.map_cons, List.map_nil, List.length_cons, List.length_nil, List.cons_append, List.nil_append, List.replicate, List.getElem?_cons_zero, List.getElem?_cons_succ, List.set_cons_zero, List.set_cons_succ, Nat.reduceAdd, Nat.reduceSub, Option.map_some, Option.map_none, Option.bind_some, Option.bind_none, reduceIte, if_true, if_false, Bool.not_true, Bool.not_false, Bool.false_eq_true, decide_true, decide_false, if_pos, st_get, st_set, st_take, st_len, all_map, truB]
      cases hA : ts.all tstNm with
      | false => simp -implicitDefEqProofs only [evS, evE, evL, evT, evI, evC, evP, fSeq, fSkip, fIfS, fRet, fRetN, fAsg, fAug2, fExp, fFor, fVar, fCon, fBin, fBl, fCons, fSCons, fNil, fApp, fCall, fTup, fLst, fCls, fIt, fNotT, fAndT, fOrT, fCmpT, fCh, fTru, fIf, fMeth, fSl, fPart, fNoPart, fRng, fZip, fRev, fIsi, isiG, tyName, fGlb, fRaise, fTry, fTryAs, fIsx, fNeg, fAndV, fOrV, Bi.g, Me.g, asgT_nm, asgT_tup, asgL_nil, asgL_cons, itemsS, startR, Res.bind_ok, Res.bind_exc, Res.bind_bad, Res.then_ok, Res.then_exc, Res.then_bad, SR.seq_nx, SR.seq_rt, SR.seq_bk, SR.seq_ct, SR.seq_exc, SR.seq_bad, ofO_some, ofO_none, List.map_cons, List.map_nil, List.length_cons, List.length_nil, List.cons_append, List.nil_append, List.replicate, List.getElem?_cons_zero, List.getElem?_cons_succ, List.set_cons_zero, List.set_cons_succ, Nat.reduceAdd, Nat.reduceSub, Option.map_some, Option.map_none, Option.bind_some, Option.bind_none, reduceIte, if_true, if_false, Bool.not_true, Bool.not_false, Bool.false_eq_true, decide_true, decide_false, if_pos, st_get, st_set, st_take, st_len, Bool.false_and]
      | true => simp -implicitDefEqProofs only [evS, evE, evL, evT, evI, evC, evP, fSeq, fSkip, fIfS, fRet, fRetN, fAsg, fAug2, fExp, fFor, fVar, fCon, fBin, fBl, fCons, fSCons, fNil, fApp, fCall, fTup, fLst, fCls, fIt, fNotT, fAndT, fOrT, fCmpT, fCh, fTru, fIf, fMeth, fSl, fPart, fNoPart, fRng, fZip, fRev, fIsi, isiG, tyName, fGlb, fRaise, fTry, fTryAs, fIsx, fNeg, fAndV, fOrV, Bi.g, Me.g, asgT_nm, asgT_tup, asgL_nil, asgL_cons, itemsS, startR, Res.bind_ok, Res.bind_exc, Res.bind_bad, Res.then_ok, Res.then_exc, Res.then_bad, SR.seq_nx, SR.seq_rt, SR.seq_bk, SR.seq_ct, SR.seq_exc, SR.seq_bad, ofO_some, ofO_none, List.map_cons, List.map_nil, List.length_cons, List.length_nil, List.cons_append, List.nil_append, List.replicate, List.getElem?_cons_zero, List.getElem?_cons_succ, List.set_cons_zero, List.set_cons_succ, Nat.reduceAdd, Nat.reduceSub, Option.map_some, Option.map_none, Option.bind_some, Option.bind_none, reduceIte, if_true, if_false, Bool.not_true, Bool.not_false, Bool.false_eq_true, decide_true, decide_false, if_pos, st_get, st_set, st_take, st_len, Bool.true_and, rising_tst]
    · intro x hx
      obtain ⟨t, ht, rfl⟩ := List.mem_map.mp hx
      refine ⟨_, rfl, fun c' => ?_⟩
      simp -implicitDefEqProofs only [evS, evE, evL, evT, evI, evC, evP, fSeq, fSkip, fIfS, fRet, fRetN, fAsg, fAug2, fExp, fFor, fVar, fCon, fBin, fBl, fCons, fSCons, fNil, fApp, fCall, fTup, fLst, fCls, fIt, fNotT, fAndT, fOrT, fCmpT, fCh, fTru, fIf, fMeth, fSl, fPart, fNoPart, fRng, fZip, fRev, fIsi, isiG, tyName, fGlb, fRaise, fTry, fTryAs, fIsx, fNeg, fAndV, fOrV, Bi.g, Me.g, asgT_nm, asgT_tup, asgL_nil, asgL_cons, itemsS, startR, Res.bind_ok, Res.bind_exc, Res.bind_bad, Res.then_ok, Res.then_exc, Res.then_bad, SR.seq_nx, SR.seq_rt, SR.seq_bk, SR.seq_ct, SR.seq_exc, SR.seq_bad, ofO_some, ofO_none, List.map_cons, List.map_nil, List.length_cons, List.length_nil, List.cons_append, List.nil_append, List.replicate, List.getElem?_cons_zero, List.getElem?_cons_succ, List.set_cons_zero, List.set_cons_succ, Nat.reduceAdd, Nat.reduceSub, Option.map_some, Option.map_none, Option.bind_some, Option.bind_none, reduceIte, if_true, if_false, Bool.not_true, Bool.not_false, Bool.false_eq_true, decide_true, decide_false, if_pos, st_get, st_set, st_take, st_len, wip, List.set_nil]
      exact is_test_ok (h t ht)
theorem is_count_ok {d : Nat} {i : Int} {M : Store} : callR false (C (d + 2) "_is_count") [.d (.int i)] M = .ok (.d (.bool (cntOk i))) M := by
  refine (call_rt (fn := f_is_count) (d := d + 1) (x := .d (.bool (cntOk i))) (M' := M) rfl ?_).trans (by rw [fin_d, List.take_length])
  have hw : callR false (C (d + 1) "is_whole") [.d (.int i)] M = .ok (.d (.bool true)) M := by
    refine (call_rt (fn := f_is_whole) (d := d) (x := .d (.bool true)) (M' := M) rfl ?_).trans (by rw [fin_d, List.take_length])
    simp -implicitDefEqProofs only [f_is_whole, b_is_whole, evS, evE, evL, evT, evI, evC, evP, fSeq, fSkip, fIfS, fRet, fRetN, fAsg, fAug2, fExp, fFor, fVar, fCon, fBin, fBl, fCons, fSCons, fNil, fApp, fCall, fTup, fLst, fCls, fIt, fNotT, fAndT, fOrT, fCmpT, fCh, fTru, fIf, fMeth, fSl, fPart, fNoPart, fRng, fZip, fRev, fIsi, isiG, tyName, fGlb, fRaise, fTry, fTryAs, fIsx, fNeg, fAndV, fOrV, Bi.g, Me.g, asgT_nm, asgT_tup, asgL_nil, asgL_cons, itemsS, startR, Res.bind_ok, Res.bind_exc, Res.bind_bad, Res.then_ok, Res.then_exc, Res.then_bad, SR.seq_nx, SR.seq_rt, SR.seq_bk, SR.seq_ct, SR.seq_exc, SR.seq_bad, ofO_some, ofO_none, List.map_cons, List.map_nil, List.length_cons, List.length_nil, List.cons_append, List.nil_append, List.replicate, List.getElem?_cons_zero, List.getElem?_cons_succ, List.set_cons_zero, List.set_cons_succ, Nat.reduceAdd, Nat.reduceSub, Option.map_some, Option.map_none, Option.bind_some, Option.bind_none, reduceIte, if_true, if_false, Bool.not_true, Bool.not_false, Bool.false_eq_true, decide_true, decide_false, if_pos, st_get, st_set, st_take, st_len, show isTy "int" "int" = true by decide, show isTy "int" "bool" = false by decide, truB]
  by_cases h1 : (0 : Int) ≤ i
  · simp -implicitDefEqProofs only [f_is_count, b_is_count, evS, evE, evL, evT, evI, evC, evP, fSeq, fSkip, fIfS, fRet, fRetN, fAsg, fAug2, fExp, fFor, fVar, fCon, fBin, fBl, fCons, fSCons, fNil, fApp, fCall, fTup, fLst, fCls, fIt, fNotT, fAndT, fOrT, fCmpT, fCh, fTru, fIf, fMeth, fSl, fPart, fNoPart, fRng, fZip, fRev, fIsi, isiG, tyName, fGlb, fRaise, fTry, fTryAs, fIsx, fNeg, fAndV, fOrV, Bi.g, Me.g, asgT_nm, asgT_tup, asgL_nil, asgL_cons, itemsS, startR, Res.bind_ok, Res.bind_exc, Res.bind_bad, Res.then_ok, Res.then_exc, Res.then_bad, SR.seq_nx, SR.seq_rt, SR.seq_bk, SR.seq_ct, SR.seq_exc, SR.seq_bad, ofO_some, ofO_none, List.map_cons, List.map_nil, List.length_cons, List.length_nil, List.cons_append, List.nil_append, List.replicate, List.getElem?_cons_zero, List.getElem?_cons_succ, List.set_cons_zero, List.set_cons_succ, Nat.reduceAdd, Nat.reduceSub, Option.map_some, Option.map_none, Option.bind_some, Option.bind_none, reduceIte, if_true, if_false, Bool.not_true, Bool.not_false, Bool.false_eq_true, decide_true, decide_false, if_pos, st_get, st_set, st_take, st_len, hw, truB, cnG, le_int, h1, cntOk, Bool.true_and]
  · simp -implicitDefEqProofs only [f_is_count, b_is_count, evS, evE, evL, evT, evI, evC, evP, fSeq, fSkip, fIfS, fRet, fRetN, fAsg, fAug2, fExp, fFor, fVar, fCon, fBin, fBl, fCons, fSCons, fNil, fApp, fCall, fTup, fLst, fCls, fIt, fNotT, fAndT, fOrT, fCmpT, fCh, fTru, fIf, fMeth, fSl, fPart, fNoPart, fRng, fZip, fRev, fIsi, isiG, tyName, fGlb, fRaise, fTry, fTryAs, fIsx, fNeg, fAndV, fOrV, Bi.g, Me.g, asgT_nm, asgT_tup, asgL_nil, asgL_cons, itemsS, startR, Res.bind_ok, Res.bind_exc, Res.bind_bad, Res.then_ok, Res.then_exc, Res.then_bad, SR.seq_nx, SR.seq_rt, SR.seq_bk, SR.seq_ct, SR.seq_exc, SR.seq_bad, ofO_some, ofO_none, List.map_cons, List.map_nil, List.length_cons, List.length_nil, List.cons_append, List.nil_append, List.replicate, List.getElem?_cons_zero, List.getElem?_cons_succ, List.set_cons_zero, List.set_cons_succ, Nat.reduceAdd, Nat.reduceSub, Option.map_some, Option.map_none, Option.bind_some, Option.bind_none, reduceIte, if_true, if_false, Bool.not_true, Bool.not_false, Bool.false_eq_true, decide_true, decide_false, if_pos, st_get, st_set, st_take, st_len, hw, truB, cnG, le_int, h1, cntOk, Bool.false_and]
theorem isN_kd {k : Option Str} {M : Store} : cmp2 .isN (.d (kd k)) (.d .none) M = some k.isNone := by cases k <;> rfl
theorem is_part_ok {d : Nat} {q : PP} {M : Store} (h : q.le) : callR false (C (d + 4) "_is_part") [.d q.d] M = .ok (.d (.bool (partB q))) M := by
  refine (call_rt (fn := f_is_part) (d := d + 3) (x := .d (.bool (partB q))) (M' := M) rfl ?_).trans (by rw [fin_d, List.take_length])
  have e3 : (!decide ((([kd q.k, .tuple (q.ms.map .str), .tuple (q.ts.map tst), .int q.s, .int q.f].length : Nat) : Int) = 5)) = false := by simp
  simp only [List.length_cons, List.length_nil] at e3
  have hm : callR false (C (d + 3) "are_marks") [.d (.tuple (q.ms.map .str)), .d (.int 3)] M = .ok (.d (.bool (marksOk 3 (.tuple (q.ms.map .str))))) M := are_marks_ok (d := d + 1) rfl fun xs e => by
    cases e
    refine List.all_eq_true.mpr fun x hx => ?_
    obtain ⟨s, hs, rfl⟩ := List.mem_map.mp hx
    exact nd (h.ms s hs)
  have ht := are_tests_ok (d := d) (ts := q.ts) (M := M) h.ts
  have hs := is_count_ok (d := d + 1) (i := q.s) (M := M)
  have hf := is_count_ok (d := d + 1) (i := q.f) (M := M)
  have rest : ∀ b : Bool, (if b = true then (Res.ok (Vl.d (.bool (marksOk 3 (.tuple (q.ms.map .str))))) M : Res Vl) else .ok (.d (.bool false)) M) = .ok (.d (.bool (b && marksOk 3 (.tuple (q.ms.map .str))))) M := fun b => by cases b <;> rfl
  obtain ⟨k, ms, ts, s, f⟩ := q
  cases k with
  | none =>
    simp -implicitDefEqProofs only [f_is_part, b_is_part, PP.d, evS, evE, evL, evT, evI, evC, evP, fSeq, fSkip, fIfS, fRet, fRetN, fAsg, fAug2, fExp, fFor, fVar, fCon, fBin, fBl, fCons, fSCons, fNil, fApp, fCall, fTup, fLst, fCls, fIt, fNotT, fAndT, fOrT, fCmpT, fCh, fTru, fIf, fMeth, fSl, fPart, fNoPart, fRng, fZip, fRev, fIsi, isiG, tyName, fGlb, fRaise, fTry, fTryAs, fIsx, fNeg, fAndV, fOrV, Bi.g, Me.g, asgT_nm, asgT_tup, asgL_nil, asgL_cons, itemsS, startR, Res.bind_ok, Res.bind_exc, Res.bind_bad, Res.then_ok, Res.then_exc, Res.then_bad, SR.seq_nx, SR.seq_rt, SR.seq_bk, SR.seq_ct, SR.seq_exc, SR.seq_bad, ofO_some, ofO_none, List.map_cons, List.map_nil, List.length_cons, List.length_nil, List.cons_append, List.nil_append, List.replicate, List.getElem?_cons_zero, List.getElem?_cons_succ, List.set_cons_zero, List.set_cons_succ, Nat.reduceAdd, Nat.reduceSub, Option.map_some, Option.map_none, Option.bind_some, Option.bind_none, reduceIte, if_true, if_false, Bool.not_true, Bool.not_false, Bool.false_eq_true, decide_true, decide_false, if_pos, st_get, st_set, st_take, st_len, ty2, truB, len_d, ne_int, e3, isN_kd, Option.isNone_none, cnM, hm, partB, Bool.true_and]
    cases hA : marksOk 3 (.tuple (ms.map .str)) with
    | false => simp -implicitDefEqProofs only [evS, evE, evL, evT, evI, evC, evP, fSeq, fSkip, fIfS, fRet, fRetN, fAsg, fAug2, fExp, fFor, fVar, fCon, fBin, fBl, fCons, fSCons, fNil, fApp, fCall, fTup, fLst, fCls, fIt, fNotT, fAndT, fOrT, fCmpT, fCh, fTru, fIf, fMeth, fSl, fPart, fNoPart, fRng, fZip, fRev, fIsi, isiG, tyName, fGlb, fRaise, fTry, fTryAs, fIsx, fNeg, fAndV, fOrV, Bi.g, Me.g, asgT_nm, asgT_tup, asgL_nil, asgL_cons, itemsS, startR, Res.bind_ok, Res.bind_exc, Res.bind_bad, Res.then_ok, Res.then_exc, Res.then_bad, SR.seq_nx, SR.seq_rt, SR.seq_bk, SR.seq_ct, SR.seq_exc, SR.seq_bad, ofO_some, ofO_none, List.map_cons, List.map_nil, List.length_cons, List.length_nil, List.cons_append, List.nil_append, List.replicate, List.getElem?_cons_zero, List.getElem?_cons_succ, List.set_cons_zero, List.set_cons_succ, Nat.reduceAdd, Nat.reduceSub, Option.map_some, Option.map_none, Option.bind_some, Option.bind_none, reduceIte, if_true, if_false, Bool.not_true, Bool.not_false, Bool.false_eq_true, decide_true, decide_false, if_pos, st_get, st_set, st_take, st_len, Bool.false_and]
    | true =>
      simp -implicitDefEqProofs only [evS, evE, evL, evT, evI, evC, evP, fSeq, fSkip, fIfS, fRet, fRetN, fAsg, fAug2, fExp, fFor, fVar, fCon, fBin, fBl, fCons, fSCons, fNil, fApp, fCall, fTup, fLst, fCls, fIt, fNotT, fAndT, fOrT, fCmpT, fCh, fTru, fIf, fMeth, fSl, fPart, fNoPart, fRng, fZip, fRev, fIsi, isiG, tyName, fGlb, fRaise, fTry, fTryAs, fIsx, fNeg, fAndV, fOrV, Bi.g, Me.g, asgT_nm, asgT_tup, asgL_nil, asgL_cons, itemsS, startR, Res.bind_ok, Res.bind_exc, Res.bind_bad, Res.then_ok, Res.then_exc, Res.then_bad, SR.seq_nx, SR.seq_rt, SR.seq_bk, SR.seq_ct, SR.seq_exc, SR.seq_bad, ofO_some, ofO_none, List.map_cons, List.map_nil, List.length_cons, List.length_nil, List.cons_append, List.nil_append, List.replicate, List.getElem?_cons_zero, List.getElem?_cons_succ, List.set_cons_zero, List.set_cons_succ, Nat.reduceAdd, Nat.reduceSub, Option.map_some, Option.map_none, Option.bind_some, Option.bind_none, reduceIte, if_true, if_false, Bool.not_true, Bool.not_false, Bool.false_eq_true, decide_true, decide_false, if_pos, st_get, st_set, st_take, st_len, truB, ht, Bool.true_and]
      cases hB : testsB ts with
      | false => simp -implicitDefEqProofs only [evS, evE, evL, evT, evI, evC, evP, fSeq, fSkip, fIfS, fRet, fRetN, fAsg, fAug2, fExp, fFor, fVar, fCon, fBin, fBl, fCons, fSCons, fNil, fApp, fCall, fTup, fLst, fCls, fIt, fNotT, fAndT, fOrT, fCmpT, fCh, fTru, fIf, fMeth, fSl, fPart, fNoPart, fRng, fZip, fRev, fIsi, isiG, tyName, fGlb, fRaise, fTry, fTryAs, fIsx, fNeg, fAndV, fOrV, Bi.g, Me.g, asgT_nm, asgT_tup, asgL_nil, asgL_cons, itemsS, startR, Res.bind_ok, Res.bind_exc, Res.bind_bad, Res.then_ok, Res.then_exc, Res.then_bad, SR.seq_nx, SR.seq_rt, SR.seq_bk, SR.seq_ct, SR.seq_exc, SR.seq_bad, ofO_some, ofO_none, List.map_cons, List.map_nil, List.length_cons, List.length_nil, List.cons_append, List.nil_append, List.replicate, List.getElem?_cons_zero, List.getElem?_cons_succ, List.set_cons_zero, List.set_cons_succ, Nat.reduceAdd, Nat.reduceSub, Option.map_some, Option.map_none, Option.bind_some, Option.bind_none, reduceIte, if_true, if_false, Bool.not_true, Bool.not_false, Bool.false_eq_true, decide_true, decide_false, if_pos, st_get, st_set, st_take, st_len, Bool.false_and]
      | true =>
        simp -implicitDefEqProofs only [evS, evE, evL, evT, evI, evC, evP, fSeq, fSkip, fIfS, fRet, fRetN, fAsg, fAug2, fExp, fFor, fVar, fCon, fBin, fBl, fCons, fSCons, fNil, fApp, fCall, fTup, fLst, fCls, fIt, fNotT, fAndT, fOrT, fCmpT, fCh, fTru, fIf, fMeth, fSl, fPart, fNoPart, fRng, fZip, fRev, fIsi, isiG, tyName, fGlb, fRaise, fTry, fTryAs, fIsx, fNeg, fAndV, fOrV, Bi.g, Me.g, asgT_nm, asgT_tup, asgL_nil, asgL_cons, itemsS, startR, Res.bind_ok, Res.bind_exc, Res.bind_bad, Res.then_ok, Res.then_exc, Res.then_bad, SR.seq_nx, SR.seq_rt, SR.seq_bk, SR.seq_ct, SR.seq_exc, SR.seq_bad, ofO_some, ofO_none, List.map_cons, List.map_nil, List.length_cons, List.length_nil, List.cons_append, List.nil_append, List.replicate, List.getElem?_cons_zero, List.getElem?_cons_succ, List.set_cons_zero, List.set_cons_succ, Nat.reduceAdd, Nat.reduceSub, Option.map_some, Option.map_none, Option.bind_some, Option.bind_none, reduceIte, if_true, if_false, Bool.not_true, Bool.not_false, Bool.false_eq_true, decide_true, decide_false, if_pos, st_get, st_set, st_take, st_len, truB, hs, Bool.true_and]
        cases hC : cntOk s with
        | false => simp -implicitDefEqProofs only [evS, evE, evL, evT, evI, evC, evP, fSeq, fSkip, fIfS, fRet, fRetN, fAsg, fAug2, fExp, fFor, fVar, fCon, fBin, fBl, fCons, fSCons, fNil, fApp, fCall, fTup, fLst, fCls, fIt, fNotT, fAndT, fOrT, fCmpT, fCh, fTru, fIf, fMeth, fSl, fPart, fNoPart, fRng, fZip, fRev, fIsi, isiG, tyName, fGlb, fRaise, fTry, fTryAs, fIsx, fNeg, fAndV, fOrV, Bi.g, Me.g, asgT_nm, asgT_tup, asgL_nil, asgL_cons, itemsS, startR, Res.bind_ok, Res.bind_exc, Res.bind_bad, Res.then_ok, Res.then_exc, Res.then_bad, SR.seq_nx, SR.seq_rt, SR.seq_bk, SR.seq_ct, SR.seq_exc, SR.seq_bad, ofO_some, ofO_none, List.map_cons, List.map_nil, List.length_cons, List.length_nil, List.cons_append, List.nil_append, List.replicate, List.getElem?_cons_zero, List.getElem?_cons_succ, List.set_cons_zero, List.set_cons_succ, Nat.reduceAdd, Nat.reduceSub, Option.map_some, Option.map_none, Option.bind_some, Option.bind_none, reduceIte, if_true, if_false, Bool.not_true, Bool.not_false, Bool.false_eq_true, decide_true, decide_false, if_pos, st_get, st_set, st_take, st_len, Bool.false_and]
        | true => simp -implicitDefEqProofs only [evS, evE, evL, evT, evI, evC, evP, fSeq, fSkip, fIfS, fRet, fRetN, fAsg, fAug2, fExp, fFor, fVar, fCon, fBin, fBl, fCons, fSCons, fNil, fApp, fCall, fTup, fLst, fCls, fIt, fNotT, fAndT, fOrT, fCmpT, fCh, fTru, fIf, fMeth, fSl, fPart, fNoPart, fRng, fZip, fRev, fIsi, isiG, tyName, fGlb, fRaise, fTry, fTryAs, fIsx, fNeg, fAndV, fOrV, Bi.g, Me.g, asgT_nm, asgT_tup, asgL_nil, asgL_cons, itemsS, startR, Res.bind_ok, Res.bind_exc, Res.bind_bad, Res.then_ok, Res.then_exc, Res.then_bad, SR.seq_nx, SR.seq_rt, SR.seq_bk, SR.seq_ct, SR.seq_exc, SR.seq_bad, ofO_some, ofO_none, List.map_cons, List.map_nil, List.length_cons, List.length_nil, List.cons_append, List.nil_append, List.replicate, List.getElem?_cons_zero, List.getElem?_cons_succ, List.set_cons_zero, List.set_cons_succ, Nat.reduceAdd, Nat.reduceSub, Option.map_some, Option.map_none, Option.bind_some, Option.bind_none, reduceIte, if_true, if_false, Bool.not_true, Bool.not_false, Bool.false_eq_true, decide_true, decide_false, if_pos, st_get, st_set, st_take, st_len, truB, hf, Bool.true_and]
  | some w =>
    have hk := is_name_ok (d := d + 2) (k := false) (v := .str w) (M := M) (nd (h.k w rfl))
    simp -implicitDefEqProofs only [f_is_part, b_is_part, PP.d, kd, evS, evE, evL, evT, evI, evC, evP, fSeq, fSkip, fIfS, fRet, fRetN, fAsg, fAug2, fExp, fFor, fVar, fCon, fBin, fBl, fCons, fSCons, fNil, fApp, fCall, fTup, fLst, fCls, fIt, fNotT, fAndT, fOrT, fCmpT, fCh, fTru, fIf, fMeth, fSl, fPart, fNoPart, fRng, fZip, fRev, fIsi, isiG, tyName, fGlb, fRaise, fTry, fTryAs, fIsx, fNeg, fAndV, fOrV, Bi.g, Me.g, asgT_nm, asgT_tup, asgL_nil, asgL_cons, itemsS, startR, Res.bind_ok, Res.bind_exc, Res.bind_bad, Res.then_ok, Res.then_exc, Res.then_bad, SR.seq_nx, SR.seq_rt, SR.seq_bk, SR.seq_ct, SR.seq_exc, SR.seq_bad, ofO_some, ofO_none, List.map_cons, List.map_nil, List.length_cons, List.length_nil, List.cons_append, List.nil_append, List.replicate, List.getElem?_cons_zero, List.getElem?_cons_succ, List.set_cons_zero, List.set_cons_succ, Nat.reduceAdd, Nat.reduceSub, Option.map_some, Option.map_none, Option.bind_some, Option.bind_none, reduceIte, if_true, if_false, Bool.not_true, Bool.not_false, Bool.false_eq_true, decide_true, decide_false, if_pos, st_get, st_set, st_take, st_len, ty2, truB, len_d, ne_int, e3, show cmp2 .isN (.d (.str w)) (.d .none) M = some false from rfl, hk, partB]
    cases hD : isNm (.str w) with
    | false => simp -implicitDefEqProofs only [evS, evE, evL, evT, evI, evC, evP, fSeq, fSkip, fIfS, fRet, fRetN, fAsg, fAug2, fExp, fFor, fVar, fCon, fBin, fBl, fCons, fSCons, fNil, fApp, fCall, fTup, fLst, fCls, fIt, fNotT, fAndT, fOrT, fCmpT, fCh, fTru, fIf, fMeth, fSl, fPart, fNoPart, fRng, fZip, fRev, fIsi, isiG, tyName, fGlb, fRaise, fTry, fTryAs, fIsx, fNeg, fAndV, fOrV, Bi.g, Me.g, asgT_nm, asgT_tup, asgL_nil, asgL_cons, itemsS, startR, Res.bind_ok, Res.bind_exc, Res.bind_bad, Res.then_ok, Res.then_exc, Res.then_bad, SR.seq_nx, SR.seq_rt, SR.seq_bk, SR.seq_ct, SR.seq_exc, SR.seq_bad, ofO_some, ofO_none, List.map_cons, List.map_nil, List.length_cons, List.length_nil, List.cons_append, List.nil_append, List.replicate, List.getElem?_cons_zero, List.getElem?_cons_succ, List.set_cons_zero, List.set_cons_succ, Nat.reduceAdd, Nat.reduceSub, Option.map_some, Option.map_none, Option.bind_some, Option.bind_none, reduceIte, if_true, if_false, Bool.not_true, Bool.not_false, Bool.false_eq_true, decide_true, decide_false, if_pos, st_get, st_set, st_take, st_len, Bool.false_and]
    | true =>
      simp -implicitDefEqProofs only [evS, evE, evL, evT, evI, evC, evP, fSeq, fSkip, fIfS, fRet, fRetN, fAsg, fAug2, fExp, fFor, fVar, fCon, fBin, fBl, fCons, fSCons, fNil, fApp, fCall, fTup, fLst, fCls, fIt, fNotT, fAndT, fOrT, fCmpT, fCh, fTru, fIf, fMeth, fSl, fPart, fNoPart, fRng, fZip, fRev, fIsi, isiG, tyName, fGlb, fRaise, fTry, fTryAs, fIsx, fNeg, fAndV, fOrV, Bi.g, Me.g, asgT_nm, asgT_tup, asgL_nil, asgL_cons, itemsS, startR, Res.bind_ok, Res.bind_exc, Res.bind_bad, Res.then_ok, Res.then_exc, Res.then_bad, SR.seq_nx, SR.seq_rt, SR.seq_bk, SR.seq_ct, SR.seq_exc, SR.seq_bad, ofO_some, ofO_none, List.map_cons, List.map_nil, List.length_cons, List.length_nil, List.cons_append, List.nil_append, List.replicate, List.getElem?_cons_zero, List.getElem?_cons_succ, List.set_cons_zero, List.set_cons_succ, Nat.reduceAdd, Nat.reduceSub, Option.map_some, Option.map_none, Option.bind_some, Option.bind_none, reduceIte, if_true, if_false, Bool.not_true, Bool.not_false, Bool.false_eq_true, decide_true, decide_false, if_pos, st_get, st_set, st_take, st_len, truB, cnM, hm, Bool.true_and]
      cases hA : marksOk 3 (.tuple (ms.map .str)) with
      | false => simp -implicitDefEqProofs only [evS, evE, evL, evT, evI, evC, evP, fSeq, fSkip, fIfS, fRet, fRetN, fAsg, fAug2, fExp, fFor, fVar, fCon, fBin, fBl, fCons, fSCons, fNil, fApp, fCall, fTup, fLst, fCls, fIt, fNotT, fAndT, fOrT, fCmpT, fCh, fTru, fIf, fMeth, fSl, fPart, fNoPart, fRng, fZip, fRev, fIsi, isiG, tyName, fGlb, fRaise, fTry, fTryAs, fIsx, fNeg, fAndV, fOrV, Bi.g, Me.g, asgT_nm, asgT_tup, asgL_nil, asgL_cons, itemsS, startR, Res.bind_ok, Res.bind_exc, Res.bind_bad, Res.then_ok, Res.then_exc, Res.then_bad, SR.seq_nx, SR.seq_rt, SR.seq_bk, SR.seq_ct, SR.seq_exc, SR.seq_bad, ofO_some, ofO_none, List.map_cons, List.map_nil, List.length_cons, List.length_nil, List.cons_append, List.nil_append, List.replicate, List.getElem?_cons_zero, List.getElem?_cons_succ, List.set_cons_zero, List.set_cons_succ, Nat.reduceAdd, Nat.reduceSub, Option.map_some, Option.map_none, Option.bind_some, Option.bind_none, reduceIte, if_true, if_false, Bool.not_true, Bool.not_false, Bool.false_eq_true, decide_true, decide_false, if_pos, st_get, st_set, st_take, st_len, Bool.false_and]
      | true =>
        simp -implicitDefEqProofs only [evS, evE, evL, evT, evI, evC, evP, fSeq, fSkip, fIfS, fRet, fRetN, fAsg, fAug2, fExp, fFor, fVar, fCon, fBin, fBl, fCons, fSCons, fNil, fApp, fCall, fTup, fLst, fCls, fIt, fNotT, fAndT, fOrT, fCmpT, fCh, fTru, fIf, fMeth, fSl, fPart, fNoPart, fRng, fZip, fRev, fIsi, isiG, tyName, fGlb, fRaise, fTry, fTryAs, fIsx, fNeg, fAndV, fOrV, Bi.g, Me.g, asgT_nm, asgT_tup, asgL_nil, asgL_cons, itemsS, startR, Res.bind_ok, Res.bind_exc, Res.bind_bad, Res.then_ok, Res.then_exc, Res.then_bad, SR.seq_nx, SR.seq_rt, SR.seq_bk, SR.seq_ct, SR.seq_exc, SR.seq_bad, ofO_some, ofO_none, List.map_cons, List.map_nil, List.length_cons, List.length_nil, List.cons_append, List.nil_append, List.replicate, List.getElem?_cons_zero, List.getElem?_cons_succ, List.set_cons_zero, List.set_cons_succ, Nat.reduceAdd, Nat.reduceSub, Option.map_some, Option.map_none, Option.bind_some, Option.bind_none, reduceIte, if_true, if_false, Bool.not_true, Bool.not_false, Bool.false_eq_true, decide_true, decide_false, if_pos, st_get, st_set, st_take, st_len, truB, ht, Bool.true_and]
        cases hB : testsB ts with
        | false => simp -implicitDefEqProofs only [evS, evE, evL, evT, evI, evC, evP, fSeq, fSkip, fIfS, fRet, fRetN, fAsg, fAug2, fExp, fFor, fVar, fCon, fBin, fBl, fCons, fSCons, fNil, fApp, fCall, fTup, fLst, fCls, fIt, fNotT, fAndT, fOrT, fCmpT, fCh, fTru, fIf, fMeth, fSl, fPart, fNoPart, fRng, fZip, fRev, fIsi, isiG, tyName, fGlb, fRaise, fTry, fTryAs, fIsx, fNeg, fAndV, fOrV, Bi.g, Me.g, asgT_nm, asgT_tup, asgL_nil, asgL_cons, itemsS, startR, Res.bind_ok, Res.bind_exc, Res.bind_bad, Res.then_ok, Res.then_exc, Res.then_bad, SR.seq_nx, SR.seq_rt, SR.seq_bk, SR.seq_ct, SR.seq_exc, SR.seq_bad, ofO_some, ofO_none, List.map_cons, List.map_nil, List.length_cons, List.length_nil, List.cons_append, List.nil_append, List.replicate, List.getElem?_cons_zero, List.getElem?_cons_succ, List.set_cons_zero, List.set_cons_succ, Nat.reduceAdd, Nat.reduceSub, Option.map_some, Option.map_none, Option.bind_some, Option.bind_none, reduceIte, if_true, if_false, Bool.not_true, Bool.not_false, Bool.false_eq_true, decide_true, decide_false, if_pos, st_get, st_set, st_take, st_len, Bool.false_and]
        | true =>
          simp -implicitDefEqProofs only [evS, evE, evL, evT, evI, evC, evP, fSeq, fSkip, fIfS, fRet, fRetN, fAsg, fAug2, fExp, fFor, fVar, fCon, fBin, fBl, fCons, fSCons, fNil, fApp, fCall, fTup, fLst, fCls, fIt, fNotT, fAndT, fOrT, fCmpT, fCh, fTru, fIf, fMeth, fSl, fPart, fNoPart, fRng, fZip, fRev, fIsi, isiG, tyName, fGlb, fRaise, fTry, fTryAs, fIsx, fNeg, fAndV, fOrV, Bi.g, Me.g, asgT_nm, asgT_tup, asgL_nil, asgL_cons, itemsS, startR, Res.bind_ok, Res.bind_exc, Res.bind_bad, Res.then_ok, Res.then_exc, Res.then_bad, SR.seq_nx, SR.seq_rt, SR.seq_bk, SR.seq_ct, SR.seq_exc, SR.seq_bad, ofO_some, ofO_none, List.map_cons, List.map_nil, List.length_cons, List.length_nil, List.cons_append, List.nil_append, List.replicate, List.getElem?_cons_zero, List.getElem?_cons_succ, List.set_cons_zero, List.set_cons_succ, Nat.reduceAdd, Nat.reduceSub, Option.map_some, Option.map_none, Option.bind_some, Option.bind_none, reduceIte, if_true, if_false, Bool.not_true, Bool.not_false, Bool.false_eq_true, decide_true, decide_false, if_pos, st_get, st_set, st_take, st_len, truB, hs, Bool.true_and]
          cases hC : cntOk s with
          | false => simp -implicitDefEqProofs only [evS, evE, evL, evT, evI, evC, evP, fSeq, fSkip, fIfS, fRet, fRetN, fAsg, fAug2, fExp, fFor, fVar, fCon, fBin, fBl, fCons, fSCons, fNil, fApp, fCall, fTup, fLst, fCls, fIt, fNotT, fAndT, fOrT, fCmpT, fCh, fTru, fIf, fMeth, fSl, fPart, fNoPart, fRng, fZip, fRev, fIsi, isiG, tyName, fGlb, fRaise, fTry, fTryAs, fIsx, fNeg, fAndV, fOrV, Bi.g, Me.g, asgT_nm, asgT_tup, asgL_nil, asgL_cons, itemsS, startR, Res.bind_ok, Res.bind_exc, Res.bind_bad, Res.then_ok, Res.then_exc, Res.then_bad, SR.seq_nx, SR.seq_rt, SR.seq_bk, SR.seq_ct, SR.seq_exc, SR.seq_bad, ofO_some, ofO_none, List.map_cons, List.map_nil, List.length_cons, List.length_nil, List.cons_append, List.nil_append, List.replicate, List.getElem?_cons_zero, List.getElem?_cons_succ, List.set_cons_zero, List.set_cons_succ, Nat.reduceAdd, Nat.reduceSub, Option.map_some, Option.map_none, Option.bind_some, Option.bind_none, reduceIte, if_true, if_false, Bool.not_true, Bool.not_false, Bool.false_eq_true, decide_true, decide_false, if_pos, st_get, st_set, st_take, st_len, Bool.false_and]
          | true => simp -implicitDefEqProofs only [evS, evE, evL, evT, evI, evC, evP, fSeq, fSkip, fIfS, fRet, fRetN, fAsg, fAug2, fExp, fFor, fVar, fCon, fBin, fBl, fCons, fSCons, fNil, fApp, fCall, fTup, fLst, fCls, fIt, fNotT, fAndT, fOrT, fCmpT, fCh, fTru, fIf, fMeth, fSl, fPart, fNoPart, fRng, fZip, fRev, fIsi, isiG, tyName, fGlb, fRaise, fTry, fTryAs, fIsx, fNeg, fAndV, fOrV, Bi.g, Me.g, asgT_nm, asgT_tup, asgL_nil, asgL_cons, itemsS, startR, Res.bind_ok, Res.bind_exc, Res.bind_bad, Res.then_ok, Res.then_exc, Res.then_bad, SR.seq_nx, SR.seq_rt, SR.seq_bk, SR.seq_ct, SR.seq_exc, SR.seq_bad, ofO_some, ofO_none, List.map_cons, List.map_nil, List.length_cons, List.length_nil, List.cons_append, List.nil_append, List.replicate, List.getElem?_cons_zero, List.getElem?_cons_succ, List.set_cons_zero, List.set_cons_succ, Nat.reduceAdd, Nat.reduceSub, Option.map_some, Option.map_none, Option.bind_some, Option.bind_none, reduceIte, if_true, if_false, Bool.not_true, Bool.not_false, Bool.false_eq_true, decide_true, decide_false, if_pos, st_get, st_set, st_take, st_len, truB, hf, Bool.true_and]
end TL.K03

set_option maxHeartbeats 400000
namespace TL.K03
open PySem PySem.Spec
open PyProof.Rows L2 TL
/-! ### selectors that may have been read, and lists of them -/
structure RS where
  qs : List PP
  ls : List D
def RS.d (r : RS) : D := .tuple [.tuple (r.qs.map PP.d), .tuple r.ls]
structure RS.le (r : RS) : Prop where
  qs : ∀ q ∈ r.qs, q.le
  ls : ∀ l ∈ r.ls, l ∈ Ls
def selB (r : RS) : Bool := decide (1 ≤ r.qs.length ∧ r.qs.length ≤ 5 ∧ r.ls.length + 1 = r.qs.length) && r.qs.all partB
def partD (x : D) : Bool := match callR false (C 4 "_is_part") [.d x] [] with
  | .ok (.d (.bool b)) _ => b
  | _ => false
theorem partD_eq {q : PP} (h : q.le) : partD q.d = partB q := by
  unfold partD
  rw [is_part_ok (d := 0) h]
theorem is_sel_ok {d : Nat} {r : RS} {M : Store} (h : r.le) : isS d r.d M = bR (selB r) M := by
  unfold RS.d
  by_cases hl : 1 ≤ r.qs.length ∧ r.qs.length ≤ 5 ∧ r.ls.length + 1 = r.qs.length
  · rw [sel_ok partD (by rw [List.length_map]; exact hl.1) (by rw [List.length_map]; exact hl.2.1) (by rw [List.length_map]; exact hl.2.2) (fun p hp c' => by
      obtain ⟨q, hq, rfl⟩ := List.mem_map.mp hp
      rw [partD_eq (h.qs q hq)]
      exact is_part_ok (h.qs q hq)) fun l hl => List.mem_cons_of_mem _ (h.ls l hl)]
    have e1 : (r.qs.map PP.d).all partD = r.qs.all partB := by
      rw [List.all_map]
      rw [Bool.eq_iff_iff, List.all_eq_true, List.all_eq_true]
      exact ⟨fun z q hq => by rw [← partD_eq (h.qs q hq)]; exact z q hq, fun z q hq => by show partD q.d = true; rw [partD_eq (h.qs q hq)]; exact z q hq⟩
    have e2 : r.ls.all isLn = true := List.all_eq_true.mpr fun l hl => ls_isLn l (h.ls l hl)
    rw [e1, e2, selB, decide_eq_true hl]
    simp
  · rw [sel_len (by rw [List.length_map]; exact hl), selB, decide_eq_false hl]
    rfl
def selD (x : D) : Bool := match isS 0 x [] with
  | .ok (.d (.bool b)) _ => b
  | _ => false
theorem cl_ev {d : Nat} {v : D} {M : Store} (f : D → Bool) : ∀ (xs : List D) (o : Option Vl), (∀ x ∈ xs, isS d x M = bR (f x) M) →
    ∃ o', forL (.nm 1) (evS g 100000 (C (d + 6)) w1_check_list) xs [some (.d v), o] M = if xs.all f = true then .nx [some (.d v), o'] M else .exc "BadSelector" [some (.d v), o'] M
  | [], o, _ => ⟨o, by simp [forL]⟩
  | x :: xs, o, h => by
    have e0 : List.set [some (Vl.d v), o] 1 (some (.d x)) = [some (.d v), some (.d x)] := rfl
    have hx := h x List.mem_cons_self
    cases hf : f x with
    | true =>
      rw [hf] at hx
      obtain ⟨o', e⟩ := cl_ev (d := d) (v := v) (M := M) f xs (some (.d x)) fun y hy => h y (List.mem_cons_of_mem _ hy)
      refine ⟨o', ?_⟩
      have h' := chk_ok (b := false) hx
      have s : evS g 100000 (C (d + 6)) w1_check_list [some (.d v), some (.d x)] M = .nx [some (.d v), some (.d x)] M := by
        simp -implicitDefEqProofs only [w1_check_list, evS, evE, evL, evT, evI, evC, evP, fSeq, fSkip, fIfS, fRet, fRetN, fAsg, fAug2, fExp, fFor, fVar, fCon, fBin, fBl, fCons, fSCons, fNil, fApp, fCall, fTup, fLst, fCls, fIt, fNotT, fAndT, fOrT, fCmpT, fCh, fTru, fIf, fMeth, fSl, fPart, fNoPart, fRng, fZip, fRev, fIsi, isiG, tyName, fGlb, fRaise, fTry, fTryAs, fIsx, fNeg, fAndV, fOrV, Bi.g, Me.g, asgT_nm, asgT_tup, asgL_nil, asgL_cons, itemsS, startR, Res.bind_ok, Res.bind_exc, Res.bind_bad, Res.then_ok, Res.then_exc, Res.then_bad, SR.seq_nx, SR.seq_rt, SR.seq_bk, SR.seq_ct, SR.seq_exc, SR.seq_bad, ofO_some, ofO_none, List.map_cons, List.map_nil, List.length_cons, List.length_nil, List.cons_append, List.nil_append, List.replicate, List.getElem?_cons_zero, List.getElem?_cons_succ, List.set_cons_zero, List.set_cons_succ, Nat.reduceAdd, Nat.reduceSub, Option.map_some, Option.map_none, Option.bind_some, Option.bind_none, reduceIte, if_true, if_false, Bool.not_true, Bool.not_false, Bool.false_eq_true, decide_true, decide_false, if_pos, st_get, st_set, st_take, st_len, h']
      simp only [forL, asgT_nm, e0, s, e, List.all_cons, hf, Bool.true_and]
    | false =>
      rw [hf] at hx
      refine ⟨some (.d x), ?_⟩
      have h' := chk_bad (b := false) hx
      have s : evS g 100000 (C (d + 6)) w1_check_list [some (.d v), some (.d x)] M = .exc "BadSelector" [some (.d v), some (.d x)] M := by
        simp -implicitDefEqProofs only [w1_check_list, evS, evE, evL, evT, evI, evC, evP, fSeq, fSkip, fIfS, fRet, fRetN, fAsg, fAug2, fExp, fFor, fVar, fCon, fBin, fBl, fCons, fSCons, fNil, fApp, fCall, fTup, fLst, fCls, fIt, fNotT, fAndT, fOrT, fCmpT, fCh, fTru, fIf, fMeth, fSl, fPart, fNoPart, fRng, fZip, fRev, fIsi, isiG, tyName, fGlb, fRaise, fTry, fTryAs, fIsx, fNeg, fAndV, fOrV, Bi.g, Me.g, asgT_nm, asgT_tup, asgL_nil, asgL_cons, itemsS, startR, Res.bind_ok, Res.bind_exc, Res.bind_bad, Res.then_ok, Res.then_exc, Res.then_bad, SR.seq_nx, SR.seq_rt, SR.seq_bk, SR.seq_ct, SR.seq_exc, SR.seq_bad, ofO_some, ofO_none, List.map_cons, List.map_nil, List.length_cons, List.length_nil, List.cons_append, List.nil_append, List.replicate, List.getElem?_cons_zero, List.getElem?_cons_succ, List.set_cons_zero, List.set_cons_succ, Nat.reduceAdd, Nat.reduceSub, Option.map_some, Option.map_none, Option.bind_some, Option.bind_none, reduceIte, if_true, if_false, Bool.not_true, Bool.not_false, Bool.false_eq_true, decide_true, decide_false, if_pos, st_get, st_set, st_take, st_len, h']
      simp only [forL, asgT_nm, e0, s, List.all_cons, hf, Bool.false_and, Bool.false_eq_true, if_false]
theorem list_ev {d : Nat} {b : Bool} {xs : List D} {M : Store} (f : D → Bool) (h : ∀ x ∈ xs, isS d x M = bR (f x) M) :
    callR b (C (d + 7) "check_list") [.d (.tuple xs)] M = if xs.length ≤ 6 ∧ xs.all f = true then .ok (.d (.tuple xs)) M else .exc "BadSelector" M := by
  by_cases hl : xs.length ≤ 6
  · obtain ⟨o', e⟩ := cl_ev (d := d) (v := .tuple xs) (M := M) f xs none h
    have h1 : ¬ ((6 : Int) < (xs.length : Int)) := by omega
    have c1 : evT g (C (d + 6)) (.or (.not (.tt (.isi "tuple" (.var 0)))) (.cmp .gt (.bi .len (.cons (.var 0) .nil)) (.glb "MOST_SELECTORS"))) (startR f_check_list.N.length [.d (.tuple xs)]) M = .ok false M := by
      simp -implicitDefEqProofs only [f_check_list, evS, evE, evL, evT, evI, evC, evP, fSeq, fSkip, fIfS, fRet, fRetN, fAsg, fAug2, fExp, fFor, fVar, fCon, fBin, fBl, fCons, fSCons, fNil, fApp, fCall, fTup, fLst, fCls, fIt, fNotT, fAndT, fOrT, fCmpT, fCh, fTru, fIf, fMeth, fSl, fPart, fNoPart, fRng, fZip, fRev, fIsi, isiG, tyName, fGlb, fRaise, fTry, fTryAs, fIsx, fNeg, fAndV, fOrV, Bi.g, Me.g, asgT_nm, asgT_tup, asgL_nil, asgL_cons, itemsS, startR, Res.bind_ok, Res.bind_exc, Res.bind_bad, Res.then_ok, Res.then_exc, Res.then_bad, SR.seq_nx, SR.seq_rt, SR.seq_bk, SR.seq_ct, SR.seq_exc, SR.seq_bad, ofO_some, ofO_none, List.map_cons, List.map_nil, List.length_cons, List.length_nil, List.cons_append, List.nil_append, List.replicate, List.getElem?_cons_zero, List.getElem?_cons_succ, List.set_cons_zero, List.set_cons_succ, Nat.reduceAdd, Nat.reduceSub, Option.map_some, Option.map_none, Option.bind_some, Option.bind_none, reduceIte, if_true, if_false, Bool.not_true, Bool.not_false, Bool.false_eq_true, decide_true, decide_false, if_pos, st_get, st_set, st_take, st_len, ty2, truB, len_d, cn3, gt_int, h1]
    have hlp : evS g 100000 (C (d + 6)) (.forS (.nm 1) (.it (.var 0)) w1_check_list) (startR f_check_list.N.length [.d (.tuple xs)]) M = forL (.nm 1) (evS g 100000 (C (d + 6)) w1_check_list) xs [some (.d (.tuple xs)), none] M := by
      rw [evS_for, for_it (var_of (x := .d (.tuple xs)) rfl) rfl]
      rfl
    by_cases ha : xs.all f = true
    · rw [if_pos ⟨hl, ha⟩]
      rw [if_pos ha] at e
      refine (call_rt (fn := f_check_list) (d := d + 6) (x := .d (.tuple xs)) (M' := M) rfl ?_).trans (by rw [fin_d, List.take_length])
      show evS g 100000 (C (d + 6)) b_check_list _ _ = _
      rw [b_check_list, seq_nx ((if_f c1).trans nil_nx), seq_nx (hlp.trans e), ret_tail]
      simp -implicitDefEqProofs only [evS, evE, evL, evT, evI, evC, evP, fSeq, fSkip, fIfS, fRet, fRetN, fAsg, fAug2, fExp, fFor, fVar, fCon, fBin, fBl, fCons, fSCons, fNil, fApp, fCall, fTup, fLst, fCls, fIt, fNotT, fAndT, fOrT, fCmpT, fCh, fTru, fIf, fMeth, fSl, fPart, fNoPart, fRng, fZip, fRev, fIsi, isiG, tyName, fGlb, fRaise, fTry, fTryAs, fIsx, fNeg, fAndV, fOrV, Bi.g, Me.g, asgT_nm, asgT_tup, asgL_nil, asgL_cons, itemsS, startR, Res.bind_ok, Res.bind_exc, Res.bind_bad, Res.then_ok, Res.then_exc, Res.then_bad, SR.seq_nx, SR.seq_rt, SR.seq_bk, SR.seq_ct, SR.seq_exc, SR.seq_bad, ofO_some, ofO_none, List.map_cons, List.map_nil, List.length_cons, List.length_nil, List.cons_append, List.nil_append, List.replicate, List.getElem?_cons_zero, List.getElem?_cons_succ, List.set_cons_zero, List.set_cons_succ, Nat.reduceAdd, Nat.reduceSub, Option.map_some, Option.map_none, Option.bind_some, Option.bind_none, reduceIte, if_true, if_false, Bool.not_true, Bool.not_false, Bool.false_eq_true, decide_true, decide_false, if_pos, st_get, st_set, st_take, st_len]
    · rw [if_neg fun z => ha z.2]
      rw [if_neg ha] at e
      refine (call_ex (fn := f_check_list) (d := d + 6) (c := "BadSelector") (M' := M) (ρ' := [some (.d (.tuple xs)), o']) rfl ?_ exS).trans (by rw [List.take_length])
      have sf := hlp.trans e
      show evS g 100000 (C (d + 6)) b_check_list _ _ = _
      rw [b_check_list, seq_nx ((if_f c1).trans nil_nx)]
      simp -implicitDefEqProofs only [evS, fSeq] at sf ⊢
      rw [sf, SR.seq_exc]
  · rw [if_neg fun z => hl z.1]
    refine (call_ex (fn := f_check_list) (d := d + 6) (c := "BadSelector") (M' := M) (ρ' := [some (.d (.tuple xs)), none]) rfl ?_ exS).trans (by rw [List.take_length])
    have h1 : ((6 : Int) < (xs.length : Int)) := by omega
    simp -implicitDefEqProofs only [f_check_list, b_check_list, evS, evE, evL, evT, evI, evC, evP, fSeq, fSkip, fIfS, fRet, fRetN, fAsg, fAug2, fExp, fFor, fVar, fCon, fBin, fBl, fCons, fSCons, fNil, fApp, fCall, fTup, fLst, fCls, fIt, fNotT, fAndT, fOrT, fCmpT, fCh, fTru, fIf, fMeth, fSl, fPart, fNoPart, fRng, fZip, fRev, fIsi, isiG, tyName, fGlb, fRaise, fTry, fTryAs, fIsx, fNeg, fAndV, fOrV, Bi.g, Me.g, asgT_nm, asgT_tup, asgL_nil, asgL_cons, itemsS, startR, Res.bind_ok, Res.bind_exc, Res.bind_bad, Res.then_ok, Res.then_exc, Res.then_bad, SR.seq_nx, SR.seq_rt, SR.seq_bk, SR.seq_ct, SR.seq_exc, SR.seq_bad, ofO_some, ofO_none, List.map_cons, List.map_nil, List.length_cons, List.length_nil, List.cons_append, List.nil_append, List.replicate, List.getElem?_cons_zero, List.getElem?_cons_succ, List.set_cons_zero, List.set_cons_succ, Nat.reduceAdd, Nat.reduceSub, Option.map_some, Option.map_none, Option.bind_some, Option.bind_none, reduceIte, if_true, if_false, Bool.not_true, Bool.not_false, Bool.false_eq_true, decide_true, decide_false, if_pos, st_get, st_set, st_take, st_len, ty2, truB, len_d, cn3, gt_int, h1]
/-- a list that may have been read -/
def listB (rs : List RS) : Bool := decide (rs.length ≤ 6) && rs.all selB
def listD (rs : List RS) : D := .tuple (rs.map RS.d)
theorem selD_eq {r : RS} (h : r.le) : selD r.d = selB r := by
  unfold selD
  rw [is_sel_ok (d := 0) h]
theorem check_ev {d : Nat} {b : Bool} {rs : List RS} {M : Store} (h : ∀ r ∈ rs, r.le) : callR b (C (d + 7) "check_list") [.d (listD rs)] M = if listB rs = true then .ok (.d (listD rs)) M else .exc "BadSelector" M := by
  unfold listD
  rw [list_ev selD fun x hx => by
    obtain ⟨r, hr, rfl⟩ := List.mem_map.mp hx
    rw [selD_eq (h r hr)]
    exact is_sel_ok (h r hr)]
  have e : (rs.map RS.d).all selD = rs.all selB := by
    rw [List.all_map, Bool.eq_iff_iff, List.all_eq_true, List.all_eq_true]
    exact ⟨fun z r hr => by rw [← selD_eq (h r hr)]; exact z r hr, fun z r hr => by show selD r.d = true; rw [selD_eq (h r hr)]; exact z r hr⟩
  rw [e, List.length_map]
  unfold listB
  by_cases h1 : rs.length ≤ 6
  · by_cases h2 : rs.all selB = true
    · rw [if_pos ⟨h1, h2⟩, decide_eq_true h1, h2]; rfl
    · rw [if_neg fun z => h2 z.2, if_neg fun z => h2 (by simpa [h1] using z)]
  · rw [if_neg fun z => h1 z.1, decide_eq_false h1]; rfl
end TL.K03

set_option maxHeartbeats 400000
namespace TL.K03
open PySem PySem.Spec
open PyProof.Rows L2 TL
/-! ### the text of a part -/
theorem len_app (a b : Str) : (a ++ b).length = a.length + b.length := by
  rw [← cs_len, cs_app, List.length_append, cs_len, cs_len]
theorem len_emp : (Str.empty).length = 0 := rfl
theorem fmt_s {C' : CallF} {a : E} {x : Str} {ρ : Rho} {M : Store} (h : evE g C' a ρ M = .ok (.d (.str x)) M) (hx : x.length ≤ 1000) : evE g C' (.x .fmt a .nil .nil .nil .nil) ρ M = .ok (.d (.str x)) M := by
  have : x.length ≤ sizeLine := by have := sizeLine_eq; omega
  rw [evE]
  show fFmt (evE g C' a) ρ M = _
  unfold fFmt
  rw [h]
  simp only [Res.bind_ok, this, if_true]
def digT (i : Int) : Str := toString i
theorem dig_len {i : Int} (h : 0 ≤ i ∧ i ≤ 6) : (digT i).length = 1 := by
  have : i = 0 ∨ i = 1 ∨ i = 2 ∨ i = 3 ∨ i = 4 ∨ i = 5 ∨ i = 6 := by omega
  rcases this with rfl | rfl | rfl | rfl | rfl | rfl | rfl <;> decide +kernel
theorem fmt_i {C' : CallF} {a : E} {i : Int} {ρ : Rho} {M : Store} (h : evE g C' a ρ M = .ok (.d (.int i)) M) (hi : 0 ≤ i ∧ i ≤ 6) : evE g C' (.x .fmt a .nil .nil .nil .nil) ρ M = .ok (.d (.str (digT i))) M := by
  have : i.natAbs.log2 < 1920 := by
    have : i = 0 ∨ i = 1 ∨ i = 2 ∨ i = 3 ∨ i = 4 ∨ i = 5 ∨ i = 6 := by omega
    rcases this with rfl | rfl | rfl | rfl | rfl | rfl | rfl <;> decide +kernel
  rw [evE]
  show fFmt (evE g C' a) ρ M = _
  unfold fFmt
  rw [h]
  simp only [Res.bind_ok, this, if_true]
  rfl
theorem fs2 {C' : CallF} {a b : E} {x y : Str} {ρ : Rho} {M : Store} (h1 : evE g C' a ρ M = .ok (.d (.str x)) M) (h2 : evE g C' b ρ M = .ok (.d (.str y)) M) (hx : x.length ≤ 1000) (hy : y.length ≤ 1000) :
    evE g C' (.x (.fstr 2) a b .nil .nil .nil) ρ M = .ok (.d (.str (Str.empty ++ x ++ y))) M := by
  have l1 : (Str.empty ++ x).length ≤ sizeLine := by have := sizeLine_eq; rw [len_app, len_emp]; omega
  have l2 : (Str.empty ++ x ++ y).length ≤ sizeLine := by have := sizeLine_eq; rw [len_app, len_app, len_emp]; omega
  rw [evE]
  show fJs [evE g C' a, evE g C' b] Str.empty ρ M = _
  simp only [fJs, h1, h2, Res.bind_ok, l1, l2, if_true]
theorem fs4 {C' : CallF} {a b c e : E} {x y z w : Str} {ρ : Rho} {M : Store} (h1 : evE g C' a ρ M = .ok (.d (.str x)) M) (h2 : evE g C' b ρ M = .ok (.d (.str y)) M) (h3 : evE g C' c ρ M = .ok (.d (.str z)) M) (h4 : evE g C' e ρ M = .ok (.d (.str w)) M)
    (hx : x.length ≤ 1000) (hy : y.length ≤ 1000) (hz : z.length ≤ 1000) (hw : w.length ≤ 1000) :
    evE g C' (.x (.fstr 4) a b c e .nil) ρ M = .ok (.d (.str (Str.empty ++ x ++ y ++ z ++ w))) M := by
  have l1 : (Str.empty ++ x).length ≤ sizeLine := by have := sizeLine_eq; rw [len_app, len_emp]; omega
  have l2 : (Str.empty ++ x ++ y).length ≤ sizeLine := by have := sizeLine_eq; rw [len_app, len_app, len_emp]; omega
  have l3 : (Str.empty ++ x ++ y ++ z).length ≤ sizeLine := by have := sizeLine_eq; rw [len_app, len_app, len_app, len_emp]; omega
  have l4 : (Str.empty ++ x ++ y ++ z ++ w).length ≤ sizeLine := by have := sizeLine_eq; rw [len_app, len_app, len_app, len_app, len_emp]; omega
  rw [evE]
  show fJs [evE g C' a, evE g C' b, evE g C' c, evE g C' e] Str.empty ρ M = _
  simp only [fJs, h1, h2, h3, h4, Res.bind_ok, l1, l2, l3, l4, if_true]
def tT (t : Bool × Str) : Str := Str.empty ++ (if t.1 then ("!." : Str) else ("!" : Str)) ++ t.2
theorem test_text_ok {d : Nat} {t : Bool × Str} {M : Store} (h : t.2.length ≤ 1000) : callR false (C (d + 1) "_test_text") [.d (tst t)] M = .ok (.d (.str (tT t))) M := by
  refine (call_rt (fn := f_test_text) (d := d) (x := .d (.str (tT t))) (M' := M) rfl ?_).trans (by rw [fin_d, List.take_length])
  obtain ⟨b, s⟩ := t
  have s1 : evS g 100000 (C d) (.asg (.tup (.cons (.nm 1) (.cons (.nm 2) .nil))) (.var 0)) (startR f_test_text.N.length [.d (tst (b, s))]) M = .nx [some (.d (tst (b, s))), some (.d (.str (if b then "mark" else "kind"))), some (.d (.str s))] M := by
    simp -implicitDefEqProofs only [f_test_text, tst, evS, evE, evL, evT, evI, evC, evP, fSeq, fSkip, fIfS, fRet, fRetN, fAsg, fAug2, fExp, fFor, fVar, fCon, fBin, fBl, fCons, fSCons, fNil, fApp, fCall, fTup, fLst, fCls, fIt, fNotT, fAndT, fOrT, fCmpT, fCh, fTru, fIf, fMeth, fSl, fPart, fNoPart, fRng, fZip, fRev, fIsi, isiG, tyName, fGlb, fRaise, fTry, fTryAs, fIsx, fNeg, fAndV, fOrV, Bi.g, Me.g, asgT_nm, asgT_tup, asgL_nil, asgL_cons, itemsS, startR, Res.bind_ok, Res.bind_exc, Res.bind_bad, Res.then_ok, Res.then_exc, Res.then_bad, SR.seq_nx, SR.seq_rt, SR.seq_bk, SR.seq_ct, SR.seq_exc, SR.seq_bad, ofO_some, ofO_none, List.map_cons, List.map_nil, List.length_cons, List.length_nil, List.cons_append, List.nil_append, List.replicate, List.getElem?_cons_zero, List.getElem?_cons_succ, List.set_cons_zero, List.set_cons_succ, Nat.reduceAdd, Nat.reduceSub, Option.map_some, Option.map_none, Option.bind_some, Option.bind_none, reduceIte, if_true, if_false, Bool.not_true, Bool.not_false, Bool.false_eq_true, decide_true, decide_false, if_pos, st_get, st_set, st_take, st_len]
  have l1 : ("!" : Str).length ≤ 1000 := by decide +kernel
  have l2 : ("!." : Str).length ≤ 1000 := by decide +kernel
  have ev : evE g (C d) (.ife (.cmp .eq (.var 1) (.con (.str "kind"))) (.x (.fstr 2) (.con (.str "!")) (.x .fmt (.var 2) .nil .nil .nil .nil) .nil .nil .nil) (.x (.fstr 2) (.con (.str "!.")) (.x .fmt (.var 2) .nil .nil .nil .nil) .nil .nil .nil)) [some (.d (tst (b, s))), some (.d (.str (if b then "mark" else "kind"))), some (.d (.str s))] M = .ok (.d (.str (tT (b, s)))) M := by
    rw [evE]
    unfold fIf
    cases b with
    | false =>
      rw [cmp_of (z := true) (var_of rfl) con_of rfl, Res.bind_ok, if_pos rfl, fs2 con_of (fmt_s (var_of rfl) h) l1 h]
      rfl
    | true =>
      rw [cmp_of (z := false) (var_of rfl) con_of rfl, Res.bind_ok, if_neg Bool.false_ne_true, fs2 con_of (fmt_s (var_of rfl) h) l2 h]
      rfl
  show evS g 100000 (C d) b_test_text _ _ = _
  rw [b_test_text, seq_nx s1]
  exact ret_of ev
/-- a part that is small -/
structure PP.sm (q : PP) : Prop where
  k : ∀ s, q.k = some s → s.length ≤ 12
  ms : q.ms.length ≤ 3 ∧ ∀ s ∈ q.ms, s.length ≤ 12
  ts : q.ts.length ≤ 3 ∧ ∀ t ∈ q.ts, t.2.length ≤ 12
  s : 0 ≤ q.s ∧ q.s ≤ 6
  f : 0 ≤ q.f ∧ q.f ≤ 6
theorem nm_len {s : Str} (h : isNm (.str s) = true) : s.length ≤ 12 := by
  simp only [isNm, Bool.and_eq_true, decide_eq_true_eq] at h
  omega
theorem sm_of {q : PP} (h : partB q = true) : q.sm := by
  obtain ⟨k, ms, ts, s, f⟩ := q
  simp only [partB, marksOk, testsB, cntOk, Bool.and_eq_true, decide_eq_true_eq] at h
  obtain ⟨h1, ⟨h2, h3, _⟩, ⟨h4, h5, _⟩, h6, h7⟩ := h
  refine ⟨fun w e => ?_, ⟨?_, fun w hw => ?_⟩, ⟨h4, fun t ht => ?_⟩, h6, h7⟩
  · subst e
    exact nm_len h1
  · rw [List.length_map] at h2
    show ms.length ≤ 3
    omega
  · exact nm_len (List.all_eq_true.mp h3 _ (List.mem_map.mpr ⟨w, hw, rfl⟩))
  · exact nm_len (List.all_eq_true.mp h5 t ht)
def kT : Option Str → Str
  | none => "*"
  | some s => s
def mT (m : Str) : Str := Str.empty ++ ("." : Str) ++ m
def nT (s f : Int) : Str := Str.empty ++ (":" : Str) ++ digT s ++ ("+" : Str) ++ digT f
def wT (q : PP) : List Str := kT q.k :: (q.ms.map mT ++ q.ts.map tT) ++ (if q.s = 1 ∧ q.f = 0 then [] else [nT q.s q.f])
def pT (q : PP) : Str := Txt.join "" (wT q)
theorem strsOf_map : ∀ ws : List Str, strsOf (ws.map .str) = some ws
  | [] => rfl
  | w :: ws => by
    show (strsOf (ws.map .str)).map (w :: ·) = _
    rw [strsOf_map ws]; rfl
theorem join_of {C' : CallF} {e : E} {sep : Str} {v : Vl} {ws : List Str} {ρ : Rho} {M M' : Store} (h : evE g C' e ρ M = .ok v M') (hv : ∀ xs, v ≠ .ro xs) (hs : sqn v M' = some (ws.map .str)) (hl : (ws.map (·.length)).sum + ws.length * sep.length ≤ 16777216) :
    evE g C' (.x .join (.con (.str sep)) e .nil .nil .nil) ρ M = .ok (.d (.str (Txt.join sep ws))) M' := by
  have j : joinT sep v M' = some (.d (.str (Txt.join sep ws))) := by
    unfold joinT
    rw [hs]
    simp only [Option.bind_some, strsOf_map, hl, if_true]
  rw [evE]
  show fJoin (evE g C' (.con (.str sep))) (evE g C' e) ρ M = _
  unfold fJoin
  rw [con_of, Res.bind_ok]
  simp only [h, Res.bind_ok]
  cases v with
  | ro xs => exact absurd rfl (hv xs)
  | _ => simp only [j, ofO_some]
theorem wT_len {q : PP} (h : q.sm) : (wT q).length ≤ 8 ∧ ∀ w ∈ wT q, w.length ≤ 14 := by
  have l1 : ("." : Str).length = 1 := by decide +kernel
  have l2 : ("!" : Str).length = 1 := by decide +kernel
  have l3 : ("!." : Str).length = 2 := by decide +kernel
  have l4 : (":" : Str).length = 1 := by decide +kernel
  have l5 : ("+" : Str).length = 1 := by decide +kernel
  have l6 : ("*" : Str).length = 1 := by decide +kernel
  have a1 := h.ms.1
  have a2 := h.ts.1
  refine ⟨?_, fun w hw => ?_⟩
  · unfold wT
    split <;> simp <;> omega
  · unfold wT at hw
    rcases List.mem_append.mp hw with hw | hw
    · rcases List.mem_cons.mp hw with rfl | hw
      · cases e : q.k with
        | none => show ("*" : Str).length ≤ 14; omega
        | some s => have := h.k s e; show s.length ≤ 14; omega
      · rcases List.mem_append.mp hw with hw | hw
        · obtain ⟨m, hm, rfl⟩ := List.mem_map.mp hw
          have := h.ms.2 m hm
          unfold mT
          rw [len_app, len_app, len_emp]; omega
        · obtain ⟨t, ht, rfl⟩ := List.mem_map.mp hw
          have := h.ts.2 t ht
          unfold tT
          rw [len_app, len_app, len_emp]
          split <;> omega
    · split at hw
      · cases hw
      · rw [List.mem_singleton.mp hw]
        unfold nT
        rw [len_app, len_app, len_app, len_app, len_emp, dig_len h.s, dig_len h.f]; omega
theorem sum_le {B : Nat} : ∀ {ws : List Str}, (∀ w ∈ ws, w.length ≤ B) → (ws.map (·.length)).sum ≤ ws.length * B
  | [], _ => by simp
  | w :: ws, h => by
    have h1 := h w List.mem_cons_self
    have h2 := sum_le (B := B) (ws := ws) fun x hx => h x (List.mem_cons_of_mem _ hx)
    simp only [List.map_cons, List.sum_cons, List.length_cons, Nat.succ_mul]
    omega
abbrev PR (q : PP) (w : Option Vl) : Rho := [some (.d q.d), some (.d (kd q.k)), some (.d (.tuple (q.ms.map .str))), some (.d (.tuple (q.ts.map tst))), some (.d (.int q.s)), some (.d (.int q.f)), w, none, none]
theorem ne_pair {a b c e : Int} {M : Store} : cmp2 .ne (.d (.tuple [.int a, .int b])) (.d (.tuple [.int c, .int e])) M = some (!(decide (a = c ∧ b = e))) := by
  have : dOk (.tuple [.int a, .int b]) (.tuple [.int c, .int e]) = true := by simp [dOk, PyData.depth, PyData.depthAll]
  simp only [cmp2, dat, cmpD, this, PyData.eqv, PyData.eqvAll, Option.bind_some, if_true, Bool.and_true, Option.some.injEq]
  rw [Bool.eq_iff_iff]
  simp
theorem ext_of {C' : CallF} {ρ : Rho} {M : Store} {e : E} {st zs : List D} {i : Nat} (hv : ρ[i]? = some (some (.loc M.length))) (h : evE g C' e ρ (M ++ [.lst st]) = .ok (.d (.list zs)) (M ++ [.lst st])) (hl : st.length + zs.length ≤ 1000) :
    evS g 100000 C' (.exp (.meth .extend (.var i) (.cons e .nil))) ρ (M ++ [.lst st]) = .nx ρ (M ++ [.lst (st ++ zs)]) := by
  have e1 := args1 h
  have e2 : evE g C' (.var i) ρ (M ++ [.lst st]) = .ok (.loc M.length) (M ++ [.lst st]) := var_of hv
  have l := ext_snoc (M := M) (st := st) (zs := zs) (by have := sizeLine_eq; omega)
  rw [evS]
  unfold fExp
  rw [evE]
  unfold fMeth
  simp only [e2, Res.bind_ok, isLst_loc, if_true, e1, Me.g, l, ofO_some, Res.then_ok]
theorem app_of' {C' : CallF} {ρ : Rho} {M : Store} {e : E} {st : List D} {z : D} {i : Nat} (hv : ρ[i]? = some (some (.loc M.length))) (h : evE g C' e ρ (M ++ [.lst st]) = .ok (.d z) (M ++ [.lst st])) (hl : st.length < 1000) :
    evS g 100000 C' (.exp (.meth .append (.var i) (.cons e .nil))) ρ (M ++ [.lst st]) = .nx ρ (M ++ [.lst (st ++ [z])]) := by
  have e1 := args1 h
  have e2 : evE g C' (.var i) ρ (M ++ [.lst st]) = .ok (.loc M.length) (M ++ [.lst st]) := var_of hv
  have l := app_snoc (M := M) (st := st) (z := z) (by have := sizeLine_eq; omega)
  rw [evS]
  unfold fExp
  rw [evE]
  unfold fMeth
  simp only [e2, Res.bind_ok, isLst_loc, if_true, e1, Me.g, l, ofO_some, Res.then_ok]
theorem cnA : List.lookup (Str.ofString "ANY_KIND") g.con = some (.str "*") := by rfl
theorem cnE : List.lookup (Str.ofString "EVERY_NUMBER") g.con = some (.tuple [.int 1, .int 0]) := by rfl
theorem part_text_ok {d : Nat} {q : PP} {M : Store} (h : q.sm) : callR false (C (d + 2) "_part_text") [.d q.d] M = .ok (.d (.str (pT q))) M := by
  have wl := wT_len h
  refine (call_rt (fn := f_part_text) (d := d + 1) (x := .d (.str (pT q))) (M' := M ++ [.lst ((wT q).map .str)]) rfl ?_).trans (by rw [fin_d, st_take])
  have s1 : evS g 100000 (C (d + 1)) (.asg (.tup (.cons (.nm 1) (.cons (.nm 2) (.cons (.nm 3) (.cons (.nm 4) (.cons (.nm 5) .nil)))))) (.var 0)) (startR f_part_text.N.length [.d q.d]) M = .nx (PR q none) M := by
    simp -implicitDefEqProofs only [f_part_text, PP.d, PR, evS, evE, evL, evT, evI, evC, evP, fSeq, fSkip, fIfS, fRet, fRetN, fAsg, fAug2, fExp, fFor, fVar, fCon, fBin, fBl, fCons, fSCons, fNil, fApp, fCall, fTup, fLst, fCls, fIt, fNotT, fAndT, fOrT, fCmpT, fCh, fTru, fIf, fMeth, fSl, fPart, fNoPart, fRng, fZip, fRev, fIsi, isiG, tyName, fGlb, fRaise, fTry, fTryAs, fIsx, fNeg, fAndV, fOrV, Bi.g, Me.g, asgT_nm, asgT_tup, asgL_nil, asgL_cons, itemsS, startR, Res.bind_ok, Res.bind_exc, Res.bind_bad, Res.then_ok, Res.then_exc, Res.then_bad, SR.seq_nx, SR.seq_rt, SR.seq_bk, SR.seq_ct, SR.seq_exc, SR.seq_bad, ofO_some, ofO_none, List.map_cons, List.map_nil, List.length_cons, List.length_nil, List.cons_append, List.nil_append, List.replicate, List.getElem?_cons_zero, List.getElem?_cons_succ, List.set_cons_zero, List.set_cons_succ, Nat.reduceAdd, Nat.reduceSub, Option.map_some, Option.map_none, Option.bind_some, Option.bind_none, reduceIte, if_true, if_false, Bool.not_true, Bool.not_false, Bool.false_eq_true, decide_true, decide_false, if_pos, st_get, st_set, st_take, st_len]
  have s2 : evS g 100000 (C (d + 1)) (.asg (.nm 6) (.cls (.cons (.ife (.cmp .isN (.var 1) (.con .none)) (.glb "ANY_KIND") (.var 1)) .nil))) (PR q none) M = .nx (PR q (some (.loc M.length))) (M ++ [.lst [.str (kT q.k)]]) := by
    obtain ⟨k, ms, ts, s, f⟩ := q
    cases k with
    | none => simp -implicitDefEqProofs only [PR, evS, evE, evL, evT, evI, evC, evP, fSeq, fSkip, fIfS, fRet, fRetN, fAsg, fAug2, fExp, fFor, fVar, fCon, fBin, fBl, fCons, fSCons, fNil, fApp, fCall, fTup, fLst, fCls, fIt, fNotT, fAndT, fOrT, fCmpT, fCh, fTru, fIf, fMeth, fSl, fPart, fNoPart, fRng, fZip, fRev, fIsi, isiG, tyName, fGlb, fRaise, fTry, fTryAs, fIsx, fNeg, fAndV, fOrV, Bi.g, Me.g, asgT_nm, asgT_tup, asgL_nil, asgL_cons, itemsS, startR, Res.bind_ok, Res.bind_exc, Res.bind_bad, Res.then_ok, Res.then_exc, Res.then_bad, SR.seq_nx, SR.seq_rt, SR.seq_bk, SR.seq_ct, SR.seq_exc, SR.seq_bad, ofO_some, ofO_none, List.map_cons, List.map_nil, List.length_cons, List.length_nil, List.cons_append, List.nil_append, List.replicate, List.getElem?_cons_zero, List.getElem?_cons_succ, List.set_cons_zero, List.set_cons_succ, Nat.reduceAdd, Nat.reduceSub, Option.map_some, Option.map_none, Option.bind_some, Option.bind_none, reduceIte, if_true, if_false, Bool.not_true, Bool.not_false, Bool.false_eq_true, decide_true, decide_false, if_pos, st_get, st_set, st_take, st_len, isN_kd, Option.isNone_none, cnA, kT, lst1]
    | some w => simp -implicitDefEqProofs only [PR, kd, evS, evE, evL, evT, evI, evC, evP, fSeq, fSkip, fIfS, fRet, fRetN, fAsg, fAug2, fExp, fFor, fVar, fCon, fBin, fBl, fCons, fSCons, fNil, fApp, fCall, fTup, fLst, fCls, fIt, fNotT, fAndT, fOrT, fCmpT, fCh, fTru, fIf, fMeth, fSl, fPart, fNoPart, fRng, fZip, fRev, fIsi, isiG, tyName, fGlb, fRaise, fTry, fTryAs, fIsx, fNeg, fAndV, fOrV, Bi.g, Me.g, asgT_nm, asgT_tup, asgL_nil, asgL_cons, itemsS, startR, Res.bind_ok, Res.bind_exc, Res.bind_bad, Res.then_ok, Res.then_exc, Res.then_bad, SR.seq_nx, SR.seq_rt, SR.seq_bk, SR.seq_ct, SR.seq_exc, SR.seq_bad, ofO_some, ofO_none, List.map_cons, List.map_nil, List.length_cons, List.length_nil, List.cons_append, List.nil_append, List.replicate, List.getElem?_cons_zero, List.getElem?_cons_succ, List.set_cons_zero, List.set_cons_succ, Nat.reduceAdd, Nat.reduceSub, Option.map_some, Option.map_none, Option.bind_some, Option.bind_none, reduceIte, if_true, if_false, Bool.not_true, Bool.not_false, Bool.false_eq_true, decide_true, decide_false, if_pos, st_get, st_set, st_take, st_len, show cmp2 .isN (.d (.str w)) (.d .none) M = some false from rfl, kT, lst1]
  have a1 := h.ms.1
  have a2 := h.ts.1
  have s3 : evS g 100000 (C (d + 1)) (.exp (.meth .extend (.var 6) (.cons (.lc false (.x (.fstr 2) (.con (.str ".")) (.x .fmt (.var 7) .nil .nil .nil .nil) .nil .nil .nil) (.nm 7) (.it (.var 2)) .nil [7]) .nil))) (PR q (some (.loc M.length))) (M ++ [.lst [.str (kT q.k)]]) = .nx (PR q (some (.loc M.length))) (M ++ [.lst ([.str (kT q.k)] ++ (q.ms.map mT).map .str)]) := by
    refine ext_of rfl ?_ (by simp; omega)
    rw [evE, show evC g (C (d + 1)) .nil = fYes by rw [evC]]
    have e : (q.ms.map mT).map PyData.str = (q.ms.map PyData.str).map fun x => match x with | .str m => .str (mT m) | _ => .none := by
      rw [List.map_map, List.map_map]; rfl
    rw [e]
    refine lc_all _ (by rw [evI]; unfold fIt; rw [var_of (x := .d (.tuple (q.ms.map .str))) rfl]; rfl) fun x hx => ⟨_, asgT_nm, fun c => ?_⟩
    obtain ⟨m, hm, rfl⟩ := List.mem_map.mp hx
    have hm := h.ms.2 m hm
    exact fs2 con_of (fmt_s (var_of rfl) (by omega)) (by decide +kernel) (by omega)
  have s4 : evS g 100000 (C (d + 1)) (.exp (.meth .extend (.var 6) (.cons (.lc false (.call "_test_text" false (.cons (.var 8) .nil)) (.nm 8) (.it (.var 3)) .nil [8]) .nil))) (PR q (some (.loc M.length))) (M ++ [.lst ([.str (kT q.k)] ++ (q.ms.map mT).map .str)]) = .nx (PR q (some (.loc M.length))) (M ++ [.lst ([.str (kT q.k)] ++ (q.ms.map mT).map .str ++ (q.ts.map tT).map .str)]) := by
    refine ext_of rfl ?_ (by simp; omega)
    rw [evE, show evC g (C (d + 1)) .nil = fYes by rw [evC]]
    have e : (q.ts.map tT).map PyData.str = (q.ts.map tst).map fun x => match x with | .tuple [.str a, .str s] => .str (tT (a == "mark", s)) | _ => .none := by
      rw [List.map_map, List.map_map]
      refine List.map_congr_left fun t _ => ?_
      obtain ⟨b, s⟩ := t
      cases b <;> rfl
    rw [e]
    refine lc_all _ (by rw [evI]; unfold fIt; rw [var_of (x := .d (.tuple (q.ts.map tst))) rfl]; rfl) fun x hx => ⟨_, asgT_nm, fun c => ?_⟩
    obtain ⟨t, ht, rfl⟩ := List.mem_map.mp hx
    have ht' := h.ts.2 t ht
    refine call1 (var_of (x := .d (tst t)) rfl) ?_
    rw [test_text_ok (d := d) (by omega)]
    obtain ⟨b, s⟩ := t
    cases b <;> rfl
  have ew : [PyData.str (kT q.k)] ++ (q.ms.map mT).map .str ++ (q.ts.map tT).map .str = (kT q.k :: (q.ms.map mT ++ q.ts.map tT)).map .str := by simp
  rw [ew] at s4
  have c5 : evT g (C (d + 1)) (.cmp .ne (.tup (.cons (.var 4) (.cons (.var 5) .nil))) (.glb "EVERY_NUMBER")) (PR q (some (.loc M.length))) (M ++ [.lst ((kT q.k :: (q.ms.map mT ++ q.ts.map tT)).map .str)]) = .ok (!(decide (q.s = 1 ∧ q.f = 0))) (M ++ [.lst ((kT q.k :: (q.ms.map mT ++ q.ts.map tT)).map .str)]) := by
    simp -implicitDefEqProofs only [PR, evS, evE, evL, evT, evI, evC, evP, fSeq, fSkip, fIfS, fRet, fRetN, fAsg, fAug2, fExp, fFor, fVar, fCon, fBin, fBl, fCons, fSCons, fNil, fApp, fCall, fTup, fLst, fCls, fIt, fNotT, fAndT, fOrT, fCmpT, fCh, fTru, fIf, fMeth, fSl, fPart, fNoPart, fRng, fZip, fRev, fIsi, isiG, tyName, fGlb, fRaise, fTry, fTryAs, fIsx, fNeg, fAndV, fOrV, Bi.g, Me.g, asgT_nm, asgT_tup, asgL_nil, asgL_cons, itemsS, startR, Res.bind_ok, Res.bind_exc, Res.bind_bad, Res.then_ok, Res.then_exc, Res.then_bad, SR.seq_nx, SR.seq_rt, SR.seq_bk, SR.seq_ct, SR.seq_exc, SR.seq_bad, ofO_some, ofO_none, List.getElem?_cons_zero, List.getElem?_cons_succ, tup2, cnE, ne_pair]
  have s5 : evS g 100000 (C (d + 1)) (.ife (.cmp .ne (.tup (.cons (.var 4) (.cons (.var 5) .nil))) (.glb "EVERY_NUMBER")) (.cons (.exp (.meth .append (.var 6) (.cons (.x (.fstr 4) (.con (.str ":")) (.x .fmt (.var 4) .nil .nil .nil .nil) (.con (.str "+")) (.x .fmt (.var 5) .nil .nil .nil .nil) .nil) .nil))) .nil) .nil) (PR q (some (.loc M.length))) (M ++ [.lst ((kT q.k :: (q.ms.map mT ++ q.ts.map tT)).map .str)]) = .nx (PR q (some (.loc M.length))) (M ++ [.lst ((wT q).map .str)]) := by
    by_cases hn : q.s = 1 ∧ q.f = 0
    · rw [if_f (by rw [c5, decide_eq_true hn]; rfl), nil_nx]
      unfold wT
      rw [if_pos hn, List.append_nil]
    · rw [if_t (by rw [c5, decide_eq_false hn]; rfl), seq_nx (app_of' (st := (kT q.k :: (q.ms.map mT ++ q.ts.map tT)).map .str) (z := .str (nT q.s q.f)) rfl ?_ ?_), nil_nx]
      · unfold wT
        rw [if_neg hn, List.map_append]
        rfl
      · exact fs4 con_of (fmt_i (var_of rfl) h.s) con_of (fmt_i (var_of rfl) h.f) (by decide +kernel) (by rw [dig_len h.s]; decide) (by decide +kernel) (by rw [dig_len h.f]; decide)
      · simp; omega
  have l0 : ("" : Str).length = 0 := by decide +kernel
  have fin := join_of (C' := C (d + 1)) (e := .var 6) (sep := "") (v := .loc M.length) (ws := wT q) (ρ := PR q (some (.loc M.length))) (M := M ++ [.lst ((wT q).map .str)]) (M' := M ++ [.lst ((wT q).map .str)]) (var_of rfl) (by simp) (by simp [sqn]) (by
    have := sum_le wl.2
    have := wl.1
    rw [l0]; omega)
  show evS g 100000 (C (d + 1)) b_part_text _ _ = _
  rw [b_part_text, seq_nx s1, seq_nx s2, seq_nx s3, seq_nx s4, seq_nx s5]
  exact ret_of fin
theorem pT_len {q : PP} (h : q.sm) : (pT q).length ≤ 112 := by
  have wl := wT_len h
  have := StrLaws.join_length_le ("" : Str) (wT q)
  have e : (Txt.join "" (wT q)).length = (Str.join "" (wT q)).length := by
    show (Builtin.Str.glued "" (wT q)).length = _
    rw [StrLaws.glued_eq_join]
  have l0 : ("" : Str).length = 0 := by decide +kernel
  have h2 := sum_le wl.2
  unfold pT
  rw [e]
  rw [l0] at this
  omega
end TL.K03

set_option maxHeartbeats 400000
namespace TL.K03
open PySem PySem.Spec
open PyProof.Rows L2 TL
/-! ### the text of a selector -/
def lnkT : D → Str
  | .str l => if l = "child" then " > " else if l = "inside" then " " else if l = "next" then " + " else " ~ "
  | _ => ""
theorem lnk_tab {l : D} (h : l ∈ Ls) : ∃ s, l = .str s ∧ (tabOf g "LINK_TEXTS").lookup s = some (.str (lnkT l)) := by
  simp only [Ls, List.mem_cons, List.not_mem_nil, or_false] at h
  rcases h with rfl | rfl | rfl | rfl <;> exact ⟨_, rfl, by kernel_rfl⟩
theorem lnk_len {l : D} (h : l ∈ Ls) : (lnkT l).length ≤ 3 := by
  simp only [Ls, List.mem_cons, List.not_mem_nil, or_false] at h
  rcases h with rfl | rfl | rfl | rfl <;> decide +kernel
theorem cdix_of {C' : CallF} {a : E} {x s : Str} {y : D} {ρ : Rho} {M : Store} (h : evE g C' a ρ M = .ok (.d (.str s)) M) (hl : (tabOf g x).lookup s = some y) : evE g C' (.x (.cdix x) a .nil .nil .nil .nil) ρ M = .ok (.d y) M := by
  rw [evE]
  show fCdix (tabOf g x) (evE g C' a) ρ M = _
  unfold fCdix
  rw [h]
  simp only [Res.bind_ok, hl]
theorem forL_nx {t : Tg} {fb : SF} {x : D} {xs : List D} {ρ ρ1 ρ2 : Rho} {M M' : Store} (h1 : asgT t (.d x) ρ = some ρ1) (h2 : fb ρ1 M = .nx ρ2 M') : forL t fb (x :: xs) ρ M = forL t fb xs ρ2 M' := by
  simp only [forL, h1, h2]
def tw : List PP → List D → List Str
  | q :: r, l :: ls => lnkT l :: pT q :: tw r ls
  | _, _ => []
theorem tw_len : ∀ {r : List PP} {ls : List D}, (tw r ls).length ≤ 2 * r.length
  | [], ls => by simp [tw]
  | q :: r, [] => by simp [tw]
  | q :: r, l :: ls => by
    have := tw_len (r := r) (ls := ls)
    simp only [tw, List.length_cons]; omega
abbrev TR (x ps ls : D) (w : Option Vl) (a b : Option Vl) : Rho := [some (.d x), some (.d ps), some (.d ls), w, a, b]
theorem st_loop {d : Nat} {x ps lz : D} {M : Store} : ∀ (r : List PP) (ls : List D) (ws : List Str) (a b : Option Vl), (∀ q ∈ r, q.sm) → (∀ l ∈ ls, l ∈ Ls) → r.length = ls.length → ws.length + 2 * r.length ≤ 900 →
    ∃ a' b', forL (.tup (.cons (.nm 4) (.cons (.nm 5) .nil))) (evS g 100000 (C (d + 2)) w1_selector_text) (zipD ls (r.map PP.d)) (TR x ps lz (some (.loc M.length)) a b) (M ++ [.lst (ws.map .str)]) = .nx (TR x ps lz (some (.loc M.length)) a' b') (M ++ [.lst ((ws ++ tw r ls).map .str)])
  | [], [], ws, a, b, _, _, _, _ => ⟨a, b, by simp [zipD, forL, tw]⟩
  | [], _ :: _, _, _, _, _, _, h, _ => by simp at h
  | _ :: _, [], _, _, _, _, _, h, _ => by simp at h
  | q :: r, l :: ls, ws, a, b, h1, h2, h3, h4 => by
    simp only [List.length_cons] at h3 h4
    obtain ⟨s, rfl, ht⟩ := lnk_tab (h2 l List.mem_cons_self)
    obtain ⟨a', b', e⟩ := st_loop (d := d) (x := x) (ps := ps) (lz := lz) (M := M) r ls (ws ++ [lnkT (.str s), pT q]) (some (.d (.str s))) (some (.d q.d)) (fun y hy => h1 y (List.mem_cons_of_mem _ hy)) (fun y hy => h2 y (List.mem_cons_of_mem _ hy)) (by omega) (by simp; omega)
    refine ⟨a', b', ?_⟩
    have ez : zipD (PyData.str s :: ls) ((q :: r).map PP.d) = .tuple [.str s, q.d] :: zipD ls (r.map PP.d) := rfl
    have s1 : evS g 100000 (C (d + 2)) w1_selector_text (TR x ps lz (some (.loc M.length)) (some (.d (.str s))) (some (.d q.d))) (M ++ [.lst (ws.map .str)]) = .nx (TR x ps lz (some (.loc M.length)) (some (.d (.str s))) (some (.d q.d))) (M ++ [.lst ((ws ++ [lnkT (.str s), pT q]).map .str)]) := by
      have a1 := app_of' (C' := C (d + 2)) (ρ := TR x ps lz (some (.loc M.length)) (some (.d (.str s))) (some (.d q.d))) (M := M) (st := ws.map .str) (z := .str (lnkT (.str s))) (i := 3) rfl (cdix_of (a := .var 4) (x := "LINK_TEXTS") (var_of rfl) ht) (by rw [List.length_map]; omega)
      have a2 := app_of' (C' := C (d + 2)) (ρ := TR x ps lz (some (.loc M.length)) (some (.d (.str s))) (some (.d q.d))) (M := M) (st := ws.map .str ++ [.str (lnkT (.str s))]) (z := .str (pT q)) (i := 3) rfl (call1 (f := "_part_text") (keep := false) (X := .var 5) (var_of (x := .d q.d) rfl) (part_text_ok (d := d) (h1 q List.mem_cons_self))) (by simp; omega)
      rw [w1_selector_text, seq_nx a1, seq_nx a2, nil_nx]
      simp
    rw [ez, forL_nx (ρ1 := TR x ps lz (some (.loc M.length)) (some (.d (.str s))) (some (.d q.d))) (by simp only [asgT_tup, asgL_cons, asgT_nm, asgL_nil, Option.bind_some]; rfl) s1, e]
    simp [tw]
def sW (r : RS) : List Str := match r.qs with
  | q :: t => pT q :: tw t r.ls
  | [] => []
def sT (r : RS) : Str := Txt.join "" (sW r)
structure RS.sm (r : RS) : Prop where
  qs : ∀ q ∈ r.qs, q.sm
  ls : ∀ l ∈ r.ls, l ∈ Ls
  n : r.ls.length + 1 = r.qs.length
  m : r.qs.length ≤ 5
theorem tw_le : ∀ {r : List PP} {ls : List D}, (∀ q ∈ r, q.sm) → (∀ l ∈ ls, l ∈ Ls) → ∀ w ∈ tw r ls, w.length ≤ 112
  | [], ls, _, _, w, h => by simp [tw] at h
  | q :: r, [], _, _, w, h => by simp [tw] at h
  | q :: r, l :: ls, h1, h2, w, h => by
    simp only [tw, List.mem_cons] at h
    rcases h with rfl | rfl | h
    · have := lnk_len (h2 l List.mem_cons_self); omega
    · exact pT_len (h1 q List.mem_cons_self)
    · exact tw_le (fun y hy => h1 y (List.mem_cons_of_mem _ hy)) (fun y hy => h2 y (List.mem_cons_of_mem _ hy)) w h
theorem sW_len {r : RS} (h : r.sm) : (sW r).length ≤ 9 ∧ ∀ w ∈ sW r, w.length ≤ 112 := by
  obtain ⟨qs, ls⟩ := r
  cases qs with
  | nil => exact ⟨by simp [sW], by simp [sW]⟩
  | cons q t =>
    have h5 := h.m
    simp only [List.length_cons] at h5
    refine ⟨?_, fun w hw => ?_⟩
    · have := tw_len (r := t) (ls := ls)
      simp only [sW, List.length_cons]; omega
    · rcases List.mem_cons.mp hw with rfl | hw
      · exact pT_len (h.qs q List.mem_cons_self)
      · exact tw_le (fun y hy => h.qs y (List.mem_cons_of_mem _ hy)) h.ls w hw
theorem join_len {sep : Str} {ws : List Str} : (Txt.join sep ws).length ≤ (ws.map (·.length)).sum + ws.length * sep.length := by
  have e : (Txt.join sep ws).length = (Str.join sep ws).length := by
    show (Builtin.Str.glued sep ws).length = _
    rw [StrLaws.glued_eq_join]
  rw [e]
  exact StrLaws.join_length_le sep ws
theorem sT_len {r : RS} (h : r.sm) : (sT r).length ≤ 1008 := by
  have wl := sW_len h
  have l0 : ("" : Str).length = 0 := by decide +kernel
  have := join_len (sep := "") (ws := sW r)
  have h2 := sum_le wl.2
  unfold sT
  rw [l0] at this
  omega
theorem selector_text_ok {d : Nat} {r : RS} {M : Store} (h : r.sm) : callR false (C (d + 3) "_selector_text") [.d r.d] M = .ok (.d (.str (sT r))) M := by
  have wl := sW_len h
  obtain ⟨qs, ls⟩ := r
  cases qs with
  | nil => have := h.n; simp at this
  | cons q t =>
    have hn := h.n
    have hm := h.m
    simp only [List.length_cons] at hn hm
    obtain ⟨a', b', e⟩ := st_loop (d := d) (x := RS.d ⟨q :: t, ls⟩) (ps := .tuple ((q :: t).map PP.d)) (lz := .tuple ls) (M := M) t ls [pT q] none none (fun y hy => h.qs y (List.mem_cons_of_mem _ hy)) h.ls (by omega) (by simp; omega)
    refine (call_rt (fn := f_selector_text) (d := d + 2) (x := .d (.str (sT ⟨q :: t, ls⟩))) (M' := M ++ [.lst ((sW ⟨q :: t, ls⟩).map .str)]) rfl ?_).trans (by rw [fin_d, st_take])
    have s1 : evS g 100000 (C (d + 2)) (.asg (.tup (.cons (.nm 1) (.cons (.nm 2) .nil))) (.var 0)) (startR f_selector_text.N.length [.d (RS.d ⟨q :: t, ls⟩)]) M = .nx (TR (RS.d ⟨q :: t, ls⟩) (.tuple ((q :: t).map PP.d)) (.tuple ls) none none none) M := by
      simp -implicitDefEqProofs only [f_selector_text, RS.d, TR, evS, fAsg, var_of (C' := C (d + 2)) (i := 0) (x := .d (.tuple [.tuple ((q :: t).map PP.d), .tuple ls])) (ρ := startR 6 [.d (.tuple [.tuple ((q :: t).map PP.d), .tuple ls])]) (M := M) rfl, Res.then_ok, asgT_tup, asgL_cons, asgT_nm, asgL_nil, Option.bind_some]
      rfl
    have hx : ix2 (.d (.tuple ((q :: t).map PP.d))) (.d (.int 0)) M = some (.d q.d) := ix_nat (xs := (q :: t).map PP.d) (i := 0) (by simp)
    have s2 : evS g 100000 (C (d + 2)) (.asg (.nm 3) (.cls (.cons (.call "_part_text" false (.cons (.ix (.var 1) (.con (.int 0))) .nil)) .nil))) (TR (RS.d ⟨q :: t, ls⟩) (.tuple ((q :: t).map PP.d)) (.tuple ls) none none none) M = .nx (TR (RS.d ⟨q :: t, ls⟩) (.tuple ((q :: t).map PP.d)) (.tuple ls) (some (.loc M.length)) none none) (M ++ [.lst ([pT q].map .str)]) := by
      refine asg_of ?_
      have c := call1 (f := "_part_text") (keep := false) (ix_by (var_of (ρ := TR (RS.d ⟨q :: t, ls⟩) (.tuple ((q :: t).map PP.d)) (.tuple ls) none none none) (i := 1) rfl) con_of hx) (part_text_ok (d := d) (h.qs q List.mem_cons_self))
      rw [evE]
      unfold fCls
      rw [args1 c, Res.bind_ok, lst1]
      rfl
    have hz : evI g (C (d + 2)) (.zip (.cons (.var 2) (.cons (.sl false (.var 1) (.pt (.con (.int 1))) .nil) .nil))) (TR (RS.d ⟨q :: t, ls⟩) (.tuple ((q :: t).map PP.d)) (.tuple ls) (some (.loc M.length)) none none) (M ++ [.lst ([pT q].map .str)]) = .ok (zipD ls (t.map PP.d)) (M ++ [.lst ([pT q].map .str)]) := by
      simp -implicitDefEqProofs only [TR, evS, evE, evL, evT, evI, evC, evP, fSeq, fSkip, fIfS, fRet, fRetN, fAsg, fAug2, fExp, fFor, fVar, fCon, fBin, fBl, fCons, fSCons, fNil, fApp, fCall, fTup, fLst, fCls, fIt, fNotT, fAndT, fOrT, fCmpT, fCh, fTru, fIf, fMeth, fSl, fPart, fNoPart, fRng, fZip, fRev, fIsi, isiG, tyName, fGlb, fRaise, fTry, fTryAs, fIsx, fNeg, fAndV, fOrV, Bi.g, Me.g, asgT_nm, asgT_tup, asgL_nil, asgL_cons, itemsS, startR, Res.bind_ok, Res.bind_exc, Res.bind_bad, Res.then_ok, Res.then_exc, Res.then_bad, SR.seq_nx, SR.seq_rt, SR.seq_bk, SR.seq_ct, SR.seq_exc, SR.seq_bad, ofO_some, ofO_none, List.getElem?_cons_zero, List.getElem?_cons_succ, sl2, cutD_1, zipG]
      rfl
    have hf : evS g 100000 (C (d + 2)) (.forS (.tup (.cons (.nm 4) (.cons (.nm 5) .nil))) (.zip (.cons (.var 2) (.cons (.sl false (.var 1) (.pt (.con (.int 1))) .nil) .nil))) w1_selector_text) (TR (RS.d ⟨q :: t, ls⟩) (.tuple ((q :: t).map PP.d)) (.tuple ls) (some (.loc M.length)) none none) (M ++ [.lst ([pT q].map .str)]) = .nx (TR (RS.d ⟨q :: t, ls⟩) (.tuple ((q :: t).map PP.d)) (.tuple ls) (some (.loc M.length)) a' b') (M ++ [.lst ((sW ⟨q :: t, ls⟩).map .str)]) := by
      rw [evS_for]
      unfold fFor
      rw [hz]
      exact e
    have l0 : ("" : Str).length = 0 := by decide +kernel
    have fin := join_of (C' := C (d + 2)) (e := .var 3) (sep := "") (v := .loc M.length) (ws := sW ⟨q :: t, ls⟩) (ρ := TR (RS.d ⟨q :: t, ls⟩) (.tuple ((q :: t).map PP.d)) (.tuple ls) (some (.loc M.length)) a' b') (M := M ++ [.lst ((sW ⟨q :: t, ls⟩).map .str)]) (M' := M ++ [.lst ((sW ⟨q :: t, ls⟩).map .str)]) (var_of rfl) (by simp) (by simp [sqn]) (by
      have := sum_le wl.2
      have := wl.1
      rw [l0]; omega)
    show evS g 100000 (C (d + 2)) b_selector_text _ _ = _
    rw [b_selector_text, seq_nx s1, seq_nx s2, seq_nx hf]
    exact ret_of fin
def lT (rs : List RS) : Str := Txt.join ", " (rs.map sT)
theorem selectors_text_ok {d : Nat} {b : Bool} {rs : List RS} {M : Store} (h : ∀ r ∈ rs, r.sm) (hl : rs.length ≤ 6) : callR b (C (d + 4) "selectors_text") [.d (listD rs)] M = .ok (.d (.str (lT rs))) M := by
  refine (call_rt (fn := f_selectors_text) (d := d + 3) (x := .d (.str (lT rs))) (M' := M) rfl ?_).trans (by rw [fin_d, List.take_length])
  have l2 : (", " : Str).length = 2 := by decide +kernel
  have hlc : evE g (C (d + 3)) (.lc false (.call "_selector_text" false (.cons (.var 1) .nil)) (.nm 1) (.it (.var 0)) .nil [1]) (startR f_selectors_text.N.length [.d (listD rs)]) M = .ok (.d (.list ((rs.map sT).map .str))) M := by
    rw [evE, show evC g (C (d + 3)) .nil = fYes by rw [evC]]
    have key : ∃ F : D → D, (∀ r ∈ rs, F r.d = .str (sT r)) := ⟨fun x => match callR false (C 3 "_selector_text") [.d x] [] with | .ok (.d y) _ => y | _ => .none, fun r hr => by
      show (match callR false (C 3 "_selector_text") [.d r.d] [] with | .ok (.d y) _ => y | _ => PyData.none) = _
      rw [selector_text_ok (d := 0) (h r hr)]⟩
    obtain ⟨F, hF⟩ := key
    have e : (rs.map sT).map PyData.str = (rs.map RS.d).map F := by
      rw [List.map_map, List.map_map]
      exact List.map_congr_left fun r hr => (hF r hr).symm
    rw [e]
    refine lc_all _ (by rw [evI]; unfold fIt; rw [var_of (x := .d (.tuple (rs.map RS.d))) rfl]; rfl) fun x hx => ⟨_, asgT_nm, fun c => ?_⟩
    obtain ⟨r, hr, rfl⟩ := List.mem_map.mp hx
    rw [hF r hr]
    exact call1 (var_of (x := .d r.d) rfl) (selector_text_ok (d := d) (h r hr))
  have fin := join_of (sep := ", ") (ws := rs.map sT) hlc (by simp) rfl (by
    have := sum_le (B := 1008) (ws := rs.map sT) fun w hw => by
      obtain ⟨r, hr, rfl⟩ := List.mem_map.mp hw
      exact sT_len (h r hr)
    rw [List.length_map] at this
    rw [l2, List.length_map]; omega)
  show evS g 100000 (C (d + 3)) b_selectors_text _ _ = _
  exact ret_of fin
theorem lT_len {rs : List RS} (h : ∀ r ∈ rs, r.sm) (hl : rs.length ≤ 6) : (lT rs).length ≤ 6100 := by
  have l2 : (", " : Str).length = 2 := by decide +kernel
  have h1 := join_len (sep := ", ") (ws := rs.map sT)
  have := sum_le (B := 1008) (ws := rs.map sT) fun w hw => by
    obtain ⟨r, hr, rfl⟩ := List.mem_map.mp hw
    exact sT_len (h r hr)
  rw [List.length_map] at this
  rw [l2, List.length_map] at h1
  unfold lT
  omega
/-- what is checked is small -/
theorem sm_sel {r : RS} (h : r.le) (hb : selB r = true) : r.sm := by
  unfold selB at hb
  rw [Bool.and_eq_true, decide_eq_true_eq] at hb
  obtain ⟨⟨b1, b2, b3⟩, b4⟩ := hb
  exact ⟨fun q hq => sm_of (List.all_eq_true.mp b4 q hq), h.ls, b3, b2⟩
end TL.K03

set_option maxHeartbeats 400000
namespace TL.K03
open PySem PySem.Spec
open PyProof.Rows L2 TL
/-! ### reading any text -/
theorem tuple_l' {xs : List D} {M : Store} : tupleG [.d (.list xs)] M = some (.d (.tuple xs), M) := rfl
theorem cutS_le {z : Str} {lo hi : Option Int} : (L2.cutS z lo hi).length ≤ z.length := L2.cutS_length z lo hi
theorem sm_ev {C' : CallF} {m : Sm} {a b : E} {x y : Str} {z : Vl} {ρ : Rho} {M : Store} (h1 : evE g C' a ρ M = .ok (.d (.str x)) M) (h2 : evE g C' b ρ M = .ok (.d (.str y)) M) (h : m.g x y = some z) : evE g C' (.x (.sm m) a b .nil .nil .nil) ρ M = .ok z M := by
  rw [evE]
  show fSm m.g (evE g C' a) (evE g C' b) ρ M = _
  unfold fSm
  rw [h1, Res.bind_ok]
  simp only [h2, Res.bind_ok, h, ofO_some]
theorem joinL_cnt {c : Nat} {t : List Nat} : ∀ {ps : List (List Nat)}, ps.length ≤ (joinL (c :: t) ps).length + 1
  | [] => by simp
  | [p] => by simp
  | p :: q :: r => by
    have := joinL_cnt (c := c) (t := t) (ps := q :: r)
    have e : joinL (c :: t) (p :: q :: r) = p ++ (c :: t) ++ joinL (c :: t) (q :: r) := rfl
    rw [e, List.length_append, List.length_append]
    simp only [List.length_cons] at this ⊢
    omega
theorem split_cnt {x y : Str} (hy : 1 ≤ y.length) : (Txt.split x y).length ≤ x.length + 1 := by
  have hj : Txt.join y (Txt.split x y) = x := by
    show Builtin.Str.glued y _ = _
    rw [StrLaws.glued_eq_join, StrLaws.join_split]
  cases e : cs y with
  | nil => rw [← cs_len, e] at hy; simp at hy
  | cons c t =>
    have := joinL_cnt (c := c) (t := t) (ps := (Txt.split x y).map cs)
    rw [← e, ← cs_join, hj, List.length_map, cs_len] at this
    exact this
theorem split_ev {C' : CallF} {a : E} {x sep : Str} {ρ : Rho} {M : Store} (h : evE g C' a ρ M = .ok (.d (.str x)) M) (hx : x.length ≤ 10000) (hs : (sep.length == 0) = false) :
    evE g C' (.x (.sm .split) a (.con (.str sep)) .nil .nil .nil) ρ M = .ok (.d (.list ((Txt.split x sep).map .str))) M := by
  refine sm_ev h con_of ?_
  show splitT x sep = _
  unfold splitT
  rw [if_pos ⟨hs, by have := sizeLine_eq; omega⟩]
theorem read_test_ok {d : Nat} {w : Str} {M : Store} (h : w.length ≤ 10000) : ∃ t : Bool × Str, (∀ d M, callR false (C (d + 1) "_read_test") [.d (.str w)] M = .ok (.d (tst t)) M) ∧ t.2.length ≤ w.length := by
  have hz : w.length ≤ sizeLine := by have := sizeLine_eq; omega
  cases hs : Txt.startswith w "." with
  | true =>
    refine ⟨(true, L2.cutS w (some 1) none), fun d M => ?_, cutS_le⟩
    refine (call_rt (fn := f_read_test) (d := d) (x := .d (tst (true, L2.cutS w (some 1) none))) (M' := M) rfl ?_).trans (by rw [fin_d, List.take_length])
    have c1 : evT g (C d) (.tt (.x (.sm .startswith) (.var 0) (.con (.str ".")) .nil .nil .nil)) (startR f_read_test.N.length [.d (.str w)]) M = .ok true M := by
      rw [evT]
      unfold fTru
      rw [sm_ev (m := .startswith) (z := .d (.bool true)) (var_of rfl) con_of (by show some (Vl.d (.bool (Txt.startswith w "."))) = _; rw [hs]), Res.bind_ok]
      rfl
    show evS g 100000 (C d) b_read_test _ _ = _
    rw [b_read_test, seq_rt ((if_t c1).trans (ret_of (?_ : evE g (C d) (.tup (.cons (.con (.str "mark")) (.cons (.sl false (.var 0) (.pt (.con (.int 1))) .nil) .nil))) _ M = .ok (.d (tst (true, L2.cutS w (some 1) none))) M)))]
    simp -implicitDefEqProofs only [f_read_test, evS, evE, evL, evT, evI, evC, evP, fSeq, fSkip, fIfS, fRet, fRetN, fAsg, fAug2, fExp, fFor, fVar, fCon, fBin, fBl, fCons, fSCons, fNil, fApp, fCall, fTup, fLst, fCls, fIt, fNotT, fAndT, fOrT, fCmpT, fCh, fTru, fIf, fMeth, fSl, fPart, fNoPart, fRng, fZip, fRev, fIsi, isiG, tyName, fGlb, fRaise, fTry, fTryAs, fIsx, fNeg, fAndV, fOrV, Bi.g, Me.g, asgT_nm, asgT_tup, asgL_nil, asgL_cons, itemsS, startR, Res.bind_ok, Res.bind_exc, Res.bind_bad, Res.then_ok, Res.then_exc, Res.then_bad, SR.seq_nx, SR.seq_rt, SR.seq_bk, SR.seq_ct, SR.seq_exc, SR.seq_bad, ofO_some, ofO_none, List.map_cons, List.map_nil, List.length_cons, List.length_nil, List.cons_append, List.nil_append, List.replicate, List.getElem?_cons_zero, List.getElem?_cons_succ, List.set_cons_zero, List.set_cons_succ, Nat.reduceAdd, Nat.reduceSub, Option.map_some, Option.map_none, Option.bind_some, Option.bind_none, reduceIte, if_true, if_false, Bool.not_true, Bool.not_false, Bool.false_eq_true, decide_true, decide_false, if_pos, st_get, st_set, st_take, st_len, sl2, hz, tup2, tst]
  | false =>
    refine ⟨(false, w), fun d M => ?_, Nat.le_refl _⟩
    refine (call_rt (fn := f_read_test) (d := d) (x := .d (tst (false, w))) (M' := M) rfl ?_).trans (by rw [fin_d, List.take_length])
    have c1 : evT g (C d) (.tt (.x (.sm .startswith) (.var 0) (.con (.str ".")) .nil .nil .nil)) (startR f_read_test.N.length [.d (.str w)]) M = .ok false M := by
      rw [evT]
      unfold fTru
      rw [sm_ev (m := .startswith) (z := .d (.bool false)) (var_of rfl) con_of (by show some (Vl.d (.bool (Txt.startswith w "."))) = _; rw [hs]), Res.bind_ok]
      rfl
    show evS g 100000 (C d) b_read_test _ _ = _
    rw [b_read_test, seq_nx ((if_f c1).trans nil_nx)]
    refine ret_of ?_
    simp -implicitDefEqProofs only [f_read_test, evS, evE, evL, evT, evI, evC, evP, fSeq, fSkip, fIfS, fRet, fRetN, fAsg, fAug2, fExp, fFor, fVar, fCon, fBin, fBl, fCons, fSCons, fNil, fApp, fCall, fTup, fLst, fCls, fIt, fNotT, fAndT, fOrT, fCmpT, fCh, fTru, fIf, fMeth, fSl, fPart, fNoPart, fRng, fZip, fRev, fIsi, isiG, tyName, fGlb, fRaise, fTry, fTryAs, fIsx, fNeg, fAndV, fOrV, Bi.g, Me.g, asgT_nm, asgT_tup, asgL_nil, asgL_cons, itemsS, startR, Res.bind_ok, Res.bind_exc, Res.bind_bad, Res.then_ok, Res.then_exc, Res.then_bad, SR.seq_nx, SR.seq_rt, SR.seq_bk, SR.seq_ct, SR.seq_exc, SR.seq_bad, ofO_some, ofO_none, List.map_cons, List.map_nil, List.length_cons, List.length_nil, List.cons_append, List.nil_append, List.replicate, List.getElem?_cons_zero, List.getElem?_cons_succ, List.set_cons_zero, List.set_cons_succ, Nat.reduceAdd, Nat.reduceSub, Option.map_some, Option.map_none, Option.bind_some, Option.bind_none, reduceIte, if_true, if_false, Bool.not_true, Bool.not_false, Bool.false_eq_true, decide_true, decide_false, if_pos, st_get, st_set, st_take, st_len, tup2, tst, Bool.false_eq_true, if_false]
theorem cnDg : List.lookup (Str.ofString "DIGITS") g.con = some (.str "0123456789") := by rfl
theorem read_pair_ok {w : Str} (h : w.length ≤ 10000) : (∀ d M, callR false (C (d + 1) "_read_pair") [.d (.str w)] M = .exc "BadSelector" M) ∨ ∃ a b : Int, ∀ d M, callR false (C (d + 1) "_read_pair") [.d (.str w)] M = .ok (.d (.tuple [.int a, .int b])) M := by
  have hz : w.length ≤ sizeLine := by have := sizeLine_eq; omega
  by_cases h3 : w.length = 3
  · refine .inr ⟨Txt.find "0123456789" ⟨#[(cs w).getD 0 0]⟩, Txt.find "0123456789" ⟨#[(cs w).getD 2 0]⟩, fun d M => ?_⟩
    refine (call_rt (fn := f_read_pair) (d := d) (x := .d (.tuple [.int (Txt.find "0123456789" ⟨#[(cs w).getD 0 0]⟩), .int (Txt.find "0123456789" ⟨#[(cs w).getD 2 0]⟩)])) (M' := M) rfl ?_).trans (by rw [fin_d, List.take_length])
    have l3 : (cs w).length = 3 := by rw [cs_len]; exact h3
    have ix : ∀ i : Nat, i < 3 → ix2 (.d (.str w)) (.d (.int (i : Int))) M = some (.d (.str ⟨#[(cs w).getD i 0]⟩)) := fun i hi => by
      have ha : L2.atI (cs w) (i : Int) = some ((cs w).getD i 0) := by
        have h2 : (i : Int) < ((cs w).length : Int) := by omega
        have h4 : (i : Int) < 3 := by omega
        have h5 : i < w.cps.size := by have : w.cps.size = 3 := h3; omega
        simp [L2.atI, ixN, h2, l3, hi, h4, h5]
      simp only [ix2, sqn, hz, if_true]
      rw [show w.cps.toList = cs w from rfl, ha]
      rfl
    have c1 : evT g (C d) (.cmp .ne (.bi .len (.cons (.var 0) .nil)) (.con (.int 3))) (startR f_read_pair.N.length [.d (.str w)]) M = .ok false M :=
      cmp_of (bi1 (f := .len) (var_of rfl) (len_s hz)) con_of (by rw [ne_int, h3]; rfl)
    have i0 := ix 0 (by decide)
    have i2 := ix 2 (by decide)
    have e1 : evE g (C d) (.x (.sm .find) (.glb "DIGITS") (.ix (.var 0) (.con (.int 0))) .nil .nil .nil) (startR f_read_pair.N.length [.d (.str w)]) M = .ok (.d (.int (Txt.find "0123456789" ⟨#[(cs w).getD 0 0]⟩))) M :=
      sm_ev (by rw [evE]; unfold fGlb; rw [cnDg]) (ix_by (var_of (x := .d (.str w)) rfl) con_of i0) rfl
    have e2 : evE g (C d) (.x (.sm .find) (.glb "DIGITS") (.ix (.var 0) (.con (.int 2))) .nil .nil .nil) (startR f_read_pair.N.length [.d (.str w)]) M = .ok (.d (.int (Txt.find "0123456789" ⟨#[(cs w).getD 2 0]⟩))) M :=
      sm_ev (by rw [evE]; unfold fGlb; rw [cnDg]) (ix_by (var_of (x := .d (.str w)) rfl) con_of i2) rfl
    have el : evL g (C d) (.cons (.x (.sm .find) (.glb "DIGITS") (.ix (.var 0) (.con (.int 0))) .nil .nil .nil) (.cons (.x (.sm .find) (.glb "DIGITS") (.ix (.var 0) (.con (.int 2))) .nil .nil .nil) .nil)) (startR f_read_pair.N.length [.d (.str w)]) M = .ok [.d (.int (Txt.find "0123456789" ⟨#[(cs w).getD 0 0]⟩)), .d (.int (Txt.find "0123456789" ⟨#[(cs w).getD 2 0]⟩))] M := by
      simp only [evL, fCons, fNil, e1, e2, Res.bind_ok]
    show evS g 100000 (C d) b_read_pair _ _ = _
    rw [b_read_pair, seq_nx ((if_f c1).trans nil_nx)]
    exact ret_of (tup_of el tup2)
  · refine .inl fun d M => ?_
    have hn : ¬ ((w.length : Int) = 3) := by omega
    refine (call_ex (fn := f_read_pair) (d := d) (c := "BadSelector") (M' := M) (ρ' := [some (.d (.str w))]) rfl ?_ exS).trans (by rw [List.take_length])
    simp -implicitDefEqProofs only [f_read_pair, b_read_pair, evS, evE, evL, evT, evI, evC, evP, fSeq, fSkip, fIfS, fRet, fRetN, fAsg, fAug2, fExp, fFor, fVar, fCon, fBin, fBl, fCons, fSCons, fNil, fApp, fCall, fTup, fLst, fCls, fIt, fNotT, fAndT, fOrT, fCmpT, fCh, fTru, fIf, fMeth, fSl, fPart, fNoPart, fRng, fZip, fRev, fIsi, isiG, tyName, fGlb, fRaise, fTry, fTryAs, fIsx, fNeg, fAndV, fOrV, Bi.g, Me.g, asgT_nm, asgT_tup, asgL_nil, asgL_cons, itemsS, startR, Res.bind_ok, Res.bind_exc, Res.bind_bad, Res.then_ok, Res.then_exc, Res.then_bad, SR.seq_nx, SR.seq_rt, SR.seq_bk, SR.seq_ct, SR.seq_exc, SR.seq_bad, ofO_some, ofO_none, List.map_cons, List.map_nil, List.length_cons, List.length_nil, List.cons_append, List.nil_append, List.replicate, List.getElem?_cons_zero, List.getElem?_cons_succ, List.set_cons_zero, List.set_cons_succ, Nat.reduceAdd, Nat.reduceSub, Option.map_some, Option.map_none, Option.bind_some, Option.bind_none, reduceIte, if_true, if_false, Bool.not_true, Bool.not_false, Bool.false_eq_true, decide_true, decide_false, if_pos, st_get, st_set, st_take, st_len, len_s hz, ne_int, hn]
theorem unst_of {C' : CallF} {i j : Nat} {e : E} {y : D} {ys : List D} {ρ : Rho} {M : Store} (h : evE g C' e ρ M = .ok (.d (.list (y :: ys))) M) (hl : (y :: ys).length ≤ 16384) : evS g 100000 C' (.unst i j e) ρ M = .nx ((ρ.set i (some (.d y))).set j (some (.d (.list ys)))) M := by
  rw [evS]
  unfold fUnst
  rw [h, Res.then_ok]
  simp only [lsq, hl, if_true]
theorem seq_ex {C' : CallF} {a b : S} {ρ ρ' : Rho} {M M' : Store} {c : Str} (h : evS g 100000 C' a ρ M = .exc c ρ' M') : evS g 100000 C' (.cons a b) ρ M = .exc c ρ' M' := by
  rw [evS]
  unfold fSeq
  rw [h, SR.seq_exc]
theorem colon_le (x y : Str) : (Txt.partition x y).2.1 = y ∨ (Txt.partition x y).2.1 = Str.empty := by
  unfold Txt.partition
  split
  · exact .inl rfl
  · exact .inr rfl
/-- a part's text, read: a part, or an error -/
theorem read_part_ok {w : Str} (h : w.length ≤ 10000) : (∀ d M, callR false (C (d + 2) "_read_part") [.d (.str w)] M = .exc "BadSelector" M) ∨ ∃ q : PP, q.le ∧ ∀ d M, callR false (C (d + 2) "_read_part") [.d (.str w)] M = .ok (.d q.d) M := by
  have hz : w.length ≤ sizeLine := by have := sizeLine_eq; omega
  obtain ⟨p1, p3⟩ := part_le (x := w) (y := ":")
  generalize hA : (Txt.partition w ":").1 = A at p1
  generalize hB : (Txt.partition w ":").2.1 = B
  generalize hCc : (Txt.partition w ":").2.2 = Cc at p3
  have k1 : (":" : Str).length = 1 := by decide +kernel
  have k2 : ("!" : Str).length = 1 := by decide +kernel
  have k3 : ("." : Str).length = 1 := by decide +kernel
  have hBl : B.length ≤ 10 := by
    rcases colon_le w ":" with e | e
    · rw [← hB, e, k1]; decide
    · rw [← hB, e]; decide
  obtain ⟨n, rest, hs1⟩ : ∃ n rest, Txt.split A "!" = n :: rest := by
    cases e : Txt.split A "!" with
    | nil => exact absurd e (split_ne _ _)
    | cons n rest => exact ⟨n, rest, rfl⟩
  have hn : n.length ≤ 10000 := by
    have := split_le (x := A) (y := "!") (p := n) (by rw [hs1]; exact List.mem_cons_self)
    omega
  have hrest : ∀ x ∈ rest, x.length ≤ 10000 := fun x hx => by
    have := split_le (x := A) (y := "!") (p := x) (by rw [hs1]; exact List.mem_cons_of_mem _ hx)
    omega
  have hc1 : (n :: rest).length ≤ 10001 := by
    have := split_cnt (x := A) (y := "!") (by rw [k2]; decide)
    rw [hs1] at this
    omega
  obtain ⟨k, ms, hs2⟩ : ∃ k ms, Txt.split n "." = k :: ms := by
    cases e : Txt.split n "." with
    | nil => exact absurd e (split_ne _ _)
    | cons k ms => exact ⟨k, ms, rfl⟩
  have hk : k.length ≤ 10000 := by
    have := split_le (x := n) (y := ".") (p := k) (by rw [hs2]; exact List.mem_cons_self)
    omega
  have hms : ∀ x ∈ ms, x.length ≤ 10000 := fun x hx => by
    have := split_le (x := n) (y := ".") (p := x) (by rw [hs2]; exact List.mem_cons_of_mem _ hx)
    omega
  have hc2 : (k :: ms).length ≤ 10001 := by
    have := split_cnt (x := n) (y := ".") (by rw [k3]; decide)
    rw [hs2] at this
    omega
  -- the tests
  obtain ⟨F, hF⟩ : ∃ F : Str → Bool × Str, ∀ x ∈ rest, (∀ d M, callR false (C (d + 1) "_read_test") [.d (.str x)] M = .ok (.d (tst (F x))) M) ∧ (F x).2.length ≤ x.length := by
    classical
    refine ⟨fun x => if hx : x.length ≤ 10000 then (read_test_ok (d := 0) (M := []) hx).choose else (false, x), fun x hx => ?_⟩
    have hx' := hrest x hx
    show (∀ d M, callR false (C (d + 1) "_read_test") [.d (.str x)] M = .ok (.d (tst (if hx : x.length ≤ 10000 then (read_test_ok (d := 0) (M := []) hx).choose else (false, x)))) M) ∧ (if hx : x.length ≤ 10000 then (read_test_ok (d := 0) (M := []) hx).choose else (false, x)).2.length ≤ x.length
    rw [dif_pos hx']
    exact (read_test_ok (d := 0) (M := []) hx').choose_spec
  let ts := rest.map F
  have ets : ts.map tst = (rest.map PyData.str).map fun x => match x with | .str s => tst (F s) | _ => .none := by
    rw [List.map_map, List.map_map]; rfl
  let R8 : Rho := [some (.d (.str w)), some (.d (.str A)), some (.d (.str B)), some (.d (.str Cc)), some (.d (.str n)), some (.d (.list (rest.map .str))), some (.d (.str k)), some (.d (.list (ms.map .str))), some (.d (.list (ts.map tst))), none, none, none]
  have run : ∀ d M, evS g 100000 (C (d + 1)) b_read_part (startR f_read_part.N.length [.d (.str w)]) M = evS g 100000 (C (d + 1)) (.cons (.asg (.tup (.cons (.nm 9) (.cons (.nm 10) .nil))) (.ife (.cmp .eq (.var 2) (.con (.str ""))) (.glb "EVERY_NUMBER") (.call "_read_pair" false (.cons (.var 3) .nil)))) (.cons (.ret (.tup (.cons (.ife (.cmp .eq (.var 6) (.glb "ANY_KIND")) (.con .none) (.var 6)) (.cons (.bi .tuple (.cons (.var 7) .nil)) (.cons (.bi .tuple (.cons (.var 8) .nil)) (.cons (.var 9) (.cons (.var 10) .nil))))))) .nil)) R8 M := fun d M => by
    have s1 : evS g 100000 (C (d + 1)) (.asg (.tup (.cons (.nm 1) (.cons (.nm 2) (.cons (.nm 3) .nil)))) (.x (.sm .partition) (.var 0) (.con (.str ":")) .nil .nil .nil)) (startR f_read_part.N.length [.d (.str w)]) M = .nx [some (.d (.str w)), some (.d (.str A)), some (.d (.str B)), some (.d (.str Cc)), none, none, none, none, none, none, none, none] M := by
      rw [evS]
      unfold fAsg
      rw [sm_ev (m := .partition) (z := .d (.tuple [.str A, .str B, .str Cc])) (var_of rfl) con_of (by
        show partT w ":" = _
        unfold partT
        rw [if_pos ⟨by rw [k1]; rfl, hz⟩, hA, hB, hCc]), Res.then_ok]
      simp only [asgT_tup, asgL_cons, asgT_nm, asgL_nil, Option.bind_some]
      rfl
    have s2 : evS g 100000 (C (d + 1)) (.unst 4 5 (.x (.sm .split) (.var 1) (.con (.str "!")) .nil .nil .nil)) [some (.d (.str w)), some (.d (.str A)), some (.d (.str B)), some (.d (.str Cc)), none, none, none, none, none, none, none, none] M = .nx [some (.d (.str w)), some (.d (.str A)), some (.d (.str B)), some (.d (.str Cc)), some (.d (.str n)), some (.d (.list (rest.map .str))), none, none, none, none, none, none] M := by
      have e := split_ev (C' := C (d + 1)) (a := .var 1) (x := A) (sep := "!") (ρ := [some (.d (.str w)), some (.d (.str A)), some (.d (.str B)), some (.d (.str Cc)), none, none, none, none, none, none, none, none]) (M := M) (var_of rfl) (by omega) (by rw [k2]; rfl)
      rw [hs1] at e
      exact unst_of e (by simp only [List.length_cons, List.length_map] at hc1 ⊢; omega)
    have s3 : evS g 100000 (C (d + 1)) (.unst 6 7 (.x (.sm .split) (.var 4) (.con (.str ".")) .nil .nil .nil)) [some (.d (.str w)), some (.d (.str A)), some (.d (.str B)), some (.d (.str Cc)), some (.d (.str n)), some (.d (.list (rest.map .str))), none, none, none, none, none, none] M = .nx [some (.d (.str w)), some (.d (.str A)), some (.d (.str B)), some (.d (.str Cc)), some (.d (.str n)), some (.d (.list (rest.map .str))), some (.d (.str k)), some (.d (.list (ms.map .str))), none, none, none, none] M := by
      have e := split_ev (C' := C (d + 1)) (a := .var 4) (x := n) (sep := ".") (ρ := [some (.d (.str w)), some (.d (.str A)), some (.d (.str B)), some (.d (.str Cc)), some (.d (.str n)), some (.d (.list (rest.map .str))), none, none, none, none, none, none]) (M := M) (var_of rfl) hn (by rw [k3]; rfl)
      rw [hs2] at e
      exact unst_of e (by simp only [List.length_cons, List.length_map] at hc2 ⊢; omega)
    have s4 : evS g 100000 (C (d + 1)) (.asg (.nm 8) (.lc false (.call "_read_test" false (.cons (.var 11) .nil)) (.nm 11) (.it (.var 5)) .nil [11])) [some (.d (.str w)), some (.d (.str A)), some (.d (.str B)), some (.d (.str Cc)), some (.d (.str n)), some (.d (.list (rest.map .str))), some (.d (.str k)), some (.d (.list (ms.map .str))), none, none, none, none] M = .nx R8 M := by
      refine asg_of (ρ := [some (.d (.str w)), some (.d (.str A)), some (.d (.str B)), some (.d (.str Cc)), some (.d (.str n)), some (.d (.list (rest.map .str))), some (.d (.str k)), some (.d (.list (ms.map .str))), none, none, none, none]) (i := 8) ?_
      rw [evE, show evC g (C (d + 1)) .nil = fYes by rw [evC], ets]
      refine lc_all _ (by rw [evI]; unfold fIt; rw [var_of (x := .d (.list (rest.map .str))) rfl]; rfl) fun x hx => ⟨_, asgT_nm, fun c => ?_⟩
      obtain ⟨s, hs, rfl⟩ := List.mem_map.mp hx
      exact call1 (var_of (x := .d (.str s)) rfl) ((hF s hs).1 d _)
    rw [b_read_part, seq_nx s1, seq_nx s2, seq_nx s3, seq_nx s4]
  have tail : ∀ (a b : Int) (d : Nat) (M : Store), evE g (C (d + 1)) (.tup (.cons (.ife (.cmp .eq (.var 6) (.glb "ANY_KIND")) (.con .none) (.var 6)) (.cons (.bi .tuple (.cons (.var 7) .nil)) (.cons (.bi .tuple (.cons (.var 8) .nil)) (.cons (.var 9) (.cons (.var 10) .nil)))))) ((R8.set 9 (some (.d (.int a)))).set 10 (some (.d (.int b)))) M = .ok (.d (PP.d ⟨if k == "*" then none else some k, ms, ts, a, b⟩)) M := fun a b d M => by
    have eqk : cmp2 .eq (.d (.str k)) (.d (.str "*")) M = some (k == "*") := by simp [cmp2, dat, cmpD, dOk, PyData.depth, PyData.eqv]
    cases hq : k == "*" with
    | true =>
      simp -implicitDefEqProofs only [R8, evS, evE, evL, evT, evI, evC, evP, fSeq, fSkip, fIfS, fRet, fRetN, fAsg, fAug2, fExp, fFor, fVar, fCon, fBin, fBl, fCons, fSCons, fNil, fApp, fCall, fTup, fLst, fCls, fIt, fNotT, fAndT, fOrT, fCmpT, fCh, fTru, fIf, fMeth, fSl, fPart, fNoPart, fRng, fZip, fRev, fIsi, isiG, tyName, fGlb, fRaise, fTry, fTryAs, fIsx, fNeg, fAndV, fOrV, Bi.g, Me.g, asgT_nm, asgT_tup, asgL_nil, asgL_cons, itemsS, startR, Res.bind_ok, Res.bind_exc, Res.bind_bad, Res.then_ok, Res.then_exc, Res.then_bad, SR.seq_nx, SR.seq_rt, SR.seq_bk, SR.seq_ct, SR.seq_exc, SR.seq_bad, ofO_some, ofO_none, List.map_cons, List.map_nil, List.length_cons, List.length_nil, List.cons_append, List.nil_append, List.replicate, List.getElem?_cons_zero, List.getElem?_cons_succ, List.set_cons_zero, List.set_cons_succ, Nat.reduceAdd, Nat.reduceSub, Option.map_some, Option.map_none, Option.bind_some, Option.bind_none, reduceIte, if_true, if_false, Bool.not_true, Bool.not_false, Bool.false_eq_true, decide_true, decide_false, if_pos, st_get, st_set, st_take, st_len, cnA, eqk, hq, tuple_l', tup5, PP.d, kd]
    | false =>
      simp -implicitDefEqProofs only [R8, evS, evE, evL, evT, evI, evC, evP, fSeq, fSkip, fIfS, fRet, fRetN, fAsg, fAug2, fExp, fFor, fVar, fCon, fBin, fBl, fCons, fSCons, fNil, fApp, fCall, fTup, fLst, fCls, fIt, fNotT, fAndT, fOrT, fCmpT, fCh, fTru, fIf, fMeth, fSl, fPart, fNoPart, fRng, fZip, fRev, fIsi, isiG, tyName, fGlb, fRaise, fTry, fTryAs, fIsx, fNeg, fAndV, fOrV, Bi.g, Me.g, asgT_nm, asgT_tup, asgL_nil, asgL_cons, itemsS, startR, Res.bind_ok, Res.bind_exc, Res.bind_bad, Res.then_ok, Res.then_exc, Res.then_bad, SR.seq_nx, SR.seq_rt, SR.seq_bk, SR.seq_ct, SR.seq_exc, SR.seq_bad, ofO_some, ofO_none, List.map_cons, List.map_nil, List.length_cons, List.length_nil, List.cons_append, List.nil_append, List.replicate, List.getElem?_cons_zero, List.getElem?_cons_succ, List.set_cons_zero, List.set_cons_succ, Nat.reduceAdd, Nat.reduceSub, Option.map_some, Option.map_none, Option.bind_some, Option.bind_none, reduceIte, if_true, if_false, Bool.not_true, Bool.not_false, Bool.false_eq_true, decide_true, decide_false, if_pos, st_get, st_set, st_take, st_len, cnA, eqk, hq, tuple_l', tup5, PP.d, kd]
  have eqB : ∀ M, cmp2 .eq (.d (.str B)) (.d (.str "")) M = some (B == "") := fun M => by simp [cmp2, dat, cmpD, dOk, PyData.depth, PyData.eqv]
  have done : ∀ (a b : Int), (∀ d M, evE g (C (d + 1)) (.ife (.cmp .eq (.var 2) (.con (.str ""))) (.glb "EVERY_NUMBER") (.call "_read_pair" false (.cons (.var 3) .nil))) R8 M = .ok (.d (.tuple [.int a, .int b])) M) → ∃ q : PP, q.le ∧ ∀ d M, callR false (C (d + 2) "_read_part") [.d (.str w)] M = .ok (.d q.d) M := fun a b hh => by
    refine ⟨⟨if k == "*" then none else some k, ms, ts, a, b⟩, ⟨fun s e => ?_, fun s hs => by have := hms s hs; omega, fun t ht => ?_⟩, fun d M => ?_⟩
    · simp only at e
      split at e
      · cases e
      · cases e; omega
    · obtain ⟨s, hs, rfl⟩ := List.mem_map.mp ht
      have h1 := (hF s hs).2
      have h2 := hrest s hs
      omega
    · refine (call_rt (fn := f_read_part) (d := d + 1) (x := .d (PP.d ⟨if k == "*" then none else some k, ms, ts, a, b⟩)) (M' := M) rfl ?_).trans (by rw [fin_d, List.take_length])
      show evS g 100000 (C (d + 1)) b_read_part _ _ = _
      rw [run d M, seq_nx (ρ' := (R8.set 9 (some (.d (.int a)))).set 10 (some (.d (.int b)))) (M' := M) (by
        rw [evS]
        unfold fAsg
        rw [hh d M, Res.then_ok]
        simp only [asgT_tup, asgL_cons, asgT_nm, asgL_nil, Option.bind_some])]
      exact ret_of (tail a b d M)
  cases hB0 : B == "" with
  | true =>
    refine .inr (done 1 0 fun d M => ?_)
    rw [evE]
    unfold fIf
    rw [cmp_of (z := true) (var_of (x := .d (.str B)) rfl) con_of (by rw [eqB, hB0]), Res.bind_ok, if_pos rfl, evE]
    unfold fGlb
    rw [cnE]
  | false =>
    have cnd : ∀ d M, evE g (C (d + 1)) (.ife (.cmp .eq (.var 2) (.con (.str ""))) (.glb "EVERY_NUMBER") (.call "_read_pair" false (.cons (.var 3) .nil))) R8 M = callR false (C (d + 1) "_read_pair") [.d (.str Cc)] M := fun d M => by
      rw [evE]
      unfold fIf
      rw [cmp_of (z := false) (var_of (x := .d (.str B)) rfl) con_of (by rw [eqB, hB0]), Res.bind_ok, if_neg Bool.false_ne_true]
      exact call1 (var_of (x := .d (.str Cc)) rfl) rfl
    rcases read_pair_ok (w := Cc) (by omega) with hp | ⟨a, b, hp⟩
    · refine .inl fun d M => ?_
      refine (call_ex (fn := f_read_part) (d := d + 1) (c := "BadSelector") (M' := M) (ρ' := R8) rfl ?_ exS).trans (by rw [List.take_length])
      show evS g 100000 (C (d + 1)) b_read_part _ _ = _
      rw [run d M]
      refine seq_ex ?_
      rw [evS]
      unfold fAsg
      rw [cnd d M, hp d M]
      rfl
    · exact .inr (done a b fun d M => by rw [cnd d M]; exact hp d M)
end TL.K03

set_option maxHeartbeats 400000
namespace TL.K03
open PySem PySem.Spec
open PyProof.Rows L2 TL
/-! ### reading a selector -/
abbrev SR' (x : D) (m : Nat) (l w : Option Vl) : Rho := [some (.d x), some (.loc m), some (.loc (m + 1)), l, w]
theorem cdin_of {C' : CallF} {a : E} {x s : Str} {ρ : Rho} {M : Store} (h : evE g C' a ρ M = .ok (.d (.str s)) M) : evT g C' (.x (.cdin x) a .nil .nil .nil .nil) ρ M = .ok ((tabOf g x).lookup s).isSome M := by
  rw [evT]
  show fCdin (tabOf g x) (evE g C' a) ρ M = _
  unfold fCdin
  rw [h]
  rfl
theorem sign_mem {s : Str} {y : D} (h : (tabOf g "LINK_SIGNS").lookup s = some y) : y ∈ Ls := by
  have e : tabOf g "LINK_SIGNS" = [((">" : Str), PyData.str "child"), (("+" : Str), PyData.str "next"), (("~" : Str), PyData.str "after")] := by kernel_rfl
  rw [e] at h
  simp only [List.lookup_cons, List.lookup_nil] at h
  split at h
  · cases h; simp [Ls]
  · split at h
    · cases h; simp [Ls]
    · split at h
      · cases h; simp [Ls]
      · cases h
theorem two_1 {M : Store} {P L : List D} : (M ++ [Cell.lst P] ++ [Cell.lst L])[M.length]? = some (Cell.lst P) := by simp
theorem two_2 {M : Store} {P L : List D} : (M ++ [Cell.lst P] ++ [Cell.lst L])[M.length + 1]? = some (Cell.lst L) := by simp
theorem app_1 {C' : CallF} {ρ : Rho} {M : Store} {e : E} {P L : List D} {z : D} {i : Nat} (hv : ρ[i]? = some (some (.loc M.length))) (h : evE g C' e ρ (M ++ [.lst P] ++ [.lst L]) = .ok (.d z) (M ++ [.lst P] ++ [.lst L])) (hl : P.length < 100000) :
    evS g 100000 C' (.exp (.meth .append (.var i) (.cons e .nil))) ρ (M ++ [.lst P] ++ [.lst L]) = .nx ρ (M ++ [.lst (P ++ [z])] ++ [.lst L]) := by
  have e2 : evE g C' (.var i) ρ (M ++ [.lst P] ++ [.lst L]) = .ok (.loc M.length) (M ++ [.lst P] ++ [.lst L]) := var_of hv
  have hz : P.length < sizeLine := by have := sizeLine_eq; omega
  have l : appendM (.loc M.length) [.d z] (M ++ [.lst P] ++ [.lst L]) = some (.d .none, M ++ [.lst (P ++ [z])] ++ [.lst L]) := by
    simp only [appendM, two_1, hz, if_true]
    simp
  have i1 : isLst (.loc M.length) (M ++ [.lst P] ++ [.lst L]) = true := by simp [isLst, lsq]
  rw [evS]
  unfold fExp
  rw [evE]
  unfold fMeth
  simp only [e2, Res.bind_ok, i1, if_true, args1 h, Me.g, l, ofO_some, Res.then_ok]
theorem app_2 {C' : CallF} {ρ : Rho} {M : Store} {e : E} {P L : List D} {z : D} {i : Nat} (hv : ρ[i]? = some (some (.loc (M.length + 1)))) (h : evE g C' e ρ (M ++ [.lst P] ++ [.lst L]) = .ok (.d z) (M ++ [.lst P] ++ [.lst L])) (hl : L.length < 100000) :
    evS g 100000 C' (.exp (.meth .append (.var i) (.cons e .nil))) ρ (M ++ [.lst P] ++ [.lst L]) = .nx ρ (M ++ [.lst P] ++ [.lst (L ++ [z])]) := by
  have e2 : evE g C' (.var i) ρ (M ++ [.lst P] ++ [.lst L]) = .ok (.loc (M.length + 1)) (M ++ [.lst P] ++ [.lst L]) := var_of hv
  have hz : L.length < sizeLine := by have := sizeLine_eq; omega
  have l : appendM (.loc (M.length + 1)) [.d z] (M ++ [.lst P] ++ [.lst L]) = some (.d .none, M ++ [.lst P] ++ [.lst (L ++ [z])]) := by
    simp only [appendM, two_2, hz, if_true]
    simp
  have i1 : isLst (.loc (M.length + 1)) (M ++ [.lst P] ++ [.lst L]) = true := by simp [isLst, lsq]
  rw [evS]
  unfold fExp
  rw [evE]
  unfold fMeth
  simp only [e2, Res.bind_ok, i1, if_true, args1 h, Me.g, l, ofO_some, Res.then_ok]
theorem rs_sign {d m : Nat} {x l : D} {s : Str} {y : D} {M : Store} (h : (tabOf g "LINK_SIGNS").lookup s = some y) : evS g 100000 (C (d + 2)) w1_read_selector (SR' x m (some (.d l)) (some (.d (.str s)))) M = .nx (SR' x m (some (.d y)) (some (.d (.str s)))) M := by
  rw [w1_read_selector, seq_nx ((if_t (by rw [cdin_of (var_of rfl), h]; rfl)).trans (seq_nx (asg_of (cdix_of (a := .var 4) (x := "LINK_SIGNS") (var_of rfl) h)))), nil_nx]
  rfl
theorem rs_part {d : Nat} {x l : D} {s : Str} {q : D} {M : Store} {P L : List D} (h : (tabOf g "LINK_SIGNS").lookup s = none) (hq : callR false (C (d + 2) "_read_part") [.d (.str s)] (M ++ [.lst P] ++ [.lst L]) = .ok (.d q) (M ++ [.lst P] ++ [.lst L])) (h1 : P.length < 100000) (h2 : L.length < 100000) :
    evS g 100000 (C (d + 2)) w1_read_selector (SR' x M.length (some (.d l)) (some (.d (.str s)))) (M ++ [.lst P] ++ [.lst L]) = .nx (SR' x M.length (some (.d (.str "inside"))) (some (.d (.str s)))) (M ++ [.lst (P ++ [q])] ++ [.lst (L ++ [l])]) := by
  have a1 := app_1 (C' := C (d + 2)) (ρ := SR' x M.length (some (.d l)) (some (.d (.str s)))) (M := M) (P := P) (L := L) (z := q) (i := 1) rfl (call1 (f := "_read_part") (keep := false) (X := .var 4) (var_of (x := .d (.str s)) rfl) hq) h1
  have a2 := app_2 (C' := C (d + 2)) (ρ := SR' x M.length (some (.d l)) (some (.d (.str s)))) (M := M) (P := P ++ [q]) (L := L) (z := l) (i := 2) (e := .var 3) rfl (var_of rfl) h2
  have a3 := asg_of (C' := C (d + 2)) (i := 3) (e := .con (.str "inside")) (ρ := SR' x M.length (some (.d l)) (some (.d (.str s)))) (M := M ++ [.lst (P ++ [q])] ++ [.lst (L ++ [l])]) con_of
  rw [w1_read_selector, seq_nx ((if_f (by rw [cdin_of (var_of rfl), h]; rfl)).trans ((seq_nx a1).trans ((seq_nx a2).trans ((seq_nx a3).trans nil_nx)))), nil_nx]
  rfl
theorem rs_bad {d : Nat} {x l : D} {s : Str} {M : Store} {P L : List D} (h : (tabOf g "LINK_SIGNS").lookup s = none) (hq : callR false (C (d + 2) "_read_part") [.d (.str s)] (M ++ [.lst P] ++ [.lst L]) = .exc "BadSelector" (M ++ [.lst P] ++ [.lst L])) :
    evS g 100000 (C (d + 2)) w1_read_selector (SR' x M.length (some (.d l)) (some (.d (.str s)))) (M ++ [.lst P] ++ [.lst L]) = .exc "BadSelector" (SR' x M.length (some (.d l)) (some (.d (.str s)))) (M ++ [.lst P] ++ [.lst L]) := by
  rw [w1_read_selector]
  refine seq_ex ((if_f (by rw [cdin_of (var_of rfl), h]; rfl)).trans (seq_ex ?_))
  have hc := call1 (C' := C (d + 2)) (f := "_read_part") (keep := false) (X := .var 4) (ρ := SR' x M.length (some (.d l)) (some (.d (.str s)))) (var_of (x := .d (.str s)) rfl) hq
  have e2 : evE g (C (d + 2)) (.var 1) (SR' x M.length (some (.d l)) (some (.d (.str s)))) (M ++ [.lst P] ++ [.lst L]) = .ok (.loc M.length) (M ++ [.lst P] ++ [.lst L]) := var_of rfl
  have i1 : isLst (.loc M.length) (M ++ [.lst P] ++ [.lst L]) = true := by simp [isLst, lsq]
  rw [evS]
  unfold fExp
  rw [evE]
  unfold fMeth
  rw [e2, Res.bind_ok]
  simp only [i1, if_true, evL, fCons, fNil, hc, Res.bind_exc, Res.then_exc]
/-- any words: read, or an error -/
theorem rs_loop {d : Nat} {x : D} {M : Store} : ∀ (ws : List Str) (qs : List PP) (L : List D) (l : D) (w : Option Vl), (∀ s ∈ ws, s.length ≤ 10000) → (∀ q ∈ qs, q.le) → (∀ y ∈ L, y ∈ Ls) → l ∈ Ls → qs.length + ws.length < 100000 → L.length + ws.length < 100000 →
    (∃ ρ' M', forL (.nm 4) (evS g 100000 (C (d + 2))  w1_read_selector) (ws.map .str) (SR' x M.length (some (.d l)) w) (M ++ [.lst (qs.map PP.d)] ++ [.lst L]) = .exc "BadSelector" ρ' M' ∧ M'.take M.length = M) ∨
    ∃ (qs' : List PP) (L' : List D) (l' w' : Option Vl), forL (.nm 4) (evS g 100000 (C (d + 2)) w1_read_selector) (ws.map .str) (SR' x M.length (some (.d l)) w) (M ++ [.lst (qs.map PP.d)] ++ [.lst L]) = .nx (SR' x M.length l' w') (M ++ [.lst (qs'.map PP.d)] ++ [.lst L']) ∧ (∀ q ∈ qs', q.le) ∧ ∀ y ∈ L', y ∈ Ls
  | [], qs, L, l, w, _, h2, h3, _, _, _ => .inr ⟨qs, L, some (.d l), w, by simp [forL], h2, h3⟩
  | s :: ws, qs, L, l, w, h1, h2, h3, h4, h5, h6 => by
    simp only [List.length_cons] at h5 h6
    have a0 : asgT (.nm 4) (.d (.str s)) (SR' x M.length (some (.d l)) w) = some (SR' x M.length (some (.d l)) (some (.d (.str s)))) := by rw [asgT_nm]; rfl
    cases ht : (tabOf g "LINK_SIGNS").lookup s with
    | some y =>
      have ih := rs_loop (d := d) (x := x) (M := M) ws qs L y (some (.d (.str s))) (fun z hz => h1 z (List.mem_cons_of_mem _ hz)) h2 h3 (sign_mem ht) (by omega) (by omega)
      rw [List.map_cons, forL_nx a0 (rs_sign ht)]
      exact ih
    | none =>
      rcases read_part_ok (h1 s List.mem_cons_self) with hp | ⟨q, hq, hp⟩
      · refine .inl ⟨SR' x M.length (some (.d l)) (some (.d (.str s))), M ++ [.lst (qs.map PP.d)] ++ [.lst L], ?_, by simp⟩
        rw [List.map_cons]
        simp only [forL, a0, rs_bad ht (hp d _)]
      · have ih := rs_loop (d := d) (x := x) (M := M) ws (qs ++ [q]) (L ++ [l]) (.str "inside") (some (.d (.str s))) (fun z hz => h1 z (List.mem_cons_of_mem _ hz)) (fun z hz => by
          rcases List.mem_append.mp hz with hz | hz
          · exact h2 z hz
          · rw [List.mem_singleton.mp hz]; exact hq) (fun z hz => by
          rcases List.mem_append.mp hz with hz | hz
          · exact h3 z hz
          · rw [List.mem_singleton.mp hz]; exact h4) (by simp [Ls]) (by simp; omega) (by simp; omega)
        rw [List.map_cons, forL_nx a0 (rs_part ht (hp d _) (by rw [List.length_map]; omega) (by omega))]
        rw [List.map_append] at ih
        exact ih
theorem read_sel_ok {w : Str} (h : w.length ≤ 9990) {d : Nat} {M : Store} : callR false (C (d + 3) "_read_selector") [.d (.str w)] M = .exc "BadSelector" M ∨ ∃ r : RS, r.le ∧ callR false (C (d + 3) "_read_selector") [.d (.str w)] M = .ok (.d r.d) M := by
  have k1 : (" " : Str).length = 1 := by decide +kernel
  have hc := split_cnt (x := w) (y := " ") (by rw [k1]; decide)
  have s1 : evS g 100000 (C (d + 2)) (.asg (.nm 1) (.cls .nil)) (startR f_read_selector.N.length [.d (.str w)]) M = .nx [some (.d (.str w)), some (.loc M.length), none, none, none] (M ++ [.lst []]) := by
    simp -implicitDefEqProofs only [f_read_selector, evS, evE, evL, evT, evI, evC, evP, fSeq, fSkip, fIfS, fRet, fRetN, fAsg, fAug2, fExp, fFor, fVar, fCon, fBin, fBl, fCons, fSCons, fNil, fApp, fCall, fTup, fLst, fCls, fIt, fNotT, fAndT, fOrT, fCmpT, fCh, fTru, fIf, fMeth, fSl, fPart, fNoPart, fRng, fZip, fRev, fIsi, isiG, tyName, fGlb, fRaise, fTry, fTryAs, fIsx, fNeg, fAndV, fOrV, Bi.g, Me.g, asgT_nm, asgT_tup, asgL_nil, asgL_cons, itemsS, startR, Res.bind_ok, Res.bind_exc, Res.bind_bad, Res.then_ok, Res.then_exc, Res.then_bad, SR.seq_nx, SR.seq_rt, SR.seq_bk, SR.seq_ct, SR.seq_exc, SR.seq_bad, ofO_some, ofO_none, List.map_cons, List.map_nil, List.length_cons, List.length_nil, List.cons_append, List.nil_append, List.replicate, List.getElem?_cons_zero, List.getElem?_cons_succ, List.set_cons_zero, List.set_cons_succ, Nat.reduceAdd, Nat.reduceSub, Option.map_some, Option.map_none, Option.bind_some, Option.bind_none, reduceIte, if_true, if_false, Bool.not_true, Bool.not_false, Bool.false_eq_true, decide_true, decide_false, if_pos, st_get, st_set, st_take, st_len, lst0]
  have s2 : evS g 100000 (C (d + 2)) (.asg (.nm 2) (.cls .nil)) [some (.d (.str w)), some (.loc M.length), none, none, none] (M ++ [.lst []]) = .nx [some (.d (.str w)), some (.loc M.length), some (.loc (M.length + 1)), none, none] (M ++ [.lst []] ++ [.lst []]) := by
    simp -implicitDefEqProofs only [evS, evE, evL, evT, evI, evC, evP, fSeq, fSkip, fIfS, fRet, fRetN, fAsg, fAug2, fExp, fFor, fVar, fCon, fBin, fBl, fCons, fSCons, fNil, fApp, fCall, fTup, fLst, fCls, fIt, fNotT, fAndT, fOrT, fCmpT, fCh, fTru, fIf, fMeth, fSl, fPart, fNoPart, fRng, fZip, fRev, fIsi, isiG, tyName, fGlb, fRaise, fTry, fTryAs, fIsx, fNeg, fAndV, fOrV, Bi.g, Me.g, asgT_nm, asgT_tup, asgL_nil, asgL_cons, itemsS, startR, Res.bind_ok, Res.bind_exc, Res.bind_bad, Res.then_ok, Res.then_exc, Res.then_bad, SR.seq_nx, SR.seq_rt, SR.seq_bk, SR.seq_ct, SR.seq_exc, SR.seq_bad, ofO_some, ofO_none, List.map_cons, List.map_nil, List.length_cons, List.length_nil, List.cons_append, List.nil_append, List.replicate, List.getElem?_cons_zero, List.getElem?_cons_succ, List.set_cons_zero, List.set_cons_succ, Nat.reduceAdd, Nat.reduceSub, Option.map_some, Option.map_none, Option.bind_some, Option.bind_none, reduceIte, if_true, if_false, Bool.not_true, Bool.not_false, Bool.false_eq_true, decide_true, decide_false, if_pos, st_get, st_set, st_take, st_len, lst0]
  have s3 : evS g 100000 (C (d + 2)) (.asg (.nm 3) (.con (.str "inside"))) [some (.d (.str w)), some (.loc M.length), some (.loc (M.length + 1)), none, none] (M ++ [.lst []] ++ [.lst []]) = .nx (SR' (.str w) M.length (some (.d (.str "inside"))) none) (M ++ [.lst (([] : List PP).map PP.d)] ++ [.lst []]) := asg_of con_of
  have hsp := split_ev (C' := C (d + 2)) (a := .var 0) (x := w) (sep := " ") (ρ := SR' (.str w) M.length (some (.d (.str "inside"))) none) (M := M ++ [.lst (([] : List PP).map PP.d)] ++ [.lst []]) (var_of rfl) (by omega) (by rw [k1]; rfl)
  have hf : ∀ b, evS g 100000 (C (d + 2)) (.forS (.nm 4) (.it (.x (.sm .split) (.var 0) (.con (.str " ")) .nil .nil .nil)) b) (SR' (.str w) M.length (some (.d (.str "inside"))) none) (M ++ [.lst (([] : List PP).map PP.d)] ++ [.lst []]) = forL (.nm 4) (evS g 100000 (C (d + 2)) b) ((Txt.split w " ").map .str) (SR' (.str w) M.length (some (.d (.str "inside"))) none) (M ++ [.lst (([] : List PP).map PP.d)] ++ [.lst []]) := fun b => by
    rw [evS_for, for_it hsp rfl]
  rcases rs_loop (d := d) (x := .str w) (M := M) (Txt.split w " ") [] [] (.str "inside") none (fun s hs => by have := split_le hs; omega) (by simp) (by simp) (by simp [Ls]) (by simp; omega) (by simp; omega) with ⟨ρ', M', e, hM⟩ | ⟨qs, L, l', w', e, hq, hL⟩
  · refine .inl ((call_ex (fn := f_read_selector) (d := d + 2) (c := "BadSelector") (M' := M') (ρ' := ρ') rfl ?_ exS).trans (by rw [hM]))
    show evS g 100000 (C (d + 2)) b_read_selector _ _ = _
    rw [b_read_selector, seq_nx s1, seq_nx s2, seq_nx s3]
    exact seq_ex ((hf _).trans e)
  · refine .inr ⟨⟨qs, L.drop 1⟩, ⟨hq, fun y hy => hL y (List.mem_of_mem_drop hy)⟩, ?_⟩
    refine (call_rt (fn := f_read_selector) (d := d + 2) (x := .d (RS.d ⟨qs, L.drop 1⟩)) (M' := M ++ [.lst (qs.map PP.d)] ++ [.lst L]) rfl ?_).trans (by rw [fin_d]; simp)
    have t1 : tupleG [.loc M.length] (M ++ [.lst (qs.map PP.d)] ++ [.lst L]) = some (.d (.tuple (qs.map PP.d)), M ++ [.lst (qs.map PP.d)] ++ [.lst L]) := by
      simp only [tupleG, sqn, two_1]; rfl
    have t2 : sl2 false (.loc (M.length + 1)) (some 1) none (M ++ [.lst (qs.map PP.d)] ++ [.lst L]) = some (.d (.list (L.drop 1)), M ++ [.lst (qs.map PP.d)] ++ [.lst L]) := by
      simp only [sl2, sqn, two_2, Bool.false_eq_true, if_false, cutD_1]
    have e1 : evE g (C (d + 2)) (.tup (.cons (.bi .tuple (.cons (.var 1) .nil)) (.cons (.bi .tuple (.cons (.sl false (.var 2) (.pt (.con (.int 1))) .nil) .nil)) .nil))) (SR' (.str w) M.length l' w') (M ++ [.lst (qs.map PP.d)] ++ [.lst L]) = .ok (.d (RS.d ⟨qs, L.drop 1⟩)) (M ++ [.lst (qs.map PP.d)] ++ [.lst L]) := by
      simp -implicitDefEqProofs only [SR', evS, evE, evL, evT, evI, evC, evP, fSeq, fSkip, fIfS, fRet, fRetN, fAsg, fAug2, fExp, fFor, fVar, fCon, fBin, fBl, fCons, fSCons, fNil, fApp, fCall, fTup, fLst, fCls, fIt, fNotT, fAndT, fOrT, fCmpT, fCh, fTru, fIf, fMeth, fSl, fPart, fNoPart, fRng, fZip, fRev, fIsi, isiG, tyName, fGlb, fRaise, fTry, fTryAs, fIsx, fNeg, fAndV, fOrV, Bi.g, Me.g, asgT_nm, asgT_tup, asgL_nil, asgL_cons, itemsS, startR, Res.bind_ok, Res.bind_exc, Res.bind_bad, Res.then_ok, Res.then_exc, Res.then_bad, SR.seq_nx, SR.seq_rt, SR.seq_bk, SR.seq_ct, SR.seq_exc, SR.seq_bad, ofO_some, ofO_none, List.getElem?_cons_zero, List.getElem?_cons_succ, t1, t2, tuple_l', tup2, RS.d]
    show evS g 100000 (C (d + 2)) b_read_selector _ _ = _
    rw [b_read_selector, seq_nx s1, seq_nx s2, seq_nx s3, seq_nx ((hf _).trans e)]
    exact ret_of e1
end TL.K03

set_option maxHeartbeats 400000
namespace TL.K03
open PySem PySem.Spec
open PyProof.Rows L2 TL
/-! ### a comprehension that may raise -/
theorem compF_may {own : List Nat} {t : Tg} {te : RF Vl} {ρ : Rho} {M : Store} {ex : Str} (P : D → Prop) : ∀ (xs : List D) (i : Nat) (acc : List D), acc.length ≤ i →
    (∀ x ∈ xs, ∃ ρ1, asgT t (.d x) (wip ρ own) = some ρ1 ∧ ∀ c, te ρ1 (M ++ [c]) = .exc ex (M ++ [c]) ∨ ∃ y, P y ∧ te ρ1 (M ++ [c]) = .ok (.d y) (M ++ [c])) →
    (∃ c, compF M.length own t fYes te i xs ρ (M ++ [Cell.lst acc]) = .exc ex (M ++ [c])) ∨
    ∃ ys, compF M.length own t fYes te i xs ρ (M ++ [Cell.lst acc]) = .ok () (M ++ [Cell.lst (acc ++ ys)]) ∧ ys.length = xs.length ∧ ∀ y ∈ ys, P y
  | [], i, acc, _, _ => .inr ⟨[], by simp [compF], rfl, by simp⟩
  | x :: xs, i, acc, hl, h => by
    obtain ⟨ρ1, h1, h2⟩ := h x List.mem_cons_self
    have hyes : ∀ (r : Rho) (M : Store), fYes r M = .ok true M := fun _ _ => rfl
    rcases h2 (.lst acc) with e | ⟨y, hy, e⟩
    · refine .inl ⟨.lst acc, ?_⟩
      simp only [compF, h1, hyes, Res.bind_ok, if_true, e, Res.bind_exc]
    · have g1 : (M ++ [Cell.lst acc])[M.length]? = some (Cell.lst acc) := by simp
      have g2 : (M ++ [Cell.lst acc]).set M.length (Cell.lst (acc ++ [y])) = M ++ [Cell.lst (acc ++ [y])] := by simp
      have st : compF M.length own t fYes te i (x :: xs) ρ (M ++ [Cell.lst acc]) = compF M.length own t fYes te (i + 1) xs ρ (M ++ [Cell.lst (acc ++ [y])]) := by
        simp only [compF, h1, hyes, Res.bind_ok, if_true, e, g1, hl, g2]
      rw [st]
      rcases compF_may (ex := ex) P xs (i + 1) (acc ++ [y]) (by simp; omega) (fun z hz => h z (List.mem_cons_of_mem _ hz)) with ⟨c, e2⟩ | ⟨ys, e2, hly, hP⟩
      · exact .inl ⟨c, e2⟩
      · refine .inr ⟨y :: ys, by rw [e2]; simp, by simp [hly], fun z hz => ?_⟩
        rcases List.mem_cons.mp hz with rfl | hz
        · exact hy
        · exact hP z hz
theorem lcx_may {own : List Nat} {t : Tg} {fi : RF (List D)} {te : RF Vl} {ρ : Rho} {M : Store} {items : List D} {ex : Str} (P : D → Prop) (hi : fi ρ M = .ok items M)
    (h : ∀ x ∈ items, ∃ ρ1, asgT t (.d x) (wip ρ own) = some ρ1 ∧ ∀ c, te ρ1 (M ++ [c]) = .exc ex (M ++ [c]) ∨ ∃ y, P y ∧ te ρ1 (M ++ [c]) = .ok (.d y) (M ++ [c])) :
    fLcx false own t fi fYes te ρ M = .exc ex M ∨ ∃ ys, fLcx false own t fi fYes te ρ M = .ok (.d (.list ys)) M ∧ ys.length = items.length ∧ ∀ y ∈ ys, P y := by
  unfold fLcx
  rw [hi, Res.bind_ok]
  rcases compF_may (ex := ex) P items 0 [] (by simp) h with ⟨c, e⟩ | ⟨ys, e, hl, hP⟩
  · refine .inl ?_
    rw [e]
    simp
  · refine .inr ⟨ys, ?_, hl, hP⟩
    rw [e]
    simp [fin]
theorem rs_of {xs : List D} (h : ∀ x ∈ xs, ∃ r : RS, r.le ∧ x = r.d) : ∃ rs : List RS, (∀ r ∈ rs, r.le) ∧ xs = rs.map RS.d := by
  induction xs with
  | nil => exact ⟨[], by simp, rfl⟩
  | cons x xs ih =>
    obtain ⟨r, hr, rfl⟩ := h x List.mem_cons_self
    obtain ⟨rs, h1, rfl⟩ := ih fun y hy => h y (List.mem_cons_of_mem _ hy)
    exact ⟨r :: rs, fun z hz => by
      rcases List.mem_cons.mp hz with rfl | hz
      · exact hr
      · exact h1 z hz, rfl⟩
theorem str_ne {a b : Str} {M : Store} : cmp2 .ne (.d (.str a)) (.d (.str b)) M = some (!(a == b)) := by simp [cmp2, dat, cmpD, dOk, PyData.depth, PyData.eqv]
theorem str_eq {a b : Str} {M : Store} : cmp2 .eq (.d (.str a)) (.d (.str b)) M = some (a == b) := by simp [cmp2, dat, cmpD, dOk, PyData.depth, PyData.eqv]
theorem tuple_lv {xs : List D} {M : Store} : tupleG [.d (.list xs)] M = some (.d (.tuple xs), M) := rfl
theorem bi_xA {C' : CallF} {X : E} {f : Bi} {ρ : Rho} {M M' : Store} {c : Str} (h : evE g C' X ρ M = .exc c M') : evE g C' (.bi f (.cons X .nil)) ρ M = .exc c M' := by
  simp -implicitDefEqProofs only [evE, evL, fApp, fCons, h, Res.bind_exc]
theorem call_xA {C' : CallF} {X : E} {f : Str} {k : Bool} {ρ : Rho} {M M' : Store} {c : Str} (h : evE g C' X ρ M = .exc c M') : evE g C' (.call f k (.cons X .nil)) ρ M = .exc c M' := by
  simp -implicitDefEqProofs only [evE, evL, fCall, fCons, h, Res.bind_exc]
/-- the tail of parse_selectors, behind the reading -/
theorem parse_tail {d : Nat} {b : Bool} {w : Str} {M : Store} {rs : List RS} (hw : (w == "") = false) (h : ∀ r ∈ rs, r.le)
    (hl : evE g (C (d + 7)) (.x (.lcx false (.nm 2) [2]) (.it (.x (.sm .split) (.var 0) (.con (.str ", ")) .nil .nil .nil)) .nil (.call "_read_selector" false (.cons (.var 2) .nil)) .nil .nil) (startR f_parse_selectors.N.length [.d (.str w)]) M = .ok (.d (.list (rs.map RS.d))) M) :
    callR b (C (d + 8) "parse_selectors") [.d (.str w)] M = if listB rs = true ∧ lT rs = w then .ok (.d (listD rs)) M else .exc "BadSelector" M := by
  have c1 : evT g (C (d + 7)) (.not (.tt (.isi "str" (.var 0)))) (startR f_parse_selectors.N.length [.d (.str w)]) M = .ok false M := by
    simp -implicitDefEqProofs only [f_parse_selectors, evS, evE, evL, evT, evI, evC, evP, fSeq, fSkip, fIfS, fRet, fRetN, fAsg, fAug2, fExp, fFor, fVar, fCon, fBin, fBl, fCons, fSCons, fNil, fApp, fCall, fTup, fLst, fCls, fIt, fNotT, fAndT, fOrT, fCmpT, fCh, fTru, fIf, fMeth, fSl, fPart, fNoPart, fRng, fZip, fRev, fIsi, isiG, tyName, fGlb, fRaise, fTry, fTryAs, fIsx, fNeg, fAndV, fOrV, Bi.g, Me.g, asgT_nm, asgT_tup, asgL_nil, asgL_cons, itemsS, startR, Res.bind_ok, Res.bind_exc, Res.bind_bad, Res.then_ok, Res.then_exc, Res.then_bad, SR.seq_nx, SR.seq_rt, SR.seq_bk, SR.seq_ct, SR.seq_exc, SR.seq_bad, ofO_some, ofO_none, List.map_cons, List.map_nil, List.length_cons, List.length_nil, List.cons_append, List.nil_append, List.replicate, List.getElem?_cons_zero, List.getElem?_cons_succ, List.set_cons_zero, List.set_cons_succ, Nat.reduceAdd, Nat.reduceSub, Option.map_some, Option.map_none, Option.bind_some, Option.bind_none, reduceIte, if_true, if_false, Bool.not_true, Bool.not_false, Bool.false_eq_true, decide_true, decide_false, if_pos, st_get, st_set, st_take, st_len, ty1, truB]
  have c2 : evT g (C (d + 7)) (.cmp .eq (.var 0) (.con (.str ""))) (startR f_parse_selectors.N.length [.d (.str w)]) M = .ok false M := cmp_of (var_of rfl) con_of (by rw [str_eq, hw])
  have hchk := call1 (C' := C (d + 7)) (f := "check_list") (keep := false) (bi1 (f := .tuple) hl tuple_lv) (check_ev (d := d) (b := false) (M := M) h)
  by_cases hb : listB rs = true
  · rw [if_pos hb] at hchk
    have hsm : ∀ r ∈ rs, r.sm := fun r hr => sm_sel (h r hr) (by
      unfold listB at hb
      rw [Bool.and_eq_true] at hb
      exact List.all_eq_true.mp hb.2 r hr)
    have hlen : rs.length ≤ 6 := by
      unfold listB at hb
      rw [Bool.and_eq_true, decide_eq_true_eq] at hb
      exact hb.1
    have s3 := asg_of (i := 1) hchk
    have ht := call1 (C' := C (d + 7)) (f := "selectors_text") (keep := false) (X := .var 1) (ρ := [some (.d (.str w)), some (.d (listD rs)), none]) (M := M) (var_of (x := .d (listD rs)) rfl) (selectors_text_ok (d := d + 3) hsm hlen)
    have c4 : evT g (C (d + 7)) (.cmp .ne (.call "selectors_text" false (.cons (.var 1) .nil)) (.var 0)) [some (.d (.str w)), some (.d (listD rs)), none] M = .ok (!(lT rs == w)) M := cmp_of ht (var_of rfl) str_ne
    by_cases ht2 : lT rs = w
    · rw [if_pos ⟨hb, ht2⟩]
      refine (call_rt (fn := f_parse_selectors) (d := d + 7) (x := .d (listD rs)) (M' := M) rfl ?_).trans (by rw [fin_d, List.take_length])
      show evS g 100000 (C (d + 7)) b_parse_selectors _ _ = _
      rw [b_parse_selectors, seq_nx ((if_f c1).trans nil_nx), seq_nx ((if_f c2).trans nil_nx), seq_nx s3]
      have c4' : evT g (C (d + 7)) (.cmp .ne (.call "selectors_text" false (.cons (.var 1) .nil)) (.var 0)) ((startR f_parse_selectors.N.length [.d (.str w)]).set 1 (some (.d (listD rs)))) M = .ok false M := by
        have : (lT rs == w) = true := by rw [ht2]; exact beq_self_eq_true _
        rw [this] at c4
        exact c4
      rw [seq_nx ((if_f c4').trans nil_nx)]
      exact ret_of (var_of rfl)
    · rw [if_neg fun z => ht2 z.2]
      refine (call_ex (fn := f_parse_selectors) (d := d + 7) (c := "BadSelector") (M' := M) (ρ' := [some (.d (.str w)), some (.d (listD rs)), none]) rfl ?_ exS).trans (by rw [List.take_length])
      show evS g 100000 (C (d + 7)) b_parse_selectors _ _ = _
      rw [b_parse_selectors, seq_nx ((if_f c1).trans nil_nx), seq_nx ((if_f c2).trans nil_nx), seq_nx s3]
      refine seq_ex ?_
      have c4' : evT g (C (d + 7)) (.cmp .ne (.call "selectors_text" false (.cons (.var 1) .nil)) (.var 0)) ((startR f_parse_selectors.N.length [.d (.str w)]).set 1 (some (.d (listD rs)))) M = .ok true M := by
        have : (lT rs == w) = false := by simpa using ht2
        rw [this] at c4
        exact c4
      rw [if_t c4']
      refine seq_ex ?_
      rw [evS]
      rfl
  · rw [if_neg hb] at hchk
    rw [if_neg fun z => hb z.1]
    refine (call_ex (fn := f_parse_selectors) (d := d + 7) (c := "BadSelector") (M' := M) (ρ' := startR f_parse_selectors.N.length [.d (.str w)]) rfl ?_ exS).trans (by rw [List.take_length])
    show evS g 100000 (C (d + 7)) b_parse_selectors _ _ = _
    rw [b_parse_selectors, seq_nx ((if_f c1).trans nil_nx), seq_nx ((if_f c2).trans nil_nx)]
    refine seq_ex ?_
    rw [evS]
    unfold fAsg
    rw [hchk]
    rfl
/-- any text: an error, or a list with just this text -/
theorem parse_any {d : Nat} {b : Bool} {w : Str} {M : Store} (hw : (w == "") = false) (hl : w.length ≤ 9000) : callR b (C (d + 8) "parse_selectors") [.d (.str w)] M = .exc "BadSelector" M ∨
    ∃ rs : List RS, (∀ r ∈ rs, r.le) ∧ listB rs = true ∧ lT rs = w ∧ callR b (C (d + 8) "parse_selectors") [.d (.str w)] M = .ok (.d (listD rs)) M := by
  have k2 : (", " : Str).length = 2 := by decide +kernel
  have c1 : evT g (C (d + 7)) (.not (.tt (.isi "str" (.var 0)))) (startR f_parse_selectors.N.length [.d (.str w)]) M = .ok false M := by
    simp -implicitDefEqProofs only [f_parse_selectors, evS, evE, evL, evT, evI, evC, evP, fSeq, fSkip, fIfS, fRet, fRetN, fAsg, fAug2, fExp, fFor, fVar, fCon, fBin, fBl, fCons, fSCons, fNil, fApp, fCall, fTup, fLst, fCls, fIt, fNotT, fAndT, fOrT, fCmpT, fCh, fTru, fIf, fMeth, fSl, fPart, fNoPart, fRng, fZip, fRev, fIsi, isiG, tyName, fGlb, fRaise, fTry, fTryAs, fIsx, fNeg, fAndV, fOrV, Bi.g, Me.g, asgT_nm, asgT_tup, asgL_nil, asgL_cons, itemsS, startR, Res.bind_ok, Res.bind_exc, Res.bind_bad, Res.then_ok, Res.then_exc, Res.then_bad, SR.seq_nx, SR.seq_rt, SR.seq_bk, SR.seq_ct, SR.seq_exc, SR.seq_bad, ofO_some, ofO_none, List.map_cons, List.map_nil, List.length_cons, List.length_nil, List.cons_append, List.nil_append, List.replicate, List.getElem?_cons_zero, List.getElem?_cons_succ, List.set_cons_zero, List.set_cons_succ, Nat.reduceAdd, Nat.reduceSub, Option.map_some, Option.map_none, Option.bind_some, Option.bind_none, reduceIte, if_true, if_false, Bool.not_true, Bool.not_false, Bool.false_eq_true, decide_true, decide_false, if_pos, st_get, st_set, st_take, st_len, ty1, truB]
  have c2 : evT g (C (d + 7)) (.cmp .eq (.var 0) (.con (.str ""))) (startR f_parse_selectors.N.length [.d (.str w)]) M = .ok false M := cmp_of (var_of rfl) con_of (by rw [str_eq, hw])
  have hsp := split_ev (C' := C (d + 7)) (a := .var 0) (x := w) (sep := ", ") (ρ := startR f_parse_selectors.N.length [.d (.str w)]) (M := M) (var_of rfl) (by omega) (by rw [k2]; rfl)
  have hit : evI g (C (d + 7)) (.it (.x (.sm .split) (.var 0) (.con (.str ", ")) .nil .nil .nil)) (startR f_parse_selectors.N.length [.d (.str w)]) M = .ok ((Txt.split w ", ").map .str) M := by
    rw [evI]
    unfold fIt
    rw [hsp, Res.bind_ok]
    rfl
  have hlc := lcx_may (own := [2]) (t := .nm 2) (te := evE g (C (d + 7)) (.call "_read_selector" false (.cons (.var 2) .nil))) (ex := "BadSelector") (fun x => ∃ r : RS, r.le ∧ x = r.d) hit (fun x hx => ⟨_, asgT_nm, fun c => by
    obtain ⟨s, hs, rfl⟩ := List.mem_map.mp hx
    have hs := split_le hs
    rcases read_sel_ok (w := s) (by omega) (d := d + 4) (M := M ++ [c]) with e | ⟨r, hr, e⟩
    · exact .inl (call1 (var_of (x := .d (.str s)) rfl) e)
    · exact .inr ⟨r.d, ⟨r, hr, rfl⟩, call1 (var_of (x := .d (.str s)) rfl) e⟩⟩)
  have ev : evE g (C (d + 7)) (.x (.lcx false (.nm 2) [2]) (.it (.x (.sm .split) (.var 0) (.con (.str ", ")) .nil .nil .nil)) .nil (.call "_read_selector" false (.cons (.var 2) .nil)) .nil .nil) (startR f_parse_selectors.N.length [.d (.str w)]) M = fLcx false [2] (.nm 2) (evI g (C (d + 7)) (.it (.x (.sm .split) (.var 0) (.con (.str ", ")) .nil .nil .nil))) fYes (evE g (C (d + 7)) (.call "_read_selector" false (.cons (.var 2) .nil))) (startR f_parse_selectors.N.length [.d (.str w)]) M := by
    rw [evE]
    show fLcx false [2] (.nm 2) _ (evC g (C (d + 7)) .nil) _ _ M = _
    rw [show evC g (C (d + 7)) .nil = fYes by rw [evC]]
    rfl
  rcases hlc with e | ⟨ys, e, _, hP⟩
  · refine .inl ((call_ex (fn := f_parse_selectors) (d := d + 7) (c := "BadSelector") (M' := M) (ρ' := startR f_parse_selectors.N.length [.d (.str w)]) rfl ?_ exS).trans (by rw [List.take_length]))
    show evS g 100000 (C (d + 7)) b_parse_selectors _ _ = _
    rw [b_parse_selectors, seq_nx ((if_f c1).trans nil_nx), seq_nx ((if_f c2).trans nil_nx)]
    refine seq_ex ?_
    rw [evS]
    unfold fAsg
    rw [call_xA (bi_xA (f := .tuple) (ev.trans e))]
    rfl
  · obtain ⟨rs, hrs, rfl⟩ := rs_of hP
    have := parse_tail (b := b) hw hrs (ev.trans e)
    by_cases hc : listB rs = true ∧ lT rs = w
    · rw [if_pos hc] at this
      exact .inr ⟨rs, hrs, hc.1, hc.2, this⟩
    · rw [if_neg hc] at this
      exact .inl this
end TL.K03

set_option maxHeartbeats 400000
namespace TL.K03
open PySem PySem.Spec
open PyProof.Rows L2 TL
/-! ### the texts of the law's parts, by the kernel -/
def txtOf : Res Vl → Str
  | .ok (.d (.str s)) _ => s
  | _ => Str.empty
def ptxt (p : Pt) : Str := txtOf (callR false (C 6 "_part_text") [.d p.d] [])
theorem pt_2 (d : Nat) (c c' : Cell) : (Pts.map fun p => callR false (C (d + 2) "_part_text") [.d p.d] [c, c']) = Pts.map fun p => .ok (.d (.str (ptxt p))) [c, c'] := by kernel_rfl
theorem pt_3 (d : Nat) (c c' c2 : Cell) : (Pts.map fun p => callR false (C (d + 2) "_part_text") [.d p.d] [c, c', c2]) = Pts.map fun p => .ok (.d (.str (ptxt p))) [c, c', c2] := by kernel_rfl
theorem lt_2 (d : Nat) (c c' : Cell) : (Pts.map fun p => callR false (C (d + 1) "_law_part_text") [.d p.d] [c, c']) = Pts.map fun p => .ok (.d (.str (ptxt p))) [c, c'] := by kernel_rfl
theorem rd_4 (d : Nat) (c c' c2 c3 : Cell) : (Pts.map fun p => callR false (C (d + 2) "_read_part") [.d (.str (ptxt p))] [c, c', c2, c3]) = Pts.map fun p => .ok (.d p.d) [c, c', c2, c3] := by kernel_rfl
def fineT (s : Str) : Bool := !(cs s).contains 44 && (!(cs s).contains 32 && (decide (1 ≤ s.length) && (decide (s.length ≤ 24) && (!(cs s == [62]) && (!(cs s == [43]) && !(cs s == [126]))))))
theorem pts_fine : Pts.all (fun p => fineT (ptxt p)) = true := by decide +kernel
theorem fine_of {p : Pt} (h : p ∈ Pts) : 44 ∉ cs (ptxt p) ∧ 32 ∉ cs (ptxt p) ∧ 1 ≤ (ptxt p).length ∧ (ptxt p).length ≤ 24 ∧ cs (ptxt p) ≠ [62] ∧ cs (ptxt p) ≠ [43] ∧ cs (ptxt p) ≠ [126] := by
  have := List.all_eq_true.mp pts_fine p h
  simp only [fineT, Bool.and_eq_true, Bool.not_eq_true', decide_eq_true_eq, List.contains_eq_mem, decide_eq_false_iff_not, beq_eq_false_iff_ne] at this
  exact this
theorem ptext_2 {d : Nat} {p : Pt} (h : p ∈ Pts) (c c' : Cell) : callR false (C (d + 2) "_part_text") [.d p.d] [c, c'] = .ok (.d (.str (ptxt p))) [c, c'] := List.map_inj_left.mp (pt_2 d c c') p h
theorem ptext_3 {d : Nat} {p : Pt} (h : p ∈ Pts) (c c' c2 : Cell) : callR false (C (d + 2) "_part_text") [.d p.d] [c, c', c2] = .ok (.d (.str (ptxt p))) [c, c', c2] := List.map_inj_left.mp (pt_3 d c c' c2) p h
theorem ltext_2 {d : Nat} {p : Pt} (h : p ∈ Pts) (c c' : Cell) : callR false (C (d + 1) "_law_part_text") [.d p.d] [c, c'] = .ok (.d (.str (ptxt p))) [c, c'] := List.map_inj_left.mp (lt_2 d c c') p h
theorem read_4 {d : Nat} {p : Pt} (h : p ∈ Pts) (c c' c2 c3 : Cell) : callR false (C (d + 2) "_read_part") [.d (.str (ptxt p))] [c, c', c2, c3] = .ok (.d p.d) [c, c', c2, c3] := List.map_inj_left.mp (rd_4 d c c' c2 c3) p h
end TL.K03

set_option maxHeartbeats 400000
namespace TL.K03
open PySem PySem.Spec
open PyProof.Rows L2 TL
/-! ### the law's selectors, as selectors that may be read -/
def kOf : D → Option Str
  | .str s => some s
  | _ => none
def strL : List D → List Str
  | .str s :: r => s :: strL r
  | _ => []
def tsL : List D → List (Bool × Str)
  | .tuple [.str a, .str b] :: r => (a == "mark", b) :: tsL r
  | _ => []
def itsD : D → List D
  | .tuple xs => xs
  | _ => []
def pp (p : Pt) : PP := ⟨kOf p.k, strL (itsD p.m), tsL (itsD p.n), p.s, p.f⟩
theorem pp_ev : (Pts.map fun p => (pp p).d) = Pts.map Pt.d := by kernel_rfl
theorem pp_d {p : Pt} (h : p ∈ Pts) : (pp p).d = p.d := List.map_inj_left.mp pp_ev p h
theorem pp_good : Pts.all (fun p => partB (pp p)) = true := by decide +kernel
theorem pp_b {p : Pt} (h : p ∈ Pts) : partB (pp p) = true := List.all_eq_true.mp pp_good p h
theorem pp_sm {p : Pt} (h : p ∈ Pts) : (pp p).sm := sm_of (pp_b h)
theorem le_sm {q : PP} (h : q.sm) : q.le := ⟨fun s e => by have := h.k s e; omega, fun s hs => by have := h.ms.2 s hs; omega, fun t ht => by have := h.ts.2 t ht; omega⟩
theorem pp_t {p : Pt} (h : p ∈ Pts) : pT (pp p) = ptxt p := by
  unfold ptxt
  rw [← pp_d h, part_text_ok (d := 4) (pp_sm h)]
  rfl
def rsOf (Q : List Pt) (ls : List D) : RS := ⟨Q.map pp, ls⟩
theorem rs_d {Q : List Pt} {ls : List D} (h : ∀ q ∈ Q, q ∈ Pts) : (rsOf Q ls).d = .tuple [.tuple (Q.map Pt.d), .tuple ls] := by
  unfold rsOf RS.d
  rw [List.map_map]
  have : Q.map (PP.d ∘ pp) = Q.map Pt.d := List.map_congr_left fun q hq => pp_d (h q hq)
  rw [this]
/-- a drawn selector -/
structure Drawn (r : RS) : Prop where
  sh : ∃ Q ls, r = rsOf Q ls ∧ (∀ q ∈ Q, q ∈ Pts) ∧ (∀ l ∈ ls, l ∈ Ls) ∧ Q.length = ls.length + 1 ∧ Q.length ≤ 5
theorem drawn_of {x : D} (h : SelD 5 x) : ∃ r, Drawn r ∧ x = r.d := by
  obtain ⟨ps, ls, rfl, h1, h2, h3, h4⟩ := h.sh
  obtain ⟨Q, rfl, hQ⟩ : ∃ Q : List Pt, ps = Q.map Pt.d ∧ ∀ q ∈ Q, q ∈ Pts := by
    clear h3 h4 h
    induction ps with
    | nil => exact ⟨[], rfl, by simp⟩
    | cons p ps ih =>
      obtain ⟨q, hq, rfl⟩ := h1 p List.mem_cons_self
      obtain ⟨Q, rfl, hQ⟩ := ih fun x hx => h1 x (List.mem_cons_of_mem _ hx)
      exact ⟨q :: Q, rfl, fun x hx => by
        rcases List.mem_cons.mp hx with rfl | hx
        · exact hq
        · exact hQ x hx⟩
  rw [List.length_map] at h3 h4
  exact ⟨rsOf Q ls, ⟨Q, ls, rfl, hQ, h2, h3, h4⟩, (rs_d hQ).symm⟩
theorem Drawn.sm {r : RS} (h : Drawn r) : r.sm := by
  obtain ⟨Q, ls, rfl, hQ, hl, h3, h4⟩ := h.sh
  exact ⟨fun q hq => by
    obtain ⟨p, hp, rfl⟩ := List.mem_map.mp hq
    exact pp_sm (hQ p hp), hl, by show ls.length + 1 = (Q.map pp).length; rw [List.length_map]; omega, by show (Q.map pp).length ≤ 5; rw [List.length_map]; exact h4⟩
theorem Drawn.le {r : RS} (h : Drawn r) : r.le := ⟨fun q hq => le_sm (h.sm.qs q hq), h.sm.ls⟩
theorem Drawn.b {r : RS} (h : Drawn r) : selB r = true := by
  have hs := h.sm
  obtain ⟨Q, ls, rfl, hQ, hl, h3, h4⟩ := h.sh
  unfold selB
  rw [Bool.and_eq_true, decide_eq_true_eq]
  refine ⟨⟨by have := hs.n; omega, hs.m, hs.n⟩, List.all_eq_true.mpr fun q hq => ?_⟩
  obtain ⟨p, hp, rfl⟩ := List.mem_map.mp hq
  exact pp_b (hQ p hp)
/-! the law's own text -/
theorem joinL_nil : ∀ ps : List (List Nat), joinL [] ps = ps.flatten
  | [] => rfl
  | [p] => by simp [joinL]
  | p :: q :: r => by
    have := joinL_nil (q :: r)
    show p ++ [] ++ joinL [] (q :: r) = _
    rw [this]; simp
theorem cs_emp : cs ("" : Str) = [] := by decide +kernel
theorem cs_sT (r : RS) : cs (sT r) = ((sW r).map cs).flatten := by
  unfold sT
  rw [cs_join, cs_emp, joinL_nil]
abbrev sg : Vl := .fz (.dct [(.inr "child", .str " > "), (.inr "inside", .str " "), (.inr "next", .str " + "), (.inr "after", .str " ~ ")])
theorem dix_sg {C' : CallF} {b : E} {l : D} {ρ : Rho} {M : Store} {i : Nat} (h0 : ρ[i]? = some (some sg)) (h : evE g C' b ρ M = .ok (.d l) M) (hl : l ∈ Ls) : evE g C' (.x .dix (.var i) b .nil .nil .nil) ρ M = .ok (.d (.str (lnkT l))) M := by
  rw [evE]
  show fDix (evE g C' (.var i)) (evE g C' b) ρ M = _
  unfold fDix
  rw [var_of h0, Res.bind_ok]
  simp only [Ls, List.mem_cons, List.not_mem_nil, or_false] at hl
  rcases hl with rfl | rfl | rfl | rfl <;> (simp only [h, Res.bind_ok]; rfl)

theorem rng_of' {C' : CallF} {X : E} {n : Nat} {ρ : Rho} {M M' : Store} (h : evE g C' X ρ M = .ok (.d (.int (n : Int))) M') (hn : n ≤ 100000) : evI g C' (.rng false (.cons X .nil)) ρ M = .ok (rngD 0 n) M' := by
  rw [evI]
  unfold fRng
  rw [args1 h, Res.bind_ok, rngG_fwd hn]
  rfl
abbrev LT (x : D) (t : Str) (k : Option Vl) : Rho := [some (.d x), some sg, some (.d (.str t)), k]
theorem tw_pp : ∀ {r : List Pt} {ls : List D}, (tw (r.map pp) ls).length ≤ 2 * r.length := by
  intro r ls
  have := tw_len (r := r.map pp) (ls := ls)
  rwa [List.length_map] at this
theorem add_s {a b : Str} {M : Store} (h : a.length + b.length ≤ 10000) : bin2 .add (.d (.str a)) (.d (.str b)) M = some (.d (.str (a ++ b))) := by
  have : a.length + b.length ≤ sizeLine := by have := sizeLine_eq; omega
  simp [bin2, this]
theorem lt_loop {d : Nat} {Q : List Pt} {ls : List D} {c c' : Cell} (hQ : ∀ q ∈ Q, q ∈ Pts) (hl : ∀ l ∈ ls, l ∈ Ls) (hn : Q.length = ls.length + 1) (h5 : Q.length ≤ 5) : ∀ (n j : Nat) (t : Str) (k : Option Vl), j + n = ls.length → t.length + 27 * n ≤ 1000 →
    ∃ t' k', forL (.nm 3) (evS g 100000 (C (d + 1)) w1_law_text) (rngD (j : Int) n) (LT (rsOf Q ls).d t k) [c, c'] = .nx (LT (rsOf Q ls).d t' k') [c, c'] ∧ cs t' = cs t ++ ((tw ((Q.drop (j + 1)).map pp) (ls.drop j)).map cs).flatten
  | 0, j, t, k, h, _ => by
    refine ⟨t, k, by simp [rngD, forL], ?_⟩
    rw [List.drop_eq_nil_of_le (show Q.length ≤ j + 1 by omega)]
    simp [tw]
  | n + 1, j, t, k, h, ht => by
    have hj : j < ls.length := by omega
    have hj2 : j + 1 < Q.length := by omega
    obtain ⟨l, hl0⟩ : ∃ l, ls[j]? = some l := ⟨ls[j], List.getElem?_eq_getElem hj⟩
    obtain ⟨p, hp0⟩ : ∃ p, Q[j + 1]? = some p := ⟨Q[j + 1], List.getElem?_eq_getElem hj2⟩
    have hlm := hl l (List.mem_of_getElem? hl0)
    have hpm := hQ p (List.mem_of_getElem? hp0)
    have ll := lnk_len hlm
    have lp := (fine_of hpm).2.2.2.1
    have el : (t ++ lnkT l ++ ptxt p).length = t.length + (lnkT l).length + (ptxt p).length := by rw [len_app, len_app]
    obtain ⟨t', k', e, ht'⟩ := lt_loop (d := d) (c := c) (c' := c') hQ hl hn h5 n (j + 1) (t ++ lnkT l ++ ptxt p) (some (.d (.int j))) (by omega) (by rw [el]; omega)
    refine ⟨t', k', ?_, ?_⟩
    · rw [rngD_cons, forL_nx (t := .nm 3) (ρ1 := LT (rsOf Q ls).d t (some (.d (.int j)))) (ρ2 := LT (rsOf Q ls).d (t ++ lnkT l ++ ptxt p) (some (.d (.int j)))) (M' := [c, c']) (by rw [asgT_nm]; rfl) ?_]
      · exact e
      · have x1 : evE g (C (d + 1)) (.ix (.ix (.var 0) (.con (.int 1))) (.var 3)) (LT (rsOf Q ls).d t (some (.d (.int j)))) [c, c'] = .ok (.d l) [c, c'] := by
          rw [rs_d hQ]
          refine ix_by (ix_by (var_of rfl) con_of (ix_p1 (M := [c, c']))) (var_of rfl) ?_
          rw [ix_nat hj, List.getD, hl0]
          rfl
        have x2 : evE g (C (d + 1)) (.ix (.ix (.var 0) (.con (.int 0))) (.bin .add (.var 3) (.con (.int 1)))) (LT (rsOf Q ls).d t (some (.d (.int j)))) [c, c'] = .ok (.d p.d) [c, c'] := by
          rw [rs_d hQ]
          refine ix_by (ix_by (var_of rfl) con_of (ix_p0 (M := [c, c']))) (bin_of (z := .d (.int ((j + 1 : Nat) : Int))) (var_of rfl) con_of (by rw [add_int]; rfl)) ?_
          rw [ix_nat (by rw [List.length_map]; exact hj2), List.getD, List.getElem?_map, hp0]
          rfl
        have b1 := bin_of (C' := C (d + 1)) (ρ := LT (rsOf Q ls).d t (some (.d (.int j)))) (M := [c, c']) (var_of (i := 2) (x := .d (.str t)) rfl) (dix_sg (i := 1) rfl x1 hlm) (add_s (by omega))
        have b2 := bin_of b1 (call1 (f := "_law_part_text") (keep := false) x2 (ltext_2 (d := d) hpm c c')) (add_s (by rw [len_app]; omega))
        rw [w1_law_text, seq_nx (asg_of b2), nil_nx]
        rfl
    · rw [ht', cs_app, cs_app]
      have d1 : ls.drop j = l :: ls.drop (j + 1) := by rw [List.drop_eq_getElem_cons hj]; congr 1; exact Option.some.inj ((List.getElem?_eq_getElem hj).symm.trans hl0)
      have d2 : Q.drop (j + 1) = p :: Q.drop (j + 1 + 1) := by rw [List.drop_eq_getElem_cons hj2]; congr 1; exact Option.some.inj ((List.getElem?_eq_getElem hj2).symm.trans hp0)
      rw [d1, d2, List.map_cons]
      simp only [tw, List.map_cons, List.flatten_cons, pp_t hpm, List.append_assoc]
theorem law_text_ok {d : Nat} {r : RS} (h : Drawn r) (c c' : Cell) : callR false (C (d + 2) "_law_text") [.d r.d] [c, c'] = .ok (.d (.str (sT r))) [c, c'] := by
  obtain ⟨Q, ls, rfl, hQ, hl, hn, h5⟩ := h.sh
  obtain ⟨p, Q', rfl⟩ : ∃ p Q', Q = p :: Q' := by
    cases Q with
    | nil => simp at hn
    | cons p Q' => exact ⟨p, Q', rfl⟩
  have hp := hQ p List.mem_cons_self
  have lp := (fine_of hp).2.2.2.1
  simp only [List.length_cons] at hn h5
  obtain ⟨t', k', e, ht'⟩ := lt_loop (d := d) (c := c) (c' := c') hQ hl (by simp; omega) (by simp; omega) ls.length 0 (ptxt p) none (by omega) (by omega)
  have et : t' = sT (rsOf (p :: Q') ls) := by
    apply cs_inj
    rw [ht', cs_sT]
    simp only [sW, rsOf, List.map_cons, List.drop_succ_cons, List.drop_zero, List.flatten_cons, pp_t hp]
  refine (call_rt (fn := f_law_text) (d := d + 1) (x := .d (.str (sT (rsOf (p :: Q') ls)))) (M' := [c, c']) rfl ?_).trans (by rw [fin_d]; rfl)
  have s1 : evS g 100000 (C (d + 1)) (.asg (.nm 1) (.x (.dd [("child", " > "), ("inside", " "), ("next", " + "), ("after", " ~ ")]) .nil .nil .nil .nil .nil)) (startR f_law_text.N.length [.d (rsOf (p :: Q') ls).d]) [c, c'] = .nx [some (.d (rsOf (p :: Q') ls).d), some sg, none, none] [c, c'] := by
    refine asg_of (i := 1) (ρ := startR f_law_text.N.length [.d (rsOf (p :: Q') ls).d]) ?_
    rw [evE]
    rfl
  have x0 : evE g (C (d + 1)) (.ix (.ix (.var 0) (.con (.int 0))) (.con (.int 0))) [some (.d (rsOf (p :: Q') ls).d), some sg, none, none] [c, c'] = .ok (.d p.d) [c, c'] := by
    rw [rs_d hQ]
    exact ix_by (ix_by (var_of rfl) con_of (ix_p0 (M := [c, c']))) con_of (ix_nat (i := 0) (by simp))
  have s2 : evS g 100000 (C (d + 1)) (.asg (.nm 2) (.call "_law_part_text" false (.cons (.ix (.ix (.var 0) (.con (.int 0))) (.con (.int 0))) .nil))) [some (.d (rsOf (p :: Q') ls).d), some sg, none, none] [c, c'] = .nx (LT (rsOf (p :: Q') ls).d (ptxt p) none) [c, c'] := asg_of (i := 2) (call1 (f := "_law_part_text") (keep := false) x0 (ltext_2 (d := d) hp c c'))
  have hrg : evI g (C (d + 1)) (.rng false (.cons (.bi .len (.cons (.ix (.var 0) (.con (.int 1))) .nil)) .nil)) (LT (rsOf (p :: Q') ls).d (ptxt p) none) [c, c'] = .ok (rngD ((0 : Nat) : Int) ls.length) [c, c'] := by
    rw [rs_d hQ]
    exact rng_of' (bi1 (f := .len) (ix_by (var_of rfl) con_of (ix_p1 (M := [c, c']))) len_d) (by omega)
  have hf : evS g 100000 (C (d + 1)) (.forS (.nm 3) (.rng false (.cons (.bi .len (.cons (.ix (.var 0) (.con (.int 1))) .nil)) .nil)) w1_law_text) (LT (rsOf (p :: Q') ls).d (ptxt p) none) [c, c'] = .nx (LT (rsOf (p :: Q') ls).d t' k') [c, c'] := by
    rw [evS_for]
    unfold fFor
    rw [hrg]
    exact e
  show evS g 100000 (C (d + 1)) b_law_text _ _ = _
  rw [b_law_text, seq_nx s1, seq_nx s2, seq_nx hf]
  rw [← et]
  exact ret_of (var_of rfl)
end TL.K03

set_option maxHeartbeats 400000
namespace TL.K03
open PySem PySem.Spec
open PyProof.Rows L2 TL
/-! ### reading what was written -/
def sgn : D → List Str
  | .str l => if l = "child" then [">"] else if l = "next" then ["+"] else if l = "after" then ["~"] else []
  | _ => []
def tk : List Pt → List D → List Str
  | q :: r, l :: ls => sgn l ++ ptxt q :: tk r ls
  | _, _ => []
theorem joinL_cons (s a : List Nat) : ∀ r : List (List Nat), joinL s (a :: r) = a ++ (r.map (s ++ ·)).flatten
  | [] => by simp [joinL]
  | b :: r => by
    have := joinL_cons s b r
    show a ++ s ++ joinL s (b :: r) = _
    rw [this]; simp
theorem link_cs {l : D} (h : l ∈ Ls) : ((sgn l).map fun w => [32] ++ cs w).flatten ++ [32] = cs (lnkT l) := by
  simp only [Ls, List.mem_cons, List.not_mem_nil, or_false] at h
  rcases h with rfl | rfl | rfl | rfl <;> decide +kernel
theorem sgn_free {l : D} (h : l ∈ Ls) : ∀ w ∈ sgn l, 32 ∉ cs w := by
  simp only [Ls, List.mem_cons, List.not_mem_nil, or_false] at h
  rcases h with rfl | rfl | rfl | rfl <;> decide +kernel
theorem tk_cs : ∀ {r : List Pt} {ls : List D}, (∀ q ∈ r, q ∈ Pts) → (∀ l ∈ ls, l ∈ Ls) → ((tk r ls).map fun w => [32] ++ cs w).flatten = ((tw (r.map pp) ls).map cs).flatten
  | [], ls, _, _ => by simp [tk, tw]
  | q :: r, [], _, _ => by simp [tk, tw]
  | q :: r, l :: ls, h1, h2 => by
    have ih := tk_cs (r := r) (ls := ls) (fun x hx => h1 x (List.mem_cons_of_mem _ hx)) (fun x hx => h2 x (List.mem_cons_of_mem _ hx))
    have e := link_cs (h2 l List.mem_cons_self)
    simp only [tk, tw, List.map_cons, List.map_append, List.flatten_append, List.flatten_cons, ih, pp_t (h1 q List.mem_cons_self), ← e, List.append_assoc]
theorem tk_free : ∀ {r : List Pt} {ls : List D}, (∀ q ∈ r, q ∈ Pts) → (∀ l ∈ ls, l ∈ Ls) → ∀ w ∈ tk r ls, 32 ∉ cs w
  | [], ls, _, _, w, h => by simp [tk] at h
  | q :: r, [], _, _, w, h => by simp [tk] at h
  | q :: r, l :: ls, h1, h2, w, h => by
    simp only [tk, List.mem_append, List.mem_cons] at h
    rcases h with h | rfl | h
    · exact sgn_free (h2 l List.mem_cons_self) w h
    · exact (fine_of (h1 q List.mem_cons_self)).2.1
    · exact tk_free (fun x hx => h1 x (List.mem_cons_of_mem _ hx)) (fun x hx => h2 x (List.mem_cons_of_mem _ hx)) w h
theorem cs_sp : cs (" " : Str) = [32] := by decide +kernel
theorem cs_cm : cs (", " : Str) = [44, 32] := by decide +kernel
theorem split_sT {p : Pt} {r : List Pt} {ls : List D} (h1 : ∀ q ∈ p :: r, q ∈ Pts) (h2 : ∀ l ∈ ls, l ∈ Ls) : Txt.split (sT (rsOf (p :: r) ls)) " " = ptxt p :: tk r ls := by
  have e : sT (rsOf (p :: r) ls) = Txt.join " " (ptxt p :: tk r ls) := by
    apply cs_inj
    rw [cs_sT, cs_join, cs_sp, List.map_cons, joinL_cons, List.map_map]
    have := tk_cs (r := r) (ls := ls) (fun x hx => h1 x (List.mem_cons_of_mem _ hx)) h2
    simp only [sW, rsOf, List.map_cons, List.flatten_cons, pp_t (h1 p List.mem_cons_self)]
    rw [← this]
    rfl
  rw [e]
  refine split_join (c := 32) (t := []) cs_sp (by simp) (by simp) fun w hw => ?_
  rcases List.mem_cons.mp hw with rfl | hw
  · exact (fine_of (h1 p List.mem_cons_self)).2.1
  · exact tk_free (fun x hx => h1 x (List.mem_cons_of_mem _ hx)) h2 w hw
theorem tab_signs : tabOf g "LINK_SIGNS" = [((">" : Str), PyData.str "child"), (("+" : Str), PyData.str "next"), (("~" : Str), PyData.str "after")] := by kernel_rfl
theorem no_sign {p : Pt} (h : p ∈ Pts) : (tabOf g "LINK_SIGNS").lookup (ptxt p) = none := by
  obtain ⟨_, _, _, _, n1, n2, n3⟩ := fine_of h
  have a1 : (ptxt p == (">" : Str)) = false := by
    rw [beq_eq_false_iff_ne]
    exact fun e => n1 (by rw [e]; decide +kernel)
  have a2 : (ptxt p == ("+" : Str)) = false := by
    rw [beq_eq_false_iff_ne]
    exact fun e => n2 (by rw [e]; decide +kernel)
  have a3 : (ptxt p == ("~" : Str)) = false := by
    rw [beq_eq_false_iff_ne]
    exact fun e => n3 (by rw [e]; decide +kernel)
  rw [tab_signs]
  simp only [List.lookup_cons, List.lookup_nil, a1, a2, a3]
theorem sign_of {l : D} (h : l ∈ Ls) : (l = .str "inside" ∧ sgn l = []) ∨ ∃ s, sgn l = [s] ∧ (tabOf g "LINK_SIGNS").lookup s = some l := by
  simp only [Ls, List.mem_cons, List.not_mem_nil, or_false] at h
  rcases h with rfl | rfl | rfl | rfl
  · exact .inr ⟨">", by decide +kernel, by kernel_rfl⟩
  · exact .inl ⟨rfl, by decide +kernel⟩
  · exact .inr ⟨"+", by decide +kernel, by kernel_rfl⟩
  · exact .inr ⟨"~", by decide +kernel, by kernel_rfl⟩
theorem rd_loop {d : Nat} {x : D} {a b : Cell} : ∀ (r : List Pt) (ls : List D) (P L : List D) (w : Option Vl), (∀ q ∈ r, q ∈ Pts) → (∀ l ∈ ls, l ∈ Ls) → r.length = ls.length → P.length + r.length ≤ 1000 → L.length + r.length ≤ 1000 →
    ∃ w', forL (.nm 4) (evS g 100000 (C (d + 2)) w1_read_selector) ((tk r ls).map .str) (SR' x 2 (some (.d (.str "inside"))) w) ([a, b] ++ [.lst P] ++ [.lst L]) = .nx (SR' x 2 (some (.d (.str "inside"))) w') ([a, b] ++ [.lst (P ++ r.map Pt.d)] ++ [.lst (L ++ ls)])
  | [], [], P, L, w, _, _, _, _, _ => ⟨w, by simp [tk, forL]⟩
  | [], _ :: _, _, _, _, _, _, h, _, _ => by simp at h
  | _ :: _, [], _, _, _, _, _, h, _, _ => by simp at h
  | q :: r, l :: ls, P, L, w, h1, h2, h3, h4, h5 => by
    simp only [List.length_cons] at h3 h4 h5
    have hq := h1 q List.mem_cons_self
    obtain ⟨w', e⟩ := rd_loop (d := d) (x := x) (a := a) (b := b) r ls (P ++ [q.d]) (L ++ [l]) (some (.d (.str (ptxt q)))) (fun z hz => h1 z (List.mem_cons_of_mem _ hz)) (fun z hz => h2 z (List.mem_cons_of_mem _ hz)) (by omega) (by simp; omega) (by simp; omega)
    refine ⟨w', ?_⟩
    have a1 : ∀ (y : D) (w : Option Vl) (s : Str), asgT (.nm 4) (.d (.str s)) (SR' x 2 (some (.d y)) w) = some (SR' x 2 (some (.d y)) (some (.d (.str s)))) := fun y w s => by rw [asgT_nm]; rfl
    have pt : ∀ (w : Option Vl), forL (.nm 4) (evS g 100000 (C (d + 2)) w1_read_selector) (.str (ptxt q) :: (tk r ls).map .str) (SR' x 2 (some (.d l)) w) ([a, b] ++ [.lst P] ++ [.lst L]) = .nx (SR' x 2 (some (.d (.str "inside"))) w') ([a, b] ++ [.lst (P ++ (q :: r).map Pt.d)] ++ [.lst (L ++ l :: ls)]) := fun w => by
      have s1 := rs_part (d := d) (x := x) (l := l) (M := [a, b]) (P := P) (L := L) (no_sign hq) (read_4 (d := d) hq a b (.lst P) (.lst L)) (by omega) (by omega)
      rw [forL_nx (a1 l w (ptxt q)) s1]
      refine e.trans ?_
      simp
    rcases sign_of (h2 l List.mem_cons_self) with ⟨rfl, e0⟩ | ⟨s, e0, ht⟩
    · simp only [tk, e0, List.nil_append, List.map_cons]
      exact pt w
    · simp only [tk, e0, List.singleton_append, List.map_cons]
      rw [forL_nx (a1 (.str "inside") w s) (rs_sign ht)]
      exact pt _
theorem read_back {d : Nat} {r : RS} (h : Drawn r) (a b : Cell) : callR false (C (d + 3) "_read_selector") [.d (.str (sT r))] [a, b] = .ok (.d r.d) [a, b] := by
  have hlen := sT_len h.sm
  obtain ⟨Q, ls, rfl, hQ, hl, hn, h5⟩ := h.sh
  obtain ⟨p, Q', rfl⟩ : ∃ p Q', Q = p :: Q' := by
    cases Q with
    | nil => simp at hn
    | cons p Q' => exact ⟨p, Q', rfl⟩
  have hp := hQ p List.mem_cons_self
  simp only [List.length_cons] at hn h5
  have k1 : (" " : Str).length = 1 := by decide +kernel
  have s1 : evS g 100000 (C (d + 2)) (.asg (.nm 1) (.cls .nil)) (startR f_read_selector.N.length [.d (.str (sT (rsOf (p :: Q') ls)))]) [a, b] = .nx [some (.d (.str (sT (rsOf (p :: Q') ls)))), some (.loc 2), none, none, none] [a, b, .lst []] := by
    simp -implicitDefEqProofs only [f_read_selector, evS, evE, evL, evT, evI, evC, evP, fSeq, fSkip, fIfS, fRet, fRetN, fAsg, fAug2, fExp, fFor, fVar, fCon, fBin, fBl, fCons, fSCons, fNil, fApp, fCall, fTup, fLst, fCls, fIt, fNotT, fAndT, fOrT, fCmpT, fCh, fTru, fIf, fMeth, fSl, fPart, fNoPart, fRng, fZip, fRev, fIsi, isiG, tyName, fGlb, fRaise, fTry, fTryAs, fIsx, fNeg, fAndV, fOrV, Bi.g, Me.g, asgT_nm, asgT_tup, asgL_nil, asgL_cons, itemsS, startR, Res.bind_ok, Res.bind_exc, Res.bind_bad, Res.then_ok, Res.then_exc, Res.then_bad, SR.seq_nx, SR.seq_rt, SR.seq_bk, SR.seq_ct, SR.seq_exc, SR.seq_bad, ofO_some, ofO_none, List.map_cons, List.map_nil, List.length_cons, List.length_nil, List.cons_append, List.nil_append, List.replicate, List.getElem?_cons_zero, List.getElem?_cons_succ, List.set_cons_zero, List.set_cons_succ, Nat.reduceAdd, Nat.reduceSub, Option.map_some, Option.map_none, Option.bind_some, Option.bind_none, reduceIte, if_true, if_false, Bool.not_true, Bool.not_false, Bool.false_eq_true, decide_true, decide_false, if_pos, st_get, st_set, st_take, st_len, lst0]
  have s2 : evS g 100000 (C (d + 2)) (.asg (.nm 2) (.cls .nil)) [some (.d (.str (sT (rsOf (p :: Q') ls)))), some (.loc 2), none, none, none] [a, b, .lst []] = .nx [some (.d (.str (sT (rsOf (p :: Q') ls)))), some (.loc 2), some (.loc 3), none, none] ([a, b] ++ [.lst []] ++ [.lst []]) := by
    simp -implicitDefEqProofs only [evS, evE, evL, evT, evI, evC, evP, fSeq, fSkip, fIfS, fRet, fRetN, fAsg, fAug2, fExp, fFor, fVar, fCon, fBin, fBl, fCons, fSCons, fNil, fApp, fCall, fTup, fLst, fCls, fIt, fNotT, fAndT, fOrT, fCmpT, fCh, fTru, fIf, fMeth, fSl, fPart, fNoPart, fRng, fZip, fRev, fIsi, isiG, tyName, fGlb, fRaise, fTry, fTryAs, fIsx, fNeg, fAndV, fOrV, Bi.g, Me.g, asgT_nm, asgT_tup, asgL_nil, asgL_cons, itemsS, startR, Res.bind_ok, Res.bind_exc, Res.bind_bad, Res.then_ok, Res.then_exc, Res.then_bad, SR.seq_nx, SR.seq_rt, SR.seq_bk, SR.seq_ct, SR.seq_exc, SR.seq_bad, ofO_some, ofO_none, List.map_cons, List.map_nil, List.length_cons, List.length_nil, List.cons_append, List.nil_append, List.replicate, List.getElem?_cons_zero, List.getElem?_cons_succ, List.set_cons_zero, List.set_cons_succ, Nat.reduceAdd, Nat.reduceSub, Option.map_some, Option.map_none, Option.bind_some, Option.bind_none, reduceIte, if_true, if_false, Bool.not_true, Bool.not_false, Bool.false_eq_true, decide_true, decide_false, if_pos, st_get, st_set, st_take, st_len, lst0]
  have s3 : evS g 100000 (C (d + 2)) (.asg (.nm 3) (.con (.str "inside"))) [some (.d (.str (sT (rsOf (p :: Q') ls)))), some (.loc 2), some (.loc 3), none, none] ([a, b] ++ [.lst []] ++ [.lst []]) = .nx (SR' (.str (sT (rsOf (p :: Q') ls))) 2 (some (.d (.str "inside"))) none) ([a, b] ++ [.lst []] ++ [.lst []]) := asg_of con_of
  have hsp := split_ev (C' := C (d + 2)) (a := .var 0) (x := sT (rsOf (p :: Q') ls)) (sep := " ") (ρ := SR' (.str (sT (rsOf (p :: Q') ls))) 2 (some (.d (.str "inside"))) none) (M := [a, b] ++ [.lst []] ++ [.lst []]) (var_of rfl) (by omega) (by rw [k1]; rfl)
  rw [split_sT hQ hl] at hsp
  obtain ⟨w', e⟩ := rd_loop (d := d) (x := .str (sT (rsOf (p :: Q') ls))) (a := a) (b := b) Q' ls [p.d] [.str "inside"] (some (.d (.str (ptxt p)))) (fun z hz => hQ z (List.mem_cons_of_mem _ hz)) hl (by omega) (by simp; omega) (by simp; omega)
  have hf : evS g 100000 (C (d + 2)) (.forS (.nm 4) (.it (.x (.sm .split) (.var 0) (.con (.str " ")) .nil .nil .nil)) w1_read_selector) (SR' (.str (sT (rsOf (p :: Q') ls))) 2 (some (.d (.str "inside"))) none) ([a, b] ++ [.lst []] ++ [.lst []]) = .nx (SR' (.str (sT (rsOf (p :: Q') ls))) 2 (some (.d (.str "inside"))) w') ([a, b] ++ [.lst ((p :: Q').map Pt.d)] ++ [.lst (.str "inside" :: ls)]) := by
    rw [evS_for, for_it hsp rfl, List.map_cons]
    have s1 := rs_part (d := d) (x := .str (sT (rsOf (p :: Q') ls))) (l := .str "inside") (M := [a, b]) (P := []) (L := []) (no_sign hp) (read_4 (d := d) hp a b (.lst []) (.lst [])) (by simp) (by simp)
    rw [forL_nx (ρ1 := SR' (.str (sT (rsOf (p :: Q') ls))) 2 (some (.d (.str "inside"))) (some (.d (.str (ptxt p))))) (by rw [asgT_nm]; rfl) s1]
    exact e
  have t1 : tupleG [.loc 2] ([a, b] ++ [.lst ((p :: Q').map Pt.d)] ++ [.lst (.str "inside" :: ls)]) = some (.d (.tuple ((p :: Q').map Pt.d)), [a, b] ++ [.lst ((p :: Q').map Pt.d)] ++ [.lst (.str "inside" :: ls)]) := rfl
  have t2 : sl2 false (.loc 3) (some 1) none ([a, b] ++ [.lst ((p :: Q').map Pt.d)] ++ [.lst (.str "inside" :: ls)]) = some (.d (.list ls), [a, b] ++ [.lst ((p :: Q').map Pt.d)] ++ [.lst (.str "inside" :: ls)]) := by
    show some (Vl.d (.list (cutD (.str "inside" :: ls) (some 1) none)), _) = _
    rw [cutD_1]
    rfl
  refine (call_rt (fn := f_read_selector) (d := d + 2) (x := .d (rsOf (p :: Q') ls).d) (M' := [a, b] ++ [.lst ((p :: Q').map Pt.d)] ++ [.lst (.str "inside" :: ls)]) rfl ?_).trans (by rw [fin_d]; rfl)
  have e1 : evE g (C (d + 2)) (.tup (.cons (.bi .tuple (.cons (.var 1) .nil)) (.cons (.bi .tuple (.cons (.sl false (.var 2) (.pt (.con (.int 1))) .nil) .nil)) .nil))) (SR' (.str (sT (rsOf (p :: Q') ls))) 2 (some (.d (.str "inside"))) w') ([a, b] ++ [.lst ((p :: Q').map Pt.d)] ++ [.lst (.str "inside" :: ls)]) = .ok (.d (rsOf (p :: Q') ls).d) ([a, b] ++ [.lst ((p :: Q').map Pt.d)] ++ [.lst (.str "inside" :: ls)]) := by
    rw [rs_d hQ]
    simp -implicitDefEqProofs only [SR', evS, evE, evL, evT, evI, evC, evP, fSeq, fSkip, fIfS, fRet, fRetN, fAsg, fAug2, fExp, fFor, fVar, fCon, fBin, fBl, fCons, fSCons, fNil, fApp, fCall, fTup, fLst, fCls, fIt, fNotT, fAndT, fOrT, fCmpT, fCh, fTru, fIf, fMeth, fSl, fPart, fNoPart, fRng, fZip, fRev, fIsi, isiG, tyName, fGlb, fRaise, fTry, fTryAs, fIsx, fNeg, fAndV, fOrV, Bi.g, Me.g, asgT_nm, asgT_tup, asgL_nil, asgL_cons, itemsS, startR, Res.bind_ok, Res.bind_exc, Res.bind_bad, Res.then_ok, Res.then_exc, Res.then_bad, SR.seq_nx, SR.seq_rt, SR.seq_bk, SR.seq_ct, SR.seq_exc, SR.seq_bad, ofO_some, ofO_none, List.getElem?_cons_zero, List.getElem?_cons_succ, Nat.reduceAdd, t1, t2, tuple_l', tup2]
  show evS g 100000 (C (d + 2)) b_read_selector _ _ = _
  rw [b_read_selector, seq_nx s1, seq_nx s2, seq_nx s3, seq_nx hf]
  exact ret_of e1
theorem sT_cfree {r : RS} (h : Drawn r) : 44 ∉ cs (sT r) := by
  obtain ⟨Q, ls, rfl, hQ, hl, hn, h5⟩ := h.sh
  have gen : ∀ (r : List Pt) (ls : List D), (∀ q ∈ r, q ∈ Pts) → (∀ l ∈ ls, l ∈ Ls) → ∀ w ∈ tw (r.map pp) ls, 44 ∉ cs w := by
    intro r
    induction r with
    | nil => intro ls _ _ w h; simp [tw] at h
    | cons q r ih =>
      intro ls h1 h2 w h
      cases ls with
      | nil => simp [tw] at h
      | cons l ls =>
        simp only [List.map_cons, tw, List.mem_cons] at h
        rcases h with rfl | rfl | h
        · have := h2 l List.mem_cons_self
          simp only [Ls, List.mem_cons, List.not_mem_nil, or_false] at this
          rcases this with rfl | rfl | rfl | rfl <;> decide +kernel
        · rw [pp_t (h1 q List.mem_cons_self)]
          exact (fine_of (h1 q List.mem_cons_self)).1
        · exact ih ls (fun z hz => h1 z (List.mem_cons_of_mem _ hz)) (fun z hz => h2 z (List.mem_cons_of_mem _ hz)) w h
  rw [cs_sT]
  intro hm
  obtain ⟨x, hx, hm2⟩ := List.mem_flatten.mp hm
  obtain ⟨w, hw, rfl⟩ := List.mem_map.mp hx
  cases Q with
  | nil => simp at hn
  | cons p Q' =>
    simp only [sW, rsOf, List.map_cons, List.mem_cons] at hw
    rcases hw with rfl | hw
    · rw [pp_t (hQ p List.mem_cons_self)] at hm2
      exact (fine_of (hQ p List.mem_cons_self)).1 hm2
    · exact gen Q' ls (fun z hz => hQ z (List.mem_cons_of_mem _ hz)) hl w hw hm2
theorem list_b {rs : List RS} (h : ∀ r ∈ rs, Drawn r) (hl : rs.length ≤ 6) : listB rs = true := by
  unfold listB
  rw [Bool.and_eq_true, decide_eq_true_eq]
  exact ⟨hl, List.all_eq_true.mpr fun r hr => (h r hr).b⟩
/-- a list's own text is read back -/
theorem parse_back {d : Nat} {b : Bool} {rs : List RS} (h : ∀ r ∈ rs, Drawn r) (hl : rs.length ≤ 6) (c : Cell) : callR b (C (d + 8) "parse_selectors") [.d (.str (lT rs))] [c] = .ok (.d (listD rs)) [c] := by
  cases rs with
  | nil =>
    have e : lT [] = "" := by decide +kernel
    rw [e]
    refine (call_rt (fn := f_parse_selectors) (d := d + 7) (x := .d (listD [])) (M' := [c]) rfl ?_).trans (by rw [fin_d]; rfl)
    have c1 : evT g (C (d + 7)) (.not (.tt (.isi "str" (.var 0)))) (startR f_parse_selectors.N.length [.d (.str "")]) [c] = .ok false [c] := by
      simp -implicitDefEqProofs only [f_parse_selectors, evS, evE, evL, evT, evI, evC, evP, fSeq, fSkip, fIfS, fRet, fRetN, fAsg, fAug2, fExp, fFor, fVar, fCon, fBin, fBl, fCons, fSCons, fNil, fApp, fCall, fTup, fLst, fCls, fIt, fNotT, fAndT, fOrT, fCmpT, fCh, fTru, fIf, fMeth, fSl, fPart, fNoPart, fRng, fZip, fRev, fIsi, isiG, tyName, fGlb, fRaise, fTry, fTryAs, fIsx, fNeg, fAndV, fOrV, Bi.g, Me.g, asgT_nm, asgT_tup, asgL_nil, asgL_cons, itemsS, startR, Res.bind_ok, Res.bind_exc, Res.bind_bad, Res.then_ok, Res.then_exc, Res.then_bad, SR.seq_nx, SR.seq_rt, SR.seq_bk, SR.seq_ct, SR.seq_exc, SR.seq_bad, ofO_some, ofO_none, List.map_cons, List.map_nil, List.length_cons, List.length_nil, List.cons_append, List.nil_append, List.replicate, List.getElem?_cons_zero, List.getElem?_cons_succ, List.set_cons_zero, List.set_cons_succ, Nat.reduceAdd, Nat.reduceSub, Option.map_some, Option.map_none, Option.bind_some, Option.bind_none, reduceIte, if_true, if_false, Bool.not_true, Bool.not_false, Bool.false_eq_true, decide_true, decide_false, if_pos, st_get, st_set, st_take, st_len, ty1, truB]
    have c2 : evT g (C (d + 7)) (.cmp .eq (.var 0) (.con (.str ""))) (startR f_parse_selectors.N.length [.d (.str "")]) [c] = .ok true [c] := cmp_of (var_of rfl) con_of (by rw [str_eq]; rfl)
    show evS g 100000 (C (d + 7)) b_parse_selectors _ _ = _
    rw [b_parse_selectors, seq_nx ((if_f c1).trans nil_nx), seq_rt ((if_t c2).trans (ret_of (tup_of (as := []) (by rw [evL]; rfl) tup0)))]
    rfl
  | cons r0 rt =>
    have hsm : ∀ r ∈ r0 :: rt, r.sm := fun r hr => (h r hr).sm
    have hlen := lT_len hsm hl
    have k2 : (", " : Str).length = 2 := by decide +kernel
    have hne : (lT (r0 :: rt) == "") = false := by
      rw [beq_eq_false_iff_ne]
      intro e
      have h1 := congrArg cs e
      unfold lT at h1
      rw [cs_join, cs_emp, cs_cm, List.map_cons, List.map_cons, joinL_cons] at h1
      have h2 : cs (sT r0) = [] := (List.append_eq_nil_iff.mp h1).1
      obtain ⟨Q, ls, rfl, hQ, hl', hn, h5⟩ := (h r0 List.mem_cons_self).sh
      cases Q with
      | nil => simp at hn
      | cons p Q' =>
        rw [cs_sT] at h2
        simp only [sW, rsOf, List.map_cons, List.flatten_cons, pp_t (hQ p List.mem_cons_self)] at h2
        have h3 : cs (ptxt p) = [] := (List.append_eq_nil_iff.mp h2).1
        have := (fine_of (hQ p List.mem_cons_self)).2.2.1
        rw [← cs_len, h3] at this
        simp at this
    have hsplit : Txt.split (lT (r0 :: rt)) ", " = (r0 :: rt).map sT := split_join (c := 44) (t := [32]) cs_cm (by decide) (by simp) fun w hw => by
      obtain ⟨r, hr, rfl⟩ := List.mem_map.mp hw
      exact sT_cfree (h r hr)
    have hsp := split_ev (C' := C (d + 7)) (a := .var 0) (x := lT (r0 :: rt)) (sep := ", ") (ρ := startR f_parse_selectors.N.length [.d (.str (lT (r0 :: rt)))]) (M := [c]) (var_of rfl) (by omega) (by rw [k2]; rfl)
    rw [hsplit] at hsp
    have hit : evI g (C (d + 7)) (.it (.x (.sm .split) (.var 0) (.con (.str ", ")) .nil .nil .nil)) (startR f_parse_selectors.N.length [.d (.str (lT (r0 :: rt)))]) [c] = .ok (((r0 :: rt).map sT).map .str) [c] := by
      rw [evI]
      unfold fIt
      rw [hsp, Res.bind_ok]
      rfl
    obtain ⟨F, hF⟩ : ∃ F : D → D, ∀ r ∈ r0 :: rt, F (.str (sT r)) = r.d := ⟨fun x => match callR false (C 3 "_read_selector") [.d x] [c, c] with | .ok (.d y) _ => y | _ => .none, fun r hr => by
      show (match callR false (C 3 "_read_selector") [.d (.str (sT r))] [c, c] with | .ok (.d y) _ => y | _ => PyData.none) = _
      rw [read_back (d := 0) (h r hr)]⟩
    have em : ((r0 :: rt).map RS.d) = (((r0 :: rt).map sT).map PyData.str).map F := by
      rw [List.map_map, List.map_map]
      exact List.map_congr_left fun r hr => (hF r hr).symm
    have ev : evE g (C (d + 7)) (.x (.lcx false (.nm 2) [2]) (.it (.x (.sm .split) (.var 0) (.con (.str ", ")) .nil .nil .nil)) .nil (.call "_read_selector" false (.cons (.var 2) .nil)) .nil .nil) (startR f_parse_selectors.N.length [.d (.str (lT (r0 :: rt)))]) [c] = .ok (.d (.list ((r0 :: rt).map RS.d))) [c] := by
      rw [evE]
      show fLcx false [2] (.nm 2) _ (evC g (C (d + 7)) .nil) _ _ [c] = _
      rw [show evC g (C (d + 7)) .nil = fYes by rw [evC]]
      have hc := compF_map (n := 1) (own := [2]) (t := .nm 2) (tt := fYes) (te := evE g (C (d + 7)) (.call "_read_selector" false (.cons (.var 2) .nil))) (ρ := startR f_parse_selectors.N.length [.d (.str (lT (r0 :: rt)))]) (M := [c]) rfl F (fun _ => true) (((r0 :: rt).map sT).map .str) 0 [] (by simp) (fun x hx => ⟨_, asgT_nm, fun c' => ⟨rfl, fun _ => by
        obtain ⟨s, hs, rfl⟩ := List.mem_map.mp hx
        obtain ⟨r, hr, rfl⟩ := List.mem_map.mp hs
        rw [hF r hr]
        exact call1 (var_of (x := .d (.str (sT r))) rfl) (read_back (d := d + 4) (h r hr) c c')⟩⟩)
      unfold fLcx
      rw [hit, Res.bind_ok]
      have hc' : compF [c].length [2] (.nm 2) fYes (evE g (C (d + 7)) (.call "_read_selector" false (.cons (.var 2) .nil))) 0 (((r0 :: rt).map sT).map .str) (startR f_parse_selectors.N.length [.d (.str (lT (r0 :: rt)))]) ([c] ++ [.lst []]) = _ := hc
      rw [hc']
      rw [em]
      have hfl : (((r0 :: rt).map sT).map PyData.str).filter (fun _ => true) = ((r0 :: rt).map sT).map PyData.str := List.filter_eq_self.mpr fun _ _ => rfl
      simp only [hfl, List.nil_append]
      rfl
    have := parse_tail (b := b) (M := [c]) (d := d) hne (fun r hr => (h r hr).le) ev
    rw [if_pos ⟨list_b h hl, rfl⟩] at this
    exact this
end TL.K03

set_option maxHeartbeats 1000000
namespace TL.K03
open PySem PySem.Spec
open PyProof.Rows L2 TL
/-! ### the law -/
abbrev LW (s : Option Vl) (ch sel tx k dr at_ cr rd : Option Vl) : Rho := [s, some (.loc 0), ch, sel, tx, k, dr, at_, cr, rd, none]
theorem cut_a {z : Str} {a : Nat} : (L2.cutS z none (some (a : Int))).length ≤ a := by
  rw [← cs_len]
  unfold L2.cutS
  rw [HT.sIx_nat]
  simp only [cs, List.toList_toArray, HT.sIx_none, List.length_take]
  omega
theorem cut_b {z : Str} {a : Nat} : (L2.cutS z (some (a : Int)) none).length ≤ z.length - a := by
  rw [← cs_len]
  unfold L2.cutS
  rw [HT.sIx_nat]
  simp only [cs, List.toList_toArray, HT.sIx_none, List.length_take, List.length_drop]
  rw [show z.cps.toList.length = z.length from Array.length_toList]
  omega
theorem sl_s {z : Str} {lo hi : Option Int} {M : Store} (h : z.length ≤ 10000) : sl2 false (.d (.str z)) lo hi M = some (.d (.str (L2.cutS z lo hi)), M) := by
  have : z.length ≤ sizeLine := by have := sizeLine_eq; omega
  simp only [sl2, this, if_true]
theorem sl_of {C' : CallF} {a lo hi : E} {x z : Vl} {l u : Option Int} {ρ : Rho} {M : Store} (h1 : evE g C' a ρ M = .ok x M) (h2 : evP g C' lo ρ M = .ok l M) (h3 : evP g C' hi ρ M = .ok u M) (h : sl2 false x l u M = some (z, M)) : evE g C' (.sl false a lo hi) ρ M = .ok z M := by
  rw [evE]
  unfold fSl
  rw [h1, Res.bind_ok, h2, Res.bind_ok, h3, Res.bind_ok, h]
theorem p_nil {C' : CallF} {ρ : Rho} {M : Store} : evP g C' .nil ρ M = .ok none M := by rw [evP]; rfl
theorem p_pt {C' : CallF} {a : E} {i : Int} {ρ : Rho} {M : Store} (h : evE g C' a ρ M = .ok (.d (.int i)) M) : evP g C' (.pt a) ρ M = .ok (some i) M := by
  rw [evP]
  unfold fPart
  rw [h, Res.bind_ok]
theorem chars_len : (cs ("ab.!:*>+~, 0127Ax" : Str)).length = 17 := by decide +kernel
theorem char_ix {i : Nat} {M : Store} (hi : i < 17) : ∃ c : Nat, ix2 (.d (.str "ab.!:*>+~, 0127Ax")) (.d (.int (i : Int))) M = some (.d (.str ⟨#[c]⟩)) := by
  refine ⟨(cs ("ab.!:*>+~, 0127Ax" : Str)).getD i 0, ?_⟩
  have hl := chars_len
  have hz : ("ab.!:*>+~, 0127Ax" : Str).length ≤ sizeLine := by
    rw [← cs_len, hl]
    have := sizeLine_eq
    omega
  have ha : L2.atI (cs ("ab.!:*>+~, 0127Ax" : Str)) (i : Int) = some ((cs ("ab.!:*>+~, 0127Ax" : Str)).getD i 0) := by
    have h2 : (i : Int) < 17 := by omega
    simp [L2.atI, ixN, hl, h2, hi]
  simp only [ix2, sqn, hz, if_true]
  rw [show ("ab.!:*>+~, 0127Ax" : Str).cps.toList = cs ("ab.!:*>+~, 0127Ax" : Str) from rfl, ha]
  rfl
theorem one_len {c : Nat} : (⟨#[c]⟩ : Str).length = 1 := rfl
theorem seq_two {C' : CallF} {a : S} {ρ ρ' : Rho} {M M' : Store} (h : evS g 100000 C' a ρ M = .nx ρ' M') : evS g 100000 C' (.cons a .nil) ρ M = .nx ρ' M' := by rw [seq_nx h, nil_nx]
/-- one change of the text -/
theorem change {s sel dr at_ cr rd : Option Vl} {ch k : Int} {t : Str} {ds : List Int} (hk : 0 ≤ k ∧ k ≤ 5) (ht : t.length ≤ 9000) :
    ∃ t' ds' dr' at' cr', evS g 100000 (C 13) w1_law (LW s (some (.d (.int ch))) sel (some (.d (.str t))) (some (.d (.int k))) dr at_ cr rd) [dD ds] = .nx (LW s (some (.d (.int ch))) sel (some (.d (.str t'))) (some (.d (.int k))) dr' at' cr' rd) [dD ds'] ∧ t'.length ≤ t.length + 1 := by
  obtain ⟨n1, d1, e1, _⟩ := law_next_ok (d := 12) (ds := ds) (R := [])
  have hz : t.length ≤ sizeLine := by have := sizeLine_eq; omega
  let dv : Int := n1 + ch * (k + 1)
  obtain ⟨a, ha, ha2⟩ : ∃ a : Nat, dv / 3 % ((t.length : Int) + 1) = (a : Int) ∧ a ≤ t.length := ⟨(dv / 3 % ((t.length : Int) + 1)).toNat, by
    have := Int.emod_nonneg (dv / 3) (show ((t.length : Int) + 1) ≠ 0 by omega)
    omega, by
    have h1 := Int.emod_nonneg (dv / 3) (show ((t.length : Int) + 1) ≠ 0 by omega)
    have h2 := Int.emod_lt_of_pos (dv / 3) (show (0 : Int) < (t.length : Int) + 1 by omega)
    omega⟩
  obtain ⟨i, hi, hi2⟩ : ∃ i : Nat, dv / 7 % 17 = (i : Int) ∧ i < 17 := ⟨(dv / 7 % 17).toNat, by omega, by omega⟩
  obtain ⟨c, hc⟩ := char_ix (i := i) (M := [dD d1]) hi2
  let dr' : Option Vl := some (.d (.int dv))
  let at' : Option Vl := some (.d (.int a))
  let cr' : Option Vl := some (.d (.str ⟨#[c]⟩))
  have s1 : evS g 100000 (C 13) (.asg (.nm 6) (.bin .add (.call "_law_next" false (.cons (.var 1) .nil)) (.bin .mul (.var 2) (.bin .add (.var 5) (.con (.int 1)))))) (LW s (some (.d (.int ch))) sel (some (.d (.str t))) (some (.d (.int k))) dr at_ cr rd) [dD ds] = .nx (LW s (some (.d (.int ch))) sel (some (.d (.str t))) (some (.d (.int k))) dr' at_ cr rd) [dD d1] := by
    simp -implicitDefEqProofs only [LW, evS, evE, evL, evT, evI, evC, evP, fSeq, fSkip, fIfS, fRet, fRetN, fAsg, fAug2, fExp, fFor, fVar, fCon, fBin, fBl, fCons, fSCons, fNil, fApp, fCall, fTup, fLst, fCls, fIt, fNotT, fAndT, fOrT, fCmpT, fCh, fTru, fIf, fMeth, fSl, fPart, fNoPart, fRng, fZip, fRev, fIsi, isiG, tyName, fGlb, fRaise, fTry, fTryAs, fIsx, fNeg, fAndV, fOrV, Bi.g, Me.g, asgT_nm, asgT_tup, asgL_nil, asgL_cons, itemsS, startR, Res.bind_ok, Res.bind_exc, Res.bind_bad, Res.then_ok, Res.then_exc, Res.then_bad, SR.seq_nx, SR.seq_rt, SR.seq_bk, SR.seq_ct, SR.seq_exc, SR.seq_bad, ofO_some, ofO_none, List.map_cons, List.map_nil, List.length_cons, List.length_nil, List.cons_append, List.nil_append, List.replicate, List.getElem?_cons_zero, List.getElem?_cons_succ, List.set_cons_zero, List.set_cons_succ, Nat.reduceAdd, Nat.reduceSub, Option.map_some, Option.map_none, Option.bind_some, Option.bind_none, reduceIte, if_true, if_false, Bool.not_true, Bool.not_false, Bool.false_eq_true, decide_true, decide_false, if_pos, st_get, st_set, st_take, st_len, e1, add_int, mul_int (a := ch) (j := k + 1) (M := [dD d1]) (by omega)]
    rfl
  have s2 : evS g 100000 (C 13) (.asg (.nm 7) (.bin .mod (.bin .fdiv (.var 6) (.con (.int 3))) (.bin .add (.bi .len (.cons (.var 4) .nil)) (.con (.int 1))))) (LW s (some (.d (.int ch))) sel (some (.d (.str t))) (some (.d (.int k))) dr' at_ cr rd) [dD d1] = .nx (LW s (some (.d (.int ch))) sel (some (.d (.str t))) (some (.d (.int k))) dr' at' cr rd) [dD d1] := by
    refine asg_of (bin_of (bin_of (var_of (i := 6) (x := .d (.int dv)) rfl) con_of (fdiv_int (show (0 : Int) < 3 ∧ (3 : Int) < 1073741824 by decide))) (bin_of (bi1 (f := .len) (var_of (i := 4) rfl) (len_s hz)) con_of add_int) ?_)
    rw [mod_int (by omega), ha]
  have s3 : evS g 100000 (C 13) (.asg (.nm 8) (.ix (.con (.str "ab.!:*>+~, 0127Ax")) (.bin .mod (.bin .fdiv (.var 6) (.con (.int 7))) (.con (.int 17))))) (LW s (some (.d (.int ch))) sel (some (.d (.str t))) (some (.d (.int k))) dr' at' cr rd) [dD d1] = .nx (LW s (some (.d (.int ch))) sel (some (.d (.str t))) (some (.d (.int k))) dr' at' cr' rd) [dD d1] := by
    refine asg_of (ix_by con_of (bin_of (bin_of (var_of (i := 6) (x := .d (.int dv)) rfl) con_of (fdiv_int (show (0 : Int) < 7 ∧ (7 : Int) < 1073741824 by decide))) con_of (mod_int (show (0 : Int) < 17 by decide))) ?_)
    rw [hi]
    exact hc
  -- the pieces
  have R := LW s (some (.d (.int ch))) sel (some (.d (.str t))) (some (.d (.int k))) dr' at' cr' rd
  have pa : evE g (C 13) (.sl false (.var 4) .nil (.pt (.var 7))) (LW s (some (.d (.int ch))) sel (some (.d (.str t))) (some (.d (.int k))) dr' at' cr' rd) [dD d1] = .ok (.d (.str (L2.cutS t none (some (a : Int))))) [dD d1] := sl_of (var_of rfl) p_nil (p_pt (var_of rfl)) (sl_s (by omega))
  have pb : evE g (C 13) (.sl false (.var 4) (.pt (.var 7)) .nil) (LW s (some (.d (.int ch))) sel (some (.d (.str t))) (some (.d (.int k))) dr' at' cr' rd) [dD d1] = .ok (.d (.str (L2.cutS t (some (a : Int)) none))) [dD d1] := sl_of (var_of rfl) (p_pt (var_of rfl)) p_nil (sl_s (by omega))
  have pc : evE g (C 13) (.sl false (.var 4) (.pt (.bin .add (.var 7) (.con (.int 1)))) .nil) (LW s (some (.d (.int ch))) sel (some (.d (.str t))) (some (.d (.int k))) dr' at' cr' rd) [dD d1] = .ok (.d (.str (L2.cutS t (some ((a + 1 : Nat) : Int)) none))) [dD d1] := sl_of (var_of rfl) (p_pt (bin_of (var_of rfl) con_of add_int)) p_nil (sl_s (by omega))
  have ch' : evE g (C 13) (.var 8) (LW s (some (.d (.int ch))) sel (some (.d (.str t))) (some (.d (.int k))) dr' at' cr' rd) [dD d1] = .ok (.d (.str ⟨#[c]⟩)) [dD d1] := var_of rfl
  have la := cut_a (z := t) (a := a)
  have lb := cut_b (z := t) (a := a)
  have lc := cut_b (z := t) (a := a + 1)
  have cond : ∀ j : Int, evT g (C 13) (.cmp .eq (.bin .mod (.var 6) (.con (.int 3))) (.con (.int j))) (LW s (some (.d (.int ch))) sel (some (.d (.str t))) (some (.d (.int k))) dr' at' cr' rd) [dD d1] = .ok (decide (dv % 3 = j)) [dD d1] := fun j =>
    cmp_of (bin_of (var_of (i := 6) (x := .d (.int dv)) rfl) con_of (mod_int (show (0 : Int) < 3 by decide))) con_of eq_int
  by_cases h0 : dv % 3 = 0
  · have v := bin_of (bin_of pa ch' (add_s (by rw [one_len]; omega))) pb (add_s (by rw [len_app, one_len]; omega))
    refine ⟨L2.cutS t none (some (a : Int)) ++ ⟨#[c]⟩ ++ L2.cutS t (some (a : Int)) none, d1, dr', at', cr', ?_, ?_⟩
    · rw [w1_law, seq_nx s1, seq_nx s2, seq_nx s3, seq_two ((if_t (by rw [cond 0, decide_eq_true h0])).trans (seq_two (asg_of (i := 4) v)))]
      rfl
    · rw [len_app, len_app, one_len]; omega
  · by_cases h1 : dv % 3 = 1
    · have v := bin_of pa pc (add_s (by omega))
      refine ⟨L2.cutS t none (some (a : Int)) ++ L2.cutS t (some ((a + 1 : Nat) : Int)) none, d1, dr', at', cr', ?_, ?_⟩
      · rw [w1_law, seq_nx s1, seq_nx s2, seq_nx s3, seq_two ((if_f (by rw [cond 0, decide_eq_false h0])).trans (seq_two ((if_t (by rw [cond 1, decide_eq_true h1])).trans (seq_two (asg_of (i := 4) v)))))]
        rfl
      · rw [len_app]; omega
    · have v := bin_of (bin_of pa ch' (add_s (by rw [one_len]; omega))) pc (add_s (by rw [len_app, one_len]; omega))
      refine ⟨L2.cutS t none (some (a : Int)) ++ ⟨#[c]⟩ ++ L2.cutS t (some ((a + 1 : Nat) : Int)) none, d1, dr', at', cr', ?_, ?_⟩
      · rw [w1_law, seq_nx s1, seq_nx s2, seq_nx s3, seq_two ((if_f (by rw [cond 0, decide_eq_false h0])).trans (seq_two ((if_f (by rw [cond 1, decide_eq_false h1])).trans (seq_two (asg_of (i := 4) v)))))]
        rfl
      · rw [len_app, len_app, one_len]; omega
theorem changes {s sel rd : Option Vl} {ch : Int} : ∀ (n j : Nat) (t : Str) (ds : List Int) (k dr at_ cr : Option Vl), j + n ≤ 5 → t.length + n ≤ 9000 →
    ∃ t' ds' k' dr' at' cr', forL (.nm 5) (evS g 100000 (C 13) w1_law) (rngD (j : Int) n) (LW s (some (.d (.int ch))) sel (some (.d (.str t))) k dr at_ cr rd) [dD ds] = .nx (LW s (some (.d (.int ch))) sel (some (.d (.str t'))) k' dr' at' cr' rd) [dD ds'] ∧ t'.length ≤ t.length + n
  | 0, j, t, ds, k, dr, at_, cr, _, _ => ⟨t, ds, k, dr, at_, cr, by simp [rngD, forL], by omega⟩
  | n + 1, j, t, ds, k, dr, at_, cr, h1, h2 => by
    obtain ⟨t1, d1, a1, a2, a3, e1, l1⟩ := change (s := s) (sel := sel) (dr := dr) (at_ := at_) (cr := cr) (rd := rd) (ch := ch) (k := (j : Int)) (t := t) (ds := ds) ⟨by omega, by omega⟩ (by omega)
    obtain ⟨t2, d2, b0, b1, b2, b3, e2, l2⟩ := changes (s := s) (sel := sel) (rd := rd) (ch := ch) n (j + 1) t1 d1 (some (.d (.int j))) a1 a2 a3 (by omega) (by omega)
    refine ⟨t2, d2, b0, b1, b2, b3, ?_, by omega⟩
    rw [rngD_cons, forL_nx (ρ1 := LW s (some (.d (.int ch))) sel (some (.d (.str t))) (some (.d (.int j))) dr at_ cr rd) (by rw [asgT_nm]; rfl) e1]
    exact e2
def Pln (n : Nat) (x : D) : Prop := PySem.W.alike x x = true ∧ x.depth ≤ n
theorem pln_all {n : Nat} : ∀ xs : List D, (∀ x ∈ xs, Pln n x) → PySem.W.alikeAll xs xs = true ∧ PyData.depthAll xs ≤ n
  | [], _ => ⟨by simp [PySem.W.alikeAll], by simp [PyData.depthAll]⟩
  | x :: xs, h => by
    obtain ⟨a1, a2⟩ := h x List.mem_cons_self
    obtain ⟨b1, b2⟩ := pln_all xs fun y hy => h y (List.mem_cons_of_mem _ hy)
    exact ⟨by simp [PySem.W.alikeAll, a1, b1], by simp only [PyData.depthAll]; omega⟩
theorem pln_t {n : Nat} {xs : List D} (h : ∀ x ∈ xs, Pln n x) : Pln (n + 1) (.tuple xs) := by
  obtain ⟨a, b⟩ := pln_all xs h
  exact ⟨by simp [PySem.W.alike, a], by simp only [PyData.depth]; omega⟩
theorem Pln.mono {n m : Nat} {x : D} (h : Pln n x) (hm : n ≤ m) : Pln m x := ⟨h.1, Nat.le_trans h.2 hm⟩
theorem pln_s {s : Str} : Pln 0 (.str s) := ⟨by simp [PySem.W.alike], by simp [PyData.depth]⟩
theorem pln_i {i : Int} : Pln 0 (.int i) := ⟨by simp [PySem.W.alike], by simp [PyData.depth]⟩
theorem pln_n : Pln 0 .none := ⟨by simp [PySem.W.alike], by simp [PyData.depth]⟩
theorem pln_pp (q : PP) : Pln 3 q.d := by
  refine pln_t fun x hx => ?_
  simp only [List.mem_cons, List.not_mem_nil, or_false] at hx
  rcases hx with rfl | rfl | rfl | rfl | rfl
  · cases q.k with
    | none => exact pln_n.mono (by decide)
    | some s => exact pln_s.mono (by decide)
  · refine (pln_t (n := 0) fun x hx => ?_).mono (by decide)
    obtain ⟨s, _, rfl⟩ := List.mem_map.mp hx
    exact pln_s
  · refine pln_t (n := 1) fun x hx => ?_
    obtain ⟨t, _, rfl⟩ := List.mem_map.mp hx
    refine pln_t (n := 0) fun x hx => ?_
    simp only [List.mem_cons, List.not_mem_nil, or_false] at hx
    rcases hx with rfl | rfl <;> exact pln_s
  · exact pln_i.mono (by decide)
  · exact pln_i.mono (by decide)
theorem pln_rs {r : RS} (h : r.le) : Pln 5 r.d := by
  refine pln_t fun x hx => ?_
  simp only [List.mem_cons, List.not_mem_nil, or_false] at hx
  rcases hx with rfl | rfl
  · refine pln_t fun x hx => ?_
    obtain ⟨q, _, rfl⟩ := List.mem_map.mp hx
    exact pln_pp q
  · refine (pln_t (n := 0) fun x hx => ?_).mono (by decide)
    have := h.ls x hx
    simp only [Ls, List.mem_cons, List.not_mem_nil, or_false] at this
    rcases this with rfl | rfl | rfl | rfl <;> exact pln_s
theorem pln_list {rs : List RS} (h : ∀ r ∈ rs, r.le) : Pln 6 (listD rs) := pln_t fun x hx => by
  obtain ⟨r, hr, rfl⟩ := List.mem_map.mp hx
  exact pln_rs (h r hr)
theorem eq_same {x : D} {M : Store} (h : PyData.eqv x x = true ∧ dOk x x = true) : cmp2 .eq (.d x) (.d x) M = some true := by
  simp [cmp2, dat, cmpD, h.1, h.2]
theorem eq_pln {n : Nat} {x : D} (h : Pln n x) (hn : n ≤ 63) : PyData.eqv x x = true ∧ dOk x x = true := eq_of_alike ⟨h.1, Nat.le_trans h.2 hn⟩
theorem drawn_l {xs : List D} (h : ∀ x ∈ xs, SelD 5 x) : ∃ rs : List RS, (∀ r ∈ rs, Drawn r) ∧ xs = rs.map RS.d := by
  induction xs with
  | nil => exact ⟨[], by simp, rfl⟩
  | cons x xs ih =>
    obtain ⟨r, hr, rfl⟩ := drawn_of (h x List.mem_cons_self)
    obtain ⟨rs, h1, rfl⟩ := ih fun y hy => h y (List.mem_cons_of_mem _ hy)
    exact ⟨r :: rs, fun z hz => by
      rcases List.mem_cons.mp hz with rfl | hz
      · exact hr
      · exact h1 z hz, rfl⟩
theorem andE {C' : CallF} {a b : E} {y : Bool} {ρ : Rho} {M : Store} (h1 : evE g C' a ρ M = .ok (.d (.bool true)) M) (h2 : evE g C' b ρ M = .ok (.d (.bool y)) M) : evE g C' (.and a b) ρ M = .ok (.d (.bool y)) M := by
  rw [evE]
  unfold fAndV
  rw [h1, Res.bind_ok, truB, ofO_some, Res.bind_ok, if_pos rfl, h2]
theorem cmpE_of {C' : CallF} {o : Cm} {X Y : E} {x y : Vl} {z : Bool} {ρ : Rho} {M : Store} (h1 : evE g C' X ρ M = .ok x M) (h2 : evE g C' Y ρ M = .ok y M) (h : cmp2 o x y M = some z) : evE g C' (.cmp o X Y) ρ M = .ok (.d (.bool z)) M := by
  have := cmp_of h1 h2 h
  rw [evT] at this
  rw [evE]
  unfold fBl
  rw [this]
  rfl
theorem law_body {ns : List Int} (h : ns.length ≤ 63) : ∃ M', evS g 100000 (C 13) b_law (startR f_law.N.length [.ro (ns.map .int)]) [] = .rt (.d (.bool true)) M' := by
  obtain ⟨ds0, _, e1⟩ := law_draws_ok (d := 12) h
  obtain ⟨ch, ds1, e2, _⟩ := law_next_ok (d := 12) (ds := ds0) (R := [])
  obtain ⟨n2, ds2, e3, _⟩ := law_next_ok (d := 12) (ds := ds1) (R := [])
  obtain ⟨i, hi, hi2⟩ : ∃ i : Nat, n2 % 7 = (i : Int) ∧ i ≤ 6 := ⟨(n2 % 7).toNat, by omega, by omega⟩
  let s : Option Vl := some (.ro (ns.map .int))
  have s1 : evS g 100000 (C 13) (.asg (.nm 1) (.call "_law_draws" true (.cons (.var 0) (.cons (.con (.int 0)) (.cons (.con (.int 90)) .nil))))) (startR f_law.N.length [.ro (ns.map .int)]) [] = .nx (LW s none none none none none none none none) [dD ds0] := by
    simp -implicitDefEqProofs only [f_law, evS, evE, evL, evT, evI, evC, evP, fSeq, fSkip, fIfS, fRet, fRetN, fAsg, fAug2, fExp, fFor, fVar, fCon, fBin, fBl, fCons, fSCons, fNil, fApp, fCall, fTup, fLst, fCls, fIt, fNotT, fAndT, fOrT, fCmpT, fCh, fTru, fIf, fMeth, fSl, fPart, fNoPart, fRng, fZip, fRev, fIsi, isiG, tyName, fGlb, fRaise, fTry, fTryAs, fIsx, fNeg, fAndV, fOrV, Bi.g, Me.g, asgT_nm, asgT_tup, asgL_nil, asgL_cons, itemsS, startR, Res.bind_ok, Res.bind_exc, Res.bind_bad, Res.then_ok, Res.then_exc, Res.then_bad, SR.seq_nx, SR.seq_rt, SR.seq_bk, SR.seq_ct, SR.seq_exc, SR.seq_bad, ofO_some, ofO_none, List.map_cons, List.map_nil, List.length_cons, List.length_nil, List.cons_append, List.nil_append, List.replicate, List.getElem?_cons_zero, List.getElem?_cons_succ, List.set_cons_zero, List.set_cons_succ, Nat.reduceAdd, Nat.reduceSub, Option.map_some, Option.map_none, Option.bind_some, Option.bind_none, reduceIte, if_true, if_false, Bool.not_true, Bool.not_false, Bool.false_eq_true, decide_true, decide_false, if_pos, st_get, st_set, st_take, st_len, e1]
    rfl
  have s2 : evS g 100000 (C 13) (.asg (.nm 2) (.call "_law_next" false (.cons (.var 1) .nil))) (LW s none none none none none none none none) [dD ds0] = .nx (LW s (some (.d (.int ch))) none none none none none none none) [dD ds1] := asg_of (call1 (var_of (x := .loc 0) rfl) e2)
  have hx : evE g (C 13) (.bin .mod (.call "_law_next" false (.cons (.var 1) .nil)) (.con (.int 7))) (LW s (some (.d (.int ch))) none none none none none none none) [dD ds1] = .ok (.d (.int i)) [dD ds2] := by
    simp -implicitDefEqProofs only [LW, evS, evE, evL, evT, evI, evC, evP, fSeq, fSkip, fIfS, fRet, fRetN, fAsg, fAug2, fExp, fFor, fVar, fCon, fBin, fBl, fCons, fSCons, fNil, fApp, fCall, fTup, fLst, fCls, fIt, fNotT, fAndT, fOrT, fCmpT, fCh, fTru, fIf, fMeth, fSl, fPart, fNoPart, fRng, fZip, fRev, fIsi, isiG, tyName, fGlb, fRaise, fTry, fTryAs, fIsx, fNeg, fAndV, fOrV, Bi.g, Me.g, asgT_nm, asgT_tup, asgL_nil, asgL_cons, itemsS, startR, Res.bind_ok, Res.bind_exc, Res.bind_bad, Res.then_ok, Res.then_exc, Res.then_bad, SR.seq_nx, SR.seq_rt, SR.seq_bk, SR.seq_ct, SR.seq_exc, SR.seq_bad, ofO_some, ofO_none, List.map_cons, List.map_nil, List.length_cons, List.length_nil, List.cons_append, List.nil_append, List.replicate, List.getElem?_cons_zero, List.getElem?_cons_succ, List.set_cons_zero, List.set_cons_succ, Nat.reduceAdd, Nat.reduceSub, Option.map_some, Option.map_none, Option.bind_some, Option.bind_none, reduceIte, if_true, if_false, Bool.not_true, Bool.not_false, Bool.false_eq_true, decide_true, decide_false, if_pos, st_get, st_set, st_take, st_len, e3, mod_int (show (0 : Int) < 7 by decide), hi]
  obtain ⟨xs, ds3, e4, lx, hX⟩ := lc_draw (own := [5]) (t := .nm 5) (fi := evI g (C 13) (.rng false (.cons (.bin .mod (.call "_law_next" false (.cons (.var 1) .nil)) (.con (.int 7))) .nil))) (te := evE g (C 13) (.call "_law_selector" false (.cons (.var 1) (.cons (.con (.int 5)) .nil)))) (ρ := LW s (some (.d (.int ch))) none none none none none none none) (R := []) (ds := ds1) (ds0 := ds2) (SelD 5)
    (rng_of' hx (by omega)) (fun x _ => ⟨_, asgT_nm, fun ds' c => by
      obtain ⟨y, d5, e5, P5⟩ := law_selector_ok (d := 11) (R := [c]) (ds := ds') (m := 5) (by decide) (by decide)
      exact ⟨y, d5, call2 (var_of (x := .loc 0) rfl) con_of e5, P5⟩⟩)
  rw [rngD_length] at lx
  obtain ⟨rs, hrs, rfl⟩ := drawn_l hX
  rw [List.length_map] at lx
  have hl6 : rs.length ≤ 6 := by omega
  have hsm : ∀ r ∈ rs, r.sm := fun r hr => (hrs r hr).sm
  let sel : Option Vl := some (.d (listD rs))
  have s3 : evS g 100000 (C 13) (.asg (.nm 3) (.bi .tuple (.cons (.lc false (.call "_law_selector" false (.cons (.var 1) (.cons (.con (.int 5)) .nil))) (.nm 5) (.rng false (.cons (.bin .mod (.call "_law_next" false (.cons (.var 1) .nil)) (.con (.int 7))) .nil)) .nil [5]) .nil))) (LW s (some (.d (.int ch))) none none none none none none none) [dD ds1] = .nx (LW s (some (.d (.int ch))) sel none none none none none none) [dD ds3] := by
    have l : evE g (C 13) (.lc false (.call "_law_selector" false (.cons (.var 1) (.cons (.con (.int 5)) .nil))) (.nm 5) (.rng false (.cons (.bin .mod (.call "_law_next" false (.cons (.var 1) .nil)) (.con (.int 7))) .nil)) .nil [5]) (LW s (some (.d (.int ch))) none none none none none none none) [dD ds1] = .ok (.d (.list (rs.map RS.d))) [dD ds3] := by
      rw [evE, show evC g (C 13) .nil = fYes by rw [evC]]
      exact e4
    exact asg_of (bi1 (f := .tuple) l tuple_l')
  -- the text
  have hlt : evE g (C 13) (.lc false (.call "_law_text" false (.cons (.var 10) .nil)) (.nm 10) (.it (.var 3)) .nil [10]) (LW s (some (.d (.int ch))) sel none none none none none none) [dD ds3] = .ok (.d (.list ((rs.map sT).map .str))) [dD ds3] := by
    rw [evE, show evC g (C 13) .nil = fYes by rw [evC]]
    obtain ⟨F, hF⟩ : ∃ F : D → D, ∀ r ∈ rs, F r.d = .str (sT r) := ⟨fun x => match callR false (C 3 "_selector_text") [.d x] [] with | .ok (.d y) _ => y | _ => .none, fun r hr => by
      show (match callR false (C 3 "_selector_text") [.d r.d] [] with | .ok (.d y) _ => y | _ => PyData.none) = _
      rw [selector_text_ok (d := 0) (hsm r hr)]⟩
    have e : (rs.map sT).map PyData.str = (rs.map RS.d).map F := by
      rw [List.map_map, List.map_map]
      exact List.map_congr_left fun r hr => (hF r hr).symm
    rw [e]
    refine lc_all _ (by rw [evI]; unfold fIt; rw [var_of (x := .d (.tuple (rs.map RS.d))) rfl]; rfl) fun x hx => ⟨_, asgT_nm, fun c => ?_⟩
    obtain ⟨r, hr, rfl⟩ := List.mem_map.mp hx
    rw [hF r hr]
    exact call1 (var_of (x := .d r.d) rfl) (law_text_ok (d := 11) (hrs r hr) (dD ds3) c)
  have l2 : (", " : Str).length = 2 := by decide +kernel
  have s4 : evS g 100000 (C 13) (.asg (.nm 4) (.x .join (.con (.str ", ")) (.lc false (.call "_law_text" false (.cons (.var 10) .nil)) (.nm 10) (.it (.var 3)) .nil [10]) .nil .nil .nil)) (LW s (some (.d (.int ch))) sel none none none none none none) [dD ds3] = .nx (LW s (some (.d (.int ch))) sel (some (.d (.str (lT rs)))) none none none none none) [dD ds3] := by
    refine asg_of (i := 4) (join_of (sep := ", ") (ws := rs.map sT) hlt (by simp) rfl ?_)
    have := sum_le (B := 1008) (ws := rs.map sT) fun w hw => by
      obtain ⟨r, hr, rfl⟩ := List.mem_map.mp hw
      exact sT_len (hsm r hr)
    rw [List.length_map] at this
    rw [l2, List.length_map]; omega
  have c5 : evT g (C 13) (.or (.cmp .ne (.call "selectors_text" false (.cons (.var 3) .nil)) (.var 4)) (.cmp .ne (.call "parse_selectors" false (.cons (.var 4) .nil)) (.var 3))) (LW s (some (.d (.int ch))) sel (some (.d (.str (lT rs)))) none none none none none) [dD ds3] = .ok false [dD ds3] :=
    or_ff (cmp_of (call1 (f := "selectors_text") (var_of (x := .d (listD rs)) rfl) (selectors_text_ok (d := 9) (b := false) hsm hl6)) (var_of (x := .d (.str (lT rs))) rfl) (by rw [str_ne, beq_self_eq_true]; rfl))
      (cmp_of (call1 (f := "parse_selectors") (var_of (x := .d (.str (lT rs))) rfl) (parse_back (d := 5) (b := false) hrs hl6 (dD ds3))) (var_of (x := .d (listD rs)) rfl) (ne_same (eq_pln (pln_list fun r hr => (hrs r hr).le) (by decide))))
  -- the changes
  obtain ⟨m, hm, hm2⟩ : ∃ m : Nat, 1 + ch % 2 = (m : Int) ∧ m ≤ 2 := ⟨(1 + ch % 2).toNat, by omega, by omega⟩
  have lTl := lT_len hsm hl6
  obtain ⟨t, ds4, k4, dr4, at4, cr4, e6, lt⟩ := changes (s := s) (sel := sel) (rd := none) (ch := ch) m 0 (lT rs) ds3 none none none none (by omega) (by omega)
  have s6 : evS g 100000 (C 13) (.forS (.nm 5) (.rng false (.cons (.bin .add (.con (.int 1)) (.bin .mod (.var 2) (.con (.int 2)))) .nil)) w1_law) (LW s (some (.d (.int ch))) sel (some (.d (.str (lT rs)))) none none none none none) [dD ds3] = .nx (LW s (some (.d (.int ch))) sel (some (.d (.str t))) k4 dr4 at4 cr4 none) [dD ds4] := by
    rw [evS_for]
    unfold fFor
    rw [rng_of' (n := m) (bin_of con_of (bin_of (var_of rfl) con_of (mod_int (show (0 : Int) < 2 by decide))) (by rw [add_int, hm])) (by omega)]
    exact e6
  have hpre : ∀ b, evS g 100000 (C 13) b_law (startR f_law.N.length [.ro (ns.map .int)]) [] = b → True := fun _ _ => trivial
  have go : evS g 100000 (C 13) b_law (startR f_law.N.length [.ro (ns.map .int)]) [] = evS g 100000 (C 13) (.cons (.try_ (.cons (.asg (.nm 9) (.call "parse_selectors" false (.cons (.var 4) .nil))) .nil) "BadSelector" (.cons (.ret (.cmp .ne (.var 4) (.con (.str "")))) .nil)) (.cons (.ret (.and (.cmp .eq (.call "check_list" false (.cons (.var 9) .nil)) (.var 9)) (.and (.cmp .eq (.call "selectors_text" false (.cons (.var 9) .nil)) (.var 4)) (.isi "tuple" (.var 9))))) .nil)) (LW s (some (.d (.int ch))) sel (some (.d (.str t))) k4 dr4 at4 cr4 none) [dD ds4] := by
    rw [b_law, seq_nx s1, seq_nx s2, seq_nx s3, seq_nx s4, seq_nx ((if_f c5).trans nil_nx), seq_nx s6]
  rw [go]
  -- what is read
  have ok : ∀ rz : List RS, (∀ r ∈ rz, r.le) → listB rz = true → lT rz = t → callR false (C 13 "parse_selectors") [.d (.str t)] [dD ds4] = .ok (.d (listD rz)) [dD ds4] → ∃ M', evS g 100000 (C 13) (.cons (.try_ (.cons (.asg (.nm 9) (.call "parse_selectors" false (.cons (.var 4) .nil))) .nil) "BadSelector" (.cons (.ret (.cmp .ne (.var 4) (.con (.str "")))) .nil)) (.cons (.ret (.and (.cmp .eq (.call "check_list" false (.cons (.var 9) .nil)) (.var 9)) (.and (.cmp .eq (.call "selectors_text" false (.cons (.var 9) .nil)) (.var 4)) (.isi "tuple" (.var 9))))) .nil)) (LW s (some (.d (.int ch))) sel (some (.d (.str t))) k4 dr4 at4 cr4 none) [dD ds4] = .rt (.d (.bool true)) M' := fun rz h1 h2 h3 h4 => by
    have a1 := asg_of (C' := C 13) (i := 9) (call1 (f := "parse_selectors") (keep := false) (X := .var 4) (ρ := LW s (some (.d (.int ch))) sel (some (.d (.str t))) k4 dr4 at4 cr4 none) (var_of (x := .d (.str t)) rfl) h4)
    have t1 : evS g 100000 (C 13) (.try_ (.cons (.asg (.nm 9) (.call "parse_selectors" false (.cons (.var 4) .nil))) .nil) "BadSelector" (.cons (.ret (.cmp .ne (.var 4) (.con (.str "")))) .nil)) (LW s (some (.d (.int ch))) sel (some (.d (.str t))) k4 dr4 at4 cr4 none) [dD ds4] = .nx (LW s (some (.d (.int ch))) sel (some (.d (.str t))) k4 dr4 at4 cr4 (some (.d (listD rz)))) [dD ds4] := by
      rw [evS]
      unfold fTry
      rw [seq_two a1]
      rfl
    have hz6 : rz.length ≤ 6 := by
      unfold listB at h2
      rw [Bool.and_eq_true, decide_eq_true_eq] at h2
      exact h2.1
    have hzs : ∀ r ∈ rz, r.sm := fun r hr => sm_sel (h1 r hr) (by
      unfold listB at h2
      rw [Bool.and_eq_true] at h2
      exact List.all_eq_true.mp h2.2 r hr)
    have hck := check_ev (d := 6) (b := false) (M := [dD ds4]) h1
    rw [if_pos h2] at hck
    have fin : evE g (C 13) (.and (.cmp .eq (.call "check_list" false (.cons (.var 9) .nil)) (.var 9)) (.and (.cmp .eq (.call "selectors_text" false (.cons (.var 9) .nil)) (.var 4)) (.isi "tuple" (.var 9)))) (LW s (some (.d (.int ch))) sel (some (.d (.str t))) k4 dr4 at4 cr4 (some (.d (listD rz)))) [dD ds4] = .ok (.d (.bool true)) [dD ds4] :=
      andE (cmpE_of (call1 (f := "check_list") (var_of (x := .d (listD rz)) rfl) hck) (var_of (x := .d (listD rz)) rfl) (eq_same (eq_pln (pln_list h1) (by decide))))
        (andE (cmpE_of (call1 (f := "selectors_text") (var_of (x := .d (listD rz)) rfl) (selectors_text_ok (d := 9) (b := false) hzs hz6)) (var_of (x := .d (.str t)) rfl) (by rw [h3, str_eq, beq_self_eq_true]))
          (isi_of (var_of (x := .d (listD rz)) rfl) rfl))
    exact ⟨_, by rw [seq_nx t1]; exact ret_of fin⟩
  cases ht : t == "" with
  | true =>
    have e : t = "" := by simpa using ht
    refine ok [] (by simp) rfl (by rw [e]; decide +kernel) ?_
    have := parse_back (d := 5) (b := false) (rs := []) (by simp) (by simp) (dD ds4)
    rw [show lT [] = t by rw [e]; decide +kernel] at this
    exact this
  | false =>
    rcases parse_any (d := 5) (b := false) (M := [dD ds4]) ht (by omega) with hp | ⟨rz, h1, h2, h3, h4⟩
    · have cx : evE g (C 13) (.call "parse_selectors" false (.cons (.var 4) .nil)) (LW s (some (.d (.int ch))) sel (some (.d (.str t))) k4 dr4 at4 cr4 none) [dD ds4] = .exc "BadSelector" [dD ds4] := call1 (var_of (x := .d (.str t)) rfl) hp
      have a1 : evS g 100000 (C 13) (.cons (.asg (.nm 9) (.call "parse_selectors" false (.cons (.var 4) .nil))) .nil) (LW s (some (.d (.int ch))) sel (some (.d (.str t))) k4 dr4 at4 cr4 none) [dD ds4] = .exc "BadSelector" (LW s (some (.d (.int ch))) sel (some (.d (.str t))) k4 dr4 at4 cr4 none) [dD ds4] := by
        refine seq_ex ?_
        rw [evS]
        unfold fAsg
        rw [cx]
        rfl
      have r1 : evS g 100000 (C 13) (.cons (.ret (.cmp .ne (.var 4) (.con (.str "")))) .nil) (LW s (some (.d (.int ch))) sel (some (.d (.str t))) k4 dr4 at4 cr4 none) [dD ds4] = .rt (.d (.bool true)) [dD ds4] := ret_of (cmpE_of (var_of rfl) con_of (by rw [str_ne, ht]; rfl))
      refine ⟨[dD ds4], seq_rt ?_⟩
      rw [evS]
      unfold fTry
      rw [a1]
      simp only [exmS]
      rw [r1]
    · exact ok rz h1 h2 h3 h4
theorem law_main (ns : List Int) (h : ns.length ≤ 63) : ∃ M', TL.call g T.prg 100000 14 "law" [.ro (ns.map .int)] [] = .ok (.d (.bool true)) M' := by
  obtain ⟨M', e⟩ := law_body h
  refine ⟨M', ?_⟩
  show C (13 + 1) "law" _ _ = _
  rw [C_succ (fn := f_law) rfl]
  simp only [bodyF, e, onlyX]
end TL.K03

set_option maxHeartbeats 0
namespace TL.K03
open PySem PySem.Spec
open PyProof.Rows L2 TL
abbrev R : PySem.W.OpenRow := PySem.W.OpenLaw.row PySem.Challenge.rw_treegarb_k03_notation
abbrev ck : PySem.W.Frag → Bool := factsK g (g.fns.map (·.1))
abbrev fnl : List He.DefD := T.defs
abbrev tbs : Tabs := g.tabs
abbrev hk : PySem.W.Hook := hookC 5 ck fnl tbs
def ob (s : PySem.W.SharedT) : He.AlT := obsCG 5 ck fnl tbs (HandSHeadRun.getT s)
theorem ob_eq (s : PySem.W.SharedT) : ob s = hk.obs s.abs := obsCG_eq (HandSHeadRun.getT_eq s)
abbrev loose : List Str := (["__name__", "StyleError", "BadSelector", "is_whole", "is_rising", "LONGEST_NAME", "is_name", "are_marks", "LINKS", "TESTED", "EVERY_NUMBER", "MOST_SELECTORS", "MOST_PARTS", "MOST_MARKS", "MOST_TESTS", "GREATEST_STEP", "_is_test", "_are_tests", "_is_count", "_is_part", "_is_selector", "check_selector", "check_list", "LINK_TEXTS", "LINK_SIGNS"] : List Str) ++ (["ANY_KIND", "DIGITS", "_test_text", "_part_text", "_selector_text", "selectors_text", "_read_test", "_read_pair", "_read_part", "_read_selector", "parse_selectors", "_law_cell", "_law_draws", "_law_next", "_law_marks", "_law_element", "_law_part", "_law_selector", "_law_part_text", "_law_text"] : List Str)
theorem run_of (w : World) (b : Bool) : HandSHeadRun.RunEq R (PySem.W.view R.prog [50]) hk ob 3000 loose (w.withFollow "special-get-raises" b) := by
  cases b <;> (intro os; kernel_rfl)
theorem run (w : World) : HandSHeadRun.RunEq R (PySem.W.view R.prog [50]) hk ob 3000 loose w := by
  have z := run_of w (w.params.followText "special-get-raises")
  rwa [World.withFollow_self] at z
end TL.K03

set_option maxHeartbeats 0
namespace TL.K03
open PySem PySem.W
open PySem.Calls PyProof.Rows TL
theorem holds_of (tt : ∀ ns : List Int, ns.length ≤ 63 → ∃ M', TL.call g T.prg 100000 14 "law" [.ro (ns.map .int)] [] = .ok (.d (.bool true)) M') : PySem.Challenge.rw_treegarb_k03_notation.Holds := by
  w_on; o_law
  refine HandSHeadRun.head_any (r := OpenLaw.row PySem.Challenge.rw_treegarb_k03_notation) (q := view (OpenLaw.row PySem.Challenge.rw_treegarb_k03_notation).prog [50]) (H := TL.K03.hk) (ob := TL.K03.ob) (M := 3000) (loose := TL.K03.loose) (d := HandSHeadRun.topDef (OpenLaw.row PySem.Challenge.rw_treegarb_k03_notation).prog 50) (kwd := []) TL.K03.ob_eq
    (by kernel_rfl) (fun s => by kernel_rfl) TL.K03.run (by kernel_rfl) (by kernel_rfl) (by kernel_rfl) (by rfl) (by first | assumption | decide +kernel) (by decide +kernel) ⟨rfl, rfl, rfl, rfl, rfl, by decide +kernel⟩ ?hw ?hc
  case hw => w_witness2
  case hc =>
    refine L2.walk_ofE (l := PySem.Challenge.rw_treegarb_k03_notation) (n := 63) (k := 2 * 14) (x := "script") (CX := L2.CX0) rfl (by decide) (by kernel_rfl) ⟨rfl, by decide, by decide⟩ ?F (fun _ _ _ _ z => z)
    intro w mg fa h Y G hmg0
    have hmg : mg ("law" : PySem.Str) = some (.ref fa) := by
      have e : (HandSHeadRun.topDef (OpenLaw.row PySem.Challenge.rw_treegarb_k03_notation).prog 50).name = ("law" : PySem.Str) := by kernel_rfl
      rw [← e]
      exact hmg0
    exact TL.law_end (F := 100000) (d := 14) (n := 63) (x := "law") (y := "script") (fn := f_law) lists_ok tx_ok binds rfl rfl rfl tt w mg fa h Y G hmg
end TL.K03

theorem PySem.Challenge.cw_treegarb_k03_notation_holds : PySem.Challenge.rw_treegarb_k03_notation.Holds :=
  TL.K03.holds_of TL.K03.law_main
