import PyProof.Rows.All
import Wide.All
import OpenK.AllK
import Wide.FinOn
import HandS.ForMost
import HandS.ForExc
import HandS.Zip
import HandS.TupAny
import HandS.EndBits
import HandS.Wide
import HandS.Defaults
import HandS.IsInst
import HandS.ExcInit
import HandS.MakeKw
import HandS.MakeKwOnly
import HandS.Walk
import KE.KMathG
import HandS.Gcd
import HandS.Flt
import HandS.WideBits
import HandS.Deep
import HandS.OwnEq
import HandS.SortKw
import KE.KMinBuiltin
import HandS.Style
import HandS.Dict
import KE.GoesEnum
import Flt.RightSqrt
import PySem.Challenge.RW_sureplace_k24_steps_of_blame
set_option Elab.async false
set_option linter.all false
set_option maxRecDepth 100000
namespace Ev
open PySem PySem.Spec PyProof.Rows L2

/-! ### data -/
inductive D where
  | non | bl (b : Bool) | int (i : Int) | str (x : Str)
  | tup (ds : List D) | lst (ds : List D) | klst (ds : List D)
  | dic (ks : List (Key × D))
  | ins (c : Nat) (fs : List (Str × D))
  | ref (n : Nat)

/-- live objects -/
inductive O where
  | lst (ds : List D) | dic (ks : List (Key × D)) | ins (c : Nat) (fs : List (Str × D)) | dead

abbrev HP := List O
abbrev EN := List (Option D)
abbrev AM := List (Option Addr)

inductive R (α : Type) where
  | ok (a : α) (h : HP)
  | exc (c : Nat) (fs : List (Str × D)) (h : HP)
  | stuck

@[simp] def R.bind {α β : Type} : R α → (α → HP → R β) → R β
  | .ok a h, f => f a h
  | .exc c fs h, _ => .exc c fs h
  | .stuck, _ => .stuck

/-- what the proof knows of the module: the written part, the classes' addresses -/
structure G where
  K : PySem.W.Frag
  cA : Nat → Addr

def KT (K : PySem.W.Frag) (a : Addr) (xs : List V) : Prop := ∃ (o : Obj) (its : Array Value) (n : Nat), K.lookup a = some o ∧ o.cls = .type "tuple" ∧ o.data = .seq its n ∧ its.size ≤ sizeLine ∧ Vals xs its.toList
def KL (K : PySem.W.Frag) (a : Addr) (xs : List V) : Prop := ∃ (o : Obj) (its : Array Value) (n : Nat), K.lookup a = some o ∧ o.cls = .type "list" ∧ o.dict = none ∧ o.data = .seq its n ∧ its.size ≤ sizeLine ∧ Vals xs its.toList

def FT (K : PySem.W.Frag) (m : AM) (H : Hp) (a : Addr) (xs : List V) : Prop := (Rd H a (.tup xs) ∧ some a ∉ m) ∨ KT K a xs
def FL (K : PySem.W.Frag) (m : AM) (H : Hp) (a : Addr) (xs : List V) : Prop := (Rd H a (.lst xs) ∧ some a ∉ m) ∨ KL K a xs

variable (g : G)
mutual
def rep (m : AM) (H : Hp) : D → V → Prop
  | .non, v => v = .non
  | .bl b, v => v = .bl b
  | .int i, v => v = .int i
  | .str x, v => v = .str x
  | .tup ds, v => ∃ a vs, v = .ref a ∧ FT g.K m H a vs ∧ reps m H ds vs
  | .lst ds, v => ∃ a vs, v = .ref a ∧ H a = some (.lst vs) ∧ some a ∉ m ∧ reps m H ds vs
  | .klst ds, v => ∃ a vs, v = .ref a ∧ FL g.K m H a vs ∧ reps m H ds vs
  | .dic ks, v => ∃ a vs, v = .ref a ∧ H a = some (.dK vs) ∧ some a ∉ m ∧ repk m H ks vs
  | .ins c fs, v => ∃ a dx vs, v = .ref a ∧ H a = some (.ins (g.cA c) dx vs) ∧ some a ∉ m ∧ repf m H fs vs
  | .ref n, v => n < m.length ∧ ∀ a, m[n]? = some (some a) → v = .ref a
def reps (m : AM) (H : Hp) : List D → List V → Prop
  | [], vs => vs = []
  | d :: ds, vs => ∃ v r, vs = v :: r ∧ rep m H d v ∧ reps m H ds r
def repk (m : AM) (H : Hp) : List (Key × D) → List (Key × V) → Prop
  | [], vs => vs = []
  | (k, d) :: ds, vs => ∃ v r, vs = (k, v) :: r ∧ rep m H d v ∧ repk m H ds r
def repf (m : AM) (H : Hp) : List (Str × D) → List (Str × V) → Prop
  | [], vs => vs = []
  | (k, d) :: ds, vs => ∃ v r, vs = (k, v) :: r ∧ rep m H d v ∧ repf m H ds r
end

/-- the state grows: what is not live stays, live objects stay live at their place or die -/
structure Ex (m : AM) (H : Hp) (m' : AM) (H' : Hp) : Prop where
  le : m.length ≤ m'.length
  mp : ∀ n a, m'[n]? = some (some a) → n < m.length → m[n]? = some (some a)
  fz : ∀ a o, H a = some o → some a ∉ m → H' a = some o ∧ some a ∉ m'

theorem Ex.refl (m : AM) (H : Hp) : Ex m H m H := ⟨Nat.le_refl _, fun _ _ h _ => h, fun _ _ h k => ⟨h, k⟩⟩
theorem Ex.trans {m1 m2 m3 : AM} {H1 H2 H3 : Hp} (x : Ex m1 H1 m2 H2) (y : Ex m2 H2 m3 H3) : Ex m1 H1 m3 H3 :=
  ⟨Nat.le_trans x.le y.le, fun n a h l => x.mp n a (y.mp n a h (Nat.lt_of_lt_of_le l x.le)) l, fun a o h k => let ⟨h1, k1⟩ := x.fz a o h k; y.fz a o h1 k1⟩

variable {g} {m m' : AM} {H H' : Hp}
theorem FT.ext {a : Addr} {xs : List V} (x : Ex m H m' H') (h : FT g.K m H a xs) : FT g.K m' H' a xs := by
  rcases h with ⟨h | ⟨o, h⟩, k⟩ | h
  · obtain ⟨h1, k1⟩ := x.fz _ _ h k
    exact .inl ⟨.inl h1, k1⟩
  · obtain ⟨h1, k1⟩ := x.fz _ _ h k
    exact .inl ⟨.inr ⟨o, h1⟩, k1⟩
  · exact .inr h
theorem FL.ext {a : Addr} {xs : List V} (x : Ex m H m' H') (h : FL g.K m H a xs) : FL g.K m' H' a xs := by
  rcases h with ⟨h | ⟨o, h⟩, k⟩ | h
  · obtain ⟨h1, k1⟩ := x.fz _ _ h k
    exact .inl ⟨.inl h1, k1⟩
  · obtain ⟨h1, k1⟩ := x.fz _ _ h k
    exact .inl ⟨.inr ⟨o, h1⟩, k1⟩
  · exact .inr h

mutual
theorem rep.ext (x : Ex m H m' H') : ∀ (d : D) (v : V), rep g m H d v → rep g m' H' d v
  | .non, v, h => by simpa [rep] using h
  | .bl b, v, h => by simpa [rep] using h
  | .int i, v, h => by simpa [rep] using h
  | .str s, v, h => by simpa [rep] using h
  | .tup ds, v, h => by
    simp only [rep] at h ⊢
    obtain ⟨a, vs, e, f, r⟩ := h
    exact ⟨a, vs, e, f.ext x, reps.ext x ds vs r⟩
  | .lst ds, v, h => by
    simp only [rep] at h ⊢
    obtain ⟨a, vs, e, f, k, r⟩ := h
    obtain ⟨f1, k1⟩ := x.fz _ _ f k
    exact ⟨a, vs, e, f1, k1, reps.ext x ds vs r⟩
  | .klst ds, v, h => by
    simp only [rep] at h ⊢
    obtain ⟨a, vs, e, f, r⟩ := h
    exact ⟨a, vs, e, f.ext x, reps.ext x ds vs r⟩
  | .dic ks, v, h => by
    simp only [rep] at h ⊢
    obtain ⟨a, vs, e, f, k, r⟩ := h
    obtain ⟨f1, k1⟩ := x.fz _ _ f k
    exact ⟨a, vs, e, f1, k1, repk.ext x ks vs r⟩
  | .ins c fs, v, h => by
    simp only [rep] at h ⊢
    obtain ⟨a, dx, vs, e, f, k, r⟩ := h
    obtain ⟨f1, k1⟩ := x.fz _ _ f k
    exact ⟨a, dx, vs, e, f1, k1, repf.ext x fs vs r⟩
  | .ref n, v, h => by
    simp only [rep] at h ⊢
    exact ⟨Nat.lt_of_lt_of_le h.1 x.le, fun a e => h.2 a (x.mp n a e h.1)⟩
theorem reps.ext (x : Ex m H m' H') : ∀ (ds : List D) (vs : List V), reps g m H ds vs → reps g m' H' ds vs
  | [], vs, h => by simpa [reps] using h
  | d :: ds, vs, h => by
    simp only [reps] at h ⊢
    obtain ⟨v, r, e, h1, h2⟩ := h
    exact ⟨v, r, e, rep.ext x d v h1, reps.ext x ds r h2⟩
theorem repk.ext (x : Ex m H m' H') : ∀ (ds : List (Key × D)) (vs : List (Key × V)), repk g m H ds vs → repk g m' H' ds vs
  | [], vs, h => by simpa [repk] using h
  | (k, d) :: ds, vs, h => by
    simp only [repk] at h ⊢
    obtain ⟨v, r, e, h1, h2⟩ := h
    exact ⟨v, r, e, rep.ext x d v h1, repk.ext x ds r h2⟩
theorem repf.ext (x : Ex m H m' H') : ∀ (ds : List (Str × D)) (vs : List (Str × V)), repf g m H ds vs → repf g m' H' ds vs
  | [], vs, h => by simpa [repf] using h
  | (k, d) :: ds, vs, h => by
    simp only [repf] at h ⊢
    obtain ⟨v, r, e, h1, h2⟩ := h
    exact ⟨v, r, e, rep.ext x d v h1, repf.ext x ds r h2⟩
end

/-- a live object at a -/
def liveO (g : G) (m : AM) (H : Hp) (a : Addr) : O → Prop
  | .lst ds => ∃ vs, H a = some (.lst vs) ∧ reps g m H ds vs
  | .dic ks => ∃ vs, H a = some (.dK vs) ∧ repk g m H ks vs
  | .ins c fs => ∃ dx vs, H a = some (.ins (g.cA c) dx vs) ∧ repf g m H fs vs
  | .dead => False

structure HL (g : G) (m : AM) (H : Hp) (hp : HP) : Prop where
  len : m.length = hp.length
  nd : ∀ (i j : Nat) (a : Addr), m[i]? = some (some a) → m[j]? = some (some a) → i = j
  live : ∀ (i : Nat) (o : O), hp[i]? = some o → (o = .dead ∧ m[i]? = some none) ∨ ∃ a, m[i]? = some (some a) ∧ liveO g m H a o

structure ER (g : G) (m : AM) (H : Hp) (σ : L2.St) (env : EN) : Prop where
  len : σ.length = env.length
  at_ : ∀ (i : Nat) (d : D), env[i]? = some (some d) → ∃ v, σ[i]? = some (some v) ∧ rep g m H d v

theorem ER.ext {σ : L2.St} {env : EN} (x : Ex m H m' H') (h : ER g m H σ env) : ER g m' H' σ env :=
  ⟨h.len, fun i d e => let ⟨v, e1, r⟩ := h.at_ i d e; ⟨v, e1, rep.ext x d v r⟩⟩

/-- what is asked behind an expression -/
def PO {α β : Type} (g : G) (m : AM) (H : Hp) (E : XK) (rp : AM → Hp → α → β → Prop) (Q : β → Hp → Prop) : R α → Prop
  | .ok d hp' => ∀ m' H' v, Ex m H m' H' → HL g m' H' hp' → rp m' H' d v → Q v H'
  | .exc c fs hp' => ∀ m' H' d ws, Ex m H m' H' → HL g m' H' hp' → H' d = some (.xd ws) → some d ∉ m' → repf g m' H' fs ws → E (.ref (g.cA c)) (some d) H'
  | .stuck => False

theorem PO.bind {α β γ δ : Type} {E : XK} {rp : AM → Hp → α → β → Prop} {rq : AM → Hp → γ → δ → Prop} {Q : β → Hp → Prop} {Q' : δ → Hp → Prop} {r : R α} {f : α → HP → R γ}
    (h : PO g m H E rq Q' (r.bind f)) (k : ∀ d hp' m' H' v, Ex m H m' H' → HL g m' H' hp' → rp m' H' d v → PO g m' H' E rq Q' (f d hp') → Q v H') : PO g m H E rp Q r := by
  cases r with
  | ok d hp' =>
    intro m' H' v x hl rv
    refine k d hp' m' H' v x hl rv ?_
    simp only [R.bind] at h
    revert h
    cases f d hp' with
    | ok e h2 => exact fun h m2 H2 w x2 hl2 r2 => h m2 H2 w (x.trans x2) hl2 r2
    | exc c fs h2 => exact fun h m2 H2 d2 ws x2 hl2 e2 n2 r2 => h m2 H2 d2 ws (x.trans x2) hl2 e2 n2 r2
    | stuck => exact fun h => h
  | exc c fs hp' => exact h
  | stuck => exact h

abbrev rB : AM → Hp → Bool → Bool → Prop := fun _ _ b c => b = c
end Ev
namespace Ev
open PySem PySem.Spec PyProof.Rows L2

abbrev M (α : Type) := EN → HP → R α

section
variable (g : G) (X : Cx) (E : XK)
structure EV (e : Expr) (f : M D) : Prop where
  ex : ∃ t, PE X e t ∧ ∀ σ H Q m env hp, HL g m H hp → ER g m H σ env → PO g m H E (rep g) Q (f env hp) → t σ H Q
structure TV (e : Expr) (f : M Bool) : Prop where
  ex : ∃ t, PT X e t ∧ ∀ σ H Q m env hp, HL g m H hp → ER g m H σ env → PO g m H E rB Q (f env hp) → t σ H Q
structure AV (es : List Expr) (f : M (List D)) : Prop where
  ex : ∃ t, PA X es t ∧ ∀ σ H Q m env hp, HL g m H hp → ER g m H σ env → PO g m H E (reps g) Q (f env hp) → t σ H Q
end

section
variable {g : G} {X : Cx} {E : XK}

/-! ### names, constants -/
@[simp] def kVar : Option (Option D) → HP → R D
  | some (some d), hp => .ok d hp
  | some none, _ => .stuck
  | none, _ => .stuck
@[simp] def mVar (i : Nat) (env : EN) (hp : HP) : R D := kVar env[i]? hp
theorem EV.var {i : Nat} {x : Str} {pos : Pos} {e : Expr} (he : e = .Name x pos) (hN : X.N[i]? = some x) (hv : Vis X.env.scope x) (hd : (x == ("__debug__" : Str)) = false) (hcd : (x == ("__classdict__" : Str)) = false) : EV g X E e (mVar i) := by
  subst he
  refine ⟨_, pe_var hN hv hd hcd, fun σ H Q m env hp hl er h => ?_⟩
  unfold mVar kVar at h
  split at h
  · rename_i d e
    obtain ⟨v, e1, r⟩ := er.at_ i d e
    exact ⟨v, e1, h m H v (.refl _ _) hl r⟩
  · exact h.elim
  · exact h.elim
@[simp] def mCst (d : D) (_ : EN) (hp : HP) : R D := .ok d hp
theorem EV.cst {e : Expr} {v : V} {d : D} (hp : PE X e (tC v)) (hr : ∀ m H, rep g m H d v) : EV g X E e (mCst d) :=
  ⟨_, hp, fun σ H Q m env hp hl er h => h m H v (.refl _ _) hl (hr m H)⟩
theorem EV.int {i : Int} {j pos} : EV g X E (.Constant (.int i) j pos) (mCst (.int i)) := .cst pe_int fun _ _ => by simp [rep]
theorem EV.bl {i : Bool} {j pos} : EV g X E (.Constant (.bool i) j pos) (mCst (.bl i)) := .cst pe_bl fun _ _ => by simp [rep]
theorem EV.non {j pos} : EV g X E (.Constant .none j pos) (mCst .non) := .cst pe_non fun _ _ => by simp [rep]
theorem EV.str {i : Str} {j pos} : EV g X E (.Constant (.str i) j pos) (mCst (.str i)) := .cst pe_str fun _ _ => by simp [rep]
theorem EV.glb {x : Str} {d : D} {v : V} {u : Value} {pos : Pos} (hr : ∀ m H, rep g m H d v) (hm : X.mg x = some u) (r : RelV v u) (hg : Gl X x) (hd : (x == ("__debug__" : Str)) = false) : EV g X E (.Name x pos) (mCst d) := .cst (pe_glob hg hm r hd) hr

/-! ### two values -/
abbrev F2 := D → D → HP → R D
/-- an operation on values keeps a rule of the layer -/
def OK2 (g : G) (E : XK) (r : R2) (f : F2) : Prop := ∀ m H hp x y v u Q, HL g m H hp → rep g m H x v → rep g m H y u → PO g m H E (rep g) Q (f x y hp) → r v u H Q
def OKS (X : Cx) (g : G) (E : XK) (h : Value → Value → Sem Value) (f : F2) : Prop := ∃ r, OpR X h r ∧ OK2 g E r f
@[simp] def kBin (f : F2) (b : M D) (env : EN) (x : D) (h1 : HP) : R D := (b env h1).bind (f x)
@[simp] def mBin (f : F2) (a b : M D) (env : EN) (hp : HP) : R D := (a env hp).bind (kBin f b env)
theorem EV.bin {op : Operator} {a b : Expr} {pos : Pos} {fa fb : M D} {f : F2} (ho : OKS X g E (binaryOp op) f) (ha : EV g X E a fa) (hb : EV g X E b fb) : EV g X E (.BinOp a op b pos) (mBin f fa fb) := by
  obtain ⟨r, hr, ho⟩ := ho
  obtain ⟨ta, pa, qa⟩ := ha
  obtain ⟨tb, pb, qb⟩ := hb
  refine ⟨_, pe_op hr pa pb, fun σ H Q m env hp hl er h => ?_⟩
  refine qa σ H _ m env hp hl er (PO.bind h fun x h1 m1 H1 v x1 hl1 r1 h => ?_)
  refine qb σ H1 _ m1 env h1 hl1 (er.ext x1) (PO.bind h fun y h2 m2 H2 u x2 hl2 r2 h => ?_)
  exact ho m2 H2 h2 x y v u Q hl2 (rep.ext x2 _ _ r1) r2 h
theorem EV.cmp {op : CmpOp} {a b : Expr} {pos : Pos} {fa fb : M D} {f : F2} (ho : OKS X g E (compareOp op) f) (ha : EV g X E a fa) (hb : EV g X E b fb) (hm : behindInMarks op b = false) : EV g X E (.Compare a [op] [b] pos) (mBin f fa fb) := by
  obtain ⟨r, hr, ho⟩ := ho
  obtain ⟨ta, pa, qa⟩ := ha
  obtain ⟨tb, pb, qb⟩ := hb
  refine ⟨_, pe_cmpR hr pa pb hm, fun σ H Q m env hp hl er h => ?_⟩
  refine qa σ H _ m env hp hl er (PO.bind h fun x h1 m1 H1 v x1 hl1 r1 h => ?_)
  refine qb σ H1 _ m1 env h1 hl1 (er.ext x1) (PO.bind h fun y h2 m2 H2 u x2 hl2 r2 h => ?_)
  exact ho m2 H2 h2 x y v u Q hl2 (rep.ext x2 _ _ r1) r2 h
/-- a value as a bool -/
@[simp] def isB : D → HP → R Bool
  | .bl b, hp => .ok b hp
  | _, _ => .stuck
@[simp] def mB (a : M D) (env : EN) (hp : HP) : R Bool := (a env hp).bind isB
theorem PO.toB {m : AM} {H : Hp} {hp : HP} {d : D} {v : V} {Q : Bool → Hp → Prop} (hl : HL g m H hp) (r : rep g m H d v) (h : PO g m H E rB Q (isB d hp)) : ∃ k, v = .bl k ∧ Q k H := by
  unfold Ev.isB at h
  split at h
  · simp only [rep] at r
    exact ⟨_, r, h m H _ (.refl _ _) hl rfl⟩
  · exact h.elim
theorem PO.isBk {α β : Type} {rq : AM → Hp → α → β → Prop} {m : AM} {H : Hp} {hp : HP} {d : D} {v : V} {Q : β → Hp → Prop} {f : Bool → HP → R α} (r : rep g m H d v) (h : PO g m H E rq Q ((isB d hp).bind f)) : ∃ k, v = .bl k ∧ PO g m H E rq Q (f k hp) := by
  cases d with
  | bl b =>
    simp only [rep] at r
    exact ⟨b, r, h⟩
  | _ => exact h.elim
theorem TV.cmp {op : CmpOp} {a b : Expr} {pos : Pos} {fa fb : M D} {f : F2} (ho : OKS X g E (compareOp op) f) (ha : EV g X E a fa) (hb : EV g X E b fb) (hm : behindInMarks op b = false) : TV g X E (.Compare a [op] [b] pos) (mB (mBin f fa fb)) := by
  obtain ⟨r, hr, ho⟩ := ho
  obtain ⟨ta, pa, qa⟩ := ha
  obtain ⟨tb, pb, qb⟩ := hb
  refine ⟨_, pt_cmpR hr pa pb hm, fun σ H Q m env hp hl er h => ?_⟩
  refine qa σ H _ m env hp hl er ?_
  have h : PO g m H E rB Q ((fa env hp).bind fun x h1 => ((fb env h1).bind fun y h2 => (f x y h2).bind isB)) := by
    have e : mB (mBin f fa fb) env hp = ((fa env hp).bind fun x h1 => ((fb env h1).bind fun y h2 => (f x y h2).bind isB)) := by
      unfold mB mBin
      cases fa env hp with
      | ok x h1 =>
        simp only [R.bind, kBin]
        cases fb env h1 with
        | ok y h2 => rfl
        | exc _ _ _ => rfl
        | stuck => rfl
      | exc _ _ _ => rfl
      | stuck => rfl
    rw [← e]; exact h
  refine PO.bind h fun x h1 m1 H1 v x1 hl1 r1 h => ?_
  refine qb σ H1 _ m1 env h1 hl1 (er.ext x1) (PO.bind h fun y h2 m2 H2 u x2 hl2 r2 h => ?_)
  refine ho m2 H2 h2 x y v u _ hl2 (rep.ext x2 _ _ r1) r2 (PO.bind h fun z h3 m3 H3 w x3 hl3 r3 h => ?_)
  exact PO.toB hl3 r3 h
/-- a < b < c .. (any number) : the first comparison, then the rest from b's value -/
@[simp] def kCh3 (f2 : F2) (c : M D) (env : EN) (y : D) (k : Bool) (h : HP) : R D := if k = true then (c env h).bind (f2 y) else .ok (.bl false) h
@[simp] def kChB (f2 : F2) (c : M D) (env : EN) (y : D) (d : D) (h : HP) : R D := (isB d h).bind (kCh3 f2 c env y)
@[simp] def kCh2 (f f2 : F2) (c : M D) (env : EN) (x y : D) (h2 : HP) : R D := (f x y h2).bind (kChB f2 c env y)
@[simp] def kCh1 (f f2 : F2) (b c : M D) (env : EN) (x : D) (h1 : HP) : R D := (b env h1).bind (kCh2 f f2 c env x)
@[simp] def mCh2 (f f2 : F2) (a b c : M D) (env : EN) (hp : HP) : R D := (a env hp).bind (kCh1 f f2 b c env)
theorem EV.ch2 {op op2 : CmpOp} {a b c : Expr} {pos : Pos} {fa fb fc : M D} {f f2 : F2} (ho : OKS X g E (compareOp op) f) (ho2 : OKS X g E (compareOp op2) f2) (ha : EV g X E a fa) (hb : EV g X E b fb) (hc : EV g X E c fc) (hm : lastMarks [op, op2] [b, c] = false) :
    EV g X E (.Compare a [op, op2] [b, c] pos) (mCh2 f f2 fa fb fc) := by
  obtain ⟨r, hr, ho⟩ := ho
  obtain ⟨r2, hr2, ho2⟩ := ho2
  obtain ⟨ta, pa, qa⟩ := ha
  obtain ⟨tb, pb, qb⟩ := hb
  obtain ⟨tc, pc, qc⟩ := hc
  refine ⟨_, pe_chain hr hr2 pa pb pc hm, fun σ H Q m env hp hl er h => ?_⟩
  refine qa σ H _ m env hp hl er (PO.bind h fun x h1 m1 H1 v x1 hl1 r1 h => ?_)
  refine qb σ H1 _ m1 env h1 hl1 (er.ext x1) (PO.bind h fun y h2 m2 H2 u x2 hl2 r2 h => ?_)
  refine ho m2 H2 h2 x y v u _ hl2 (rep.ext x2 _ _ r1) r2 (PO.bind h fun z h3 m3 H3 w x3 hl3 r3 h => ?_)
  obtain ⟨k, e, h⟩ := PO.isBk r3 h
  refine ⟨k, e, ?_⟩
  unfold kCh3 at h
  cases k with
  | true =>
    rw [if_pos rfl] at h ⊢
    refine qc σ H3 _ m3 env h3 hl3 ((er.ext x1).ext (x2.trans x3)) (PO.bind h fun z h4 m4 H4 w4 x4 hl4 r4 h => ?_)
    exact ho2 m4 H4 h4 y z u w4 Q hl4 (rep.ext (x3.trans x4) _ _ r2) r4 h
  | false =>
    rw [if_neg Bool.false_ne_true] at h ⊢
    exact h m3 H3 _ (.refl _ _) hl3 (by simp [rep])
theorem TV.val {e : Expr} {f : M D} (h : EV g X E e f) (he : ∀ whole, isTrue e X.env whole = (do let v ← whole; standAt e.pos; holding [v] (truthy v))) : TV g X E e (mB f) := by
  obtain ⟨t, p, q⟩ := h
  refine ⟨_, pt_val p he, fun σ H Q m env hp hl er h => ?_⟩
  exact q σ H _ m env hp hl er (PO.bind h fun x h1 m1 H1 v x1 hl1 r1 h => PO.toB hl1 r1 h)
theorem R.bind_assoc {α β γ : Type} (r : R α) (f : α → HP → R β) (k : β → HP → R γ) : (r.bind f).bind k = r.bind fun x h => (f x h).bind k := by cases r <;> rfl
theorem TV.ch2 {op op2 : CmpOp} {a b c : Expr} {pos : Pos} {fa fb fc : M D} {f f2 : F2} (ho : OKS X g E (compareOp op) f) (ho2 : OKS X g E (compareOp op2) f2) (ha : EV g X E a fa) (hb : EV g X E b fb) (hc : EV g X E c fc) (hm : lastMarks [op, op2] [b, c] = false) :
    TV g X E (.Compare a [op, op2] [b, c] pos) (mB (mCh2 f f2 fa fb fc)) := by
  obtain ⟨r, hr, ho⟩ := ho
  obtain ⟨r2, hr2, ho2⟩ := ho2
  obtain ⟨ta, pa, qa⟩ := ha
  obtain ⟨tb, pb, qb⟩ := hb
  obtain ⟨tc, pc, qc⟩ := hc
  refine ⟨_, pt_chain hr hr2 pa pb pc hm, fun σ H Q m env hp hl er h => ?_⟩
  simp only [mB, mCh2, R.bind_assoc] at h
  unfold kCh1 kCh2 kChB at h
  simp only [R.bind_assoc] at h
  refine qa σ H _ m env hp hl er (PO.bind h fun x h1 m1 H1 v x1 hl1 r1 h => ?_)
  refine qb σ H1 _ m1 env h1 hl1 (er.ext x1) (PO.bind h fun y h2 m2 H2 u x2 hl2 r2 h => ?_)
  refine ho m2 H2 h2 x y v u _ hl2 (rep.ext x2 _ _ r1) r2 (PO.bind h fun z h3 m3 H3 w x3 hl3 r3 h => ?_)
  obtain ⟨k, e, h⟩ := PO.isBk r3 h
  refine ⟨k, e, ?_⟩
  unfold kCh3 at h
  cases k with
  | true =>
    rw [if_pos rfl] at h ⊢
    rw [R.bind_assoc] at h
    refine qc σ H3 _ m3 env h3 hl3 ((er.ext x1).ext (x2.trans x3)) (PO.bind h fun z h4 m4 H4 w4 x4 hl4 r4 h => ?_)
    exact ho2 m4 H4 h4 y z u w4 _ hl4 (rep.ext (x3.trans x4) _ _ r2) r4 (PO.bind h fun z h5 m5 H5 w5 x5 hl5 r5 h => PO.toB hl5 r5 h)
  | false =>
    rw [if_neg Bool.false_ne_true] at h ⊢
    exact ⟨false, rfl, h m3 H3 _ (.refl _ _) hl3 rfl⟩

/-! ### and, or, not, if -/
@[simp] def kNotB (k : Bool) (h : HP) : R D := .ok (.bl (!k)) h
@[simp] def kNot (x : D) (h : HP) : R D := (isB x h).bind kNotB
@[simp] def mNot (a : M D) (env : EN) (hp : HP) : R D := (a env hp).bind kNot
@[simp] def kAndB (b : M D) (env : EN) (k : Bool) (h : HP) : R D := if k = true then b env h else .ok (.bl false) h
@[simp] def kAnd (b : M D) (env : EN) (x : D) (h : HP) : R D := (isB x h).bind (kAndB b env)
@[simp] def mAnd (a b : M D) (env : EN) (hp : HP) : R D := (a env hp).bind (kAnd b env)
@[simp] def kOrB (b : M D) (env : EN) (k : Bool) (h : HP) : R D := if k = true then .ok (.bl true) h else b env h
@[simp] def kOr (b : M D) (env : EN) (x : D) (h : HP) : R D := (isB x h).bind (kOrB b env)
@[simp] def mOr (a b : M D) (env : EN) (hp : HP) : R D := (a env hp).bind (kOr b env)
theorem EV.not_ {a : Expr} {pos : Pos} {fa : M D} (ha : EV g X E a fa) : EV g X E (.UnaryOp .Not a pos) (mNot fa) := by
  obtain ⟨ta, pa, qa⟩ := ha
  refine ⟨_, pe_not pa, fun σ H Q m env hp hl er h => ?_⟩
  refine qa σ H _ m env hp hl er (PO.bind h fun x h1 m1 H1 v x1 hl1 r1 h => ?_)
  obtain ⟨k, e, h⟩ := PO.isBk r1 h
  exact ⟨k, e, h m1 H1 _ (.refl _ _) hl1 (by simp [rep])⟩
theorem EV.and_ {a b : Expr} {rest : List Expr} {pos : Pos} {fa fb : M D} (ha : EV g X E a fa) (hb : EV g X E (.BoolOp .And (b :: rest) pos) fb) : EV g X E (.BoolOp .And (a :: b :: rest) pos) (mAnd fa fb) := by
  obtain ⟨ta, pa, qa⟩ := ha
  obtain ⟨tb, pb, qb⟩ := hb
  refine ⟨_, pe_and pa pb, fun σ H Q m env hp hl er h => ?_⟩
  refine qa σ H _ m env hp hl er (PO.bind h fun x h1 m1 H1 v x1 hl1 r1 h => ?_)
  obtain ⟨k, e, h⟩ := PO.isBk r1 h
  refine ⟨k, e, ?_⟩
  unfold kAndB at h
  cases k with
  | true =>
    rw [if_pos rfl] at h ⊢
    exact qb σ H1 Q m1 env h1 hl1 (er.ext x1) h
  | false =>
    rw [if_neg Bool.false_ne_true] at h ⊢
    exact h m1 H1 _ (.refl _ _) hl1 (by simp [rep])
theorem EV.or_ {a b : Expr} {rest : List Expr} {pos : Pos} {fa fb : M D} (ha : EV g X E a fa) (hb : EV g X E (.BoolOp .Or (b :: rest) pos) fb) : EV g X E (.BoolOp .Or (a :: b :: rest) pos) (mOr fa fb) := by
  obtain ⟨ta, pa, qa⟩ := ha
  obtain ⟨tb, pb, qb⟩ := hb
  refine ⟨_, pe_or pa pb, fun σ H Q m env hp hl er h => ?_⟩
  refine qa σ H _ m env hp hl er (PO.bind h fun x h1 m1 H1 v x1 hl1 r1 h => ?_)
  obtain ⟨k, e, h⟩ := PO.isBk r1 h
  refine ⟨k, e, ?_⟩
  unfold kOrB at h
  cases k with
  | false =>
    rw [if_neg Bool.false_ne_true] at h ⊢
    exact qb σ H1 Q m1 env h1 hl1 (er.ext x1) h
  | true =>
    rw [if_pos rfl] at h ⊢
    exact h m1 H1 _ (.refl _ _) hl1 (by simp [rep])
theorem EV.one {op : BoolOp} {a : Expr} {pos : Pos} {fa : M D} (ha : EV g X E a fa) : EV g X E (.BoolOp op [a] pos) fa := by
  obtain ⟨ta, pa, qa⟩ := ha
  exact ⟨_, pe_one pa, qa⟩
/-! tests -/
@[simp] def ktNot (k : Bool) (h : HP) : R Bool := .ok (!k) h
@[simp] def tmNot (a : M Bool) (env : EN) (hp : HP) : R Bool := (a env hp).bind ktNot
@[simp] def ktAnd (b : M Bool) (env : EN) (k : Bool) (h : HP) : R Bool := if k = true then b env h else .ok false h
@[simp] def tmAnd (a b : M Bool) (env : EN) (hp : HP) : R Bool := (a env hp).bind (ktAnd b env)
@[simp] def ktOr (b : M Bool) (env : EN) (k : Bool) (h : HP) : R Bool := if k = true then .ok true h else b env h
@[simp] def tmOr (a b : M Bool) (env : EN) (hp : HP) : R Bool := (a env hp).bind (ktOr b env)
theorem TV.not_ {a : Expr} {pos : Pos} {fa : M Bool} (ha : TV g X E a fa) : TV g X E (.UnaryOp .Not a pos) (tmNot fa) := by
  obtain ⟨ta, pa, qa⟩ := ha
  refine ⟨_, pt_not pa, fun σ H Q m env hp hl er h => ?_⟩
  refine qa σ H _ m env hp hl er (PO.bind h fun x h1 m1 H1 v x1 hl1 r1 h => ?_)
  cases (show x = v from r1)
  exact h m1 H1 _ (.refl _ _) hl1 rfl
/-- a test whatever its 'whole' is -/
structure WV (g : G) (X : Cx) (E : XK) (e : Expr) (f : M Bool) : Prop where
  ex : ∃ t, PW X e t ∧ ∀ σ H Q m env hp, HL g m H hp → ER g m H σ env → PO g m H E rB Q (f env hp) → t σ H Q
theorem WV.tv {e : Expr} {f : M Bool} (h : WV g X E e f) : TV g X E e f := by
  obtain ⟨ta, pa, qa⟩ := h
  exact ⟨_, pa.pt, qa⟩
theorem WV.and1 {a : Expr} {pos : Pos} {fa : M Bool} (ha : TV g X E a fa) : WV g X E (.BoolOp .And [a] pos) fa := by
  obtain ⟨ta, pa, qa⟩ := ha
  exact ⟨_, pw_and1 pa, qa⟩
theorem WV.or1 {a : Expr} {pos : Pos} {fa : M Bool} (ha : TV g X E a fa) : WV g X E (.BoolOp .Or [a] pos) fa := by
  obtain ⟨ta, pa, qa⟩ := ha
  exact ⟨_, pw_or1 pa, qa⟩
theorem WV.and_ {a b : Expr} {rest : List Expr} {pos : Pos} {fa fb : M Bool} (ha : TV g X E a fa) (hb : WV g X E (.BoolOp .And (b :: rest) pos) fb) : WV g X E (.BoolOp .And (a :: b :: rest) pos) (tmAnd fa fb) := by
  obtain ⟨ta, pa, qa⟩ := ha
  obtain ⟨tb, pb, qb⟩ := hb
  refine ⟨_, pw_and pa pb, fun σ H Q m env hp hl er h => ?_⟩
  refine qa σ H _ m env hp hl er (PO.bind h fun x h1 m1 H1 v x1 hl1 r1 h => ?_)
  cases (show x = v from r1)
  unfold ktAnd at h
  cases x with
  | true =>
    rw [if_pos rfl] at h ⊢
    exact qb σ H1 Q m1 env h1 hl1 (er.ext x1) h
  | false =>
    rw [if_neg Bool.false_ne_true] at h ⊢
    exact h m1 H1 _ (.refl _ _) hl1 rfl
theorem WV.or_ {a b : Expr} {rest : List Expr} {pos : Pos} {fa fb : M Bool} (ha : TV g X E a fa) (hb : WV g X E (.BoolOp .Or (b :: rest) pos) fb) : WV g X E (.BoolOp .Or (a :: b :: rest) pos) (tmOr fa fb) := by
  obtain ⟨ta, pa, qa⟩ := ha
  obtain ⟨tb, pb, qb⟩ := hb
  refine ⟨_, pw_or pa pb, fun σ H Q m env hp hl er h => ?_⟩
  refine qa σ H _ m env hp hl er (PO.bind h fun x h1 m1 H1 v x1 hl1 r1 h => ?_)
  cases (show x = v from r1)
  unfold ktOr at h
  cases x with
  | false =>
    rw [if_neg Bool.false_ne_true] at h ⊢
    exact qb σ H1 Q m1 env h1 hl1 (er.ext x1) h
  | true =>
    rw [if_pos rfl] at h ⊢
    exact h m1 H1 _ (.refl _ _) hl1 rfl
@[simp] def kIf (a b : M D) (env : EN) (k : Bool) (h : HP) : R D := if k = true then a env h else b env h
@[simp] def mIf (c : M Bool) (a b : M D) (env : EN) (hp : HP) : R D := (c env hp).bind (kIf a b env)
theorem EV.ite_ {c a b : Expr} {pos : Pos} {fc : M Bool} {fa fb : M D} (hc : TV g X E c fc) (ha : EV g X E a fa) (hb : EV g X E b fb) : EV g X E (.IfExp c a b pos) (mIf fc fa fb) := by
  obtain ⟨tc, pc, qc⟩ := hc
  obtain ⟨ta, pa, qa⟩ := ha
  obtain ⟨tb, pb, qb⟩ := hb
  refine ⟨_, pe_ifExp pc pa pb, fun σ H Q m env hp hl er h => ?_⟩
  refine qc σ H _ m env hp hl er (PO.bind h fun x h1 m1 H1 v x1 hl1 r1 h => ?_)
  cases (show x = v from r1)
  unfold kIf at h
  cases x with
  | true =>
    rw [if_pos rfl] at h ⊢
    exact qa σ H1 Q m1 env h1 hl1 (er.ext x1) h
  | false =>
    rw [if_neg Bool.false_ne_true] at h ⊢
    exact qb σ H1 Q m1 env h1 hl1 (er.ext x1) h
/-- truth of any value that is there -/
@[simp] def truO : Option O → HP → R Bool
  | some (.lst ds), hp => .ok (!ds.isEmpty) hp
  | some (.dic ds), hp => .ok (!ds.isEmpty) hp
  | _, _ => .stuck
@[simp] def truD : D → HP → R Bool
  | .non, hp => .ok false hp
  | .bl b, hp => .ok b hp
  | .int i, hp => .ok (i != 0) hp
  | .lst ds, hp => .ok (!ds.isEmpty) hp
  | .klst ds, hp => .ok (!ds.isEmpty) hp
  | .tup ds, hp => .ok (!ds.isEmpty) hp
  | .dic ds, hp => .ok (!ds.isEmpty) hp
  | .ref n, hp => truO hp[n]? hp
  | _, _ => .stuck
@[simp] def mTru (a : M D) (env : EN) (hp : HP) : R Bool := (a env hp).bind truD
theorem reps.length {m : AM} {H : Hp} : ∀ {ds : List D} {vs : List V}, reps g m H ds vs → ds.length = vs.length
  | [], vs, h => by simp only [reps] at h; subst h; rfl
  | d :: ds, vs, h => by
    simp only [reps] at h
    obtain ⟨v, r, rfl, _, h2⟩ := h
    simp [reps.length h2]
theorem repk.length {m : AM} {H : Hp} : ∀ {ds : List (Key × D)} {vs : List (Key × V)}, repk g m H ds vs → ds.length = vs.length
  | [], vs, h => by simp only [repk] at h; subst h; rfl
  | (k, d) :: ds, vs, h => by
    simp only [repk] at h
    obtain ⟨v, r, rfl, _, h2⟩ := h
    simp [repk.length h2]
theorem isEmpty_len {α β : Type} {xs : List α} {ys : List β} (h : xs.length = ys.length) : xs.isEmpty = ys.isEmpty := by
  cases xs <;> cases ys <;> simp at h ⊢
theorem HL.at {m : AM} {H : Hp} {hp : HP} (hl : HL g m H hp) {n : Nat} {o : O} (e : hp[n]? = some o) (ne : o ≠ .dead) : ∃ a, m[n]? = some (some a) ∧ liveO g m H a o := by
  rcases hl.live n o e with ⟨h, _⟩ | h
  · exact absurd h ne
  · exact h
theorem FL.sq {K : PySem.W.Frag} {m : AM} {H : Hp} {a : Addr} {xs : List V} (h : FL K m H a xs) : SqL K H a xs := by
  rcases h with ⟨h, _⟩ | h
  · exact .inl h
  · exact .inr h
theorem FT.sq {K : PySem.W.Frag} {m : AM} {H : Hp} {a : Addr} {xs : List V} (h : FT K m H a xs) : SqT K H a xs := by
  rcases h with ⟨h, _⟩ | h
  · exact .inl h
  · exact .inr h
theorem TV.tru {e : Expr} {f : M D} (hK : X.K = g.K) (h : EV g X E e f) (he : ∀ whole, isTrue e X.env whole = (do let v ← whole; standAt e.pos; holding [v] (truthy v))) : TV g X E e (mTru f) := by
  obtain ⟨t, p, q⟩ := h
  refine ⟨_, pt_truth p he, fun σ H Q m env hp hl er h => ?_⟩
  refine q σ H _ m env hp hl er (PO.bind h fun x h1 m1 H1 v x1 hl1 r1 h => ?_)
  have fin : ∀ k, TruV X.K v H1 k → PO g m1 H1 E rB Q (.ok k h1) → ∃ k, TruV X.K v H1 k ∧ Q k H1 := fun k t h => ⟨k, t, h m1 H1 k (.refl _ _) hl1 rfl⟩
  cases x with
  | non => simp only [rep] at r1; subst r1; exact fin false rfl h
  | bl b => simp only [rep] at r1; subst r1; exact fin b rfl h
  | int b => simp only [rep] at r1; subst r1; exact fin _ rfl h
  | str b => exact h.elim
  | tup ds =>
    simp only [rep] at r1
    obtain ⟨a, vs, rfl, f, r⟩ := r1
    exact fin _ (show _ ∨ _ ∨ _ from .inr (.inl ⟨vs, by rw [hK]; exact f.sq, by rw [isEmpty_len (reps.length r)]⟩)) h
  | lst ds =>
    simp only [rep] at r1
    obtain ⟨a, vs, rfl, f, _, r⟩ := r1
    exact fin _ (show _ ∨ _ ∨ _ from .inl ⟨vs, .of f, by rw [isEmpty_len (reps.length r)]⟩) h
  | klst ds =>
    simp only [rep] at r1
    obtain ⟨a, vs, rfl, f, r⟩ := r1
    exact fin _ (show _ ∨ _ ∨ _ from .inl ⟨vs, by rw [hK]; exact f.sq, by rw [isEmpty_len (reps.length r)]⟩) h
  | dic ds =>
    simp only [rep] at r1
    obtain ⟨a, vs, rfl, f, _, r⟩ := r1
    exact fin _ (show _ ∨ _ ∨ _ from .inr (.inr ⟨vs, f, by rw [isEmpty_len (repk.length r)]⟩)) h
  | ins c fs => exact h.elim
  | ref n =>
    simp only [rep] at r1
    simp only [truD] at h
    unfold truO at h
    split at h
    · rename_i ds e
      obtain ⟨a, ea, vs, ha, rv⟩ := hl1.at e (by simp)
      obtain rfl := r1.2 a ea
      exact fin _ (show _ ∨ _ ∨ _ from .inl ⟨vs, .of ha, by rw [isEmpty_len (reps.length rv)]⟩) h
    · rename_i ds e
      obtain ⟨a, ea, vs, ha, rv⟩ := hl1.at e (by simp)
      obtain rfl := r1.2 a ea
      exact fin _ (show _ ∨ _ ∨ _ from .inr (.inr ⟨vs, ha, by rw [isEmpty_len (repk.length rv)]⟩)) h
    · exact h.elim

/-! ### argument lists, displays -/
@[simp] def aNil (_ : EN) (hp : HP) : R (List D) := .ok [] hp
@[simp] def kCons2 (x : D) (xs : List D) (h : HP) : R (List D) := .ok (x :: xs) h
@[simp] def kCons (r : M (List D)) (env : EN) (x : D) (h : HP) : R (List D) := (r env h).bind (kCons2 x)
@[simp] def aCons (a : M D) (r : M (List D)) (env : EN) (hp : HP) : R (List D) := (a env hp).bind (kCons r env)
theorem AV.nil : AV g X E [] aNil := ⟨_, pa_nil, fun σ H Q m env hp hl er h => h m H [] (.refl _ _) hl (by simp [reps])⟩
theorem AV.cons {e : Expr} {es : List Expr} {f : M D} {fs : M (List D)} (ha : EV g X E e f) (hr : AV g X E es fs) (hs : starEach (e :: es) X.env = (false, eval e X.env) :: starEach es X.env) : AV g X E (e :: es) (aCons f fs) := by
  obtain ⟨ta, pa, qa⟩ := ha
  obtain ⟨tr, pr, qr⟩ := hr
  refine ⟨_, pa_cons pa pr hs, fun σ H Q m env hp hl er h => ?_⟩
  refine qa σ H _ m env hp hl er (PO.bind h fun x h1 m1 H1 v x1 hl1 r1 h => ?_)
  refine qr σ H1 _ m1 env h1 hl1 (er.ext x1) (PO.bind h fun xs h2 m2 H2 vs x2 hl2 r2 h => ?_)
  exact h m2 H2 _ (.refl _ _) hl2 (by simp only [reps]; exact ⟨v, vs, rfl, rep.ext x2 _ _ r1, r2⟩)
/-- a new frozen thing -/
theorem HL.new {m : AM} {H : Hp} {hp : HP} (hl : HL g m H hp) {p : Addr} {o : HO} (np : H p = none) : Ex m H m (upd H p o) ∧ HL g m (upd H p o) hp ∧ some p ∉ m := by
  have hm : ∀ i a, m[i]? = some (some a) → ∃ o, H a = some o := fun i a e => by
    obtain ⟨h, hh⟩ : ∃ o, hp[i]? = some o := by
      have : i < m.length := (List.getElem?_eq_some_iff.mp e).1
      rw [hl.len] at this
      exact ⟨_, List.getElem?_eq_getElem this⟩
    rcases hl.live i h hh with ⟨_, z⟩ | ⟨b, eb, lv⟩
    · rw [e] at z; cases z
    · rw [e] at eb; cases eb
      cases h with
      | lst ds => obtain ⟨vs, h1, _⟩ := lv; exact ⟨_, h1⟩
      | dic ds => obtain ⟨vs, h1, _⟩ := lv; exact ⟨_, h1⟩
      | ins c fs => obtain ⟨dx, vs, h1, _⟩ := lv; exact ⟨_, h1⟩
      | dead => exact lv.elim
  have hn : ∀ a o', H a = some o' → upd H p o a = some o' := fun a o' e => by rw [upd_ne (ne_of_none e np)]; exact e
  have pm : some p ∉ m := fun z => by
    obtain ⟨i, hi, e⟩ := List.getElem_of_mem z
    obtain ⟨o', e'⟩ := hm i p (by rw [List.getElem?_eq_getElem hi, e])
    rw [np] at e'; cases e'
  have x : Ex m H m (upd H p o) := ⟨Nat.le_refl _, fun _ _ h _ => h, fun a o' e k => ⟨hn a o' e, k⟩⟩
  refine ⟨x, ⟨hl.len, hl.nd, fun i h hh => ?_⟩, pm⟩
  rcases hl.live i h hh with z | ⟨b, eb, lv⟩
  · exact .inl z
  · refine .inr ⟨b, eb, ?_⟩
    cases h with
    | lst ds => obtain ⟨vs, h1, r⟩ := lv; exact ⟨vs, hn _ _ h1, reps.ext x _ _ r⟩
    | dic ds => obtain ⟨vs, h1, r⟩ := lv; exact ⟨vs, hn _ _ h1, repk.ext x _ _ r⟩
    | ins c fs => obtain ⟨dx, vs, h1, r⟩ := lv; exact ⟨dx, vs, hn _ _ h1, repf.ext x _ _ r⟩
    | dead => exact lv.elim
/-- a new live thing -/
theorem HL.push {m : AM} {H : Hp} {hp : HP} (hl : HL g m H hp) {p : Addr} {o : HO} {ob : O} (np : H p = none) (hne : ob ≠ .dead) (hlv : Ex m H (m ++ [some p]) (upd H p o) → liveO g (m ++ [some p]) (upd H p o) p ob) :
    Ex m H (m ++ [some p]) (upd H p o) ∧ HL g (m ++ [some p]) (upd H p o) (hp ++ [ob]) := by
  obtain ⟨x0, hl0, pm⟩ := hl.new (o := o) np
  have x : Ex m H (m ++ [some p]) (upd H p o) := by
    refine ⟨by simp, fun n a e l => ?_, fun a o' e k => ⟨(x0.fz a o' e k).1, fun z => ?_⟩⟩
    · rw [List.getElem?_append_left l] at e; exact e
    · rcases List.mem_append.mp z with z | z
      · exact k z
      · have : a = p := by simpa using z
        subst this
        rw [np] at e; cases e
  have x2 : Ex m (upd H p o) (m ++ [some p]) (upd H p o) → True := fun _ => trivial
  refine ⟨x, ⟨by simp [hl.len], fun i j a hi hj => ?_, fun i h hh => ?_⟩⟩
  · have key : ∀ i, (m ++ [some p])[i]? = some (some a) → (i < m.length ∧ m[i]? = some (some a)) ∨ (i = m.length ∧ a = p) := fun i e => by
      by_cases l : i < m.length
      · rw [List.getElem?_append_left l] at e; exact .inl ⟨l, e⟩
      · rw [List.getElem?_append_right (by omega)] at e
        have : i - m.length = 0 := by
          by_cases z : i - m.length = 0
          · exact z
          · rw [List.getElem?_eq_none (by simp; omega)] at e; cases e
        rw [this] at e
        simp at e
        exact .inr ⟨by omega, e.symm⟩
    rcases key i hi with ⟨l, e⟩ | ⟨l, e⟩ <;> rcases key j hj with ⟨l', e'⟩ | ⟨l', e'⟩
    · exact hl.nd i j a e e'
    · subst e'; exact absurd (List.mem_of_getElem? e) pm
    · subst e; exact absurd (List.mem_of_getElem? e') pm
    · omega
  · by_cases l : i < hp.length
    · rw [List.getElem?_append_left l] at hh
      rcases hl.live i h hh with ⟨z, e⟩ | ⟨b, eb, lv⟩
      · exact .inl ⟨z, by rw [List.getElem?_append_left (by rw [hl.len]; exact l)]; exact e⟩
      · refine .inr ⟨b, by rw [List.getElem?_append_left (by rw [hl.len]; exact l)]; exact eb, ?_⟩
        cases h with
        | lst ds => obtain ⟨vs, h1, r⟩ := lv; exact ⟨vs, by rw [upd_ne (ne_of_none h1 np)]; exact h1, reps.ext x _ _ r⟩
        | dic ds => obtain ⟨vs, h1, r⟩ := lv; exact ⟨vs, by rw [upd_ne (ne_of_none h1 np)]; exact h1, repk.ext x _ _ r⟩
        | ins c fs => obtain ⟨dx, vs, h1, r⟩ := lv; exact ⟨dx, vs, by rw [upd_ne (ne_of_none h1 np)]; exact h1, repf.ext x _ _ r⟩
        | dead => exact lv.elim
    · rw [List.getElem?_append_right (by omega)] at hh
      have i0 : i - hp.length = 0 := by
        by_cases z : i - hp.length = 0
        · exact z
        · rw [List.getElem?_eq_none (by simp; omega)] at hh; cases hh
      rw [i0] at hh
      simp at hh
      subst hh
      refine .inr ⟨p, ?_, hlv x⟩
      have : i = m.length := by have := hl.len; omega
      subst this
      rw [List.getElem?_append_right (Nat.le_refl _)]
      simp
@[simp] def kTup (xs : List D) (h : HP) : R D := if xs.length ≤ sizeLine then .ok (.tup xs) h else .stuck
@[simp] def mTup (a : M (List D)) (env : EN) (hp : HP) : R D := (a env hp).bind kTup
theorem EV.tup {es : List Expr} {x1} {pos : Pos} {f : M (List D)} (ha : AV g X E es f) : EV g X E (.Tuple es x1 pos) (mTup f) := by
  obtain ⟨ta, pa, qa⟩ := ha
  refine ⟨_, pe_tup pa, fun σ H Q m env hp hl er h => ?_⟩
  refine qa σ H _ m env hp hl er (PO.bind h fun xs h1 m1 H1 vs x1 hl1 r1 h => ?_)
  unfold kTup at h
  by_cases hz : xs.length ≤ sizeLine
  · rw [if_pos hz] at h
    refine ⟨by rw [← reps.length r1]; exact hz, fun p np => ?_⟩
    obtain ⟨x, hl2, pm⟩ := hl1.new (o := .tup vs) np
    exact h m1 _ _ x hl2 (by simp only [rep]; exact ⟨p, vs, rfl, .inl ⟨.inl upd_same, pm⟩, reps.ext x _ _ r1⟩)
  · rw [if_neg hz] at h; exact h.elim
/-- a list display: frozen, or live -/
@[simp] def newL (live : Bool) (xs : List D) (h : HP) : R D := if xs.length ≤ sizeLine then (if live = true then .ok (.ref h.length) (h ++ [.lst xs]) else .ok (.lst xs) h) else .stuck
theorem PO.newL {live : Bool} {m : AM} {H : Hp} {hp : HP} {xs : List D} {vs : List V} {Q : V → Hp → Prop} (hl : HL g m H hp) (r : reps g m H xs vs) (h : PO g m H E (rep g) Q (Ev.newL live xs hp)) : vs.length ≤ sizeLine ∧ ∀ p, H p = none → Q (.ref p) (upd H p (.lst vs)) := by
  unfold Ev.newL at h
  by_cases hz : xs.length ≤ sizeLine
  · rw [if_pos hz] at h
    refine ⟨by rw [← reps.length r]; exact hz, fun p np => ?_⟩
    cases live with
    | true =>
      rw [if_pos rfl] at h
      obtain ⟨x, hl2⟩ := hl.push (o := .lst vs) (ob := .lst xs) np (by simp) fun x => ⟨vs, upd_same, reps.ext x _ _ r⟩
      refine h _ _ _ x hl2 ?_
      simp only [rep]
      refine ⟨by simp [hl.len], fun a e => ?_⟩
      rw [← hl.len, List.getElem?_append_right (Nat.le_refl _)] at e
      simp at e
      rw [e]
    | false =>
      rw [if_neg Bool.false_ne_true] at h
      obtain ⟨x, hl2, pm⟩ := hl.new (o := .lst vs) np
      exact h m _ _ x hl2 (by simp only [rep]; exact ⟨p, vs, rfl, upd_same, pm, reps.ext x _ _ r⟩)
  · rw [if_neg hz] at h; exact h.elim
@[simp] def mLst (live : Bool) (a : M (List D)) (env : EN) (hp : HP) : R D := (a env hp).bind (newL live)
theorem EV.lst {es : List Expr} {pos : Pos} {f : M (List D)} (live : Bool) (ha : AV g X E es f) : EV g X E (.List es pos) (mLst live f) := by
  obtain ⟨ta, pa, qa⟩ := ha
  refine ⟨_, pe_lst pa, fun σ H Q m env hp hl er h => ?_⟩
  exact qa σ H _ m env hp hl er (PO.bind h fun xs h1 m1 H1 vs x1 hl1 r1 h => PO.newL hl1 r1 h)
end
end Ev
namespace Ev
open PySem PySem.Spec PyProof.Rows L2
section
variable {g : G} {X : Cx} {E : XK}

/-! ### views -/
/-- a list to be read -/
@[simp] def lstO : Option O → Option (List D)
  | some (.lst ds) => some ds
  | _ => none
@[simp] def asL (h : HP) : D → Option (List D)
  | .lst ds => some ds
  | .klst ds => some ds
  | .ref n => lstO h[n]?
  | _ => none
/-- a list that is tracked (not the script, not of the module) -/
@[simp] def asLx (h : HP) : D → Option (List D)
  | .lst ds => some ds
  | .ref n => lstO h[n]?
  | _ => none
@[simp] def asT : D → Option (List D)
  | .tup ds => some ds
  | _ => none
theorem asLx_ok {m : AM} {H : Hp} {hp : HP} {d : D} {v : V} {ds : List D} (hl : HL g m H hp) (r : rep g m H d v) (e : asLx hp d = some ds) : ∃ a vs, v = .ref a ∧ H a = some (.lst vs) ∧ reps g m H ds vs := by
  cases d with
  | lst es =>
    cases e
    simp only [rep] at r
    obtain ⟨a, vs, rfl, f, _, r⟩ := r
    exact ⟨a, vs, rfl, f, r⟩
  | ref n =>
    simp only [asLx] at e
    unfold lstO at e
    split at e
    · rename_i es q
      cases e
      simp only [rep] at r
      obtain ⟨a, ea, vs, ha, rv⟩ := hl.at q (by simp)
      exact ⟨a, vs, r.2 a ea, ha, rv⟩
    · cases e
  | _ => cases e
theorem asL_ok {m : AM} {H : Hp} {hp : HP} {d : D} {v : V} {ds : List D} (hl : HL g m H hp) (r : rep g m H d v) (e : asL hp d = some ds) : ∃ a vs, v = .ref a ∧ SqL g.K H a vs ∧ reps g m H ds vs := by
  cases d with
  | klst es =>
    cases e
    simp only [rep] at r
    obtain ⟨a, vs, rfl, f, r⟩ := r
    exact ⟨a, vs, rfl, f.sq, r⟩
  | lst es =>
    obtain ⟨a, vs, h1, h2, h3⟩ := asLx_ok hl r (ds := ds) e
    exact ⟨a, vs, h1, .of h2, h3⟩
  | ref n =>
    obtain ⟨a, vs, h1, h2, h3⟩ := asLx_ok hl r (ds := ds) e
    exact ⟨a, vs, h1, .of h2, h3⟩
  | _ => cases e
theorem asT_ok {m : AM} {H : Hp} {d : D} {v : V} {ds : List D} (r : rep g m H d v) (e : asT d = some ds) : ∃ a vs, v = .ref a ∧ SqT g.K H a vs ∧ reps g m H ds vs := by
  cases d with
  | tup es =>
    cases e
    simp only [rep] at r
    obtain ⟨a, vs, rfl, f, r⟩ := r
    exact ⟨a, vs, rfl, f.sq, r⟩
  | _ => cases e
theorem reps.get {m : AM} {H : Hp} : ∀ {ds : List D} {vs : List V} {i : Nat} {d : D}, reps g m H ds vs → ds[i]? = some d → ∃ v, vs[i]? = some v ∧ rep g m H d v
  | [], _, _, _, _, e => by simp at e
  | d :: ds, vs, 0, x, h, e => by
    simp only [reps] at h
    obtain ⟨v, r, rfl, h1, h2⟩ := h
    cases e
    exact ⟨v, rfl, h1⟩
  | d :: ds, vs, i + 1, x, h, e => by
    simp only [reps] at h
    obtain ⟨v, r, rfl, h1, h2⟩ := h
    exact reps.get (i := i) h2 e
theorem reps.append {m : AM} {H : Hp} : ∀ {ds es : List D} {vs us : List V}, reps g m H ds vs → reps g m H es us → reps g m H (ds ++ es) (vs ++ us)
  | [], es, vs, us, h, k => by
    simp only [reps] at h
    subst h
    exact k
  | d :: ds, es, vs, us, h, k => by
    simp only [reps] at h
    obtain ⟨v, r, rfl, h1, h2⟩ := h
    simp only [List.cons_append, reps]
    exact ⟨v, r ++ us, rfl, h1, reps.append h2 k⟩
theorem reps.take {m : AM} {H : Hp} : ∀ {ds : List D} {vs : List V} (n : Nat), reps g m H ds vs → reps g m H (ds.take n) (vs.take n)
  | _, _, 0, _ => by simp [reps]
  | [], vs, n + 1, h => by simp only [reps] at h; subst h; simp [reps]
  | d :: ds, vs, n + 1, h => by
    simp only [reps] at h
    obtain ⟨v, r, rfl, h1, h2⟩ := h
    simp only [List.take_succ_cons, reps]
    exact ⟨v, _, rfl, h1, reps.take n h2⟩
theorem reps.drop {m : AM} {H : Hp} : ∀ {ds : List D} {vs : List V} (n : Nat), reps g m H ds vs → reps g m H (ds.drop n) (vs.drop n)
  | _, _, 0, h => h
  | [], vs, n + 1, h => by simp only [reps] at h; subst h; simp [reps]
  | d :: ds, vs, n + 1, h => by
    simp only [reps] at h
    obtain ⟨v, r, rfl, h1, h2⟩ := h
    simp only [List.drop_succ_cons]
    exact reps.drop n h2
theorem reps.mem {m : AM} {H : Hp} {ds : List D} {vs : List V} (h : reps g m H ds vs) (p : V → Bool) (q : D → Bool) (hq : ∀ d v, rep g m H d v → q d = true → p v = true) (hd : ds.all q = true) : vs.all p = true := by
  induction ds generalizing vs with
  | nil => simp only [reps] at h; subst h; rfl
  | cons d ds ih =>
    simp only [reps] at h
    obtain ⟨v, r, rfl, h1, h2⟩ := h
    simp only [List.all_cons, Bool.and_eq_true] at hd ⊢
    exact ⟨hq d v h1 hd.1, ih h2 hd.2⟩

/-! ### operations -/
theorem OKS.mk {h : Value → Value → Sem Value} {f : F2} {r : R2} (hr : OpR X h r) (ho : OK2 g E r f) : OKS X g E h f := ⟨r, hr, ho⟩
/-- two rules joined -/
theorem OKS.two {h : Value → Value → Sem Value} {f : F2} {r r' : R2} (hr : OpR X h r) (hr' : OpR X h r') (ho : OK2 g E (fun x y H Q => r x y H Q ∨ r' x y H Q) f) : OKS X g E h f := ⟨_, hr.or hr', ho⟩
theorem rInt {m : AM} {H : Hp} {i : Int} {v : V} (r : rep g m H (.int i) v) : v = .int i := by simpa [rep] using r
theorem rStr {m : AM} {H : Hp} {i : Str} {v : V} (r : rep g m H (.str i) v) : v = .str i := by simpa [rep] using r
theorem rBl {m : AM} {H : Hp} {i : Bool} {v : V} (r : rep g m H (.bl i) v) : v = .bl i := by simpa [rep] using r
theorem PO.here {m : AM} {H : Hp} {hp : HP} {d : D} {v : V} {Q : V → Hp → Prop} (hl : HL g m H hp) (h : PO g m H E (rep g) Q (.ok d hp)) (r : rep g m H d v) : Q v H := h m H v (.refl _ _) hl r

@[simp] def fSub : D → D → HP → R D
  | .int i, .int j, h => .ok (.int (i - j)) h
  | _, _, _ => .stuck
theorem ok_sub : OKS X g E (binaryOp .Sub) fSub := .mk op_sub fun m H hp x y v u Q hl rx ry h => by
  unfold fSub at h
  split at h
  · exact ⟨_, _, rInt rx, rInt ry, PO.here hl h (by simp [rep])⟩
  · exact h.elim
/-- * of two factors of together less than a hundred million bits -/
def CMulE (i j : Int) : Prop := i.natAbs.log2 + j.natAbs.log2 < 100000000
instance (i j : Int) : Decidable (CMulE i j) := by unfold CMulE; exact inferInstance
theorem CMulE.ok {i j : Int} (h : CMulE i j) : IntMulOk i j := by
  have b : ∀ x : Int, Builtin.Int.intBits x ≤ x.natAbs.log2 + 1 := fun x => by
    unfold Builtin.Int.intBits
    split <;> omega
  have h1 := b i
  have h2 := b j
  have h3 : i.natAbs.log2 + j.natAbs.log2 < 100000000 := h
  have e : bitsLine = 134217728 := by decide
  unfold IntMulOk
  intro z
  rw [Bool.and_eq_true] at z
  have z2 := z.2
  unfold Builtin.Int.intTooBig at z2
  have z3 := of_decide_eq_true z2
  rw [e] at z3
  omega
theorem op_mulX : OpR X (binaryOp .Mult) (rI CMulE fun i j => .int (i * j)) := opI fun _ _ _ _ _ _ _ hc q => mul_int q hc.ok
@[simp] def fMul : D → D → HP → R D
  | .int i, .int j, h => if CMulE i j then .ok (.int (i * j)) h else .stuck
  | _, _, _ => .stuck
theorem ok_mul : OKS X g E (binaryOp .Mult) fMul := .mk op_mulX fun m H hp x y v u Q hl rx ry h => by
  unfold fMul at h
  split at h
  · split at h
    · rename_i c
      exact ⟨_, _, rInt rx, rInt ry, c, PO.here hl h (by simp [rep])⟩
    · exact h.elim
  · exact h.elim
@[simp] def fDiv : D → D → HP → R D
  | .int i, .int j, h => if 0 < j ∧ j.natAbs.log2 < 9000 then .ok (.int (i / j)) h else .stuck
  | _, _, _ => .stuck
theorem ok_div : OKS X g E (binaryOp .FloorDiv) fDiv := .mk op_fdivW fun m H hp x y v u Q hl rx ry h => by
  unfold fDiv at h
  split at h
  · split at h
    · rename_i c
      exact ⟨_, _, rInt rx, rInt ry, c, PO.here hl h (by simp [rep])⟩
    · exact h.elim
  · exact h.elim
@[simp] def fMod : D → D → HP → R D
  | .int i, .int j, h => if 0 < j then .ok (.int (i % j)) h else .stuck
  | _, _, _ => .stuck
theorem ok_mod : OKS X g E (binaryOp .Mod) fMod := .mk op_mod fun m H hp x y v u Q hl rx ry h => by
  unfold fMod at h
  split at h
  · split at h
    · rename_i c
      exact ⟨_, _, rInt rx, rInt ry, c, PO.here hl h (by simp [rep])⟩
    · exact h.elim
  · exact h.elim
def CPowW (i j : Int) : Prop := 0 ≤ j ∧ (Builtin.Int.intBits i : Int) * j ≤ 2 ^ 27
instance (i j : Int) : Decidable (CPowW i j) := by unfold CPowW; exact inferInstance
theorem op_powW : OpR X (binaryOp .Pow) (rI CPowW fun i j => .int (i ^ j.toNat)) := opI fun _ _ _ _ _ _ _ hc q => pow_int hc.1 hc.2 q
@[simp] def fPow : D → D → HP → R D
  | .int i, .int j, h => if CPowW i j then .ok (.int (i ^ j.toNat)) h else .stuck
  | _, _, _ => .stuck
theorem ok_pow : OKS X g E (binaryOp .Pow) fPow := .mk op_powW fun m H hp x y v u Q hl rx ry h => by
  unfold fPow at h
  split at h
  · split at h
    · rename_i c
      exact ⟨_, _, rInt rx, rInt ry, c, PO.here hl h (by simp [rep])⟩
    · exact h.elim
  · exact h.elim
@[simp] def fShl : D → D → HP → R D
  | .int i, .int j, h => if 0 ≤ j ∧ j ≤ 1000000 ∧ i.natAbs < 2 ^ 64 then .ok (.int (i * 2 ^ j.toNat)) h else .stuck
  | _, _, _ => .stuck
theorem ok_shl : OKS X g E (binaryOp .LShift) fShl := .mk op_shl fun m H hp x y v u Q hl rx ry h => by
  unfold fShl at h
  split at h
  · split at h
    · rename_i c
      exact ⟨_, _, rInt rx, rInt ry, c, PO.here hl h (by simp [rep])⟩
    · exact h.elim
  · exact h.elim
@[simp] def catL : Option (List D) → Option (List D) → HP → R D
  | some xs, some ys, h => if xs.length + ys.length ≤ sizeLine then .ok (.lst (xs ++ ys)) h else .stuck
  | _, _, _ => .stuck
@[simp] def fAdd : D → D → HP → R D
  | .int i, .int j, h => .ok (.int (i + j)) h
  | .str i, .str j, h => if i.length + j.length ≤ sizeLine then .ok (.str (i ++ j)) h else .stuck
  | .tup xs, .tup ys, h => if xs.length + ys.length ≤ sizeLine then .ok (.tup (xs ++ ys)) h else .stuck
  | x, y, h => catL (asLx h x) (asLx h y) h
theorem reps.nil_iff {m : AM} {H : Hp} {ds : List D} {vs : List V} (r : reps g m H ds vs) : ds = [] ↔ vs = [] := by
  have h := reps.length r
  constructor
  · intro e; subst e; exact List.length_eq_zero_iff.mp h.symm
  · intro e; subst e; exact List.length_eq_zero_iff.mp h
theorem rTup {m : AM} {H : Hp} {ds : List D} {v : V} (r : rep g m H (.tup ds) v) : ∃ a vs, v = .ref a ∧ SqT g.K H a vs ∧ reps g m H ds vs := asT_ok (g := g) r rfl
theorem PO.newT {m : AM} {H : Hp} {hp : HP} {xs : List D} {vs : List V} {Q : V → Hp → Prop} (hl : HL g m H hp) (r : reps g m H xs vs) (h : PO g m H E (rep g) Q (.ok (.tup xs) hp)) : ∀ p, H p = none → Q (.ref p) (upd H p (.tup vs)) := fun p np => by
  obtain ⟨x, hl2, pm⟩ := hl.new (o := .tup vs) np
  exact h m _ _ x hl2 (by simp only [rep]; exact ⟨p, vs, rfl, .inl ⟨.inl upd_same, pm⟩, reps.ext x _ _ r⟩)
theorem PO.newF {m : AM} {H : Hp} {hp : HP} {xs : List D} {vs : List V} {Q : V → Hp → Prop} (hl : HL g m H hp) (r : reps g m H xs vs) (h : PO g m H E (rep g) Q (.ok (.lst xs) hp)) : ∀ p, H p = none → Q (.ref p) (upd H p (.lst vs)) := fun p np => by
  obtain ⟨x, hl2, pm⟩ := hl.new (o := .lst vs) np
  exact h m _ _ x hl2 (by simp only [rep]; exact ⟨p, vs, rfl, upd_same, pm, reps.ext x _ _ r⟩)
theorem ok_add (hK : X.K = g.K) : OKS X g E (binaryOp .Add) fAdd := by
  refine ⟨_, op_add.or (op_add_str.or (op_catA.or op_cat)), fun m H hp x y v u Q hl rx ry h => ?_⟩
  rw [hK]
  unfold fAdd at h
  split at h
  · exact .inl ⟨_, _, rInt rx, rInt ry, PO.here hl h (by simp [rep])⟩
  · split at h
    · rename_i c
      exact .inr (.inl ⟨_, _, rStr rx, rStr ry, c, PO.here hl h (by simp [rep])⟩)
    · exact h.elim
  · split at h
    · rename_i xs ys c
      obtain ⟨a, vs, rfl, fa, ra⟩ := rTup rx
      obtain ⟨b, us, rfl, fb, rb⟩ := rTup ry
      refine .inr (.inr (.inl ⟨a, b, vs, us, rfl, rfl, fa, fb, by rw [← reps.length ra, ← reps.length rb]; exact c, fun z => ?_, fun _ z => ?_, fun _ _ p np => ?_⟩))
      · have e := (reps.nil_iff ra).mpr z
        subst e
        exact PO.here hl h ry
      · have e := (reps.nil_iff rb).mpr z
        subst e
        rw [List.append_nil] at h
        exact PO.here hl h rx
      · exact PO.newT hl (reps.append ra rb) h p np
    · exact h.elim
  · unfold catL at h
    split at h
    · rename_i xs ys ex ey
      split at h
      · rename_i c
        obtain ⟨a, vs, rfl, fa, ra⟩ := asLx_ok hl rx ex
        obtain ⟨b, us, rfl, fb, rb⟩ := asLx_ok hl ry ey
        exact .inr (.inr (.inr ⟨a, b, vs, us, rfl, rfl, fa, fb, by rw [← reps.length ra, ← reps.length rb]; exact c, PO.newF hl (reps.append ra rb) h⟩))
      · exact h.elim
    · exact h.elim

/-! ### comparisons -/
@[simp] def fCmp (p : Int → Int → Bool) : D → D → HP → R D
  | .int i, .int j, h => .ok (.bl (p i j)) h
  | _, _, _ => .stuck
theorem ok_cmpI {o : CmpOp} {p : Int → Int → Bool} (hr : OpR X (compareOp o) (rI0 fun i j => .bl (p i j))) : OKS X g E (compareOp o) (fCmp p) := .mk hr fun m H hp x y v u Q hl rx ry h => by
  unfold fCmp at h
  split at h
  · exact ⟨_, _, rInt rx, rInt ry, PO.here hl h (by simp [rep])⟩
  · exact h.elim
@[simp] abbrev fLt : F2 := fCmp fun i j => decide (i < j)
@[simp] abbrev fLe : F2 := fCmp fun i j => decide (i ≤ j)
@[simp] abbrev fGt : F2 := fCmp fun i j => decide (j < i)
@[simp] abbrev fGe : F2 := fCmp fun i j => decide (j ≤ i)
theorem ok_lt : OKS X g E (compareOp .Lt) fLt := ok_cmpI op_lt
theorem ok_le : OKS X g E (compareOp .LtE) fLe := ok_cmpI op_le
theorem ok_gt : OKS X g E (compareOp .Gt) fGt := ok_cmpI op_gt
theorem ok_ge : OKS X g E (compareOp .GtE) fGe := ok_cmpI op_ge
/-! == of data -/
mutual
@[simp] def toP : D → Option PyData
  | .non => some .none
  | .bl b => some (.bool b)
  | .int i => some (.int i)
  | .str x => some (.str x)
  | .tup ds => (toPs ds).map PyData.tuple
  | .lst ds => (toPs ds).map PyData.list
  | .klst ds => (toPs ds).map PyData.list
  | _ => none
@[simp] def toPs : List D → Option (List PyData)
  | [] => some []
  | d :: ds => match toP d, toPs ds with
    | some p, some ps => some (p :: ps)
    | _, _ => none
end
@[simp] def toPO : Option O → Option PyData
  | some (.lst ds) => (toPs ds).map PyData.list
  | _ => none
@[simp] def toPh (h : HP) : D → Option PyData
  | .ref n => toPO h[n]?
  | d => toP d
mutual
theorem toP_ok {m : AM} {H : Hp} : ∀ (d : D) (v : V) (p : PyData), rep g m H d v → toP d = some p → Dp g.K H v p
  | .non, v, p, r, e => by cases e; simp only [rep] at r; subst r; exact .non
  | .bl b, v, p, r, e => by cases e; simp only [rep] at r; subst r; exact .bl b
  | .int b, v, p, r, e => by cases e; simp only [rep] at r; subst r; exact .int b
  | .str b, v, p, r, e => by cases e; simp only [rep] at r; subst r; exact .str b
  | .tup ds, v, p, r, e => by
    simp only [rep] at r
    obtain ⟨a, vs, rfl, f, r⟩ := r
    simp only [toP] at e
    obtain ⟨ps, e1, rfl⟩ := Option.map_eq_some_iff.mp e
    exact .tup f.sq (toPs_ok ds vs ps r e1)
  | .lst ds, v, p, r, e => by
    simp only [rep] at r
    obtain ⟨a, vs, rfl, f, _, r⟩ := r
    simp only [toP] at e
    obtain ⟨ps, e1, rfl⟩ := Option.map_eq_some_iff.mp e
    exact .lst (.of f) (toPs_ok ds vs ps r e1)
  | .klst ds, v, p, r, e => by
    simp only [rep] at r
    obtain ⟨a, vs, rfl, f, r⟩ := r
    simp only [toP] at e
    obtain ⟨ps, e1, rfl⟩ := Option.map_eq_some_iff.mp e
    exact .lst f.sq (toPs_ok ds vs ps r e1)
  | .dic _, v, p, r, e => by simp [toP] at e
  | .ins _ _, v, p, r, e => by simp [toP] at e
  | .ref _, v, p, r, e => by simp [toP] at e
theorem toPs_ok {m : AM} {H : Hp} : ∀ (ds : List D) (vs : List V) (ps : List PyData), reps g m H ds vs → toPs ds = some ps → DpAll g.K H vs ps
  | [], vs, ps, r, e => by simp only [reps] at r; subst r; simp only [toPs] at e; cases e; exact .nil
  | d :: ds, vs, ps, r, e => by
    simp only [reps] at r
    obtain ⟨v, r', rfl, h1, h2⟩ := r
    simp only [toPs] at e
    split at e
    · rename_i p qs e1 e2
      cases e
      exact .cons (toP_ok d v p h1 e1) (toPs_ok ds r' qs h2 e2)
    · cases e
end
theorem toPh_ok {m : AM} {H : Hp} {hp : HP} {d : D} {v : V} {p : PyData} (hl : HL g m H hp) (r : rep g m H d v) (e : toPh hp d = some p) : Dp g.K H v p := by
  cases d with
  | ref n =>
    simp only [toPh] at e
    unfold toPO at e
    split at e
    · rename_i ds q
      obtain ⟨ps, e1, rfl⟩ := Option.map_eq_some_iff.mp e
      simp only [rep] at r
      obtain ⟨a, ea, vs, ha, rv⟩ := hl.at q (by simp)
      rw [r.2 a ea]
      exact .lst (.of ha) (toPs_ok ds vs ps rv e1)
    · cases e
  | _ => exact toP_ok _ _ _ r e
@[simp] def eqP : Option PyData → Option PyData → HP → R D
  | some p, some q, h => if SeqAt.shaped p = true ∧ SeqAt.shaped q = true then .ok (.bl (PyData.eqv p q)) h else .stuck
  | _, _, _ => .stuck
@[simp] def neP : Option PyData → Option PyData → HP → R D
  | some p, some q, h => if SeqAt.shaped p = true ∧ SeqAt.shaped q = true then .ok (.bl (!PyData.eqv p q)) h else .stuck
  | _, _, _ => .stuck
@[simp] def fEq (x y : D) (h : HP) : R D := eqP (toPh h x) (toPh h y) h
@[simp] def fNe (x y : D) (h : HP) : R D := neP (toPh h x) (toPh h y) h
theorem ok_eq (hK : X.K = g.K) (hu : X.A.units + 64 < cLine) : OKS X g E (compareOp .Eq) fEq := .mk (op_eqD hu) fun m H hp x y v u Q hl rx ry h => by
  rw [hK]
  unfold fEq eqP at h
  split at h
  · rename_i p q e1 e2
    split at h
    · rename_i c
      exact ⟨p, q, toPh_ok hl rx e1, toPh_ok hl ry e2, c.1, c.2, PO.here hl h (by simp [rep])⟩
    · exact h.elim
  · exact h.elim
theorem ok_ne (hK : X.K = g.K) (hu : X.A.units + 64 < cLine) : OKS X g E (compareOp .NotEq) fNe := .mk (op_neD hu) fun m H hp x y v u Q hl rx ry h => by
  rw [hK]
  unfold fNe neP at h
  split at h
  · rename_i p q e1 e2
    split at h
    · rename_i c
      exact ⟨p, q, toPh_ok hl rx e1, toPh_ok hl ry e2, c.1, c.2, PO.here hl h (by simp [rep])⟩
    · exact h.elim
  · exact h.elim
@[simp] def isNon : D → Bool
  | .non => true
  | _ => false
theorem isNon_ok {m : AM} {H : Hp} {d : D} {v : V} (hd : ∀ n, d ≠ .ref n) (r : rep g m H d v) : decide (v = V.non) = isNon d := by
  cases d with
  | non => simp only [rep] at r; subst r; rfl
  | bl b => simp only [rep] at r; subst r; rfl
  | int b => simp only [rep] at r; subst r; rfl
  | str b => simp only [rep] at r; subst r; rfl
  | tup ds => simp only [rep] at r; obtain ⟨a, vs, rfl, _⟩ := r; rfl
  | lst ds => simp only [rep] at r; obtain ⟨a, vs, rfl, _⟩ := r; rfl
  | klst ds => simp only [rep] at r; obtain ⟨a, vs, rfl, _⟩ := r; rfl
  | dic ds => simp only [rep] at r; obtain ⟨a, vs, rfl, _⟩ := r; rfl
  | ins c fs => simp only [rep] at r; obtain ⟨a, dx, vs, rfl, _⟩ := r; rfl
  | ref n => exact absurd rfl (hd n)
/-- a live object is there -/
@[simp] def aliveO : Option O → Bool
  | some .dead => false
  | some _ => true
  | none => false
@[simp] def alive (h : HP) (n : Nat) : Bool := aliveO h[n]?
theorem alive_ok {m : AM} {H : Hp} {hp : HP} {n : Nat} {v : V} (hl : HL g m H hp) (r : rep g m H (.ref n) v) (e : alive hp n = true) : ∃ a, v = .ref a := by
  simp only [rep] at r
  unfold alive aliveO at e
  split at e
  · cases e
  · rename_i o hn q
    obtain ⟨a, ea, _⟩ := hl.at q hn
    exact ⟨a, r.2 a ea⟩
  · cases e
@[simp] def fIsN : D → D → HP → R D
  | .ref n, .non, h => if alive h n = true then .ok (.bl false) h else .stuck
  | x, .non, h => .ok (.bl (isNon x)) h
  | _, _, _ => .stuck
@[simp] def fNotN : D → D → HP → R D
  | .ref n, .non, h => if alive h n = true then .ok (.bl true) h else .stuck
  | x, .non, h => .ok (.bl (!isNon x)) h
  | _, _, _ => .stuck
theorem ok_isN : OKS X g E (compareOp .Is) fIsN := .mk op_isN fun m H hp x y v u Q hl rx ry h => by
  unfold fIsN at h
  split at h
  · refine ⟨by simpa [rep] using ry, ?_⟩
    split at h
    · rename_i n c
      obtain ⟨a, rfl⟩ := alive_ok hl rx c
      exact PO.here hl h (by simp [rep])
    · exact h.elim
  · rename_i hx
    refine ⟨by simpa [rep] using ry, ?_⟩
    rw [isNon_ok (fun n e => hx n e) rx]
    exact PO.here hl h (by simp [rep])
  · exact h.elim
theorem ok_notN : OKS X g E (compareOp .IsNot) fNotN := .mk op_notN fun m H hp x y v u Q hl rx ry h => by
  unfold fNotN at h
  split at h
  · refine ⟨by simpa [rep] using ry, ?_⟩
    split at h
    · rename_i n c
      obtain ⟨a, rfl⟩ := alive_ok hl rx c
      exact PO.here hl h (by simp [rep])
    · exact h.elim
  · rename_i hx
    refine ⟨by simpa [rep] using ry, ?_⟩
    rw [isNon_ok (fun n e => hx n e) rx]
    exact PO.here hl h (by simp [rep])
  · exact h.elim
/-! in -/
@[simp] def flatD : D → Bool
  | .non => true
  | .bl _ => true
  | .int _ => true
  | .str _ => true
  | _ => false
def eqD : D → D → Bool
  | .non, .non => true
  | .bl a, .bl b => a == b
  | .bl a, .int b => (if a then 1 else 0) == b
  | .int a, .bl b => a == (if b then 1 else 0)
  | .int a, .int b => a == b
  | .str a, .str b => a == b
  | _, _ => false
theorem flatD_ok {m : AM} {H : Hp} : ∀ (d : D) (v : V), rep g m H d v → flatD d = true → flatV v = true := fun d v r e => by
  cases d <;> first | (simp only [rep] at r; subst r; rfl) | cases e
theorem eqD_ok {m : AM} {H : Hp} {d e : D} {v u : V} (r : rep g m H d v) (q : rep g m H e u) (hd : flatD d = true) (he : flatD e = true) : eqV v u = eqD d e := by
  cases d <;> cases e <;> first | exact absurd hd Bool.false_ne_true | exact absurd he Bool.false_ne_true | (simp only [rep] at r q; subst r; subst q; rfl)
theorem inD_ok {m : AM} {H : Hp} {x : D} {v : V} (r : rep g m H x v) (fx : flatD x = true) : ∀ {ds : List D} {vs : List V}, reps g m H ds vs → ds.all flatD = true → inV v vs = ds.any fun y => eqD y x
  | [], vs, h, _ => by simp only [reps] at h; subst h; rfl
  | d :: ds, vs, h, f => by
    simp only [reps] at h
    obtain ⟨w, r', rfl, h1, h2⟩ := h
    simp only [List.all_cons, Bool.and_eq_true] at f
    have ih := inD_ok r fx h2 f.2
    unfold inV at ih ⊢
    rw [List.any_cons, List.any_cons, ih, eqD_ok h1 r f.1 fx]
@[simp] def seqD (h : HP) : D → Option (List D)
  | .tup ds => some ds
  | d => asL h d
@[simp] def inO (neg : Bool) (x : D) : Option (List D) → HP → R D
  | some ds, h => if flatD x = true ∧ ds.all flatD = true then .ok (.bl (if neg then !(ds.any fun y => eqD y x) else ds.any fun y => eqD y x)) h else .stuck
  | none, _ => .stuck
@[simp] def fIn (neg : Bool) : D → D → HP → R D
  | .str i, .str j, h => .ok (.bl (if neg then !(!(Builtin.Str.occurrences j i 0 j.length 1).isEmpty) else !(Builtin.Str.occurrences j i 0 j.length 1).isEmpty)) h
  | x, y, h => inO neg x (seqD h y) h
theorem seqD_ok {m : AM} {H : Hp} {hp : HP} {d : D} {v : V} {ds : List D} (hl : HL g m H hp) (r : rep g m H d v) (e : seqD hp d = some ds) : ∃ a vs, v = .ref a ∧ (SqL g.K H a vs ∨ SqT g.K H a vs) ∧ reps g m H ds vs := by
  unfold seqD at e
  split at e
  · cases e
    obtain ⟨a, vs, h1, h2, h3⟩ := asT_ok r rfl
    exact ⟨a, vs, h1, .inr h2, h3⟩
  · obtain ⟨a, vs, h1, h2, h3⟩ := asL_ok hl r e
    exact ⟨a, vs, h1, .inl h2, h3⟩
theorem fIn_ok {m : AM} {H : Hp} {hp : HP} {neg : Bool} {x y : D} {v u : V} {Q : V → Hp → Prop} (hl : HL g m H hp) (rx : rep g m H x v) (ry : rep g m H y u) (h : PO g m H E (rep g) Q (fIn neg x y hp)) :
    (∃ i j, v = .str i ∧ u = .str j ∧ Q (.bl (if neg then !(!(Builtin.Str.occurrences j i 0 j.length 1).isEmpty) else !(Builtin.Str.occurrences j i 0 j.length 1).isEmpty)) H) ∨ rIn g.K neg v u H Q := by
  unfold fIn at h
  split at h
  · exact .inl ⟨_, _, rStr rx, rStr ry, PO.here hl h (by simp [rep])⟩
  · unfold inO at h
    split at h
    · rename_i ds e
      split at h
      · rename_i c
        obtain ⟨a, vs, rfl, hs, rs⟩ := seqD_ok hl ry e
        refine .inr ⟨a, vs, rfl, hs, flatD_ok _ _ rx c.1, reps.mem rs _ _ (fun d v => flatD_ok d v) c.2, ?_⟩
        rw [inD_ok rx c.1 rs c.2]
        exact PO.here hl h (by simp [rep])
      · exact h.elim
    · exact h.elim
theorem ok_in (hK : X.K = g.K) : OKS X g E (compareOp .In) (fIn false) := by
  refine ⟨_, op_in_str.or op_in_seq, fun m H hp x y v u Q hl rx ry h => ?_⟩
  rw [hK]
  exact fIn_ok hl rx ry h
theorem ok_notin (hK : X.K = g.K) : OKS X g E (compareOp .NotIn) (fIn true) := by
  refine ⟨_, op_notIn_str.or op_notIn_seq, fun m H hp x y v u Q hl rx ry h => ?_⟩
  rw [hK]
  exact fIn_ok hl rx ry h
/-! ### one value -/
@[simp] def kNeg : D → HP → R D
  | .int i, h => .ok (.int (-i)) h
  | _, _ => .stuck
@[simp] def mNeg (a : M D) (env : EN) (hp : HP) : R D := (a env hp).bind kNeg
theorem EV.neg {a : Expr} {pos : Pos} {fa : M D} (ha : EV g X E a fa) : EV g X E (.UnaryOp .USub a pos) (mNeg fa) := by
  obtain ⟨ta, pa, qa⟩ := ha
  refine ⟨_, pe_un un_neg pa, fun σ H Q m env hp hl er h => ?_⟩
  refine qa σ H _ m env hp hl er (PO.bind h fun x h1 m1 H1 v x1 hl1 r1 h => ?_)
  cases x with
  | int i => exact ⟨i, rInt r1, PO.here hl1 h (by simp [rep])⟩
  | _ => exact h.elim
/-! ### subscripts -/
@[simp] def okO : Option D → HP → R D
  | some d, h => .ok d h
  | none, _ => .stuck
@[simp] def ixS : Option Nat → HP → R D
  | some c, h => .ok (.str ⟨#[c]⟩) h
  | none, _ => .stuck
@[simp] def ixL (i : Int) : Option (List D) → HP → R D
  | some ds, h => okO (atI ds i) h
  | none, _ => .stuck
@[simp] def fIx : D → D → HP → R D
  | .str z, .int i, h => if z.length ≤ sizeLine then ixS (atI z.cps.toList i) h else .stuck
  | x, .int i, h => ixL i (seqD h x) h
  | _, _, _ => .stuck
theorem reps.atI {m : AM} {H : Hp} {ds : List D} {vs : List V} {i : Int} {d : D} (r : reps g m H ds vs) (e : L2.atI ds i = some d) : ∃ v, L2.atI vs i = some v ∧ rep g m H d v := by
  unfold L2.atI at e ⊢
  rw [← reps.length r]
  cases q : ixN ds.length i with
  | none => rw [q] at e; cases e
  | some j =>
    rw [q] at e
    exact reps.get r e
theorem EV.ix {a b : Expr} {pos : Pos} {fa fb : M D} (hK : X.K = g.K) (ha : EV g X E a fa) (hb : EV g X E b fb) (hs : PlainIx b) : EV g X E (.Subscript a b pos) (mBin fIx fa fb) := by
  obtain ⟨ta, pa, qa⟩ := ha
  obtain ⟨tb, pb, qb⟩ := hb
  refine ⟨_, pe_ix ix_seq pa pb hs, fun σ H Q m env hp hl er h => ?_⟩
  refine qa σ H _ m env hp hl er (PO.bind h fun x h1 m1 H1 v x1 hl1 r1 h => ?_)
  refine qb σ H1 _ m1 env h1 hl1 (er.ext x1) (PO.bind h fun y h2 m2 H2 u x2 hl2 r2 h => ?_)
  have r1 := rep.ext x2 _ _ r1
  rw [hK]
  unfold fIx at h
  split at h
  · split at h
    · rename_i c
      unfold ixS at h
      split at h
      · rename_i k e
        exact .inr (.inr ⟨_, _, k, rStr r1, rInt r2, c, e, PO.here hl2 h (by simp [rep])⟩)
      · exact h.elim
    · exact h.elim
  · unfold ixL at h
    split at h
    · rename_i ds e
      unfold okO at h
      split at h
      · rename_i d ed
        obtain ⟨p, vs, rfl, hs, rs⟩ := seqD_ok hl2 r1 e
        obtain ⟨w, ew, rw'⟩ := rs.atI ed
        rcases hs with hs | hs
        · exact .inl ⟨p, vs, _, w, rfl, rInt r2, hs, ew, PO.here hl2 h rw'⟩
        · exact .inr (.inl ⟨p, vs, _, w, rfl, rInt r2, hs, ew, PO.here hl2 h rw'⟩)
      · exact h.elim
    · exact h.elim
  · exact h.elim
/-- a part of a slice: left out, or an int -/
structure PV (g : G) (X : Cx) (E : XK) (e : Option Expr) (f : M (Option Int)) : Prop where
  ex : ∃ t, L2.PO X e t ∧ ∀ σ H Q m env hp, HL g m H hp → ER g m H σ env → PO g m H E (fun _ _ a b => a = b) Q (f env hp) → t σ H Q
@[simp] def pNo (_ : EN) (hp : HP) : R (Option Int) := .ok none hp
@[simp] def kYes : D → HP → R (Option Int)
  | .int i, h => .ok (some i) h
  | _, _ => .stuck
@[simp] def pYes (a : M D) (env : EN) (hp : HP) : R (Option Int) := (a env hp).bind kYes
theorem PV.no : PV g X E none pNo := ⟨_, po_none, fun σ H Q m env hp hl er h => h m H none (.refl _ _) hl rfl⟩
theorem PV.yes {e : Expr} {f : M D} (he : EV g X E e f) : PV g X E (some e) (pYes f) := by
  obtain ⟨t, p, q⟩ := he
  refine ⟨_, po_some p, fun σ H Q m env hp hl er h => ?_⟩
  refine q σ H _ m env hp hl er (PO.bind h fun x h1 m1 H1 v x1 hl1 r1 h => ?_)
  cases x with
  | int i => exact ⟨i, rInt r1, h m1 H1 (some i) (.refl _ _) hl1 rfl⟩
  | _ => exact h.elim
def cutD (xs : List D) (lo hi : Option Int) : List D := (xs.drop (HT.sIx xs.length 0 lo)).take (HT.sIx xs.length xs.length hi - HT.sIx xs.length 0 lo)
theorem cutD_all {xs : List D} {lo hi : Option Int} (c : HT.sIx xs.length 0 lo = 0 ∧ HT.sIx xs.length xs.length hi = xs.length) : cutD xs lo hi = xs := by
  unfold cutD
  rw [c.1, c.2]
  simp
theorem reps.cut {m : AM} {H : Hp} {ds : List D} {vs : List V} {lo hi : Option Int} (r : reps g m H ds vs) : reps g m H (cutD ds lo hi) (cutV vs lo hi) := by
  unfold cutD cutV
  rw [← reps.length r]
  exact (r.drop _).take _
@[simp] def slL (lo hi : Option Int) : Option (List D) → HP → R D
  | some ds, h => .ok (.lst (cutD ds lo hi)) h
  | none, _ => .stuck
@[simp] def fSl : D → Option Int → Option Int → HP → R D
  | .str z, lo, hi, h => if z.length ≤ sizeLine then .ok (.str (cutS z lo hi)) h else .stuck
  | .tup ds, lo, hi, h => .ok (.tup (cutD ds lo hi)) h
  | x, lo, hi, h => slL lo hi (asL h x) h
@[simp] def kSl2 (hi : M (Option Int)) (env : EN) (x : D) (l : Option Int) (h : HP) : R D := (hi env h).bind (fSl x l)
@[simp] def kSl1 (lo hi : M (Option Int)) (env : EN) (x : D) (h : HP) : R D := (lo env h).bind (kSl2 hi env x)
@[simp] def mSl (a : M D) (lo hi : M (Option Int)) (env : EN) (hp : HP) : R D := (a env hp).bind (kSl1 lo hi env)
theorem EV.sl {e : Expr} {lo hi : Option Expr} {p2 pos : Pos} {f : M D} {fl fh : M (Option Int)} (hK : X.K = g.K) (he : EV g X E e f) (hl : PV g X E lo fl) (hh : PV g X E hi fh) : EV g X E (.Subscript e (.Slice lo hi none p2) pos) (mSl f fl fh) := by
  obtain ⟨t, p, q⟩ := he
  obtain ⟨tl, pl, ql⟩ := hl
  obtain ⟨th, ph, qh⟩ := hh
  refine ⟨_, pe_slice (sl_tupA.or (sl_list.or sl_str)) p pl ph, fun σ H Q m env hp hl er h => ?_⟩
  refine q σ H _ m env hp hl er (PO.bind h fun x h1 m1 H1 v x1 hl1 r1 h => ?_)
  refine ql σ H1 _ m1 env h1 hl1 (er.ext x1) (PO.bind h fun y h2 m2 H2 u x2 hl2 r2 h => ?_)
  refine qh σ H2 _ m2 env h2 hl2 ((er.ext x1).ext x2) (PO.bind h fun z h3 m3 H3 w x3 hl3 r3 h => ?_)
  subst r2
  subst r3
  have r1 := rep.ext (x2.trans x3) _ _ r1
  rw [hK]
  unfold fSl at h
  split at h
  · rename_i s
    split at h
    · rename_i c
      exact .inr (.inr ⟨_, rStr r1, c, PO.here hl3 h (by simp [rep])⟩)
    · exact h.elim
  · obtain ⟨a, vs, rfl, hs, rs⟩ := rTup r1
    refine .inl ⟨a, vs, rfl, hs, fun c => ?_, fun _ p np => PO.newT hl3 rs.cut h p np⟩
    rw [← reps.length rs] at c
    rw [cutD_all c] at h
    exact PO.here hl3 h r1
  · unfold slL at h
    split at h
    · rename_i ds e
      obtain ⟨a, vs, rfl, hs, rs⟩ := asL_ok hl3 r1 e
      exact .inr (.inl ⟨a, vs, rfl, hs, fun p np => PO.newF hl3 rs.cut h p np⟩)
    · exact h.elim
end
end Ev
namespace Ev
open PySem PySem.Spec PyProof.Rows L2
section
variable {g : G} {X : Cx} {E : XK}
abbrev FA := List D → HP → R D
/-- a call by values keeps a rule -/
def CV (X : Cx) (g : G) (E : XK) (f : Value) (F : FA) : Prop := ∃ r, CallR X f r ∧ ∀ m H hp ds vs Q, HL g m H hp → reps g m H ds vs → PO g m H E (rep g) Q (F ds hp) → r vs H Q
@[simp] def mCall (F : FA) (a : M (List D)) (env : EN) (hp : HP) : R D := (a env hp).bind F
section
variable {x : Str} {id T : String} {p pos : Pos} {e : Expr} {es : List Expr} {fs : M (List D)} {F : FA}
theorem EV.callB (hc : CV X g E (.builtin id) F) (hm : X.mg x = none) (ha : AV g X E (e :: es) fs) (hg : Gl X x) (hv : bootBuiltins x = some (.builtin id)) (hn : x ≠ "__name__") (hdb : (x == ("__debug__" : Str)) = false)
    (he : starEach (e :: es) X.env = (false, eval e X.env) :: starEach es X.env) (hpl : (backTo pos (starEach es X.env)).any (·.1) = false) : EV g X E (.Call (.Name x p) (e :: es) [] pos) (mCall F fs) := by
  obtain ⟨r, hr, hc⟩ := hc
  obtain ⟨t, pa, qa⟩ := ha
  refine ⟨_, pe_callB hr hg hm hv pa hn hdb he hpl, fun σ H Q m env hp hl er h => ?_⟩
  exact qa σ H _ m env hp hl er (PO.bind h fun xs h1 m1 H1 vs x1 hl1 r1 h => hc m1 H1 h1 xs vs Q hl1 r1 h)
theorem EV.callT (hc : CV X g E (.type T) F) (hm : X.mg x = none) (ha : AV g X E (e :: es) fs) (hg : Gl X x) (hv : bootBuiltins x = some (.type T)) (hn : x ≠ "__name__") (hdb : (x == ("__debug__" : Str)) = false)
    (he : starEach (e :: es) X.env = (false, eval e X.env) :: starEach es X.env) (hpl : (backTo pos (starEach es X.env)).any (·.1) = false) : EV g X E (.Call (.Name x p) (e :: es) [] pos) (mCall F fs) := by
  obtain ⟨r, hr, hc⟩ := hc
  obtain ⟨t, pa, qa⟩ := ha
  refine ⟨_, pe_callTy hr hg hm hv pa hn hdb he hpl, fun σ H Q m env hp hl er h => ?_⟩
  exact qa σ H _ m env hp hl er (PO.bind h fun xs h1 m1 H1 vs x1 hl1 r1 h => hc m1 H1 h1 xs vs Q hl1 r1 h)
/-- a built-in function that a name of the module holds (math.isqrt) -/
theorem EV.callM (hc : CV X g E (.builtin id) F) (hm : X.mg x = some (.builtin id)) (ha : AV g X E (e :: es) fs) (hg : Gl X x) (hdb : (x == ("__debug__" : Str)) = false)
    (he : starEach (e :: es) X.env = (false, eval e X.env) :: starEach es X.env) (hpl : (backTo pos (starEach es X.env)).any (·.1) = false) : EV g X E (.Call (.Name x p) (e :: es) [] pos) (mCall F fs) := by
  obtain ⟨r, hr, hc⟩ := hc
  obtain ⟨t, pa, qa⟩ := ha
  refine ⟨_, pe_callBfun hr hg hm pa hdb he hpl, fun σ H Q m env hp hl er h => ?_⟩
  exact qa σ H _ m env hp hl er (PO.bind h fun xs h1 m1 H1 vs x1 hl1 r1 h => hc m1 H1 h1 xs vs Q hl1 r1 h)
end
theorem reps1 {m : AM} {H : Hp} {d : D} {vs : List V} (r : reps g m H [d] vs) : ∃ v, vs = [v] ∧ rep g m H d v := by
  simp only [reps] at r
  obtain ⟨v, r, rfl, h, rfl⟩ := r
  exact ⟨v, rfl, h⟩
theorem reps2 {m : AM} {H : Hp} {d e : D} {vs : List V} (r : reps g m H [d, e] vs) : ∃ v u, vs = [v, u] ∧ rep g m H d v ∧ rep g m H e u := by
  simp only [reps] at r
  obtain ⟨v, r, rfl, h, u, r2, rfl, h2, rfl⟩ := r
  exact ⟨v, u, rfl, h, h2⟩
@[simp] def lenO : Option (List D) → HP → R D
  | some ds, h => .ok (.int ds.length) h
  | none, _ => .stuck
@[simp] def bLen : List D → HP → R D
  | [.str z], h => if z.length ≤ sizeLine then .ok (.int z.length) h else .stuck
  | [x], h => lenO (seqD h x) h
  | _, _ => .stuck
theorem cv_len (hK : X.K = g.K) : CV X g E (.builtin "len") bLen := by
  refine ⟨_, call_len, fun m H hp ds vs Q hl r h => ?_⟩
  rw [hK]
  unfold bLen at h
  split at h
  · split at h
    · rename_i c
      obtain ⟨v, rfl, rr⟩ := reps1 r
      obtain rfl := rStr rr
      exact ⟨_, _, rfl, ⟨c, rfl⟩, PO.here hl h (by simp [rep])⟩
    · exact h.elim
  · unfold lenO at h
    split at h
    · rename_i es e
      obtain ⟨v, rfl, rr⟩ := reps1 r
      obtain ⟨a, us, rfl, hs, rs⟩ := seqD_ok hl rr e
      refine ⟨_, us.length, rfl, ?_, PO.here hl h (by rw [reps.length rs]; simp [rep])⟩
      rcases hs with hs | hs
      · exact .inl ⟨us, hs, rfl⟩
      · exact .inr ⟨us, hs, rfl⟩
    · exact h.elim
  · exact h.elim
@[simp] def bInt : List D → HP → R D
  | [.int i], h => .ok (.int i) h
  | [.bl b], h => .ok (.int (if b then 1 else 0)) h
  | _, _ => .stuck
theorem cv_int : CV X g E (.type "int") bInt := by
  refine ⟨_, call_int1, fun m H hp ds vs Q hl r h => ?_⟩
  unfold bInt at h
  split at h
  · obtain ⟨v, rfl, rr⟩ := reps1 r
    obtain rfl := rInt rr
    exact .inl ⟨_, rfl, PO.here hl h (by simp [rep])⟩
  · obtain ⟨v, rfl, rr⟩ := reps1 r
    obtain rfl := rBl rr
    exact .inr ⟨_, rfl, PO.here hl h (by simp [rep])⟩
  · exact h.elim
@[simp] def bAbs : List D → HP → R D
  | [.int i], h => .ok (.int (if i < 0 then -i else i)) h
  | _, _ => .stuck
theorem cv_abs : CV X g E (.builtin "abs") bAbs := by
  refine ⟨_, call_abs, fun m H hp ds vs Q hl r h => ?_⟩
  unfold bAbs at h
  split at h
  · obtain ⟨v, rfl, rr⟩ := reps1 r
    obtain rfl := rInt rr
    exact ⟨_, rfl, PO.here hl h (by simp [rep])⟩
  · exact h.elim
@[simp] def intsD : List D → Option (List Int)
  | [] => some []
  | .int i :: ds => (intsD ds).map (i :: ·)
  | _ => none
theorem intsD_ok {m : AM} {H : Hp} : ∀ {ds : List D} {vs : List V} {ns : List Int}, reps g m H ds vs → intsD ds = some ns → vs = ns.map V.int
  | [], vs, ns, r, e => by simp only [reps] at r; subst r; cases e; rfl
  | .int i :: ds, vs, ns, r, e => by
    simp only [reps] at r
    obtain ⟨v, r', rfl, h1, h2⟩ := r
    simp only [intsD] at e
    obtain ⟨ms, e1, rfl⟩ := Option.map_eq_some_iff.mp e
    obtain rfl := rInt h1
    rw [intsD_ok h2 e1, List.map_cons]
  | .non :: ds, vs, ns, r, e => by cases e
  | .bl _ :: ds, vs, ns, r, e => by cases e
  | .str _ :: ds, vs, ns, r, e => by cases e
  | .tup _ :: ds, vs, ns, r, e => by cases e
  | .lst _ :: ds, vs, ns, r, e => by cases e
  | .klst _ :: ds, vs, ns, r, e => by cases e
  | .dic _ :: ds, vs, ns, r, e => by cases e
  | .ins _ _ :: ds, vs, ns, r, e => by cases e
  | .ref _ :: ds, vs, ns, r, e => by cases e
theorem intsD_map (ns : List Int) : intsD (ns.map D.int) = some ns := by
  induction ns with
  | nil => rfl
  | cons n ns ih => simp [intsD, ih]
@[simp] def blsD : List D → Option (List Bool)
  | [] => some []
  | .bl i :: ds => (blsD ds).map (i :: ·)
  | _ => none
theorem blsD_ok {m : AM} {H : Hp} : ∀ {ds : List D} {vs : List V} {ns : List Bool}, reps g m H ds vs → blsD ds = some ns → vs = ns.map V.bl
  | [], vs, ns, r, e => by simp only [reps] at r; subst r; cases e; rfl
  | .bl i :: ds, vs, ns, r, e => by
    simp only [reps] at r
    obtain ⟨v, r', rfl, h1, h2⟩ := r
    simp only [blsD] at e
    obtain ⟨ms, e1, rfl⟩ := Option.map_eq_some_iff.mp e
    obtain rfl := rBl h1
    rw [blsD_ok h2 e1, List.map_cons]
  | .non :: ds, vs, ns, r, e => by cases e
  | .int _ :: ds, vs, ns, r, e => by cases e
  | .str _ :: ds, vs, ns, r, e => by cases e
  | .tup _ :: ds, vs, ns, r, e => by cases e
  | .lst _ :: ds, vs, ns, r, e => by cases e
  | .klst _ :: ds, vs, ns, r, e => by cases e
  | .dic _ :: ds, vs, ns, r, e => by cases e
  | .ins _ _ :: ds, vs, ns, r, e => by cases e
  | .ref _ :: ds, vs, ns, r, e => by cases e
theorem blsD_map (ns : List Bool) : blsD (ns.map D.bl) = some ns := by
  induction ns with
  | nil => rfl
  | cons n ns ih => simp [blsD, ih]
@[simp] def sumN : Option (List Int) → HP → R D
  | some ns, h => .ok (.int ns.sum) h
  | none, _ => .stuck
@[simp] def sumO : Option (List D) → HP → R D
  | some es, h => sumN (intsD es) h
  | none, _ => .stuck
@[simp] def bSum : List D → HP → R D
  | [x], h => sumO (asL h x) h
  | _, _ => .stuck
theorem cv_sum (hK : X.K = g.K) (hc : X.calm = true) : CV X g E (.builtin "sum") bSum := by
  refine ⟨_, cr_sum hc, fun m H hp ds vs Q hl r h => ?_⟩
  rw [hK]
  unfold bSum at h
  split at h
  · unfold sumO at h
    split at h
    · rename_i es e
      unfold sumN at h
      split at h
      · rename_i ns en
        obtain ⟨v, rfl, rr⟩ := reps1 r
        obtain ⟨a, us, rfl, hs, rs⟩ := asL_ok hl rr e
        have := intsD_ok rs en
        subst this
        exact ⟨a, ns, rfl, hs, PO.here hl h (by simp [rep])⟩
      · exact h.elim
    · exact h.elim
  · exact h.elim
@[simp] def allN : Option (List Bool) → HP → R D
  | some ns, h => .ok (.bl (ns.all id)) h
  | none, _ => .stuck
@[simp] def allO : Option (List D) → HP → R D
  | some es, h => allN (blsD es) h
  | none, _ => .stuck
@[simp] def bAll : List D → HP → R D
  | [x], h => allO (asL h x) h
  | _, _ => .stuck
theorem cv_all (hK : X.K = g.K) (hc : X.calm = true) : CV X g E (.builtin "all") bAll := by
  refine ⟨_, cr_all hc, fun m H hp ds vs Q hl r h => ?_⟩
  rw [hK]
  unfold bAll at h
  split at h
  · unfold allO at h
    split at h
    · rename_i es e
      unfold allN at h
      split at h
      · rename_i ns en
        obtain ⟨v, rfl, rr⟩ := reps1 r
        obtain ⟨a, us, rfl, hs, rs⟩ := asL_ok hl rr e
        have := blsD_ok rs en
        subst this
        exact ⟨a, ns, rfl, hs, PO.here hl h (by simp [rep])⟩
      · exact h.elim
    · exact h.elim
  · exact h.elim
@[simp] def anyN : Option (List Bool) → HP → R D
  | some ns, h => .ok (.bl (ns.any id)) h
  | none, _ => .stuck
@[simp] def anyO : Option (List D) → HP → R D
  | some es, h => anyN (blsD es) h
  | none, _ => .stuck
@[simp] def bAny : List D → HP → R D
  | [x], h => anyO (asL h x) h
  | _, _ => .stuck
theorem cv_any (hK : X.K = g.K) (hc : X.calm = true) : CV X g E (.builtin "any") bAny := by
  refine ⟨_, cr_any hc, fun m H hp ds vs Q hl r h => ?_⟩
  rw [hK]
  unfold bAny at h
  split at h
  · unfold anyO at h
    split at h
    · rename_i es e
      unfold anyN at h
      split at h
      · rename_i ns en
        obtain ⟨v, rfl, rr⟩ := reps1 r
        obtain ⟨a, us, rfl, hs, rs⟩ := asL_ok hl rr e
        have := blsD_ok rs en
        subst this
        exact ⟨a, ns, rfl, hs, PO.here hl h (by simp [rep])⟩
      · exact h.elim
    · exact h.elim
  · exact h.elim
/-- the greatest, the least of a list -/
def maxL : List Int → Int
  | [] => 0
  | [n] => n
  | n :: ns => if maxL ns > n then maxL ns else n
def minL : List Int → Int
  | [] => 0
  | [n] => n
  | n :: ns => if minL ns < n then minL ns else n
theorem maxL_mem : ∀ {ns : List Int}, ns ≠ [] → maxL ns ∈ ns ∧ ∀ y ∈ ns, y ≤ maxL ns
  | [], h => absurd rfl h
  | [n], _ => by simp [maxL]
  | n :: k :: ns, _ => by
    have ih := maxL_mem (ns := k :: ns) (by simp)
    unfold maxL
    split
    · refine ⟨List.mem_cons_of_mem _ ih.1, fun y hy => ?_⟩
      rcases List.mem_cons.mp hy with e | hy
      · subst e; omega
      · exact ih.2 y hy
    · refine ⟨List.mem_cons_self .., fun y hy => ?_⟩
      rcases List.mem_cons.mp hy with e | hy
      · subst e; omega
      · have := ih.2 y hy; omega
theorem minL_mem : ∀ {ns : List Int}, ns ≠ [] → minL ns ∈ ns ∧ ∀ y ∈ ns, minL ns ≤ y
  | [], h => absurd rfl h
  | [n], _ => by simp [minL]
  | n :: k :: ns, _ => by
    have ih := minL_mem (ns := k :: ns) (by simp)
    unfold minL
    split
    · refine ⟨List.mem_cons_of_mem _ ih.1, fun y hy => ?_⟩
      rcases List.mem_cons.mp hy with e | hy
      · subst e; omega
      · exact ih.2 y hy
    · refine ⟨List.mem_cons_self .., fun y hy => ?_⟩
      rcases List.mem_cons.mp hy with e | hy
      · subst e; omega
      · have := ih.2 y hy; omega
section
variable {prog : Program} {w : World} {A : Around} {Ex : Value → Shared → Prop} {s : Shared} {l : Addr}
theorem kept_tup {h' : Heap} (hk : ∀ b o, b ∉ [s.heap.objs.size] → (s.heap.push { cls := .type "tuple_iterator", data := .fields #[.ref l, .int 0 0] }).get? b = some o → h'.get? b = some o) :
    ∀ b o, s.heap.get? b = some o → h'.get? b = some o := fun b o e => by
  refine hk b o (fun hm => ?_) (Heap.get?_push_of_some _ e)
  rcases List.mem_cons.mp hm with e1 | hm
  · exact absurd (e1 ▸ Heap.lt_size e) (Nat.lt_irrefl _)
  · cases hm
theorem foot_tup (hlt : l < s.heap.objs.size) : ∀ b ∈ [s.heap.objs.size, l], b < (s.heap.push { cls := .type "tuple_iterator", data := .fields #[.ref l, .int 0 0] }).objs.size := fun b hb => by
  rw [Heap.size_push]
  rcases List.mem_cons.mp hb with rfl | hb
  · exact Nat.lt_succ_self _
  · rcases List.mem_cons.mp hb with rfl | hb
    · exact Nat.lt_succ_of_lt hlt
    · cases hb
theorem max_intTup {xs : Array (Int × Tok)} {Q : Value → Shared → Prop} (hh : A.handled = none) (hl : s.heap.IsTuple l (intItems xs)) (hne : 0 < xs.size)
    (h : ∀ v h' tk, (intItems xs)[argBest (fun i j => decide (numAt xs i > numAt xs j)) (xs.size - 1)]? = some v → (∀ b o, s.heap.get? b = some o → h'.get? b = some o) → Q v { s with heap := h', toks := tk }) :
    wpAny (model prog w) A (call (.builtin "max") [.ref l]) Q Ex s := by
  have hlt : l < s.heap.objs.size := by obtain ⟨_, e, _⟩ := hl; exact Heap.lt_size e
  refine call_max_walk (wpAny_pyIter_tuple hl ?_)
  refine ⟨_, _, _, _, _, _, _, rfl, Walks.tuple (A := A.in1) hh _ l (Nat.ne_of_lt hlt) (intItems xs), ⟨⟨_, Heap.get?_push_size _ rfl, rfl, rfl⟩, hl.push _⟩, foot_tup hlt, by simpa [intItems] using hne, CmpOf.ints_gt (numAt xs) (fun _ _ => intItems_at), fun v h' tk hP hk => ?_⟩
  exact h v h' tk (by simpa [intItems] using hP) (kept_tup hk)
theorem min_intTup {xs : Array (Int × Tok)} {Q : Value → Shared → Prop} (hh : A.handled = none) (hl : s.heap.IsTuple l (intItems xs)) (hne : 0 < xs.size)
    (h : ∀ v h' tk, (intItems xs)[argBest (fun i j => decide (numAt xs i < numAt xs j)) (xs.size - 1)]? = some v → (∀ b o, s.heap.get? b = some o → h'.get? b = some o) → Q v { s with heap := h', toks := tk }) :
    wpAny (model prog w) A (call (.builtin "min") [.ref l]) Q Ex s := by
  have hlt : l < s.heap.objs.size := by obtain ⟨_, e, _⟩ := hl; exact Heap.lt_size e
  refine call_min_walk (wpAny_pyIter_tuple hl ?_)
  refine ⟨_, _, _, _, _, _, _, rfl, Walks.tuple (A := A.in1) hh _ l (Nat.ne_of_lt hlt) (intItems xs), ⟨⟨_, Heap.get?_push_size _ rfl, rfl, rfl⟩, hl.push _⟩, foot_tup hlt, by simpa [intItems] using hne, CmpOf.ints_lt (numAt xs) (fun _ _ => intItems_at), fun v h' tk hP hk => ?_⟩
  exact h v h' tk (by simpa [intItems] using hP) (kept_tup hk)
theorem max_rawT {its : List Value} {ns : List Int} {Q : Value → Shared → Prop} (hh : A.handled = none) (hl : s.heap.IsTuple l its.toArray) (hi : IntsAre its ns) (hne : 0 < ns.length)
    (h : ∀ h' tk M t', (∀ b o, s.heap.get? b = some o → h'.get? b = some o) → M ∈ ns → (∀ a, a ∈ ns → a ≤ M) → Q (.int M t') { s with heap := h', toks := tk }) : wpAny (model prog w) A (call (.builtin "max") [.ref l]) Q Ex s := by
  obtain ⟨xs, e⟩ := hi.allInts.items
  have hn : numsOf (intItems xs).toList = ns := by rw [← e]; exact hi.numsOf
  rw [nums_intItems] at hn
  subst hn
  rw [e] at hl
  have hsz : 0 < xs.size := by simpa using hne
  refine max_intTup hh hl hsz fun v h' tk hv hk => ?_
  obtain ⟨t, rfl⟩ := intItems_at hv
  obtain ⟨h1, h2⟩ := argBest_gt (numAt xs) (xs.size - 1)
  refine h h' tk _ t hk ?_ fun a ha => ?_
  · rw [numAt_eq]; exact PySem.getD_mem (by rw [List.length_map, Array.length_toList]; omega)
  · obtain ⟨j, hj, rfl⟩ := mem_getD ha
    rw [List.length_map, Array.length_toList] at hj
    rw [← numAt_eq]; exact h2 j (by omega)
theorem min_rawT {its : List Value} {ns : List Int} {Q : Value → Shared → Prop} (hh : A.handled = none) (hl : s.heap.IsTuple l its.toArray) (hi : IntsAre its ns) (hne : 0 < ns.length)
    (h : ∀ h' tk M t', (∀ b o, s.heap.get? b = some o → h'.get? b = some o) → M ∈ ns → (∀ a, a ∈ ns → M ≤ a) → Q (.int M t') { s with heap := h', toks := tk }) : wpAny (model prog w) A (call (.builtin "min") [.ref l]) Q Ex s := by
  obtain ⟨xs, e⟩ := hi.allInts.items
  have hn : numsOf (intItems xs).toList = ns := by rw [← e]; exact hi.numsOf
  rw [nums_intItems] at hn
  subst hn
  rw [e] at hl
  have hsz : 0 < xs.size := by simpa using hne
  refine min_intTup hh hl hsz fun v h' tk hv hk => ?_
  obtain ⟨t, rfl⟩ := intItems_at hv
  obtain ⟨h1, h2⟩ := argBest_lt (numAt xs) (xs.size - 1)
  refine h h' tk _ t hk ?_ fun a ha => ?_
  · rw [numAt_eq]; exact PySem.getD_mem (by rw [List.length_map, Array.length_toList]; omega)
  · obtain ⟨j, hj, rfl⟩ := mem_getD ha
    rw [List.length_map, Array.length_toList] at hj
    rw [← numAt_eq]; exact h2 j (by omega)
end
def rMaxT (K : PySem.W.Frag) : List V → Hp → VK → Prop := fun vs H Q => ∃ (a : Addr) (ns : List Int), vs = [V.ref a] ∧ SqT K H a (ns.map V.int) ∧ 0 < ns.length ∧ ∀ m, m ∈ ns → (∀ y, y ∈ ns → y ≤ m) → Q (.int m) H
def rMinT (K : PySem.W.Frag) : List V → Hp → VK → Prop := fun vs H Q => ∃ (a : Addr) (ns : List Int), vs = [V.ref a] ∧ SqT K H a (ns.map V.int) ∧ 0 < ns.length ∧ ∀ m, m ∈ ns → (∀ y, y ∈ ns → m ≤ y) → Q (.int m) H
theorem cr_maxT (hc : X.calm = true) : CallR X (.builtin "max") (rMaxT X.K) := by
  intro pins s σ H vs us Q I r h
  obtain ⟨a, ns, rfl, hs, hne, q⟩ := h
  obtain ⟨its, rv, hl, _⟩ := I.tuple hs
  rw [Vals.ref1 r]
  exact max_rawT (I.ok.hd hc) hl rv.ints hne fun h' tk m t' hk h1 h2 => ⟨.int _, H, I.kept hk, ⟨_, rfl⟩, q m h1 h2⟩
theorem cr_minT (hc : X.calm = true) : CallR X (.builtin "min") (rMinT X.K) := by
  intro pins s σ H vs us Q I r h
  obtain ⟨a, ns, rfl, hs, hne, q⟩ := h
  obtain ⟨its, rv, hl, _⟩ := I.tuple hs
  rw [Vals.ref1 r]
  exact min_rawT (I.ok.hd hc) hl rv.ints hne fun h' tk m t' hk h1 h2 => ⟨.int _, H, I.kept hk, ⟨_, rfl⟩, q m h1 h2⟩
theorem reps_cons {m : AM} {H : Hp} {d : D} {ds : List D} {vs : List V} (r : reps g m H (d :: ds) vs) : ∃ v us, vs = v :: us ∧ rep g m H d v ∧ reps g m H ds us := by
  simp only [reps] at r
  obtain ⟨v, r', rfl, h1, h2⟩ := r
  exact ⟨v, r', rfl, h1, h2⟩
theorem numax3_int (i j k : Int) : nuMax3 (.int i) (.int j) (.int k) = some (.int (if k > (if j > i then j else i) then k else (if j > i then j else i))) := by
  by_cases c : i < j
  · by_cases c2 : j < k <;> simp [nuMax3, nuMax2, nuLt, nuCB, c, c2]
  · by_cases c2 : i < k <;> simp [nuMax3, nuMax2, nuLt, nuCB, c, c2]
theorem numin3_int (i j k : Int) : nuMin3 (.int i) (.int j) (.int k) = some (.int (if k < (if j < i then j else i) then k else (if j < i then j else i))) := by
  by_cases c : j < i
  · by_cases c2 : k < j <;> simp [nuMin3, nuMin2, nuLt, nuCB, c, c2]
  · by_cases c2 : k < i <;> simp [nuMin3, nuMin2, nuLt, nuCB, c, c2]
@[simp] def maxN : Option (List Int) → HP → R D
  | some ns, h => if 0 < ns.length then .ok (.int (maxL ns)) h else .stuck
  | none, _ => .stuck
@[simp] def maxO : Option (List D) → HP → R D
  | some es, h => maxN (intsD es) h
  | none, _ => .stuck
@[simp] def bMax : List D → HP → R D
  | [.int i, .int j], h => .ok (.int (if j > i then j else i)) h
  | [.int i, .int j, .int k], h => .ok (.int (if k > (if j > i then j else i) then k else (if j > i then j else i))) h
  | [.tup ds], h => maxN (intsD ds) h
  | [x], h => maxO (asL h x) h
  | _, _ => .stuck
theorem CallR.or {f : Value} {r r' : List V → Hp → VK → Prop} (h : CallR X f r) (h' : CallR X f r') : CallR X f (fun xs H Q => r xs H Q ∨ r' xs H Q) := by
  intro pins s σ H xs us Q I rx q
  rcases q with q | q
  · exact h pins s σ H xs us Q I rx q
  · exact h' pins s σ H xs us Q I rx q
theorem cv_max (hK : X.K = g.K) (hc : X.calm = true) : CV X g E (.builtin "max") bMax := by
  refine ⟨_, (call_max2 hc).or ((cr_max hc).or ((call_max3Nu hc).or (cr_maxT hc))), fun m H hp ds vs Q hl r h => ?_⟩
  rw [hK]
  unfold bMax at h
  split at h
  · obtain ⟨v, u, rfl, r1, r2⟩ := reps2 r
    obtain rfl := rInt r1
    obtain rfl := rInt r2
    exact .inl ⟨_, _, rfl, PO.here hl h (by simp [rep])⟩
  · obtain ⟨v, vs1, rfl, r1, r2⟩ := reps_cons r
    obtain ⟨v2, v3, rfl, r2, r3⟩ := reps2 r2
    obtain rfl := rInt r1
    obtain rfl := rInt r2
    obtain rfl := rInt r3
    exact .inr (.inr (.inl ⟨_, _, _, _, rfl, numax3_int _ _ _, PO.here hl h (by simp [rep])⟩))
  · unfold maxN at h
    split at h
    · rename_i ns en
      split at h
      · rename_i c
        obtain ⟨v, rfl, rr⟩ := reps1 r
        obtain ⟨a, us, rfl, hs, rs⟩ := asT_ok rr rfl
        have := intsD_ok rs en
        subst this
        refine .inr (.inr (.inr ⟨a, ns, rfl, hs, c, fun M h1 h2 => ?_⟩))
        obtain ⟨k1, k2⟩ := maxL_mem (ns := ns) (by intro z; subst z; simp at c)
        have e : M = maxL ns := Int.le_antisymm (k2 M h1) (h2 _ k1)
        rw [e]
        exact PO.here hl h (by simp [rep])
      · exact h.elim
    · exact h.elim
  · unfold maxO at h
    split at h
    · rename_i es e
      unfold maxN at h
      split at h
      · rename_i ns en
        split at h
        · rename_i c
          obtain ⟨v, rfl, rr⟩ := reps1 r
          obtain ⟨a, us, rfl, hs, rs⟩ := asL_ok hl rr e
          have := intsD_ok rs en
          subst this
          refine .inr (.inl ⟨a, ns, rfl, hs, c, fun M h1 h2 => ?_⟩)
          obtain ⟨k1, k2⟩ := maxL_mem (ns := ns) (by intro z; subst z; simp at c)
          have e : M = maxL ns := Int.le_antisymm (k2 M h1) (h2 _ k1)
          rw [e]
          exact PO.here hl h (by simp [rep])
        · exact h.elim
      · exact h.elim
    · exact h.elim
  · exact h.elim
@[simp] def minN : Option (List Int) → HP → R D
  | some ns, h => if 0 < ns.length then .ok (.int (minL ns)) h else .stuck
  | none, _ => .stuck
@[simp] def minO : Option (List D) → HP → R D
  | some es, h => minN (intsD es) h
  | none, _ => .stuck
@[simp] def bMin : List D → HP → R D
  | [.int i, .int j], h => .ok (.int (if j < i then j else i)) h
  | [.int i, .int j, .int k], h => .ok (.int (if k < (if j < i then j else i) then k else (if j < i then j else i))) h
  | [.tup ds], h => minN (intsD ds) h
  | [x], h => minO (asL h x) h
  | _, _ => .stuck
theorem cv_min (hK : X.K = g.K) (hc : X.calm = true) : CV X g E (.builtin "min") bMin := by
  refine ⟨_, (call_min2 hc).or ((cr_min hc).or ((call_min3Nu hc).or (cr_minT hc))), fun m H hp ds vs Q hl r h => ?_⟩
  rw [hK]
  unfold bMin at h
  split at h
  · obtain ⟨v, u, rfl, r1, r2⟩ := reps2 r
    obtain rfl := rInt r1
    obtain rfl := rInt r2
    exact .inl ⟨_, _, rfl, PO.here hl h (by simp [rep])⟩
  · obtain ⟨v, vs1, rfl, r1, r2⟩ := reps_cons r
    obtain ⟨v2, v3, rfl, r2, r3⟩ := reps2 r2
    obtain rfl := rInt r1
    obtain rfl := rInt r2
    obtain rfl := rInt r3
    exact .inr (.inr (.inl ⟨_, _, _, _, rfl, numin3_int _ _ _, PO.here hl h (by simp [rep])⟩))
  · unfold minN at h
    split at h
    · rename_i ns en
      split at h
      · rename_i c
        obtain ⟨v, rfl, rr⟩ := reps1 r
        obtain ⟨a, us, rfl, hs, rs⟩ := asT_ok rr rfl
        have := intsD_ok rs en
        subst this
        refine .inr (.inr (.inr ⟨a, ns, rfl, hs, c, fun M h1 h2 => ?_⟩))
        obtain ⟨k1, k2⟩ := minL_mem (ns := ns) (by intro z; subst z; simp at c)
        have e : M = minL ns := Int.le_antisymm (h2 _ k1) (k2 M h1)
        rw [e]
        exact PO.here hl h (by simp [rep])
      · exact h.elim
    · exact h.elim
  · unfold minO at h
    split at h
    · rename_i es e
      unfold minN at h
      split at h
      · rename_i ns en
        split at h
        · rename_i c
          obtain ⟨v, rfl, rr⟩ := reps1 r
          obtain ⟨a, us, rfl, hs, rs⟩ := asL_ok hl rr e
          have := intsD_ok rs en
          subst this
          refine .inr (.inl ⟨a, ns, rfl, hs, c, fun M h1 h2 => ?_⟩)
          obtain ⟨k1, k2⟩ := minL_mem (ns := ns) (by intro z; subst z; simp at c)
          have e : M = minL ns := Int.le_antisymm (h2 _ k1) (k2 M h1)
          rw [e]
          exact PO.here hl h (by simp [rep])
        · exact h.elim
      · exact h.elim
    · exact h.elim
  · exact h.elim
@[simp] def tupO : Option (List D) → HP → R D
  | some es, h => .ok (.tup es) h
  | none, _ => .stuck
@[simp] def bTuple : List D → HP → R D
  | [.tup ds], h => .ok (.tup ds) h
  | [x], h => tupO (asL h x) h
  | _, _ => .stuck
theorem cv_tuple (hK : X.K = g.K) : CV X g E (.type "tuple") bTuple := by
  refine ⟨_, call_tuple_of, fun m H hp ds vs Q hl r h => ?_⟩
  rw [hK]
  unfold bTuple at h
  split at h
  · obtain ⟨v, rfl, rr⟩ := reps1 r
    obtain ⟨a, us, rfl, hs, rs⟩ := rTup rr
    exact ⟨a, us, rfl, .inr ⟨hs, PO.here hl h rr⟩⟩
  · unfold tupO at h
    split at h
    · rename_i es e
      obtain ⟨v, rfl, rr⟩ := reps1 r
      obtain ⟨a, us, rfl, hs, rs⟩ := asL_ok hl rr e
      exact ⟨a, us, rfl, .inl ⟨hs, PO.newT hl rs h⟩⟩
    · exact h.elim
  · exact h.elim
@[simp] def listO (live : Bool) : Option (List D) → HP → R D
  | some es, h => newL live es h
  | none, _ => .stuck
@[simp] def bList (live : Bool) : List D → HP → R D
  | [x], h => listO live (seqD h x) h
  | _, _ => .stuck
theorem cv_list (live : Bool) (hK : X.K = g.K) : CV X g E (.type "list") (bList live) := by
  refine ⟨_, call_list_of, fun m H hp ds vs Q hl r h => ?_⟩
  rw [hK]
  unfold bList at h
  split at h
  · unfold listO at h
    split at h
    · rename_i es e
      obtain ⟨v, rfl, rr⟩ := reps1 r
      obtain ⟨a, us, rfl, hs, rs⟩ := seqD_ok hl rr e
      exact ⟨a, us, rfl, hs, (PO.newL hl rs h).2⟩
    · exact h.elim
  · exact h.elim
/-- isqrt, for numbers below 2 ^ 6000 -/
@[simp] def bIsqrt : List D → HP → R D
  | [.int i], h => if 0 ≤ i ∧ i.toNat.log2 < 6000 then .ok (.int ((Float64.isqrt i.toNat : Nat) : Int)) h else .stuck
  | _, _ => .stuck
theorem cr_isqrt : CallR X (.builtin "math.isqrt") (fun xs H Q => ∃ i : Int, xs = [.int i] ∧ 0 ≤ i ∧ i.toNat.log2 < 6000 ∧ Q (.int ((Float64.isqrt i.toNat : Nat) : Int)) H) := by
  intro pins s σ H xs us Q I r h
  obtain ⟨i, rfl, h0, h1, q⟩ := h
  obtain ⟨u, rfl, t, rfl⟩ := vals1 r
  exact call_function_meets PySem.W.MGF.kind_isqrt PySem.W.MGF.plain_isqrt PySem.W.MGF.entry_isqrt (PySem.W.MGF.args_isqrt _) (PySem.W.mg_run_isqrt i t (by omega) (by omega) (by omega)).meets ⟨.int _, H, I.tok _, ⟨_, rfl⟩, q⟩
theorem cv_isqrt : CV X g E (.builtin "math.isqrt") bIsqrt := by
  refine ⟨_, cr_isqrt, fun m H hp ds vs Q hl r h => ?_⟩
  unfold bIsqrt at h
  split at h
  · split at h
    · rename_i c
      obtain ⟨v, rfl, rr⟩ := reps1 r
      obtain rfl := rInt rr
      exact ⟨_, rfl, c.1, c.2, PO.here hl h (by simp [rep])⟩
    · exact h.elim
  · exact h.elim
/-! isinstance of a built-in type -/
@[simp] def tyO : Option O → Option String
  | some (.lst _) => some "list"
  | some (.dic _) => some "dict"
  | _ => none
@[simp] def tyD (h : HP) : D → Option String
  | .non => some "NoneType"
  | .bl _ => some "bool"
  | .int _ => some "int"
  | .str _ => some "str"
  | .tup _ => some "tuple"
  | .lst _ => some "list"
  | .dic _ => some "dict"
  | .ref n => tyO h[n]?
  | _ => none
theorem tyD_ok {m : AM} {H : Hp} {hp : HP} {d : D} {v : V} {T : String} (hl : HL g m H hp) (r : rep g m H d v) (e : tyD hp d = some T) : TyX g.K H v (.type T) := by
  cases d with
  | non => cases e; simp only [rep] at r; subst r; exact .base .non
  | bl b => cases e; simp only [rep] at r; subst r; exact .base (.bl b)
  | int b => cases e; simp only [rep] at r; subst r; exact .base (.int b)
  | str b => cases e; simp only [rep] at r; subst r; exact .base (.str b)
  | tup ds =>
    cases e
    simp only [rep] at r
    obtain ⟨a, vs, rfl, f, _⟩ := r
    rcases f with ⟨f | ⟨o, f⟩, _⟩ | ⟨o, its, n, k1, k2, _⟩
    · exact .base (.tup f)
    · exact .fTuple f
    · exact .kTuple k1 k2
  | lst ds =>
    cases e
    simp only [rep] at r
    obtain ⟨a, vs, rfl, f, _⟩ := r
    exact .base (.lst f)
  | klst ds => cases e
  | dic ds =>
    cases e
    simp only [rep] at r
    obtain ⟨a, vs, rfl, f, _⟩ := r
    exact .base (.dK f)
  | ins c fs => cases e
  | ref n =>
    simp only [tyD] at e
    simp only [rep] at r
    unfold tyO at e
    split at e
    · rename_i ds q
      cases e
      obtain ⟨a, ea, vs, ha, _⟩ := hl.at q (by simp)
      rw [r.2 a ea]
      exact .base (.lst ha)
    · rename_i ds q
      cases e
      obtain ⟨a, ea, vs, ha, _⟩ := hl.at q (by simp)
      rw [r.2 a ea]
      exact .base (.dK ha)
    · cases e
@[simp] def isiB : Option Bool → HP → R D
  | some b, h => .ok (.bl b) h
  | none, _ => .stuck
@[simp] def isiO (T : String) : Option String → HP → R D
  | some S, h => isiB (kitB S T) h
  | none, _ => .stuck
@[simp] def kIsi (T : String) (x : D) (h : HP) : R D := isiO T (tyD h x) h
@[simp] def mIsi (T : String) (a : M D) (env : EN) (hp : HP) : R D := (a env hp).bind (kIsi T)
theorem pe_bty {x : Str} {T : String} {pos : Pos} (hg : Gl X x) (hm : X.mg x = none) (hv : bootBuiltins x = some (.type T)) (hn : x ≠ "__name__") (hd : (x == ("__debug__" : Str)) = false) : PE X (.Name x pos) (tC (.ty T)) := pe_bltn (v := .ty T) hg hm hv rfl hn hd
theorem EV.isi {T : String} {t isi : Str} {a : Expr} {p p2 pos : Pos} {fa : M D} (hK : X.K = g.K) (he0 : isi = "isinstance") (hm : X.mg isi = none) (hmt : X.mg t = none) (ha : EV g X E a fa) (hg : Gl X isi) (hgt : Gl X t) (hv : bootBuiltins t = some (.type T)) (hn : t ≠ "__name__") (hd : (t == ("__debug__" : Str)) = false)
    (he : starEach [a, .Name t p2] X.env = (false, eval a X.env) :: starEach [.Name t p2] X.env) : EV g X E (.Call (.Name isi p) [a, .Name t p2] [] pos) (mIsi T fa) := by
  subst he0
  obtain ⟨ta, pa, qa⟩ := ha
  refine ⟨_, pe_callB call_isi hg hm (by decide +kernel) (pa_cons pa (pa_cons (pe_bty hgt hmt hv hn hd) pa_nil rfl) he) (by decide) (by decide) he rfl, fun σ H Q m env hp hl er h => ?_⟩
  refine qa σ H _ m env hp hl er (PO.bind h fun x h1 m1 H1 v x1 hl1 r1 h => ?_)
  rw [hK]
  unfold kIsi isiO at h
  split at h
  · rename_i S e
    unfold isiB at h
    split at h
    · rename_i b eb
      exact ⟨v, .ty T, .type S, .type T, b, rfl, .ty T, tyD_ok hl1 r1 e, kit_ty eb, PO.here hl1 h (by simp [rep])⟩
    · exact h.elim
  · exact h.elim
end
end Ev
namespace Ev
open PySem PySem.Spec PyProof.Rows L2
section
variable {g : G} {X : Cx} {E : XK}

/-! ### targets -/
abbrev TF := D → EN → HP → Option EN
abbrev TFs := List D → EN → HP → Option EN
/-- the slots at `is` may be turned, the others stay -/
def Turned (is : List Nat) (σ σ' : L2.St) : Prop := σ'.length = σ.length ∧ ∀ j, j ∉ is → σ'[j]? = σ[j]?
theorem Turned.refl (is : List Nat) (σ : L2.St) : Turned is σ σ := ⟨rfl, fun _ _ => rfl⟩
theorem Turned.trans {is : List Nat} {a b c : L2.St} (x : Turned is a b) (y : Turned is b c) : Turned is a c := ⟨y.1.trans x.1, fun j h => (y.2 j h).trans (x.2 j h)⟩
theorem Turned.mono {is js : List Nat} {a b : L2.St} (x : Turned is a b) (h : ∀ i ∈ is, i ∈ js) : Turned js a b := ⟨x.1, fun j hj => x.2 j fun z => hj (h j z)⟩
structure GV (g : G) (X : Cx) (tg : Expr) (is : List Nat) (f : TF) : Prop where
  ex : ∃ t, PG X tg t ∧ ∀ v σ H Q m env hp d, HL g m H hp → ER g m H σ env → rep g m H d v → (∃ env', f d env hp = some env' ∧ ∀ σ', Turned is σ σ' → ER g m H σ' env' → Q σ' H) → t v σ H Q
structure GVs (g : G) (X : Cx) (tgs : List Expr) (is : List Nat) (f : TFs) : Prop where
  ex : ∃ t, PGs X tgs t ∧ ∀ vs σ H Q m env hp ds, HL g m H hp → ER g m H σ env → reps g m H ds vs → (∃ env', f ds env hp = some env' ∧ ∀ σ', Turned is σ σ' → ER g m H σ' env' → Q σ' H) → t vs σ H Q
theorem ER.set {m : AM} {H : Hp} {σ : L2.St} {env : EN} {i : Nat} {d : D} {v : V} (er : ER g m H σ env) (r : rep g m H d v) : ER g m H (σ.set i (some v)) (env.set i (some d)) := by
  refine ⟨by simp [er.len], fun j e h => ?_⟩
  by_cases hj : i = j
  · subst hj
    rw [List.getElem?_set_self'] at h
    cases q : env[i]? with
    | none => rw [q] at h; cases h
    | some z =>
      rw [q] at h
      cases h
      have : i < σ.length := by rw [er.len]; exact (List.getElem?_eq_some_iff.mp q).1
      exact ⟨v, by rw [List.getElem?_set_self this], r⟩
  · rw [List.getElem?_set_ne hj] at h
    obtain ⟨w, e1, r1⟩ := er.at_ j e h
    exact ⟨w, by rw [List.getElem?_set_ne hj]; exact e1, r1⟩
@[simp] def gNm (i : Nat) (d : D) (env : EN) (_ : HP) : Option EN := some (env.set i (some d))
theorem GV.name {i : Nat} {x : Str} {pos : Pos} (hN : X.N.Nodup) (hi : X.N[i]? = some x) (hx : Loc X.env.scope x) (hf : X.fn x = true ∨ X.env.scope.names.lookup x = some .local) : GV g X (.Name x pos) [i] (gNm i) := by
  refine ⟨_, pg_name hN hi hx hf, fun v σ H Q m env hp d hl er r ⟨env', e, h⟩ => ?_⟩
  cases e
  refine h _ ⟨by simp, fun j hj => ?_⟩ (er.set r)
  rw [List.getElem?_set_ne (by intro z; subst z; simp at hj)]
@[simp] def gsNil : List D → EN → HP → Option EN
  | [], env, _ => some env
  | _, _, _ => none
@[simp] def gsK (fs : TFs) (ds : List D) (h : HP) : Option EN → Option EN
  | some env => fs ds env h
  | none => none
@[simp] def gsCons (f : TF) (fs : TFs) : List D → EN → HP → Option EN
  | d :: ds, env, h => gsK fs ds h (f d env h)
  | [], _, _ => none
theorem GVs.nil {is : List Nat} : GVs g X [] is gsNil := by
  refine ⟨_, pgs_nil, fun vs σ H Q m env hp ds hl er r ⟨env', e, h⟩ => ?_⟩
  cases ds with
  | nil =>
    cases e
    simp only [reps] at r
    exact ⟨r, h σ (.refl _ _) er⟩
  | cons _ _ => cases e
theorem GVs.cons {t : Expr} {ts : List Expr} {is js ks : List Nat} {f : TF} {fs : TFs} (h1 : GV g X t is f) (h2 : GVs g X ts js fs) (hi : ∀ i ∈ is, i ∈ ks) (hj : ∀ i ∈ js, i ∈ ks) (hs : (assignEach (t :: ts) X.env).map (·.2) = assign t X.env :: (assignEach ts X.env).map (·.2)) : GVs g X (t :: ts) ks (gsCons f fs) := by
  obtain ⟨ta, pa, qa⟩ := h1
  obtain ⟨tb, pb, qb⟩ := h2
  refine ⟨_, pgs_cons pa pb hs, fun vs σ H Q m env hp ds hl er r ⟨env', e, h⟩ => ?_⟩
  cases ds with
  | nil => cases e
  | cons d ds =>
    simp only [reps] at r
    obtain ⟨v, vr, rfl, r1, r2⟩ := r
    simp only [gsCons] at e
    obtain ⟨env1, e1, e2⟩ : ∃ env1, f d env hp = some env1 ∧ fs ds env1 hp = some env' := by
      revert e
      cases f d env hp with
      | some z => exact fun e => ⟨z, rfl, e⟩
      | none => exact fun e => by cases e
    refine ⟨v, vr, rfl, qa v σ H _ m env hp d hl er r1 ⟨env1, e1, fun σ' t' er' => ?_⟩⟩
    exact qb vr σ' H Q m env1 hp ds hl er' r2 ⟨env', e2, fun σ2 t2 er2 => h σ2 ((t'.mono hi).trans (t2.mono hj)) er2⟩
@[simp] def gTp (n : Nat) (fs : TFs) : D → EN → HP → Option EN
  | .tup ds, env, h => if ds.length = n then fs ds env h else none
  | _, _, _ => none
theorem GV.tup {es : List Expr} {k n : Nat} {pos : Pos} {is : List Nat} {fs : TFs} (hK : X.K = g.K) (hc : X.calm = true) (h : GVs g X es is fs) (hn : (assignEach es X.env).length = n) (hst : (assignEach es X.env).findIdx? (·.1) = none) : GV g X (.Tuple es k pos) is (gTp n fs) := by
  obtain ⟨t, p, q⟩ := h
  refine ⟨_, pg_tup hc p hn hst, fun v σ H Q m env hp d hl er r ⟨env', e, h⟩ => ?_⟩
  rw [hK]
  cases d with
  | tup ds =>
    simp only [gTp] at e
    split at e
    · rename_i c
      obtain ⟨a, vs, rfl, hs, rs⟩ := rTup r
      exact ⟨a, vs, rfl, hs, by rw [← reps.length rs]; exact c, q vs σ H Q m env hp ds hl er rs ⟨env', e, h⟩⟩
    · cases e
  | _ => cases e

/-! ### what is walked -/
/-- the items, and the live lists that must stay while they are walked -/
abbrev GdL := List (Nat × List D)
abbrev IM := EN → HP → R (List D × GdL)
def Gd (gd : GdL) (hp : HP) : Prop := ∀ p ∈ gd, hp[p.1]? = some (.lst p.2)
/-- the iterator J gives the items while the guard holds -/
structure Foll (g : G) (m0 : AM) (H0 : Hp) (J : It) (items : List D) (gd : GdL) : Prop where
  go : ∀ i m H hp, i < items.length → Ex m0 H0 m H → HL g m H hp → Gd gd hp → J.go i H
  yld : ∀ i m H hp x H', i < items.length → Ex m0 H0 m H → HL g m H hp → Gd gd hp → J.yld i H x H' → ∃ d, items[i]? = some d ∧ Ex m H m H' ∧ HL g m H' hp ∧ rep g m H' d x
  stop : ∀ m H hp, Ex m0 H0 m H → HL g m H hp → Gd gd hp → J.stop items.length H
def IPO (g : G) (m : AM) (H : Hp) (E : XK) (Rr : It → Hp → Prop) : R (List D × GdL) → Prop
  | .ok d hp' => ∀ m' H' J, Ex m H m' H' → HL g m' H' hp' → Foll g m' H' J d.1 d.2 → Rr J H'
  | .exc c fs hp' => ∀ m' H' d ws, Ex m H m' H' → HL g m' H' hp' → H' d = some (.xd ws) → some d ∉ m' → repf g m' H' fs ws → E (.ref (g.cA c)) (some d) H'
  | .stuck => False
structure IV (g : G) (X : Cx) (E : XK) (tg it : Expr) (f : IM) : Prop where
  ex : ∃ wi, PI X tg it wi ∧ ∀ σ H Rr m env hp, HL g m H hp → ER g m H σ env → IPO g m H E Rr (f env hp) → wi σ H Rr
theorem IPO.bind {α β : Type} {m : AM} {H : Hp} {rp : AM → Hp → α → β → Prop} {Rr : It → Hp → Prop} {Q : β → Hp → Prop} {r : R α} {f : α → HP → R (List D × GdL)}
    (h : IPO g m H E Rr (r.bind f)) (k : ∀ d hp' m' H' v, Ex m H m' H' → HL g m' H' hp' → rp m' H' d v → IPO g m' H' E Rr (f d hp') → Q v H') : PO g m H E rp Q r := by
  cases r with
  | ok d hp' =>
    intro m' H' v x hl rv
    refine k d hp' m' H' v x hl rv ?_
    simp only [R.bind] at h
    revert h
    cases f d hp' with
    | ok e h2 => exact fun h m2 H2 w x2 hl2 r2 => h m2 H2 w (x.trans x2) hl2 r2
    | exc c fs h2 => exact fun h m2 H2 d2 ws x2 hl2 e2 n2 r2 => h m2 H2 d2 ws (x.trans x2) hl2 e2 n2 r2
    | stuck => exact fun h => h
  | exc c fs hp' => exact h
  | stuck => exact h
/-- a list as a source -/
@[simp] def lviewO (n : Nat) : Option O → Option (List D × GdL)
  | some (.lst ds) => some (ds, [(n, ds)])
  | _ => none
@[simp] def lview (h : HP) : D → Option (List D × GdL)
  | .lst ds => some (ds, [])
  | .klst ds => some (ds, [])
  | .ref n => lviewO n h[n]?
  | _ => none
def LSrc (g : G) (m0 : AM) (H0 : Hp) (a : Addr) (ds : List D) (gd : GdL) : Prop := ∀ m H hp, Ex m0 H0 m H → HL g m H hp → Gd gd hp → ∃ vs, SqL g.K H a vs ∧ reps g m H ds vs
def TSrc (g : G) (m0 : AM) (H0 : Hp) (a : Addr) (ds : List D) : Prop := ∀ m H, Ex m0 H0 m H → ∃ vs, SqT g.K H a vs ∧ reps g m H ds vs
theorem lview_ok {m : AM} {H : Hp} {hp : HP} {d : D} {v : V} {p : List D × GdL} (hl : HL g m H hp) (r : rep g m H d v) (e : lview hp d = some p) : ∃ a, v = .ref a ∧ LSrc g m H a p.1 p.2 ∧ Gd p.2 hp := by
  cases d with
  | lst ds =>
    cases e
    simp only [rep] at r
    obtain ⟨a, vs, rfl, f, k, rs⟩ := r
    exact ⟨a, rfl, fun m2 H2 hp2 x _ _ => ⟨vs, .of (x.fz _ _ f k).1, reps.ext x _ _ rs⟩, fun p hp => by cases hp⟩
  | klst ds =>
    cases e
    simp only [rep] at r
    obtain ⟨a, vs, rfl, f, rs⟩ := r
    exact ⟨a, rfl, fun m2 H2 hp2 x _ _ => ⟨vs, (f.ext x).sq, reps.ext x _ _ rs⟩, fun p hp => by cases hp⟩
  | ref n =>
    simp only [lview] at e
    unfold lviewO at e
    split at e
    · rename_i ds q
      cases e
      simp only [rep] at r
      obtain ⟨a, ea, vs, ha, rs⟩ := hl.at q (by simp)
      refine ⟨a, r.2 a ea, fun m2 H2 hp2 x hl2 gd => ?_, fun p hp => ?_⟩
      · obtain ⟨b, eb, us, hb, rr⟩ := hl2.at (gd (n, ds) (List.mem_singleton.mpr rfl)) (by simp)
        have := x.mp n b eb r.1
        rw [ea] at this
        cases this
        exact ⟨us, .of hb, rr⟩
      · cases List.mem_singleton.mp hp
        exact q
    · cases e
  | _ => cases e
theorem tview_ok {m : AM} {H : Hp} {ds : List D} {v : V} (r : rep g m H (.tup ds) v) : ∃ a, v = .ref a ∧ TSrc g m H a ds := by
  simp only [rep] at r
  obtain ⟨a, vs, rfl, f, rs⟩ := r
  exact ⟨a, rfl, fun m2 H2 x => ⟨vs, (f.ext x).sq, reps.ext x _ _ rs⟩⟩
@[simp] def seqO : Option (List D × GdL) → HP → R (List D × GdL)
  | some p, h => .ok p h
  | none, _ => .stuck
@[simp] def kSeq (x : D) (h : HP) : R (List D × GdL) := seqO (lview h x) h
@[simp] def iSeq (a : M D) (env : EN) (hp : HP) : R (List D × GdL) := (a env hp).bind kSeq
@[simp] def kTupS : D → HP → R (List D × GdL)
  | .tup ds, h => .ok (ds, []) h
  | _, _ => .stuck
@[simp] def iTupS (a : M D) (env : EN) (hp : HP) : R (List D × GdL) := (a env hp).bind kTupS
theorem foll_list {m0 : AM} {H0 : Hp} {a : Addr} {ds : List D} {gd : GdL} (s : LSrc g m0 H0 a ds gd) : Foll g m0 H0 (Itl g.K a) ds gd := by
  refine ⟨fun i m H hp hi x hl gd => ?_, fun i m H hp v H' hi x hl gd y => ?_, fun m H hp x hl gd => ?_⟩
  · obtain ⟨vs, s, rr⟩ := s m H hp x hl gd
    obtain ⟨w, ew, _⟩ := rr.get (List.getElem?_eq_getElem hi)
    exact ⟨vs, w, s, ew⟩
  · obtain ⟨vs, s, rr⟩ := s m H hp x hl gd
    obtain ⟨e, y⟩ := y
    subst e
    obtain ⟨w, ew, rw'⟩ := rr.get (List.getElem?_eq_getElem hi)
    have := y vs s
    rw [ew] at this
    cases this
    exact ⟨_, List.getElem?_eq_getElem hi, .refl _ _, hl, rw'⟩
  · obtain ⟨vs, s, rr⟩ := s m H hp x hl gd
    exact ⟨vs, s, by rw [reps.length rr]; exact Nat.le_refl _⟩
theorem foll_tup {m0 : AM} {H0 : Hp} {a : Addr} {ds : List D} (s : TSrc g m0 H0 a ds) : Foll g m0 H0 (Itt g.K a) ds [] := by
  refine ⟨fun i m H hp hi x hl gd => ?_, fun i m H hp v H' hi x hl gd y => ?_, fun m H hp x hl gd => ?_⟩
  · obtain ⟨vs, s, rr⟩ := s m H x
    obtain ⟨w, ew, _⟩ := rr.get (List.getElem?_eq_getElem hi)
    exact ⟨vs, w, s, ew⟩
  · obtain ⟨vs, s, rr⟩ := s m H x
    obtain ⟨e, y⟩ := y
    subst e
    obtain ⟨w, ew, rw'⟩ := rr.get (List.getElem?_eq_getElem hi)
    have := y vs s
    rw [ew] at this
    cases this
    exact ⟨_, List.getElem?_eq_getElem hi, .refl _ _, hl, rw'⟩
  · obtain ⟨vs, s, rr⟩ := s m H x
    exact ⟨vs, s, by rw [reps.length rr]; exact Nat.le_refl _⟩
def zipD (xs ys : List D) : List D := List.zipWith (fun a b => .tup [a, b]) xs ys
theorem new_pair {m : AM} {H : Hp} {hp : HP} {T : Addr} {x y : V} {a b : D} (hl : HL g m H hp) (np : H T = none) (ra : rep g m H a x) (rb : rep g m H b y) :
    Ex m H m (upd H T (.tup [x, y])) ∧ HL g m (upd H T (.tup [x, y])) hp ∧ rep g m (upd H T (.tup [x, y])) (.tup [a, b]) (.ref T) := by
  obtain ⟨x', hl2, pm⟩ := hl.new (o := .tup [x, y]) np
  refine ⟨x', hl2, ?_⟩
  simp only [rep]
  refine ⟨T, [x, y], rfl, .inl ⟨.inl upd_same, pm⟩, ?_⟩
  simp only [reps]
  exact ⟨x, [y], rfl, rep.ext x' _ _ ra, y, [], rfl, rep.ext x' _ _ rb, rfl⟩
theorem zip_at {xs ys : List D} {i : Nat} (h : i < (zipD xs ys).length) : ∃ (h1 : i < xs.length) (h2 : i < ys.length), (zipD xs ys)[i]? = some (.tup [xs[i], ys[i]]) := by
  have h' := h
  simp only [zipD, List.length_zipWith] at h'
  refine ⟨by omega, by omega, ?_⟩
  rw [List.getElem?_eq_getElem h]
  simp [zipD]
theorem foll_zip {m0 : AM} {H0 : Hp} {a b : Addr} {xs ys : List D} {gd gd' : GdL} (s : LSrc g m0 H0 a xs gd) (s' : LSrc g m0 H0 b ys gd') : Foll g m0 H0 (Itz g.K a b) (zipD xs ys) (gd ++ gd') := by
  have q : ∀ {m H hp}, Ex m0 H0 m H → HL g m H hp → Gd (gd ++ gd') hp → (∃ vs, SqL g.K H a vs ∧ reps g m H xs vs) ∧ ∃ us, SqL g.K H b us ∧ reps g m H ys us := fun x hl h =>
    ⟨s _ _ _ x hl fun p hp => h p (List.mem_append_left _ hp), s' _ _ _ x hl fun p hp => h p (List.mem_append_right _ hp)⟩
  refine ⟨fun i m H hp hi x hl gd => ?_, fun i m H hp v H' hi x hl gd y => ?_, fun m H hp x hl gd => ?_⟩
  · obtain ⟨⟨vs, s1, r1⟩, us, s2, r2⟩ := q x hl gd
    obtain ⟨h1, h2, _⟩ := zip_at hi
    obtain ⟨w, ew, _⟩ := r1.get (List.getElem?_eq_getElem h1)
    obtain ⟨w2, ew2, _⟩ := r2.get (List.getElem?_eq_getElem h2)
    exact ⟨vs, us, w, w2, s1, s2, ew, ew2⟩
  · obtain ⟨⟨vs, s1, r1⟩, us, s2, r2⟩ := q x hl gd
    obtain ⟨h1, h2, e⟩ := zip_at hi
    obtain ⟨T, x1, y1, rfl, nT, rfl, k1, k2⟩ := y
    obtain ⟨w, ew, rw1⟩ := r1.get (List.getElem?_eq_getElem h1)
    obtain ⟨w2, ew2, rw2⟩ := r2.get (List.getElem?_eq_getElem h2)
    have z1 := k1 vs s1
    have z2 := k2 us s2
    rw [ew] at z1
    rw [ew2] at z2
    cases z1
    cases z2
    obtain ⟨x', hl2, rr⟩ := new_pair hl nT rw1 rw2
    exact ⟨_, e, x', hl2, rr⟩
  · obtain ⟨⟨vs, s1, r1⟩, us, s2, r2⟩ := q x hl gd
    refine ⟨vs, us, s1, s2, ?_⟩
    simp only [zipD, List.length_zipWith]
    rw [← reps.length r1, ← reps.length r2]
    omega
theorem foll_zipT {m0 : AM} {H0 : Hp} {a b : Addr} {xs ys : List D} (s : TSrc g m0 H0 a xs) (s' : TSrc g m0 H0 b ys) : Foll g m0 H0 (RZ.ItzT g.K a b) (zipD xs ys) [] := by
  refine ⟨fun i m H hp hi x hl gd => ?_, fun i m H hp v H' hi x hl gd y => ?_, fun m H hp x hl gd => ?_⟩
  · obtain ⟨vs, s1, r1⟩ := s _ _ x
    obtain ⟨us, s2, r2⟩ := s' _ _ x
    obtain ⟨h1, h2, _⟩ := zip_at hi
    obtain ⟨w, ew, _⟩ := r1.get (List.getElem?_eq_getElem h1)
    obtain ⟨w2, ew2, _⟩ := r2.get (List.getElem?_eq_getElem h2)
    exact ⟨vs, us, w, w2, s1, s2, ew, ew2⟩
  · obtain ⟨vs, s1, r1⟩ := s _ _ x
    obtain ⟨us, s2, r2⟩ := s' _ _ x
    obtain ⟨h1, h2, e⟩ := zip_at hi
    obtain ⟨T, x1, y1, rfl, nT, rfl, k1, k2⟩ := y
    obtain ⟨w, ew, rw1⟩ := r1.get (List.getElem?_eq_getElem h1)
    obtain ⟨w2, ew2, rw2⟩ := r2.get (List.getElem?_eq_getElem h2)
    have z1 := k1 vs s1
    have z2 := k2 us s2
    rw [ew] at z1
    rw [ew2] at z2
    cases z1
    cases z2
    obtain ⟨x', hl2, rr⟩ := new_pair hl nT rw1 rw2
    exact ⟨_, e, x', hl2, rr⟩
  · obtain ⟨vs, s1, r1⟩ := s _ _ x
    obtain ⟨us, s2, r2⟩ := s' _ _ x
    refine ⟨vs, us, s1, s2, ?_⟩
    simp only [zipD, List.length_zipWith]
    rw [← reps.length r1, ← reps.length r2]
    omega
theorem IV.seq {tg e : Expr} {f : M D} (hK : X.K = g.K) (h : EV g X E e f) : IV g X E tg e (iSeq f) := by
  obtain ⟨t, p, q⟩ := h
  refine ⟨_, pi_list p, fun σ H Rr m env hp hl er h => ?_⟩
  refine q σ H _ m env hp hl er (IPO.bind h fun x h1 m1 H1 v x1 hl1 r1 h => ?_)
  rw [hK]
  unfold kSeq seqO at h
  split at h
  · rename_i p e
    obtain ⟨a, rfl, s, gd⟩ := lview_ok hl1 r1 e
    obtain ⟨vs, sq, _⟩ := s _ _ _ (.refl _ _) hl1 gd
    exact ⟨a, rfl, ⟨vs, sq⟩, h m1 H1 _ (.refl _ _) hl1 (foll_list s)⟩
  · exact h.elim
theorem IV.tupS {tg e : Expr} {f : M D} (hK : X.K = g.K) (h : EV g X E e f) : IV g X E tg e (iTupS f) := by
  obtain ⟨t, p, q⟩ := h
  refine ⟨_, pi_tup p, fun σ H Rr m env hp hl er h => ?_⟩
  refine q σ H _ m env hp hl er (IPO.bind h fun x h1 m1 H1 v x1 hl1 r1 h => ?_)
  rw [hK]
  cases x with
  | tup ds =>
    obtain ⟨a, rfl, s⟩ := tview_ok r1
    obtain ⟨vs, sq, _⟩ := s _ _ (.refl _ _)
    exact ⟨a, rfl, ⟨vs, sq⟩, h m1 H1 _ (.refl _ _) hl1 (foll_tup s)⟩
  | _ => exact h.elim
/-- range(n), range(a, b) -/
def rngD (lo : Int) (n : Nat) : List D := (List.range n).map fun i => .int (lo + (i : Nat))
theorem rngD_len (lo : Int) (n : Nat) : (rngD lo n).length = n := by simp [rngD]
theorem foll_range {m0 : AM} {H0 : Hp} {lo : Int} {n : Nat} : Foll g m0 H0 (Itr lo n) (rngD lo n) [] := by
  refine ⟨fun i m H hp hi x _ _ => by rw [rngD_len] at hi; exact hi, fun i m H hp v H' hi x hl' _ y => ?_, fun m H hp x _ _ => by rw [rngD_len]; exact Nat.le_refl _⟩
  obtain ⟨e, y⟩ := y
  subst e
  subst y
  rw [rngD_len] at hi
  exact ⟨.int (lo + (i : Nat)), by simp [rngD, hi], .refl _ _, hl', by simp [rep]⟩
/-- a range's bounds -/
def Rg (n : Int) : Prop := -(2 ^ 62) ≤ n ∧ n < 2 ^ 62
open Classical in
@[simp] noncomputable def kRange1 : List D → HP → R (List D × GdL)
  | [.int n], h => if Rg n then .ok (rngD 0 n.toNat, []) h else .stuck
  | _, _ => .stuck
@[simp] noncomputable def iRange1 (a : M (List D)) (env : EN) (hp : HP) : R (List D × GdL) := (a env hp).bind kRange1
open Classical in
@[simp] noncomputable def kRange2 : List D → HP → R (List D × GdL)
  | [.int i, .int j], h => if Rg i ∧ Rg j then .ok (rngD i (j - i).toNat, []) h else .stuck
  | _, _ => .stuck
@[simp] noncomputable def iRange2 (a : M (List D)) (env : EN) (hp : HP) : R (List D × GdL) := (a env hp).bind kRange2
theorem IV.range1 {tg a : Expr} {p pos : Pos} {f : M (List D)} (hm : X.mg "range" = none) (h : AV g X E [a] f) (hg : Gl X "range") (hs : starEach [a] X.env = [(false, eval a X.env)]) : IV g X E tg (.Call (.Name "range" p) [a] [] pos) (iRange1 f) := by
  obtain ⟨t, p, q⟩ := h
  refine ⟨_, pi_range1 hg hm p hs, fun σ H Rr m env hp hl er h => ?_⟩
  refine q σ H _ m env hp hl er (IPO.bind h fun xs h1 m1 H1 vs x1 hl1 r1 h => ?_)
  unfold kRange1 at h
  split at h
  · split at h
    · rename_i c
      obtain ⟨v, rfl, rr⟩ := reps1 r1
      obtain rfl := rInt rr
      exact ⟨_, rfl, c.1, c.2, h m1 H1 _ (.refl _ _) hl1 foll_range⟩
    · exact h.elim
  · exact h.elim
theorem IV.range2 {tg a b : Expr} {p pos : Pos} {f : M (List D)} (hm : X.mg "range" = none) (h : AV g X E [a, b] f) (hg : Gl X "range") (hs : starEach [a, b] X.env = [(false, eval a X.env), (false, eval b X.env)]) (hs2 : starEach [b] X.env = [(false, eval b X.env)]) : IV g X E tg (.Call (.Name "range" p) [a, b] [] pos) (iRange2 f) := by
  obtain ⟨t, p, q⟩ := h
  refine ⟨_, pi_range2 hg hm p hs hs2, fun σ H Rr m env hp hl er h => ?_⟩
  refine q σ H _ m env hp hl er (IPO.bind h fun xs h1 m1 H1 vs x1 hl1 r1 h => ?_)
  unfold kRange2 at h
  split at h
  · split at h
    · rename_i c
      obtain ⟨v, u, rfl, rr, rr2⟩ := reps2 r1
      obtain rfl := rInt rr
      obtain rfl := rInt rr2
      exact ⟨_, _, rfl, ⟨c.1.1, c.1.2, c.2.1, c.2.2⟩, h m1 H1 _ (.refl _ _) hl1 foll_range⟩
    · exact h.elim
  · exact h.elim
/-- zip(a, b): two lists, or two tuples -/
@[simp] def zipO : Option (List D × GdL) → Option (List D × GdL) → HP → R (List D × GdL)
  | some p, some q, h => .ok (zipD p.1 q.1, p.2 ++ q.2) h
  | _, _, _ => .stuck
@[simp] def kZip2 : List D → HP → R (List D × GdL)
  | [.tup ds, .tup es], h => .ok (zipD ds es, []) h
  | [x, y], h => zipO (lview h x) (lview h y) h
  | _, _ => .stuck
@[simp] def iZip2 (a : M (List D)) (env : EN) (hp : HP) : R (List D × GdL) := (a env hp).bind kZip2
theorem IV.zip {e e2 : Expr} {p pos tpos : Pos} {elts : List Expr} {kk : Nat} {f : M (List D)} (hK : X.K = g.K) (hm : X.mg "zip" = none) (h : AV g X E [e, e2] f) (hg : Gl X "zip")
    (hs : starEach [e, e2] X.env = (false, eval e X.env) :: starEach [e2] X.env) (hpl : (backTo pos (starEach [e2] X.env)).any (·.1) = false) : IV g X E (.Tuple elts kk tpos) (.Call (.Name "zip" p) [e, e2] [] pos) (iZip2 f) := by
  obtain ⟨t, p, q⟩ := h
  refine ⟨_, RZ.pi_zipA hg hm p hs hpl, fun σ H Rr m env hp hl er h => ?_⟩
  refine q σ H _ m env hp hl er (IPO.bind h fun xs h1 m1 H1 vs x1 hl1 r1 h => ?_)
  rw [hK]
  unfold kZip2 at h
  split at h
  · obtain ⟨v, u, rfl, rr, rr2⟩ := reps2 r1
    obtain ⟨a, rfl, s⟩ := tview_ok rr
    obtain ⟨b, rfl, s'⟩ := tview_ok rr2
    obtain ⟨vs, sq, _⟩ := s _ _ (.refl _ _)
    obtain ⟨us, sq', _⟩ := s' _ _ (.refl _ _)
    exact ⟨a, b, vs, us, rfl, .inr ⟨sq, sq', h m1 H1 _ (.refl _ _) hl1 (foll_zipT s s')⟩⟩
  · unfold zipO at h
    split at h
    · rename_i p q e1 e2
      obtain ⟨v, u, rfl, rr, rr2⟩ := reps2 r1
      obtain ⟨a, rfl, s, gd⟩ := lview_ok hl1 rr e1
      obtain ⟨b, rfl, s', gd'⟩ := lview_ok hl1 rr2 e2
      obtain ⟨vs, sq, _⟩ := s _ _ _ (.refl _ _) hl1 gd
      obtain ⟨us, sq', _⟩ := s' _ _ _ (.refl _ _) hl1 gd'
      exact ⟨a, b, vs, us, rfl, .inl ⟨sq, sq', h m1 H1 _ (.refl _ _) hl1 (foll_zip s s')⟩⟩
    · exact h.elim
  · exact h.elim
/-- the signs of a text -/
@[simp] def kText : D → HP → R (List D × GdL)
  | .str z, h => .ok (z.cps.toList.map fun c => .str ⟨#[c]⟩, []) h
  | _, _ => .stuck
@[simp] def iText (a : M D) (env : EN) (hp : HP) : R (List D × GdL) := (a env hp).bind kText
theorem foll_text {m0 : AM} {H0 : Hp} {z : Str} : Foll g m0 H0 (Its z) (z.cps.toList.map fun c => .str ⟨#[c]⟩) [] := by
  refine ⟨fun i m H hp hi x _ _ => ?_, fun i m H hp v H' hi x hl' _ y => ?_, fun m H hp x _ _ => ?_⟩
  · show i < z.cps.size; simpa using hi
  · obtain ⟨e, c, ec, y⟩ := y
    subst e
    subst y
    refine ⟨.str ⟨#[c]⟩, ?_, .refl _ _, hl', by simp [rep]⟩
    rw [List.getElem?_map, Array.getElem?_toList, ec]
    rfl
  · show z.cps.size ≤ _
    simp
theorem IV.text {tg e : Expr} {f : M D} (h : EV g X E e f) : IV g X E tg e (iText f) := by
  obtain ⟨t, p, q⟩ := h
  refine ⟨_, pi_str p, fun σ H Rr m env hp hl er h => ?_⟩
  refine q σ H _ m env hp hl er (IPO.bind h fun x h1 m1 H1 v x1 hl1 r1 h => ?_)
  cases x with
  | str z =>
    obtain rfl := rStr r1
    exact ⟨z, rfl, h m1 H1 _ (.refl _ _) hl1 foll_text⟩
  | _ => exact h.elim
/-- a list, a tuple or a text: whatever comes -/
theorem PI.or' {tg it : Expr} {w1 w2 : TI} (h1 : PI X tg it w1) (h2 : PI X tg it w2) : PI X tg it (fun σ H R => w1 σ H R ∨ w2 σ H R) := ⟨fun pins s σ H R I h => h.elim (h1.run pins s σ H R I) (h2.run pins s σ H R I)⟩
@[simp] def kAny : D → HP → R (List D × GdL)
  | .tup ds, h => .ok (ds, []) h
  | .str z, h => .ok (z.cps.toList.map fun c => .str ⟨#[c]⟩, []) h
  | x, h => seqO (lview h x) h
@[simp] def iAny (a : M D) (env : EN) (hp : HP) : R (List D × GdL) := (a env hp).bind kAny
theorem IV.any {tg e : Expr} {f : M D} (hK : X.K = g.K) (h : EV g X E e f) : IV g X E tg e (iAny f) := by
  obtain ⟨w1, p1, q1⟩ := IV.seq (tg := tg) hK h
  obtain ⟨w2, p2, q2⟩ := IV.tupS (tg := tg) hK h
  obtain ⟨w3, p3, q3⟩ := IV.text (tg := tg) h
  refine ⟨_, PI.or' p1 (PI.or' p2 p3), fun σ H Rr m env hp hl er h => ?_⟩
  cases hf : f env hp with
  | ok x h1 =>
    unfold iAny at h
    rw [hf] at h
    cases x with
    | tup ds => exact .inr (.inl (q2 σ H Rr m env hp hl er (by unfold iTupS; rw [hf]; exact h)))
    | str z => exact .inr (.inr (q3 σ H Rr m env hp hl er (by unfold iText; rw [hf]; exact h)))
    | _ => exact .inl (q1 σ H Rr m env hp hl er (by unfold iSeq; rw [hf]; exact h))
  | exc c fs h1 =>
    unfold iAny at h
    rw [hf] at h
    exact .inl (q1 σ H Rr m env hp hl er (by unfold iSeq; rw [hf]; exact h))
  | stuck =>
    unfold iAny at h
    rw [hf] at h
    exact h.elim
end
end Ev
namespace Ev
open PySem PySem.Spec PyProof.Rows L2
section
variable {g : G} {X : Cx} {E : XK}

/-! ### a live list is written -/
theorem liveO.ext {m m' : AM} {H H' : Hp} {b : Addr} {o : O} (x : Ex m H m' H') (e : H' b = H b) (h : liveO g m H b o) : liveO g m' H' b o := by
  cases o with
  | lst ds => obtain ⟨vs, h1, r⟩ := h; exact ⟨vs, by rw [e]; exact h1, reps.ext x _ _ r⟩
  | dic ds => obtain ⟨vs, h1, r⟩ := h; exact ⟨vs, by rw [e]; exact h1, repk.ext x _ _ r⟩
  | ins c fs => obtain ⟨dx, vs, h1, r⟩ := h; exact ⟨dx, vs, by rw [e]; exact h1, repf.ext x _ _ r⟩
  | dead => exact h.elim
theorem HL.write {m : AM} {H : Hp} {hp : HP} (hl : HL g m H hp) {n : Nat} {a : Addr} {u : HO} {ob ob' : O} (ea : m[n]? = some (some a)) (eo : hp[n]? = some ob) (hne : ob' ≠ .dead)
    (hlv : Ex m H m (upd H a u) → liveO g m (upd H a u) a ob') : Ex m H m (upd H a u) ∧ HL g m (upd H a u) (hp.set n ob') := by
  have x : Ex m H m (upd H a u) := ⟨Nat.le_refl _, fun _ _ h _ => h, fun b o e k => ⟨by rw [upd_ne (fun z => by subst z; exact k (List.mem_of_getElem? ea))]; exact e, k⟩⟩
  refine ⟨x, ⟨by simp [hl.len], hl.nd, fun i o h => ?_⟩⟩
  by_cases hi : n = i
  · subst hi
    rw [List.getElem?_set_self (List.getElem?_eq_some_iff.mp eo).1] at h
    cases h
    exact .inr ⟨a, ea, hlv x⟩
  · rw [List.getElem?_set_ne hi] at h
    rcases hl.live i o h with z | ⟨b, eb, lv⟩
    · exact .inl z
    · refine .inr ⟨b, eb, lv.ext x ?_⟩
      rw [upd_ne (fun z => by subst z; exact hi (hl.nd n i b ea eb))]

/-! ### list comprehensions -/
@[reducible] def R.nx {α : Type} (r : R α) : R α := match r with
  | .exc _ _ _ => .stuck
  | r => r
theorem PO.nx {α β : Type} {m : AM} {H : Hp} {E' : XK} {rp : AM → Hp → α → β → Prop} {Q : β → Hp → Prop} {r : R α} (h : PO g m H E rp Q r.nx) : PO g m H E' rp Q r := by
  cases r with
  | ok d h' => exact h
  | exc _ _ _ => exact h.elim
  | stuck => exact h
def appL (n : Nat) (y : D) (h : HP) : R Unit := match h[n]? with
  | some (.lst ds) => if ds.length < sizeLine then .ok () (h.set n (.lst (ds ++ [y]))) else .stuck
  | _ => .stuck
open Classical in
noncomputable def lcE (asg : TF) (cond : M Bool) (elt : M D) (envw : EN) (n : Nat) (gd : GdL) : List D → HP → R Unit
  | [], h => if Gd gd h then .ok () h else .stuck
  | d :: ds, h => if Gd gd h then (match asg d envw h with
      | some e => (cond e h).nx.bind fun b h1 => if b = true then (elt e h1).nx.bind fun y h2 => (appL n y h2).bind fun _ h3 => lcE asg cond elt envw n gd ds h3 else lcE asg cond elt envw n gd ds h1
      | none => .stuck)
    else .stuck
/-- no live thing from n on is in it -/
def rlt (n : Nat) : D → Bool
  | .non => true
  | .bl _ => true
  | .int _ => true
  | .str _ => true
  | .tup ds => rlts n ds
  | .lst ds => rlts n ds
  | .klst ds => rlts n ds
  | .dic ks => rltk n ks
  | .ins _ fs => rltf n fs
  | .ref k => decide (k < n)
where
  rlts (n : Nat) : List D → Bool
  | [] => true
  | d :: ds => rlt n d && rlts n ds
  rltk (n : Nat) : List (Key × D) → Bool
  | [] => true
  | (_, d) :: ds => rlt n d && rltk n ds
  rltf (n : Nat) : List (Str × D) → Bool
  | [] => true
  | (_, d) :: ds => rlt n d && rltf n ds
/-- m1 knows less than m' -/
structure Dn (n : Nat) (m' m1 : AM) : Prop where
  mem : ∀ a, some a ∈ m1 → some a ∈ m'
  at_ : ∀ k a, k < n → m1[k]? = some (some a) → m'[k]? = some (some a)
  le : n ≤ m1.length
theorem FT.down {K : PySem.W.Frag} {n : Nat} {m' m1 : AM} {H : Hp} {a : Addr} {xs : List V} (x : Dn n m' m1) (h : FT K m' H a xs) : FT K m1 H a xs := by
  rcases h with ⟨h, k⟩ | h
  · exact .inl ⟨h, fun z => k (x.mem _ z)⟩
  · exact .inr h
theorem FL.down {K : PySem.W.Frag} {n : Nat} {m' m1 : AM} {H : Hp} {a : Addr} {xs : List V} (x : Dn n m' m1) (h : FL K m' H a xs) : FL K m1 H a xs := by
  rcases h with ⟨h, k⟩ | h
  · exact .inl ⟨h, fun z => k (x.mem _ z)⟩
  · exact .inr h
mutual
theorem rep.down {n : Nat} {m' m1 : AM} {H : Hp} (x : Dn n m' m1) : ∀ (d : D) (v : V), rlt n d = true → rep g m' H d v → rep g m1 H d v
  | .non, v, _, h => by simpa [rep] using h
  | .bl b, v, _, h => by simpa [rep] using h
  | .int i, v, _, h => by simpa [rep] using h
  | .str s, v, _, h => by simpa [rep] using h
  | .tup ds, v, q, h => by
    simp only [rep] at h ⊢
    simp only [rlt] at q
    obtain ⟨a, vs, e, f, r⟩ := h
    exact ⟨a, vs, e, f.down x, reps.down x ds vs q r⟩
  | .lst ds, v, q, h => by
    simp only [rep] at h ⊢
    simp only [rlt] at q
    obtain ⟨a, vs, e, f, k, r⟩ := h
    exact ⟨a, vs, e, f, fun z => k (x.mem _ z), reps.down x ds vs q r⟩
  | .klst ds, v, q, h => by
    simp only [rep] at h ⊢
    simp only [rlt] at q
    obtain ⟨a, vs, e, f, r⟩ := h
    exact ⟨a, vs, e, f.down x, reps.down x ds vs q r⟩
  | .dic ks, v, q, h => by
    simp only [rep] at h ⊢
    simp only [rlt] at q
    obtain ⟨a, vs, e, f, k, r⟩ := h
    exact ⟨a, vs, e, f, fun z => k (x.mem _ z), repk.down x ks vs q r⟩
  | .ins c fs, v, q, h => by
    simp only [rep] at h ⊢
    simp only [rlt] at q
    obtain ⟨a, dx, vs, e, f, k, r⟩ := h
    exact ⟨a, dx, vs, e, f, fun z => k (x.mem _ z), repf.down x fs vs q r⟩
  | .ref k, v, q, h => by
    simp only [rep] at h ⊢
    simp only [rlt, decide_eq_true_eq] at q
    exact ⟨Nat.lt_of_lt_of_le q x.le, fun a e => h.2 a (x.at_ k a q e)⟩
theorem reps.down {n : Nat} {m' m1 : AM} {H : Hp} (x : Dn n m' m1) : ∀ (ds : List D) (vs : List V), rlt.rlts n ds = true → reps g m' H ds vs → reps g m1 H ds vs
  | [], vs, _, h => by simpa [reps] using h
  | d :: ds, vs, q, h => by
    simp only [reps] at h ⊢
    simp only [rlt.rlts, Bool.and_eq_true] at q
    obtain ⟨v, r, e, h1, h2⟩ := h
    exact ⟨v, r, e, rep.down x d v q.1 h1, reps.down x ds r q.2 h2⟩
theorem repk.down {n : Nat} {m' m1 : AM} {H : Hp} (x : Dn n m' m1) : ∀ (ds : List (Key × D)) (vs : List (Key × V)), rlt.rltk n ds = true → repk g m' H ds vs → repk g m1 H ds vs
  | [], vs, _, h => by simpa [repk] using h
  | (k, d) :: ds, vs, q, h => by
    simp only [repk] at h ⊢
    simp only [rlt.rltk, Bool.and_eq_true] at q
    obtain ⟨v, r, e, h1, h2⟩ := h
    exact ⟨v, r, e, rep.down x d v q.1 h1, repk.down x ds r q.2 h2⟩
theorem repf.down {n : Nat} {m' m1 : AM} {H : Hp} (x : Dn n m' m1) : ∀ (ds : List (Str × D)) (vs : List (Str × V)), rlt.rltf n ds = true → repf g m' H ds vs → repf g m1 H ds vs
  | [], vs, _, h => by simpa [repf] using h
  | (k, d) :: ds, vs, q, h => by
    simp only [repf] at h ⊢
    simp only [rlt.rltf, Bool.and_eq_true] at q
    obtain ⟨v, r, e, h1, h2⟩ := h
    exact ⟨v, r, e, rep.down x d v q.1 h1, repf.down x ds r q.2 h2⟩
end
/-! what is represented speaks of what is there -/
mutual
theorem rep.rlt {m : AM} {H : Hp} : ∀ (d : D) (v : V), rep g m H d v → Ev.rlt m.length d = true
  | .non, v, h => rfl
  | .bl b, v, h => rfl
  | .int i, v, h => rfl
  | .str s, v, h => rfl
  | .tup ds, v, h => by simp only [rep] at h; obtain ⟨a, vs, e, f, r⟩ := h; simp only [Ev.rlt]; exact reps.rlt ds vs r
  | .lst ds, v, h => by simp only [rep] at h; obtain ⟨a, vs, e, f, k, r⟩ := h; simp only [Ev.rlt]; exact reps.rlt ds vs r
  | .klst ds, v, h => by simp only [rep] at h; obtain ⟨a, vs, e, f, r⟩ := h; simp only [Ev.rlt]; exact reps.rlt ds vs r
  | .dic ks, v, h => by simp only [rep] at h; obtain ⟨a, vs, e, f, k, r⟩ := h; simp only [Ev.rlt]; exact repk.rlt ks vs r
  | .ins c fs, v, h => by simp only [rep] at h; obtain ⟨a, dx, vs, e, f, k, r⟩ := h; simp only [Ev.rlt]; exact repf.rlt fs vs r
  | .ref k, v, h => by simp only [rep] at h; simp only [Ev.rlt, decide_eq_true_eq]; exact h.1
theorem reps.rlt {m : AM} {H : Hp} : ∀ (ds : List D) (vs : List V), reps g m H ds vs → Ev.rlt.rlts m.length ds = true
  | [], vs, h => rfl
  | d :: ds, vs, h => by
    simp only [reps] at h
    obtain ⟨v, r, e, h1, h2⟩ := h
    simp only [Ev.rlt.rlts, Bool.and_eq_true]
    exact ⟨rep.rlt d v h1, reps.rlt ds r h2⟩
theorem repk.rlt {m : AM} {H : Hp} : ∀ (ds : List (Key × D)) (vs : List (Key × V)), repk g m H ds vs → Ev.rlt.rltk m.length ds = true
  | [], vs, h => rfl
  | (k, d) :: ds, vs, h => by
    simp only [repk] at h
    obtain ⟨v, r, e, h1, h2⟩ := h
    simp only [Ev.rlt.rltk, Bool.and_eq_true]
    exact ⟨rep.rlt d v h1, repk.rlt ds r h2⟩
theorem repf.rlt {m : AM} {H : Hp} : ∀ (ds : List (Str × D)) (vs : List (Str × V)), repf g m H ds vs → Ev.rlt.rltf m.length ds = true
  | [], vs, h => rfl
  | (k, d) :: ds, vs, h => by
    simp only [repf] at h
    obtain ⟨v, r, e, h1, h2⟩ := h
    simp only [Ev.rlt.rltf, Bool.and_eq_true]
    exact ⟨rep.rlt d v h1, repf.rlt ds r h2⟩
end
/-! the heap cut back to what was there -/
def sameO (o o' : O) : Prop := o = o'
theorem HL.lookup {m : AM} {H : Hp} {hp : HP} (hl : HL g m H hp) {n : Nat} {a : Addr} (e : m[n]? = some (some a)) : ∃ o, hp[n]? = some o ∧ liveO g m H a o := by
  have l : n < hp.length := by rw [← hl.len]; exact (List.getElem?_eq_some_iff.mp e).1
  refine ⟨_, List.getElem?_eq_getElem l, ?_⟩
  rcases hl.live n _ (List.getElem?_eq_getElem l) with ⟨_, z⟩ | ⟨b, eb, lv⟩
  · rw [e] at z; cases z
  · rw [e] at eb; cases eb; exact lv
/-- the objects of before are as they were (as data): the state is one of the old live map -/
theorem HL.back {m m' : AM} {H H' : Hp} {hp hp' : HP} (hl : HL g m H hp) (x : Ex m H m' H') (hl' : HL g m' H' hp') (e : hp'.take hp.length = hp) : Ex m H m H' ∧ HL g m H' hp ∧ Dn m.length m' m := by
  have same : ∀ k a, k < m.length → m[k]? = some (some a) → m'[k]? = some (some a) := fun k a lk ek => by
    obtain ⟨o, eo, lv⟩ := hl.lookup ek
    have e2 : hp'[k]? = some o := by
      have : (hp'.take hp.length)[k]? = some o := by rw [e]; exact eo
      rw [List.getElem?_take] at this
      split at this
      · exact this
      · cases this
    rcases hl'.live k o e2 with ⟨z, _⟩ | ⟨b, eb, _⟩
    · subst z; exact lv.elim
    · rw [x.mp k b eb lk] at ek
      cases ek
      exact eb
  have dn : Dn m.length m' m := ⟨fun a z => by
      obtain ⟨k, lk, ek⟩ := List.getElem_of_mem z
      exact List.mem_of_getElem? (same k a lk (by rw [List.getElem?_eq_getElem lk, ek])), same, Nat.le_refl _⟩
  refine ⟨⟨Nat.le_refl _, fun _ _ h _ => h, fun a o h k => ⟨(x.fz a o h k).1, k⟩⟩, ⟨hl.len, hl.nd, fun i o h => ?_⟩, dn⟩
  rcases hl.live i o h with z | ⟨b, eb, lv⟩
  · exact .inl z
  · refine .inr ⟨b, eb, ?_⟩
    have li : i < m.length := (List.getElem?_eq_some_iff.mp eb).1
    have e2 : hp'[i]? = some o := by
      have : (hp'.take hp.length)[i]? = some o := by rw [e]; exact h
      rw [List.getElem?_take] at this
      split at this
      · exact this
      · cases this
    rcases hl'.live i o e2 with ⟨z, _⟩ | ⟨b', eb', lv'⟩
    · subst z; exact lv.elim
    · have := same i b li eb
      rw [eb'] at this
      cases this
      cases o with
      | lst ds =>
        obtain ⟨vs, _, r0⟩ := lv
        obtain ⟨us, h1, r⟩ := lv'
        exact ⟨us, h1, reps.down dn _ _ (reps.rlt _ _ r0) r⟩
      | dic ds =>
        obtain ⟨vs, _, r0⟩ := lv
        obtain ⟨us, h1, r⟩ := lv'
        exact ⟨us, h1, repk.down dn _ _ (repk.rlt _ _ r0) r⟩
      | ins c fs =>
        obtain ⟨_, vs, _, r0⟩ := lv
        obtain ⟨dx, us, h1, r⟩ := lv'
        exact ⟨dx, us, h1, repf.down dn _ _ (repf.rlt _ _ r0) r⟩
      | dead => exact lv.elim
/-- a value frozen: what is younger than n becomes a value of its own -/
def fz (n : Nat) (h : HP) (d : D) : Option D := if rlt n d = true then some d else match d with
  | .ref k => match h[k]? with
    | some (.lst ds) => if rlt.rlts n ds = true then some (.lst ds) else none
    | some (.dic ks) => if rlt.rltk n ks = true then some (.dic ks) else none
    | some (.ins c fs) => if rlt.rltf n fs = true then some (.ins c fs) else none
    | _ => none
  | _ => none
theorem fz_ok {m m' : AM} {H' : Hp} {hp' : HP} {d d' : D} {v : V} (hl' : HL g m' H' hp') (dn : Dn m.length m' m) (lm : m.length ≤ m'.length) (r : rep g m' H' d v) (e : fz m.length hp' d = some d') : rep g m H' d' v := by
  unfold fz at e
  split at e
  · rename_i c
    cases e
    exact rep.down dn _ _ c r
  · rename_i c
    split at e
    · rename_i k
      simp only [rlt, decide_eq_true_eq] at c
      simp only [rep] at r
      have nm : ∀ a, m'[k]? = some (some a) → some a ∉ m := fun a ea z => by
        obtain ⟨j, lj, ej⟩ := List.getElem_of_mem z
        have := dn.at_ j a lj (by rw [List.getElem?_eq_getElem lj, ej])
        have := hl'.nd j k a this ea
        omega
      split at e
      · rename_i ds q
        split at e
        · rename_i c2
          cases e
          obtain ⟨a, ea, vs, ha, rs⟩ := hl'.at q (by simp)
          simp only [rep]
          exact ⟨a, vs, r.2 a ea, ha, nm a ea, reps.down dn _ _ c2 rs⟩
        · cases e
      · rename_i ds q
        split at e
        · rename_i c2
          cases e
          obtain ⟨a, ea, vs, ha, rs⟩ := hl'.at q (by simp)
          simp only [rep]
          exact ⟨a, vs, r.2 a ea, ha, nm a ea, repk.down dn _ _ c2 rs⟩
        · cases e
      · rename_i c0 ds q
        split at e
        · rename_i c2
          cases e
          obtain ⟨a, ea, dx, vs, ha, rs⟩ := hl'.at q (by simp)
          simp only [rep]
          exact ⟨a, dx, vs, r.2 a ea, ha, nm a ea, repf.down dn _ _ c2 rs⟩
        · cases e
      · cases e
    · cases e
/-! behind a pure thing: the heap as it was ahead, the value frozen -/
open Classical in
noncomputable def pure_ (h0 : HP) (d : D) (h : HP) : R D := if h.take h0.length = h0 then (match fz h0.length h d with
    | some d' => .ok d' h0
    | none => .stuck) else .stuck
theorem PO.pure_ {m m' : AM} {H H' : Hp} {hp hp' : HP} {d : D} {v : V} {Q : V → Hp → Prop} (hl : HL g m H hp) (x : Ex m H m' H') (hl' : HL g m' H' hp') (r : rep g m' H' d v) (h : PO g m H E (rep g) Q (Ev.pure_ hp d hp')) : Q v H' := by
  unfold Ev.pure_ at h
  split at h
  · rename_i c
    split at h
    · rename_i d' e
      obtain ⟨x2, hl2, dn⟩ := hl.back x hl' c
      rw [← hl.len] at e
      exact h m H' v x2 hl2 (fz_ok hl' dn x.le r e)
    · exact h.elim
  · exact h.elim
end
end Ev
namespace Ev
open PySem PySem.Spec PyProof.Rows L2
section
variable {g : G} {X : Cx} {E : XK}
theorem wipe_get (σ : L2.St) (j : Nat) : ∀ vs : List Nat, (wipe σ vs)[j]? = if j ∈ vs then (if j < σ.length then some none else none) else σ[j]?
  | [] => by simp [wipe]
  | v :: vs => by
    unfold wipe
    have ih := wipe_get σ j vs
    by_cases e : v = j
    · subst e
      rw [List.getElem?_set_self', ih]
      simp only [List.mem_cons, true_or, if_true]
      by_cases h : v < σ.length
      · by_cases hv : v ∈ vs
        · simp [hv, h]
        · simp [hv, h, List.getElem?_eq_getElem h]
      · have : σ[v]? = none := List.getElem?_eq_none (by omega)
        by_cases hv : v ∈ vs
        · simp [hv, h]
        · simp [hv, h, this]
    · rw [List.getElem?_set_ne e, ih]
      have : j ≠ v := fun z => e z.symm
      simp [List.mem_cons, this]
theorem wipe_turned {is vs : List Nat} {a b : L2.St} (t : Turned is a b) (h : ∀ i ∈ is, i ∈ vs) : wipe b vs = wipe a vs := by
  refine List.ext_getElem? fun j => ?_
  rw [wipe_get, wipe_get, t.1]
  split
  · rfl
  · rename_i hj
    exact t.2 j fun z => hj (h j z)
theorem wipe_wipe (σ : L2.St) (vs : List Nat) : wipe (wipe σ vs) vs = wipe σ vs := by
  refine List.ext_getElem? fun j => ?_
  rw [wipe_get, wipe_get, wipe_length]
  split
  · rfl
  · rfl
@[simp] def wipeE (env : EN) : List Nat → EN
  | [] => env
  | v :: vs => (wipeE env vs).set v none
theorem ER.unset {m : AM} {H : Hp} {σ : L2.St} {env : EN} {i : Nat} (er : ER g m H σ env) : ER g m H (σ.set i none) (env.set i none) := by
  refine ⟨by simp [er.len], fun j e h => ?_⟩
  by_cases hj : i = j
  · subst hj
    rw [List.getElem?_set_self'] at h
    cases q : env[i]? with
    | none => rw [q] at h; cases h
    | some z => rw [q] at h; cases h
  · rw [List.getElem?_set_ne hj] at h
    obtain ⟨w, e1, r1⟩ := er.at_ j e h
    exact ⟨w, by rw [List.getElem?_set_ne hj]; exact e1, r1⟩
theorem ER.wipe {m : AM} {H : Hp} {σ : L2.St} {env : EN} (er : ER g m H σ env) : ∀ vs, ER g m H (L2.wipe σ vs) (wipeE env vs)
  | [] => er
  | v :: vs => (ER.wipe er vs).unset
noncomputable def outL (live : Bool) (h0 : HP) (h : HP) : R D := if live = true then .ok (.ref h0.length) h else pure_ h0 (.ref h0.length) h
noncomputable def mLc (live : Bool) (it : IM) (own : List Nat) (asg : TF) (cond : M Bool) (elt : M D) : M D := fun env hp => (it env hp).bind fun p h =>
  (lcE asg cond elt (wipeE env own) h.length p.2 p.1 (h ++ [.lst []])).bind fun _ h' => outL live h h'
theorem PO.mono {α β : Type} {rp : AM → Hp → α → β → Prop} {m m1 : AM} {H H1 : Hp} {Q : β → Hp → Prop} {r : R α} (x : Ex m H m1 H1) (h : PO g m H E rp Q r) : PO g m1 H1 E rp Q r := by
  cases r with
  | ok d h2 => exact fun m2 H2 w x3 hl3 r3 => h m2 H2 w (x.trans x3) hl3 r3
  | exc c fs h2 => exact fun m2 H2 d2 ws x3 hl3 e2 n2 r2 => h m2 H2 d2 ws (x.trans x3) hl3 e2 n2 r2
  | stuck => exact h
theorem PO.bindB {α β γ δ : Type} {m0 m : AM} {H0 H : Hp} {rp : AM → Hp → α → β → Prop} {rq : AM → Hp → γ → δ → Prop} {Q : β → Hp → Prop} {Q' : δ → Hp → Prop} {r : R α} {f : α → HP → R γ}
    (h : PO g m0 H0 E rq Q' (r.bind f)) (x0 : Ex m0 H0 m H) (k : ∀ d hp' m' H' v, Ex m H m' H' → HL g m' H' hp' → rp m' H' d v → PO g m0 H0 E rq Q' (f d hp') → Q v H') : PO g m H E rp Q r := by
  cases r with
  | ok d hp' => exact fun m' H' v x hl rv => k d hp' m' H' v x hl rv h
  | exc c fs hp' => exact fun m2 H2 d2 ws x3 hl3 e2 n2 r2 => h m2 H2 d2 ws (x0.trans x3) hl3 e2 n2 r2
  | stuck => exact h
/-- the reading of a comprehension follows from the evaluation -/
theorem lc_sem {wi : TI} {gt : TG} {tt : TT} {te : TE} {fi : IM} {own is : List Nat} {asg : TF} {cond : M Bool} {elt : M D} (live : Bool)
    (hi : ∀ σ H Rr m env hp, HL g m H hp → ER g m H σ env → IPO g m H E Rr (fi env hp) → wi σ H Rr)
    (hg : ∀ v σ H Q m env hp d, HL g m H hp → ER g m H σ env → rep g m H d v → (∃ env', asg d env hp = some env' ∧ ∀ σ', Turned is σ σ' → ER g m H σ' env' → Q σ' H) → gt v σ H Q)
    (ht : ∀ σ H Q m env hp, HL g m H hp → ER g m H σ env → PO g m H E0 rB Q (cond env hp) → tt σ H Q)
    (he : ∀ σ H Q m env hp, HL g m H hp → ER g m H σ env → PO g m H E0 (rep g) Q (elt env hp) → te σ H Q)
    (hsub : ∀ i ∈ is, i ∈ own)
    {σ : L2.St} {H : Hp} {Q : VK} {m : AM} {env : EN} {hp : HP} (hl : HL g m H hp) (er : ER g m H σ env) (h : PO g m H E (rep g) Q (mLc live fi own asg cond elt env hp)) : tLc wi gt tt te own σ H Q := by
  unfold mLc at h
  refine hi σ H _ m env hp hl er ?_
  revert h
  cases fi env hp with
  | exc c fs h1 => exact fun h => h
  | stuck => exact fun h => h
  | ok p h1 =>
    obtain ⟨items, gd⟩ := p
    intro h m1 H1 J x1 hl1 fo D hD
    have h : PO g m H E (rep g) Q ((lcE asg cond elt (wipeE env own) h1.length gd items (h1 ++ [.lst []])).bind fun _ h' => outL live h1 h') := h
    obtain ⟨x2, hl2⟩ := hl1.push (o := .lst []) (ob := .lst []) hD (by simp) fun x => ⟨[], upd_same, by simp [reps]⟩
    have er1 := (er.ext x1).wipe own
    have eD : ∀ {m' : AM} {H' : Hp} {b : Addr}, Ex (m1 ++ [some D]) (upd H1 D (.lst [])) m' H' → m'[h1.length]? = some (some b) → b = D := fun {m' H' b} x e => by
      have := x.mp h1.length b e (by simp [hl1.len])
      rw [← hl1.len, List.getElem?_append_right (Nat.le_refl _)] at this
      simp at this
      exact this.symm
    refine ⟨fun i k H' => k = items.length - i ∧ i ≤ items.length ∧ ∃ m' hp', Ex (m1 ++ [some D]) (upd H1 D (.lst [])) m' H' ∧ HL g m' H' hp' ∧
        PO g m1 H1 E (rep g) Q ((lcE asg cond elt (wipeE env own) h1.length gd (items.drop i) hp').bind fun _ h' => outL live h1 h'),
      ⟨items.length, rfl, Nat.zero_le _, m1 ++ [some D], h1 ++ [.lst []], .refl _ _, hl2, by rw [List.drop_zero]; exact PO.mono x1 h⟩, ?_⟩
    rintro i k H' ⟨rfl, hi', m', hp', x', hl', po⟩
    have xm1 : Ex m1 H1 m' H' := x2.trans x'
    by_cases hlt : i < items.length
    · have ed : items.drop i = items[i] :: items.drop (i + 1) := List.drop_eq_getElem_cons hlt
      rw [ed] at po
      unfold lcE at po
      by_cases hgd : Gd gd hp'
      · rw [if_pos hgd] at po
        refine .inr ⟨fo.go i m' H' hp' hlt xm1 hl' hgd, fun H'' => ∃ k', k' < items.length - i ∧ (k' = items.length - (i + 1) ∧ i + 1 ≤ items.length ∧ ∃ m' hp', Ex (m1 ++ [some D]) (upd H1 D (.lst [])) m' H'' ∧ HL g m' H'' hp' ∧
          PO g m1 H1 E (rep g) Q ((lcE asg cond elt (wipeE env own) h1.length gd (items.drop (i + 1)) hp').bind fun _ h' => outL live h1 h')), fun H'' z => z, fun x H'' y => ?_⟩
        obtain ⟨d, ed', xe, hl3, rd⟩ := fo.yld i m' H' hp' x H'' hlt xm1 hl' hgd y
        rw [List.getElem?_eq_getElem hlt] at ed'
        cases ed'
        split at po
        · rename_i env' easg
          have erw : ER g m' H'' (L2.wipe σ own) (wipeE env own) := er1.ext (xm1.trans xe)
          refine hg x (L2.wipe σ own) H'' _ m' (wipeE env own) hp' _ hl3 erw rd ⟨env', easg, fun σ' tn er' => ?_⟩
          refine ⟨by rw [wipe_turned tn hsub, wipe_wipe], ?_⟩
          rw [R.bind_assoc] at po
          refine ht σ' H'' _ m' env' hp' hl3 er' (PO.nx (E := E) (PO.bindB po (xm1.trans xe) fun b h4 m4 H4 v4 x4 hl4 r4 po => ?_))
          cases (show b = v4 from r4)
          cases b with
          | true =>
            rw [if_pos rfl] at po ⊢
            rw [R.bind_assoc] at po
            refine he σ' H4 _ m4 env' h4 hl4 (er'.ext x4) (PO.nx (E := E) (PO.bindB po ((xm1.trans xe).trans x4) fun y' h5 m5 H5 v5 x5 hl5 r5 po => ?_))
            rw [R.bind_assoc] at po
            unfold appL at po
            split at po
            · rename_i acc eacc
              split at po
              · rename_i hz
                obtain ⟨b, eb, vs, hb, rs⟩ := hl5.at eacc (by simp)
                have x5' := ((x'.trans xe).trans (x4.trans x5))
                obtain rfl := eD x5' eb
                refine ⟨vs, hb, by rw [← reps.length rs]; exact hz, ?_⟩
                obtain ⟨x6, hl6⟩ := hl5.write (u := .lst (vs ++ [v5])) (ob' := .lst (acc ++ [y'])) eb eacc (by simp) fun x6 => ⟨vs ++ [v5], upd_same, reps.ext x6 _ _ (reps.append rs (by simp only [reps]; exact ⟨v5, [], rfl, r5, rfl⟩))⟩
                exact ⟨items.length - (i + 1), by omega, rfl, hlt, m5, _, x5'.trans x6, hl6, po⟩
              · exact po.elim
            · exact po.elim
          | false =>
            rw [if_neg Bool.false_ne_true] at po ⊢
            exact ⟨items.length - (i + 1), by omega, rfl, hlt, m4, h4, (x'.trans xe).trans x4, hl4, po⟩
        · exact po.elim
      · rw [if_neg hgd] at po
        exact po.elim
    · have e : i = items.length := by omega
      subst e
      rw [List.drop_length] at po
      unfold lcE at po
      by_cases hgd : Gd gd hp'
      · rw [if_pos hgd] at po
        refine .inl ⟨fo.stop m' H' hp' xm1 hl' hgd, ?_⟩
        have po : PO g m1 H1 E (rep g) Q (outL live h1 hp') := po
        have rr : rep g m' H' (.ref h1.length) (.ref D) := by
          simp only [rep]
          refine ⟨Nat.lt_of_lt_of_le (by simp [hl1.len]) x'.le, fun a ea => ?_⟩
          rw [eD x' ea]
        unfold outL at po
        cases live with
        | true =>
          rw [if_pos rfl] at po
          exact po m' H' _ xm1 hl' rr
        | false =>
          rw [if_neg Bool.false_ne_true] at po
          exact PO.pure_ hl1 xm1 hl' rr po
      · rw [if_neg hgd] at po
        exact po.elim
end
end Ev
namespace Ev
open PySem PySem.Spec PyProof.Rows L2
section
variable {g : G} {X : Cx} {E : XK}
/-- contexts of a comprehension's block -/
abbrev Blk (X : Cx) (scope : Scope) (s : Shared) (H : Hp) (C : Addr) (cl : List (Str × Addr)) (fp : List Addr) : Cx := X.blk s H scope (compEnvC scope cl C X.env) fp
/-- the parts of a comprehension -/
structure LCV (g : G) (X : Cx) (E : XK) (elt tg it : Expr) (ifs : List Expr) (scope : Scope) (own : List (Str × Nat)) (f : Bool → M D) : Prop where
  ok : BlkOk X.N X.env.scope scope own
  ex : ∃ wi gt tt te, PI X tg it wi ∧ (∀ s H C cl fp, PG (Blk X scope s H C cl fp) tg gt) ∧ (∀ s H C cl fp, PTs (Blk X scope s H C cl fp) ifs tt) ∧ (∀ s H C cl fp, PE (Blk X scope s H C cl fp) elt te) ∧
    ∀ live σ H Q m env hp, HL g m H hp → ER g m H σ env → PO g m H E (rep g) Q (f live env hp) → tLc wi gt tt te (own.map (·.2)) σ H Q
structure CV1 (g : G) (X : Cx) (ifs : List Expr) (f : M Bool) : Prop where
  ex : ∃ t, PTs X ifs t ∧ ∀ σ H Q m env hp, HL g m H hp → ER g m H σ env → PO g m H E0 rB Q (f env hp) → t σ H Q
@[simp] def cYes (_ : EN) (h : HP) : R Bool := .ok true h
theorem CV1.nil : CV1 g X [] cYes := ⟨_, pts_nil, fun σ H Q m env hp hl er h => h m H true (.refl _ _) hl rfl⟩
theorem CV1.one {c : Expr} {f : M Bool} (h : TV g X E0 c f) : CV1 g X [c] f := by
  obtain ⟨t, p, q⟩ := h
  exact ⟨_, pts_one p, q⟩
theorem PE.weak {e : Expr} {t t' : TE} (h : PE X e t) (w : ∀ σ H Q, t' σ H Q → t σ H Q) : PE X e t' := ⟨fun pins s σ H Q I q => h.run pins s σ H Q I (w σ H Q q)⟩
theorem PG.weak {e : Expr} {t t' : TG} (h : PG X e t) (w : ∀ v σ H Q, t' v σ H Q → t v σ H Q) : PG X e t' := ⟨fun pins s σ H v u Q I r q => h.run pins s σ H v u Q I r (w v σ H Q q)⟩
theorem PTs.weak {e : List Expr} {t t' : TT} (h : PTs X e t) (w : ∀ σ H Q, t' σ H Q → t σ H Q) : PTs X e t' := ⟨fun pins s σ H Q I q => h.run pins s σ H Q I (w σ H Q q)⟩
theorem LCV.mk' {elt tg it : Expr} {ifs : List Expr} {scope : Scope} {own : List (Str × Nat)} {is : List Nat} {fi : IM} {asg : TF} {cond : M Bool} {fe : M D}
    (ok : blkC X.N X.env.scope scope own = true) (hi : IV g X E tg it fi) (hg : ∀ s H C cl fp, GV g (Blk X scope s H C cl fp) tg is asg) (ht : ∀ s H C cl fp, CV1 g (Blk X scope s H C cl fp) ifs cond)
    (he : ∀ s H C cl fp, EV g (Blk X scope s H C cl fp) E0 elt fe) (hs : ∀ i ∈ is, i ∈ own.map (·.2)) : LCV g X E elt tg it ifs scope own (fun live => mLc live fi (own.map (·.2)) asg cond fe) := by
  obtain ⟨wi, pi, qi⟩ := hi
  refine ⟨blkOk_by ok, wi, fun v σ H Q => ∀ s H' C cl fp, Classical.choose (hg s H' C cl fp).ex v σ H Q, fun σ H Q => ∀ s H' C cl fp, Classical.choose (ht s H' C cl fp).ex σ H Q,
    fun σ H Q => ∀ s H' C cl fp, Classical.choose (he s H' C cl fp).ex σ H Q, pi, fun s H C cl fp => ?_, fun s H C cl fp => ?_, fun s H C cl fp => ?_, fun live σ H Q m env hp hl er h => ?_⟩
  · exact PG.weak (Classical.choose_spec (hg s H C cl fp).ex).1 fun v σ H' Q q => q s H C cl fp
  · exact PTs.weak (Classical.choose_spec (ht s H C cl fp).ex).1 fun σ H' Q q => q s H C cl fp
  · exact PE.weak (Classical.choose_spec (he s H C cl fp).ex).1 fun σ H' Q q => q s H C cl fp
  · refine lc_sem live qi (fun v σ H Q m env hp d hl er r h s H' C cl fp => ?_) (fun σ H Q m env hp hl er h s H' C cl fp => ?_) (fun σ H Q m env hp hl er h s H' C cl fp => ?_) hs hl er h
    · exact (Classical.choose_spec (hg s H' C cl fp).ex).2 v σ H Q m env hp d hl er r h
    · exact (Classical.choose_spec (ht s H' C cl fp).ex).2 σ H Q m env hp hl er h
    · exact (Classical.choose_spec (he s H' C cl fp).ex).2 σ H Q m env hp hl er h
theorem EV.lc {elt tg it : Expr} {ifs : List Expr} {scope : Scope} {own : List (Str × Nat)} {pos : Pos} {f : Bool → M D} (live : Bool) (hc : X.calm = true) (hN : X.N.Nodup) (h : LCV g X E elt tg it ifs scope own f) (hs : ∀ x, foldedSetIterable it X.env x = pure x) :
    EV g X E (.ListComp elt [⟨tg, it, ifs, 0⟩] scope pos) (f live) := by
  obtain ⟨ok, wi, gt, tt, te, p1, p2, p3, p4, q⟩ := h
  exact ⟨_, pe_lc hc hN p1 ok p2 p3 p4 hs, fun σ H Q m env hp hl er h => q live σ H Q m env hp hl er h⟩

/-! ### statements -/
inductive SR where
  | nx (e : EN) (h : HP)
  | rt (d : D) (h : HP)
  | bk (e : EN) (h : HP)
  | ct (e : EN) (h : HP)
  | exc (c : Nat) (fs : List (Str × D)) (h : HP)
  | stuck
abbrev SM := EN → HP → SR
def SPO (g : G) (m : AM) (H : Hp) (E : XK) (K : Ends) : SR → Prop
  | .nx e hp' => ∀ m' H' σ', Ex m H m' H' → HL g m' H' hp' → ER g m' H' σ' e → K.nx σ' H'
  | .rt d hp' => ∀ m' H' v, Ex m H m' H' → HL g m' H' hp' → rep g m' H' d v → K.rt v H'
  | .bk e hp' => ∀ m' H' σ', Ex m H m' H' → HL g m' H' hp' → ER g m' H' σ' e → K.bk σ' H'
  | .ct e hp' => ∀ m' H' σ', Ex m H m' H' → HL g m' H' hp' → ER g m' H' σ' e → K.ct σ' H'
  | .exc c fs hp' => ∀ m' H' d ws, Ex m H m' H' → HL g m' H' hp' → H' d = some (.xd ws) → some d ∉ m' → repf g m' H' fs ws → E (.ref (g.cA c)) (some d) H'
  | .stuck => False
theorem SPO.mono {m m1 : AM} {H H1 : Hp} {K : Ends} {r : SR} (x : Ex m H m1 H1) (h : SPO g m H E K r) : SPO g m1 H1 E K r := by
  cases r with
  | nx e h2 => exact fun m2 H2 w x3 hl3 r3 => h m2 H2 w (x.trans x3) hl3 r3
  | rt e h2 => exact fun m2 H2 w x3 hl3 r3 => h m2 H2 w (x.trans x3) hl3 r3
  | bk e h2 => exact fun m2 H2 w x3 hl3 r3 => h m2 H2 w (x.trans x3) hl3 r3
  | ct e h2 => exact fun m2 H2 w x3 hl3 r3 => h m2 H2 w (x.trans x3) hl3 r3
  | exc c fs h2 => exact fun m2 H2 d2 ws x3 hl3 e2 n2 r2 => h m2 H2 d2 ws (x.trans x3) hl3 e2 n2 r2
  | stuck => exact h
@[simp] def R.sbind {α : Type} : R α → (α → HP → SR) → SR
  | .ok a h, f => f a h
  | .exc c fs h, _ => .exc c fs h
  | .stuck, _ => .stuck
theorem SPO.bind {α β : Type} {m : AM} {H : Hp} {rp : AM → Hp → α → β → Prop} {K : Ends} {Q : β → Hp → Prop} {r : R α} {f : α → HP → SR}
    (h : SPO g m H E K (r.sbind f)) (k : ∀ d hp' m' H' v, Ex m H m' H' → HL g m' H' hp' → rp m' H' d v → SPO g m' H' E K (f d hp') → Q v H') : PO g m H E rp Q r := by
  cases r with
  | ok d hp' => exact fun m' H' v x hl rv => k d hp' m' H' v x hl rv (SPO.mono x h)
  | exc c fs hp' => exact h
  | stuck => exact h
theorem SPO.bindB {α β : Type} {m0 m : AM} {H0 H : Hp} {rp : AM → Hp → α → β → Prop} {K : Ends} {Q : β → Hp → Prop} {r : R α} {f : α → HP → SR}
    (h : SPO g m0 H0 E K (r.sbind f)) (x0 : Ex m0 H0 m H) (k : ∀ d hp' m' H' v, Ex m H m' H' → HL g m' H' hp' → rp m' H' d v → SPO g m0 H0 E K (f d hp') → Q v H') : PO g m H E rp Q r := by
  cases r with
  | ok d hp' => exact fun m' H' v x hl rv => k d hp' m' H' v x hl rv h
  | exc c fs hp' => exact fun m2 H2 d2 ws x3 hl3 e2 n2 r2 => h m2 H2 d2 ws (x0.trans x3) hl3 e2 n2 r2
  | stuck => exact h
structure SV (g : G) (X : Cx) (E : XK) (st : Stmt) (f : SM) : Prop where
  ex : ∃ t, PS X st t ∧ ∀ K σ H m env hp, HL g m H hp → ER g m H σ env → SPO g m H E K (f env hp) → t K σ H
structure SVs (g : G) (X : Cx) (E : XK) (st : List Stmt) (f : SM) : Prop where
  ex : ∃ t, PSs X st t ∧ ∀ K σ H m env hp, HL g m H hp → ER g m H σ env → SPO g m H E K (f env hp) → t K σ H
@[simp] def sNil (env : EN) (hp : HP) : SR := .nx env hp
@[simp] def SR.andThen : SR → SM → SR
  | .nx e h, fs => fs e h
  | .rt d h, _ => .rt d h
  | .bk e h, _ => .bk e h
  | .ct e h, _ => .ct e h
  | .exc c fs h, _ => .exc c fs h
  | .stuck, _ => .stuck
@[simp] def sSeq (f fs : SM) (env : EN) (hp : HP) : SR := (f env hp).andThen fs
theorem SVs.nil : SVs g X E [] sNil := ⟨_, pss_nil, fun K σ H m env hp hl er h => h m H σ (.refl _ _) hl er⟩
theorem SVs.cons {st : Stmt} {rest : List Stmt} {f fs : SM} (h1 : SV g X E st f) (h2 : SVs g X E rest fs) : SVs g X E (st :: rest) (sSeq f fs) := by
  obtain ⟨t, p, q⟩ := h1
  obtain ⟨u, p2, q2⟩ := h2
  refine ⟨_, pss_cons p p2, fun K σ H m env hp hl er h => ?_⟩
  refine q { K with nx := u K } σ H m env hp hl er ?_
  unfold sSeq at h
  revert h
  cases f env hp with
  | nx e h1 => exact fun h m' H' σ' x hl' er' => q2 K σ' H' m' e h1 hl' er' (SPO.mono x h)
  | rt e h2 => exact fun h => h
  | bk e h2 => exact fun h => h
  | ct e h2 => exact fun h => h
  | exc c fs h2 => exact fun h => h
  | stuck => exact fun h => h
theorem SVs.one {st : Stmt} {f : SM} (h1 : SV g X E st f) : SVs g X E [st] f := by
  obtain ⟨t, p, q⟩ := h1
  exact ⟨_, pss_one p, q⟩
/-- code that is never come to -/
@[simp] def sNever (_ : EN) (_ : HP) : SR := .stuck
theorem SV.never {st : Stmt} : SV g X E st sNever := ⟨_, ps_never, fun K σ H m env hp hl er h => h.elim⟩
theorem SVs.never {st : List Stmt} : SVs g X E st sNever := ⟨_, pss_never, fun K σ H m env hp hl er h => h.elim⟩
@[simp] def kRet (d : D) (h : HP) : SR := .rt d h
@[simp] def sRet (a : M D) (env : EN) (hp : HP) : SR := (a env hp).sbind kRet
theorem SV.ret {e : Expr} {pos : Pos} {f : M D} (h : EV g X E e f) : SV g X E (.Return (some e) pos) (sRet f) := by
  obtain ⟨t, p, q⟩ := h
  refine ⟨_, ps_ret p, fun K σ H m env hp hl er h => ?_⟩
  exact q σ H _ m env hp hl er (SPO.bind h fun x h1 m1 H1 v x1 hl1 r1 h => h m1 H1 v (.refl _ _) hl1 r1)
@[simp] def sRetN (_ : EN) (hp : HP) : SR := .rt .non hp
theorem SV.retN {pos : Pos} : SV g X E (.Return none pos) sRetN := ⟨_, ps_retN, fun K σ H m env hp hl er h => h m H _ (.refl _ _) hl (by simp [rep])⟩
theorem SV.pass {pos : Pos} : SV g X E (.Pass pos) sNil := ⟨_, ps_pass, fun K σ H m env hp hl er h => h m H σ (.refl _ _) hl er⟩
@[simp] def sBrk (env : EN) (hp : HP) : SR := .bk env hp
@[simp] def sCnt (env : EN) (hp : HP) : SR := .ct env hp
theorem SV.brk {pos : Pos} : SV g X E (.Break pos) sBrk := ⟨_, ps_break, fun K σ H m env hp hl er h => h m H σ (.refl _ _) hl er⟩
theorem SV.cnt {pos : Pos} : SV g X E (.Continue pos) sCnt := ⟨_, ps_continue, fun K σ H m env hp hl er h => h m H σ (.refl _ _) hl er⟩
@[simp] def kExp (env : EN) (_ : D) (h : HP) : SR := .nx env h
@[simp] def sExp (a : M D) (env : EN) (hp : HP) : SR := (a env hp).sbind (kExp env)
theorem SV.exp {e : Expr} {pos : Pos} {f : M D} (h : EV g X E e f) (hs : swapsWith e none pos.line X.env = pure false) : SV g X E (.Expr e pos) (sExp f) := by
  obtain ⟨t, p, q⟩ := h
  refine ⟨_, ps_expr p hs, fun K σ H m env hp hl er h => ?_⟩
  exact q σ H _ m env hp hl er (SPO.bind h fun x h1 m1 H1 v x1 hl1 r1 h => h m1 H1 σ (.refl _ _) hl1 (er.ext x1))
theorem SV.doc {x : Str} {j : Nat} {pos pos' : Pos} : SV g X E (.Expr (.Constant (.str x) j pos) pos') sNil := ⟨_, ps_doc, fun K σ H m env hp hl er h => h m H σ (.refl _ _) hl er⟩
@[simp] def kSIf (a b : SM) (env : EN) (k : Bool) (h : HP) : SR := if k = true then a env h else b env h
@[simp] def sIf (c : M Bool) (a b : SM) (env : EN) (hp : HP) : SR := (c env hp).sbind (kSIf a b env)
theorem SV.if_ {c : Expr} {a b : List Stmt} {pos : Pos} {fc : M Bool} {fa fb : SM} (hc : TV g X E c fc) (ha : SVs g X E a fa) (hb : SVs g X E b fb) : SV g X E (.If c a b pos) (sIf fc fa fb) := by
  obtain ⟨tc, pc, qc⟩ := hc
  obtain ⟨ta, pa, qa⟩ := ha
  obtain ⟨tb, pb, qb⟩ := hb
  refine ⟨_, ps_if pc pa pb, fun K σ H m env hp hl er h => ?_⟩
  refine qc σ H _ m env hp hl er (SPO.bind h fun x h1 m1 H1 v x1 hl1 r1 h => ?_)
  cases (show x = v from r1)
  unfold kSIf at h
  cases x with
  | true =>
    rw [if_pos rfl] at h ⊢
    exact qa K σ H1 m1 env h1 hl1 (er.ext x1) h
  | false =>
    rw [if_neg Bool.false_ne_true] at h ⊢
    exact qb K σ H1 m1 env h1 hl1 (er.ext x1) h
/-- target = value -/
@[simp] def asgO : Option EN → HP → SR
  | some e, h => .nx e h
  | none, _ => .stuck
@[simp] def kAsg (t : TF) (env : EN) (d : D) (h : HP) : SR := asgO (t d env h) h
@[simp] def sAsg (a : M D) (t : TF) (env : EN) (hp : HP) : SR := (a env hp).sbind (kAsg t env)
theorem asg_sem {te : TE} {gt : TG} {f : M D} {is : List Nat} {tf : TF} (q : ∀ σ H Q m env hp, HL g m H hp → ER g m H σ env → PO g m H E (rep g) Q (f env hp) → te σ H Q)
    (qg : ∀ v σ H Q m env hp d, HL g m H hp → ER g m H σ env → rep g m H d v → (∃ env', tf d env hp = some env' ∧ ∀ σ', Turned is σ σ' → ER g m H σ' env' → Q σ' H) → gt v σ H Q)
    {K : Ends} {σ : L2.St} {H : Hp} {m : AM} {env : EN} {hp : HP} (hl : HL g m H hp) (er : ER g m H σ env) (h : SPO g m H E K (sAsg f tf env hp)) : tAsg te gt K σ H := by
  refine q σ H _ m env hp hl er (SPO.bind h fun x h1 m1 H1 v x1 hl1 r1 h => ?_)
  unfold kAsg asgO at h
  split at h
  · rename_i e _ ee
    exact qg v σ H1 _ m1 env _ x hl1 (er.ext x1) r1 ⟨_, ee, fun σ' t er' => h m1 H1 σ' (.refl _ _) hl1 er'⟩
  · exact h.elim
theorem SV.set {i : Nat} {x : Str} {e : Expr} {pos pos' : Pos} {f : M D} (h : EV g X E e f) (hN : X.N.Nodup) (hi : X.N[i]? = some x) (hx : Loc X.env.scope x) (hs : swapsWith e (some (.Name x pos')) pos.line X.env = pure false) (hf : X.fn x = true ∨ X.env.scope.names.lookup x = some .local) :
    SV g X E (.Assign [.Name x pos'] e pos) (sAsg f (gNm i)) := by
  obtain ⟨t, p, q⟩ := h
  obtain ⟨gt, pg, qg⟩ := (GV.name (g := g) (pos := pos') hN hi hx hf).ex
  refine ⟨_, ps_set hN hi hx p hs hf, fun K σ H m env hp hl er h => ?_⟩
  refine q σ H _ m env hp hl er (SPO.bind h fun x h1 m1 H1 v x1 hl1 r1 h => ?_)
  exact h m1 H1 _ (.refl _ _) hl1 ((er.ext x1).set r1)
theorem SV.asg {tg e : Expr} {pos : Pos} {f : M D} {is : List Nat} {tf : TF} (h : EV g X E e f) (hg : GV g X tg is tf) (hs : swapsWithSole [tg] e pos.line X.env = pure false) (hw : swappedStores [tg] e X.env = pure none)
    (h1 : (assignEach [tg] X.env).map (·.2) = [assign tg X.env]) : SV g X E (.Assign [tg] e pos) (sAsg f tf) := by
  obtain ⟨t, p, q⟩ := h
  obtain ⟨gt, pg, qg⟩ := hg
  exact ⟨_, ps_asg p pg hs hw h1, fun K σ H m env hp hl er h => asg_sem q qg hl er h⟩
/-- name = [..] on one line, the name a local -/
theorem SV.setLc {i : Nat} {y : Str} {py : Pos} {elt tg it : Expr} {ifs : List Expr} {scope : Scope} {own : List (Str × Nat)} {pos spos : Pos} {f : Bool → M D} (live : Bool) (hc : X.calm = true) (hN : X.N.Nodup) (h : LCV g X E elt tg it ifs scope own f)
    (hy : X.N[i]? = some y) (hyl : X.env.scope.names.lookup y = some .local) (hsw : swapsWith (.ListComp elt [⟨tg, it, ifs, 0⟩] scope pos) (some (.Name y py)) spos.line X.env = pure true) (hs : ∀ x, foldedSetIterable it X.env x = pure x) :
    SV g X E (.Assign [.Name y py] (.ListComp elt [⟨tg, it, ifs, 0⟩] scope pos) spos) (sAsg (f live) (gNm i)) := by
  obtain ⟨ok, wi, gt, tt, te, p1, p2, p3, p4, q⟩ := h
  refine ⟨_, ps_setLc hc hN hy hyl hsw p1 ok p2 p3 p4 hs, fun K σ H m env hp hl er h => ?_⟩
  refine q live σ H _ m env hp hl er (SPO.bind h fun x h1 m1 H1 v x1 hl1 r1 h => ?_)
  exact h m1 H1 _ (.refl _ _) hl1 ((er.ext x1).set r1)
/-! for -/
open Classical in
noncomputable def forE (asg : TF) (body : SM) (gd : GdL) : List D → SM
  | [], env, h => if Gd gd h then .nx env h else .stuck
  | d :: ds, env, h => if Gd gd h then (match asg d env h with
      | some e => (match body e h with
        | .nx e h => forE asg body gd ds e h
        | .ct e h => forE asg body gd ds e h
        | .bk e h => .nx e h
        | .rt d h => .rt d h
        | .exc c fs h => .exc c fs h
        | .stuck => .stuck)
      | none => .stuck) else .stuck
@[simp] noncomputable def kFor (asg : TF) (body : SM) (env : EN) (p : List D × GdL) (h : HP) : SR := forE asg body p.2 p.1 env h
@[simp] noncomputable def sFor (it : IM) (asg : TF) (body : SM) (env : EN) (hp : HP) : SR := (it env hp).sbind (kFor asg body env)
theorem SV.for_ {tg it : Expr} {body : List Stmt} {pos : Pos} {fi : IM} {is : List Nat} {tf : TF} {fb : SM} (hp : PassesOwn (model X.prog X.w) X.A X.env X.xe) (hc : X.calm = true) (hi : IV g X E tg it fi) (hg : GV g X tg is tf) (hb : SVs g X E body fb) (hs : ∀ x, foldedSetIterable it X.env x = pure x) :
    SV g X E (.For tg it body [] pos) (sFor fi tf fb) := by
  obtain ⟨wi, pi, qi⟩ := hi
  obtain ⟨gt, pg, qg⟩ := hg
  obtain ⟨tb, pb, qb⟩ := hb
  refine ⟨_, ps_for hp hc pi pg pb hs, fun K σ H m env hp hl er h => ?_⟩
  refine qi σ H _ m env hp hl er ?_
  unfold sFor at h
  revert h
  cases fi env hp with
  | exc c fs h1 => exact fun h => h
  | stuck => exact fun h => h
  | ok p h1 =>
    obtain ⟨items, gd⟩ := p
    intro h m1 H1 J x1 hl1 fo
    have h : SPO g m H E K (forE tf fb gd items env h1) := h
    refine ⟨fun i k σ' H' => k = items.length - i ∧ i ≤ items.length ∧ ∃ m' env' hp', Ex m1 H1 m' H' ∧ HL g m' H' hp' ∧ ER g m' H' σ' env' ∧ SPO g m H E K (forE tf fb gd (items.drop i) env' hp'),
      ⟨items.length, rfl, Nat.zero_le _, m1, env, h1, .refl _ _, hl1, er.ext x1, by rw [List.drop_zero]; exact h⟩, ?_⟩
    rintro i k σ' H' ⟨rfl, hi', m', env', hp', x', hl', er', po⟩
    by_cases hlt : i < items.length
    · rw [List.drop_eq_getElem_cons hlt] at po
      unfold forE at po
      by_cases hgd : Gd gd hp'
      · rw [if_pos hgd] at po
        refine .inr ⟨fo.go i m' H' hp' hlt x' hl' hgd, fun σ2 H2 => ∃ k', k' < items.length - i ∧ k' = items.length - (i + 1) ∧ i + 1 ≤ items.length ∧ ∃ m' env' hp', Ex m1 H1 m' H2 ∧ HL g m' H2 hp' ∧ ER g m' H2 σ2 env' ∧ SPO g m H E K (forE tf fb gd (items.drop (i + 1)) env' hp'),
          fun σ2 H2 z => z, fun v H2 y => ?_⟩
        obtain ⟨d, ed, xe, hl2, rd⟩ := fo.yld i m' H' hp' v H2 hlt x' hl' hgd y
        rw [List.getElem?_eq_getElem hlt] at ed
        cases ed
        split at po
        · rename_i e2 ea
          refine qg v σ' H2 _ m' env' hp' _ hl2 (er'.ext xe) rd ⟨e2, ea, fun σ3 tn er3 => ?_⟩
          refine qb _ σ3 H2 m' e2 hp' hl2 er3 ?_
          have xx := x'.trans xe
          revert po
          cases fb e2 hp' with
          | nx e3 h3 => exact fun po m3 H3 σ4 x3 hl3 er4 => ⟨items.length - (i + 1), by omega, rfl, hlt, m3, e3, h3, xx.trans x3, hl3, er4, po⟩
          | ct e3 h3 => exact fun po m3 H3 σ4 x3 hl3 er4 => ⟨items.length - (i + 1), by omega, rfl, hlt, m3, e3, h3, xx.trans x3, hl3, er4, po⟩
          | bk e3 h3 => exact fun po m3 H3 σ4 x3 hl3 er4 => po m3 H3 σ4 ((x1.trans xx).trans x3) hl3 er4
          | rt d h3 => exact fun po m3 H3 v3 x3 hl3 r3 => po m3 H3 v3 ((x1.trans xx).trans x3) hl3 r3
          | exc c fs h3 => exact fun po m3 H3 d2 ws x3 hl3 e2 n2 r2 => po m3 H3 d2 ws ((x1.trans xx).trans x3) hl3 e2 n2 r2
          | stuck => exact fun po => po.elim
        · exact po.elim
      · rw [if_neg hgd] at po
        exact po.elim
    · have e : i = items.length := by omega
      subst e
      rw [List.drop_length] at po
      unfold forE at po
      by_cases hgd : Gd gd hp'
      · rw [if_pos hgd] at po
        exact .inl ⟨fo.stop m' H' hp' x' hl' hgd, po m' H' σ' (x1.trans x') hl' er'⟩
      · rw [if_neg hgd] at po
        exact po.elim
/-! while, with fuel -/
def whE (c : M Bool) (body : SM) : Nat → SM
  | 0, _, _ => .stuck
  | n + 1, env, h => (c env h).sbind fun k h1 => if k = true then (match body env h1 with
        | .nx e h => whE c body n e h
        | .ct e h => whE c body n e h
        | .bk e h => .nx e h
        | .rt d h => .rt d h
        | .exc c fs h => .exc c fs h
        | .stuck => .stuck) else .nx env h1
theorem SV.while_ {c : Expr} {body : List Stmt} {pos : Pos} {fc : M Bool} {fb : SM} (n : Nat) (hp : PassesOwn (model X.prog X.w) X.A X.env X.xe) (hc : TV g X E c fc) (hb : SVs g X E body fb) : SV g X E (.While c body [] pos) (whE fc fb n) := by
  obtain ⟨tc, pc, qc⟩ := hc
  obtain ⟨tb, pb, qb⟩ := hb
  refine ⟨_, ps_while hp pc pb, fun K σ H m env hp hl er h => ?_⟩
  refine ⟨fun k σ' H' => ∃ m' env' hp', Ex m H m' H' ∧ HL g m' H' hp' ∧ ER g m' H' σ' env' ∧ SPO g m H E K (whE fc fb k env' hp'), ⟨n, m, env, hp, .refl _ _, hl, er, h⟩, ?_⟩
  rintro k σ' H' ⟨m', env', hp', x', hl', er', po⟩
  cases k with
  | zero => exact po.elim
  | succ k =>
    unfold whE at po
    refine qc σ' H' _ m' env' hp' hl' er' (SPO.bindB po x' fun b h1 m1 H1 v x1 hl1 r1 po1 => ?_)
    cases (show b = v from r1)
    cases b with
    | true =>
      rw [if_pos rfl] at po1 ⊢
      refine ⟨fun σ2 H2 => ∃ k', k' < k + 1 ∧ ∃ m' env' hp', Ex m H m' H2 ∧ HL g m' H2 hp' ∧ ER g m' H2 σ2 env' ∧ SPO g m H E K (whE fc fb k' env' hp'), fun σ2 H2 z => z, ?_⟩
      refine qb _ σ' H1 m1 env' h1 hl1 (er'.ext x1) ?_
      have xx := x'.trans x1
      revert po1
      cases fb env' h1 with
      | nx e3 h3 => exact fun po m3 H3 σ4 x3 hl3 er4 => ⟨k, by omega, m3, e3, h3, xx.trans x3, hl3, er4, po⟩
      | ct e3 h3 => exact fun po m3 H3 σ4 x3 hl3 er4 => ⟨k, by omega, m3, e3, h3, xx.trans x3, hl3, er4, po⟩
      | bk e3 h3 => exact fun po m3 H3 σ4 x3 hl3 er4 => po m3 H3 σ4 (xx.trans x3) hl3 er4
      | rt d h3 => exact fun po m3 H3 v3 x3 hl3 r3 => po m3 H3 v3 (xx.trans x3) hl3 r3
      | exc c fs h3 => exact fun po m3 H3 d2 ws x3 hl3 e2 n2 r2 => po m3 H3 d2 ws (xx.trans x3) hl3 e2 n2 r2
      | stuck => exact fun po => po.elim
    | false =>
      rw [if_neg Bool.false_ne_true] at po1 ⊢
      exact po1 m1 H1 σ' (x'.trans x1) hl1 (er'.ext x1)
end
end Ev
namespace Ev
open PySem PySem.Spec PyProof.Rows L2
section
variable {g : G} {X : Cx} {E : XK}
/-- a def's promise, by its function on data -/
def spF (g : G) (n : Nat) (F : FA) : Sp := fun vs H Q E => vs.length = n ∧ ∃ m hp ds, HL g m H hp ∧ reps g m H ds vs ∧ PO g m H E (rep g) Q (F ds hp)
@[simp] def startE (N : Nat) (ds : List D) : EN := ds.map some ++ List.replicate (N - ds.length) none
open Classical in
noncomputable def excP (h0 : HP) (c : Nat) (fs : List (Str × D)) (h : HP) : R D := if h.take h0.length = h0 ∧ rlt.rltf h0.length fs = true then .exc c fs h0 else .stuck
/-- a pure def -/
@[simp] noncomputable def kFnP (h : HP) : SR → R D
  | .nx _ h' => pure_ h .non h'
  | .rt d h' => pure_ h d h'
  | .exc c fs h' => excP h c fs h'
  | .bk _ _ => .stuck
  | .ct _ _ => .stuck
  | .stuck => .stuck
@[simp] noncomputable def fnP (N : Nat) (body : SM) (ds : List D) (h : HP) : R D := kFnP h (body (startE N ds) h)
/-- a def that turns live things, or hands one back -/
@[simp] def kFnR : SR → R D
  | .nx _ h' => .ok .non h'
  | .rt d h' => .ok d h'
  | .exc c fs h' => .exc c fs h'
  | .bk _ _ => .stuck
  | .ct _ _ => .stuck
  | .stuck => .stuck
@[simp] def fnR (N : Nat) (body : SM) (ds : List D) (h : HP) : R D := kFnR (body (startE N ds) h)
theorem ER.start {m : AM} {H : Hp} {ds : List D} {vs : List V} (r : reps g m H ds vs) (N : List Str) : ER g m H (L2.start N vs) (startE N.length ds) := by
  have hl := reps.length r
  refine ⟨by simp [L2.start, startE, hl], fun i d e => ?_⟩
  unfold startE at e
  by_cases h : i < ds.length
  · rw [List.getElem?_append_left (by simpa using h), List.getElem?_map, List.getElem?_eq_getElem h] at e
    simp at e
    obtain ⟨v, ev, rv⟩ := reps.get r (List.getElem?_eq_getElem h)
    rw [e] at rv
    refine ⟨v, ?_, rv⟩
    unfold L2.start
    rw [List.getElem?_append_left (by rw [List.length_map, ← hl]; exact h), List.getElem?_map, ev]
    rfl
  · rw [List.getElem?_append_right (by simpa using Nat.le_of_not_lt h), List.getElem?_replicate] at e
    split at e <;> cases e
theorem fnP_ends {m : AM} {H : Hp} {hp : HP} {N : Nat} {fb : SM} {ds : List D} {Q : VK} (hl : HL g m H hp) (h : PO g m H E (rep g) Q (fnP N fb ds hp)) :
    SPO g m H E { nx := fun _ H' => Q .non H', rt := Q } (fb (startE N ds) hp) := by
  unfold fnP at h
  revert h
  cases fb (startE N ds) hp with
  | nx e h' => exact fun h m' H' σ' x hl' _ => PO.pure_ hl x hl' (d := .non) (by simp [rep]) h
  | rt d h' => exact fun h m' H' v x hl' r => PO.pure_ hl x hl' r h
  | exc c fs h' =>
    intro h m' H' d ws x hl' hd nd r
    have h : PO g m H E (rep g) Q (excP hp c fs h') := h
    unfold excP at h
    split at h
    · rename_i cnd
      obtain ⟨x2, hl2, dn⟩ := hl.back x hl' cnd.1
      rw [← hl.len] at cnd
      exact h m H' d ws x2 hl2 hd (fun z => nd (dn.mem _ z)) (repf.down dn _ _ cnd.2 r)
    · exact h.elim
  | bk e h' => exact fun h => h.elim
  | ct e h' => exact fun h => h.elim
  | stuck => exact fun h => h.elim
theorem fnR_ends {m : AM} {H : Hp} {hp : HP} {N : Nat} {fb : SM} {ds : List D} {Q : VK} (h : PO g m H E (rep g) Q (fnR N fb ds hp)) :
    SPO g m H E { nx := fun _ H' => Q .non H', rt := Q } (fb (startE N ds) hp) := by
  unfold fnR at h
  revert h
  cases fb (startE N ds) hp with
  | nx e h' => exact fun h m' H' σ' x hl' _ => h m' H' _ x hl' (by simp [rep])
  | rt d h' => exact fun h => h
  | exc c fs h' => exact fun h => h
  | bk e h' => exact fun h => h.elim
  | ct e h' => exact fun h => h.elim
  | stuck => exact fun h => h.elim
section
variable {P : Program} {w : World} {K : PySem.W.Frag} {mg : Str → Option Value} {base : Heap}
/-- a def that raises nothing -/
theorem Fn0 {x qual : Str} {st : Stmt} {f : Addr} {fd : FuncData} {N ps : List Str} {k : Nat} {fb : SM} {Fa : FA} (F : Fun K x qual st f fd) (S : FnScope N ps (defScope st))
    (hF : ∀ {E : XK} {m : AM} {H : Hp} {hp : HP} {ds : List D} {Q : VK}, HL g m H hp → PO g m H E (rep g) Q (Fa ds hp) → SPO g m H E { nx := fun _ H' => Q .non H', rt := Q } (fb (startE N.length ds) hp))
    (hb : ∀ (cdv : Value) (A : Around) (outer : List Env) (s : Shared) (H : Hp) (E : XK), Room k (A.deeper (envOfC qual (defScope st) s.heap.objs.size f cdv)) →
      SVs g (cxOf CX0 P w K mg base N qual (defScope st) f cdv A outer s H E).nox E (defBody st) fb) :
    FnOk P w K mg base CX0 (k + 1) f fd ps (spF g ps.length Fa) := by
  refine F.ok S (fun vs H Q E h => h.1) (fun cdv A outer s H vs Q E hr h => ?_)
  obtain ⟨_, m, hp, ds, hl, r, po⟩ := h
  obtain ⟨t, p, q⟩ := hb cdv A outer s H E hr
  exact ⟨t, p, q _ _ _ m _ hp hl (ER.start r N) (hF hl po)⟩
end
@[simp] def kFn (n : Nat) (F : FA) (xs : List D) (h : HP) : R D := if xs.length = n then F xs h else .stuck
@[simp] def mFn (n : Nat) (F : FA) (a : M (List D)) (env : EN) (hp : HP) : R D := (a env hp).bind (kFn n F)
/-- f(e, ..) -/
theorem EV.call {CX : CXT} {k n : Nat} {f : Addr} {fd : FuncData} {ps : List Str} {Fa : FA} {x : Str} {p pos : Pos} {e : Expr} {es : List Expr} {fs : M (List D)}
    (F : FnOk X.prog X.w X.K X.mg X.base CX k f fd ps (spF g n Fa)) (hr : Room k X.A) (hm : X.mg x = some (.ref f)) (hk : PySem.W.keepIn X.K (.ref f) = true) (hb : Binds X.K fd ps []) (hx : Passes CX X E) (ha : AV g X E (e :: es) fs)
    (hg : Gl X x) (hdb : (x == ("__debug__" : Str)) = false) (he : starEach (e :: es) X.env = (false, eval e X.env) :: starEach es X.env) (hpl : (backTo pos (starEach es X.env)).any (·.1) = false) :
    EV g X E (.Call (.Name x p) (e :: es) [] pos) (mFn n Fa fs) := by
  obtain ⟨t, pa, qa⟩ := ha
  refine ⟨_, pe_call F hr hg hm hk hb .nil hx pa hdb he hpl, fun σ H Q m env hp hl er h => ?_⟩
  refine qa σ H _ m env hp hl er (PO.bind h fun xs h1 m1 H1 vs x1 hl1 r1 h => ?_)
  unfold kFn at h
  split at h
  · rename_i c
    rw [List.append_nil]
    exact ⟨by rw [← reps.length r1]; exact c, m1, h1, xs, hl1, r1, h⟩
  · exact h.elim
theorem EV.call0 {CX : CXT} {k : Nat} {f : Addr} {fd : FuncData} {ps : List Str} {Fa : FA} {x : Str} {p pos : Pos}
    (F : FnOk X.prog X.w X.K X.mg X.base CX k f fd ps (spF g 0 Fa)) (hr : Room k X.A) (hm : X.mg x = some (.ref f)) (hk : PySem.W.keepIn X.K (.ref f) = true) (hb : Binds X.K fd ps []) (hx : Passes CX X E)
    (hg : Gl X x) (hdb : (x == ("__debug__" : Str)) = false) : EV g X E (.Call (.Name x p) [] [] pos) (mFn 0 Fa aNil) := by
  refine ⟨_, pe_call0 F hr hg hm hk hb .nil hx hdb, fun σ H Q m env hp hl er h => ?_⟩
  exact ⟨rfl, m, hp, [], hl, by simp [reps], h⟩

/-! ### methods of built-in types -/
abbrev FM := D → List D → HP → R D
structure BM (X : Cx) (g : G) (E : XK) (T id : String) (ty : HP → D → Bool) (F : FM) : Prop where
  ty_ : ∀ m H hp d v, HL g m H hp → rep g m H d v → ty hp d = true → tyV g.K T v H
  ex : ∃ r, MtR X id r ∧ ∀ m H hp d ds v vs Q, HL g m H hp → rep g m H d v → reps g m H ds vs → PO g m H E (rep g) Q (F d ds hp) → r v vs H Q
@[simp] def kBm (ty : HP → D → Bool) (F : FM) (args : M (List D)) (env : EN) (x : D) (h : HP) : R D := if ty h x = true then (args env h).bind (F x) else .stuck
@[simp] def mBm (ty : HP → D → Bool) (F : FM) (a : M D) (args : M (List D)) (env : EN) (hp : HP) : R D := (a env hp).bind (kBm ty F args env)
section
variable {T id : String} {name : Str} {o e : Expr} {es : List Expr} {apos cpos : Pos} {ty : HP → D → Bool} {F : FM} {fo : M D} {fs : M (List D)}
theorem EV.bm (hK : X.K = g.K) (pa : PlainAttrs T) (slot : Slot T name id) (hty : typeOf (.builtin id) = pure (.type "method_descriptor")) (hm : BM X g E T id ty F) (ho : EV g X E o fo) (ha : AV g X E (e :: es) fs)
    (hbase : attributeBase o name X.env (eval o X.env) = eval o X.env)
    (hfew : ((backTo cpos (starEach (e :: es) X.env)).all (fun x => !x.1) && (backToKw cpos (keywordEach [] X.env)).all (fun x => x.1.isSome)
      && decide ((e :: es).length + ([] : List Keyword).length + (if ([] : List Keyword).isEmpty then 0 else 1) < 30)) = true)
    (hline : (apos.endLine == cpos.line) = true) (hs : starEach (e :: es) X.env = (false, eval e X.env) :: starEach es X.env) (hplain : (backTo cpos (starEach es X.env)).any (·.1) = false) :
    EV g X E (.Call (.Attribute o name apos) (e :: es) [] cpos) (mBm ty F fo fs) := by
  obtain ⟨hty2, r, hr, hm⟩ := hm
  obtain ⟨t, p, q⟩ := ho
  obtain ⟨ta, pa', qa⟩ := ha
  refine ⟨_, pe_bm pa slot hty hr p pa' hbase hfew hline hs hplain, fun σ H Q m env hp hl er h => ?_⟩
  refine q σ H _ m env hp hl er (PO.bind h fun x h1 m1 H1 v x1 hl1 r1 h => ?_)
  unfold kBm at h
  split at h
  · rename_i c
    refine ⟨by rw [hK]; exact hty2 m1 H1 h1 x v hl1 r1 c, ?_⟩
    refine qa σ H1 _ m1 env h1 hl1 (er.ext x1) (PO.bind h fun ds h2 m2 H2 vs x2 hl2 r2 h => ?_)
    exact hm m2 H2 h2 x ds v vs Q hl2 (rep.ext x2 _ _ r1) r2 h
  · exact h.elim
theorem EV.bm0 (hK : X.K = g.K) (pa : PlainAttrs T) (slot : Slot T name id) (hty : typeOf (.builtin id) = pure (.type "method_descriptor")) (hm : BM X g E T id ty F) (ho : EV g X E o fo)
    (hbase : attributeBase o name X.env (eval o X.env) = eval o X.env) (hline : (apos.endLine == cpos.line) = true) : EV g X E (.Call (.Attribute o name apos) [] [] cpos) (mBm ty F fo aNil) := by
  obtain ⟨hty2, r, hr, hm⟩ := hm
  obtain ⟨t, p, q⟩ := ho
  refine ⟨_, pe_bm0 pa slot hty hr p hbase hline, fun σ H Q m env hp hl er h => ?_⟩
  refine q σ H _ m env hp hl er (PO.bind h fun x h1 m1 H1 v x1 hl1 r1 h => ?_)
  unfold kBm at h
  split at h
  · rename_i c
    exact ⟨by rw [hK]; exact hty2 m1 H1 h1 x v hl1 r1 c, hm m1 H1 h1 x [] v [] Q hl1 r1 (by simp [reps]) h⟩
  · exact h.elim
end
@[simp] def tyLO : Option O → Bool
  | some (.lst _) => true
  | _ => false
@[simp] def tyL (h : HP) : D → Bool
  | .ref n => tyLO h[n]?
  | _ => false
theorem tyL_ok {m : AM} {H : Hp} {hp : HP} {d : D} {v : V} (hl : HL g m H hp) (r : rep g m H d v) (e : tyL hp d = true) : tyV g.K "list" v H := by
  cases d with
  | ref n =>
    simp only [tyL] at e
    unfold tyLO at e
    split at e
    · rename_i ds q
      simp only [rep] at r
      obtain ⟨a, ea, vs, ha, _⟩ := hl.at q (by simp)
      rw [r.2 a ea]
      exact .inl ⟨rfl, vs, .of ha⟩
    · cases e
  | _ => cases e
@[simp] def kUnit (_ : Unit) (h : HP) : R D := .ok .non h
@[simp] def lAppend : D → List D → HP → R D
  | .ref n, [y], h => (appL n y h).bind kUnit
  | _, _, _ => .stuck
theorem bm_append : BM X g E "list" "list.append" tyL lAppend := by
  refine ⟨fun m H hp d v hl r e => tyL_ok hl r e, _, mt_append, fun m H hp d ds v vs Q hl r rs h => ?_⟩
  unfold lAppend at h
  split at h
  · rename_i n y
    unfold appL at h
    split at h
    · rename_i acc e
      split at h
      · rename_i hz
        obtain ⟨u, rfl, ru⟩ := reps1 rs
        simp only [rep] at r
        obtain ⟨a, ea, us, ha, rr⟩ := hl.at e (by simp)
        obtain ⟨x6, hl6⟩ := hl.write (u := .lst (us ++ [u])) (ob' := .lst (acc ++ [y])) ea e (by simp) fun x6 => ⟨us ++ [u], upd_same, reps.ext x6 _ _ (reps.append rr (by simp only [reps]; exact ⟨u, [], rfl, ru, rfl⟩))⟩
        exact ⟨a, us, u, r.2 a ea, rfl, ha, by rw [← reps.length rr]; exact hz, h m _ _ x6 hl6 (by simp [rep])⟩
      · exact h.elim
    · exact h.elim
  · exact h.elim
theorem reps.dropLast {m : AM} {H : Hp} {ds : List D} {vs : List V} (r : reps g m H ds vs) : reps g m H ds.dropLast vs.dropLast := by
  rw [List.dropLast_eq_take, List.dropLast_eq_take, ← reps.length r]
  exact r.take _
@[simp] def popO (n : Nat) (ds : List D) : Option D → HP → R D
  | some y, h => .ok y (h.set n (.lst ds.dropLast))
  | none, _ => .stuck
@[simp] def popL (n : Nat) : Option O → HP → R D
  | some (.lst ds), h => popO n ds ds[ds.length - 1]? h
  | _, _ => .stuck
@[simp] def lPop : D → List D → HP → R D
  | .ref n, [], h => popL n h[n]? h
  | _, _, _ => .stuck
theorem bm_pop : BM X g E "list" "list.pop" tyL lPop := by
  refine ⟨fun m H hp d v hl r e => tyL_ok hl r e, _, mt_pop, fun m H hp d ds v vs Q hl r rs h => ?_⟩
  unfold lPop at h
  split at h
  · rename_i n
    unfold popL at h
    split at h
    · rename_i acc e
      unfold popO at h
      split at h
      · rename_i y ey
        simp only [reps] at rs
        subst rs
        simp only [rep] at r
        obtain ⟨a, ea, us, ha, rr⟩ := hl.at e (by simp)
        obtain ⟨u, eu, ru⟩ := rr.get ey
        obtain ⟨x6, hl6⟩ := hl.write (u := .lst us.dropLast) (ob' := .lst acc.dropLast) ea e (by simp) fun x6 => ⟨us.dropLast, upd_same, reps.ext x6 _ _ rr.dropLast⟩
        exact ⟨a, us, u, r.2 a ea, rfl, ha, by rw [← reps.length rr]; exact eu, h m _ _ x6 hl6 (rep.ext x6 _ _ ru)⟩
      · exact h.elim
    · exact h.elim
  · exact h.elim
end
/-- the script -/
theorem rep_script {g : G} {m : AM} {H : Hp} {a : Addr} {ns : List Int} (h : SqL g.K H a (ns.map V.int)) (hm : some a ∉ m) : rep g m H (.klst (ns.map D.int)) (.ref a) := by
  simp only [rep]
  refine ⟨a, ns.map V.int, rfl, ?_, ?_⟩
  · rcases h with h | h
    · exact .inl ⟨h, hm⟩
    · exact .inr h
  · clear h
    induction ns with
    | nil => simp [reps]
    | cons n ns ih =>
      simp only [List.map_cons, reps]
      exact ⟨.int n, _, rfl, by simp [rep], ih⟩
theorem law_sp {g : G} {F : FA} {ns : List Int} (h : F [.klst (ns.map D.int)] [] = .ok (.bl true) []) {H : Hp} {a : Addr} (hS : SqL g.K H a (ns.map V.int)) : spF g 1 F [.ref a] H (fun v _ => v = .bl true) (fun _ _ _ => False) := by
  refine ⟨rfl, [], [], [.klst (ns.map D.int)], ⟨rfl, fun i j a e => by simp at e, fun i o e => by simp at e⟩, ?_, ?_⟩
  · simp only [reps]
    exact ⟨_, [], rfl, rep_script hS (by simp), rfl⟩
  · rw [h]
    intro m' H' v x hl r
    simpa [rep] using r
end Ev
namespace Ev
open PySem PySem.Spec PyProof.Rows L2

/-! ### simp set -/
@[simp] theorem bind_ok {α β : Type} (a : α) (h : HP) (f : α → HP → R β) : (R.ok a h).bind f = f a h := rfl
@[simp] theorem sbind_ok {α : Type} (a : α) (h : HP) (f : α → HP → SR) : (R.ok a h).sbind f = f a h := rfl
@[simp] theorem Gd_nil (h : HP) : Gd [] h = True := by simp [Gd]
theorem Gd_one (n : Nat) (ds : List D) (h : HP) : Gd [(n, ds)] h = (h[n]? = some (.lst ds)) := by simp [Gd]
theorem rlts_eq {n : Nat} {ds : List D} : rlt.rlts n ds = ds.all (rlt n) := by
  induction ds with
  | nil => rfl
  | cons d ds ih => simp [rlt.rlts, ih]
/-- a value without live things -/
def clean (d : D) : Prop := ∀ n, rlt n d = true
theorem clean_int (i : Int) : clean (.int i) := fun _ => rfl
theorem clean_bl (i : Bool) : clean (.bl i) := fun _ => rfl
theorem clean_str (i : Str) : clean (.str i) := fun _ => rfl
theorem clean_non : clean .non := fun _ => rfl
theorem clean_tup {ds : List D} (h : ∀ d ∈ ds, clean d) : clean (.tup ds) := fun n => by
  simp only [rlt, rlts_eq, List.all_eq_true]
  exact fun d hd => h d hd n
theorem clean_lst {ds : List D} (h : ∀ d ∈ ds, clean d) : clean (.lst ds) := fun n => by
  simp only [rlt, rlts_eq, List.all_eq_true]
  exact fun d hd => h d hd n
theorem clean_klst {ds : List D} (h : ∀ d ∈ ds, clean d) : clean (.klst ds) := fun n => by
  simp only [rlt, rlts_eq, List.all_eq_true]
  exact fun d hd => h d hd n
theorem pure_same {d : D} (h : HP) (c : rlt h.length d = true) : pure_ h d h = .ok d h := by
  unfold pure_
  rw [if_pos (List.take_length)]
  simp [fz, c]
theorem pure_junk {d : D} (h x : HP) (c : rlt h.length d = true) : pure_ h d (h ++ x) = .ok d h := by
  unfold pure_
  rw [if_pos (by simp)]
  simp [fz, c]
theorem pure_list {ds : List D} (h : HP) (c : ∀ d ∈ ds, clean d) : pure_ h (.ref h.length) (h ++ [.lst ds]) = .ok (.lst ds) h := by
  unfold pure_
  rw [if_pos (by simp)]
  have : rlt.rlts h.length ds = true := by
    rw [rlts_eq, List.all_eq_true]
    exact fun d hd => c d hd _
  simp [fz, rlt, this]
theorem pure_clean {d : D} (h : HP) (c : clean d) : pure_ h d h = .ok d h := pure_same h (c _)
theorem pure_cleanJ {d : D} (h x : HP) (c : clean d) : pure_ h d (h ++ x) = .ok d h := pure_junk h x (c _)
theorem appL_last {y : D} {ds : List D} (h : HP) (c : ds.length < sizeLine) : appL h.length y (h ++ [.lst ds]) = .ok () (h ++ [.lst (ds ++ [y])]) := by
  unfold appL
  simp [c]

@[simp] theorem le_line {n : Nat} (h : n ≤ 16000000) : (n ≤ sizeLine) = True := by
  rw [sizeLine_eq]
  exact eq_true (by omega)
@[simp] theorem lt_line {n : Nat} (h : n ≤ 16000000) : (n < sizeLine) = True := by
  rw [sizeLine_eq]
  exact eq_true (by omega)
theorem rg_of {n : Int} (h1 : -1000000000000000000 ≤ n) (h2 : n ≤ 1000000000000000000) : Rg n := by
  unfold Rg
  omega
@[simp] theorem rg_nat {n : Nat} (h2 : n ≤ 1000000000000000000) : Rg (n : Int) := rg_of (by omega) (by omega)
@[simp] theorem rg_lit {n : Nat} (h2 : OfNat.ofNat n ≤ 1000000000000000000) : Rg (OfNat.ofNat n : Int) := by
  have := rg_nat h2
  exact this
/-! ### pure comprehensions -/
theorem lcE_map (asg : TF) (cond : M Bool) (elt : M D) (envw : EN) (h : HP) (F : D → D) (p : D → Bool) : ∀ (items : List D) (acc : List D), acc.length + items.length ≤ sizeLine →
    (∀ d ∈ items, ∀ h' : HP, ∃ e, asg d envw h' = some e ∧ cond e h' = .ok (p d) h' ∧ (p d = true → elt e h' = .ok (F d) h')) →
    lcE asg cond elt envw h.length [] items (h ++ [.lst acc]) = .ok () (h ++ [.lst (acc ++ (items.filter p).map F)])
  | [], acc, _, _ => by
    unfold lcE
    rw [if_pos (by simp [Gd])]
    simp
  | d :: ds, acc, hz, H => by
    unfold lcE
    rw [if_pos (by simp [Gd])]
    obtain ⟨e, e1, e2, e3⟩ := H d (List.mem_cons_self ..) (h ++ [.lst acc])
    simp only [e1, e2, R.nx, R.bind]
    cases q : p d with
    | true =>
      have hz' : acc.length < sizeLine := by simp only [List.length_cons] at hz; omega
      simp only [if_true, e3 q, R.nx, R.bind, appL_last h hz']
      rw [lcE_map asg cond elt envw h F p ds (acc ++ [F d]) (by simp only [List.length_append, List.length_cons, List.length_nil] at hz ⊢; omega) fun d' hd h' => H d' (List.mem_cons_of_mem _ hd) h']
      simp [List.filter_cons, q]
    | false =>
      simp only [if_neg Bool.false_ne_true]
      rw [lcE_map asg cond elt envw h F p ds acc (by simp only [List.length_cons] at hz; omega) fun d' hd h' => H d' (List.mem_cons_of_mem _ hd) h']
      simp [List.filter_cons, q]
theorem mLc_filter {it : IM} {own : List Nat} {asg : TF} {cond : M Bool} {elt : M D} {env : EN} {h h1 : HP} {items : List D} (F : D → D) (p : D → Bool) (hi : it env h = .ok (items, []) h1) (hz : items.length ≤ sizeLine)
    (H : ∀ d ∈ items, ∀ h' : HP, ∃ e, asg d (wipeE env own) h' = some e ∧ cond e h' = .ok (p d) h' ∧ (p d = true → elt e h' = .ok (F d) h')) (c : ∀ d ∈ items, p d = true → clean (F d)) :
    mLc false it own asg cond elt env h = .ok (.lst ((items.filter p).map F)) h1 := by
  unfold mLc
  rw [hi]
  simp only [R.bind]
  rw [lcE_map asg cond elt _ h1 F p items [] (by simpa using hz) H]
  simp only [List.nil_append, outL, if_neg Bool.false_ne_true]
  exact pure_list h1 (by
    intro d hd
    obtain ⟨x, hx, rfl⟩ := List.mem_map.mp hd
    obtain ⟨h1, h2⟩ := List.mem_filter.mp hx
    exact c x h1 h2)
theorem mLc_map {it : IM} {own : List Nat} {asg : TF} {elt : M D} {env : EN} {h h1 : HP} {items : List D} (F : D → D) (hi : it env h = .ok (items, []) h1) (hz : items.length ≤ sizeLine)
    (H : ∀ d ∈ items, ∀ h' : HP, ∃ e, asg d (wipeE env own) h' = some e ∧ elt e h' = .ok (F d) h') (c : ∀ d ∈ items, clean (F d)) :
    mLc false it own asg cYes elt env h = .ok (.lst (items.map F)) h1 := by
  have := mLc_filter (cond := cYes) F (fun _ => true) hi hz (fun d hd h' => let ⟨e, e1, e2⟩ := H d hd h'; ⟨e, e1, rfl, fun _ => e2⟩) fun d hd _ => c d hd
  rw [this, List.filter_eq_self.mpr (fun _ _ => rfl)]
theorem mLc_live {it : IM} {own : List Nat} {asg : TF} {elt : M D} {env : EN} {h h1 : HP} {items : List D} (F : D → D) (hi : it env h = .ok (items, []) h1) (hz : items.length ≤ sizeLine)
    (H : ∀ d ∈ items, ∀ h' : HP, ∃ e, asg d (wipeE env own) h' = some e ∧ elt e h' = .ok (F d) h') :
    mLc true it own asg cYes elt env h = .ok (.ref h1.length) (h1 ++ [.lst (items.map F)]) := by
  unfold mLc
  rw [hi]
  simp only [R.bind]
  rw [lcE_map asg cYes elt _ h1 F (fun _ => true) items [] (by simpa using hz) fun d hd h' => let ⟨e, e1, e2⟩ := H d hd h'; ⟨e, e1, rfl, fun _ => e2⟩, List.filter_eq_self.mpr (fun _ _ => rfl)]
  simp [outL]
/-! ### loops by an invariant -/
theorem forE_inv {asg : TF} {body : SM} {gd : GdL} (I : Nat → EN → HP → Prop) {items : List D} (hg : ∀ i env h, I i env h → Gd gd h)
    (hs : ∀ i env h (hi : i < items.length), I i env h → ∃ e, asg items[i] env h = some e ∧ ∃ env' h', (body e h = .nx env' h' ∨ body e h = .ct env' h') ∧ I (i + 1) env' h')
    {env : EN} {h : HP} (h0 : I 0 env h) : ∃ env' h', forE asg body gd items env h = .nx env' h' ∧ I items.length env' h' := by
  have key : ∀ k i env h, i + k = items.length → I i env h → ∃ env' h', forE asg body gd (items.drop i) env h = .nx env' h' ∧ I items.length env' h' := by
    intro k
    induction k with
    | zero =>
      intro i env h e hI
      have e : i = items.length := by omega
      subst e
      refine ⟨env, h, ?_, hI⟩
      rw [List.drop_length]
      unfold forE
      rw [if_pos (hg _ _ _ hI)]
    | succ k ih =>
      intro i env h e hI
      have hi : i < items.length := by omega
      obtain ⟨e1, ea, env', h', eb, hI'⟩ := hs i env h hi hI
      obtain ⟨env2, h2, e2, hI2⟩ := ih (i + 1) env' h' (by omega) hI'
      refine ⟨env2, h2, ?_, hI2⟩
      rw [List.drop_eq_getElem_cons hi]
      unfold forE
      rw [if_pos (hg _ _ _ hI)]
      simp only [ea]
      rcases eb with eb | eb <;> simp only [eb, e2]
  exact key items.length 0 env h (by omega) h0
/-! ### sizes -/
abbrev sz (i : Int) : Nat := i.natAbs.log2
theorem sz_lt {i : Int} {n : Nat} (h0 : 0 < n) (h : i.natAbs < 2 ^ n) : sz i < n := PySem.Flt.log2_lt_of h0 h
theorem lt_sz (i : Int) : i.natAbs < 2 ^ (sz i + 1) := Nat.lt_log2_self
theorem mulX {i j : Int} (a b : Nat) (hi : sz i ≤ a) (hj : sz j ≤ b) (h : a + b < 100000000) : CMulE i j := by
  unfold CMulE
  show sz i + sz j < _
  omega
theorem sz_mul (i j : Int) : sz (i * j) ≤ sz i + sz j + 1 := by
  have h : (i * j).natAbs < 2 ^ (sz i + sz j + 2) := by
    rw [Int.natAbs_mul, show sz i + sz j + 2 = (sz i + 1) + (sz j + 1) by omega, Nat.pow_add]
    exact Nat.mul_lt_mul'' (lt_sz i) (lt_sz j)
  have := sz_lt (by omega) h
  omega
theorem sz_add (i j : Int) : sz (i + j) ≤ max (sz i) (sz j) + 1 := by
  have h1 := lt_sz i
  have h2 := lt_sz j
  have p1 : 2 ^ (sz i + 1) ≤ 2 ^ (max (sz i) (sz j) + 1) := Nat.pow_le_pow_right (by decide) (by omega)
  have p2 : 2 ^ (sz j + 1) ≤ 2 ^ (max (sz i) (sz j) + 1) := Nat.pow_le_pow_right (by decide) (by omega)
  have h : (i + j).natAbs < 2 ^ (max (sz i) (sz j) + 2) := by
    rw [show max (sz i) (sz j) + 2 = (max (sz i) (sz j) + 1) + 1 by omega, Nat.pow_succ]
    omega
  have := sz_lt (by omega) h
  omega
theorem sz_neg (i : Int) : sz (-i) = sz i := by unfold sz; rw [Int.natAbs_neg]
theorem sz_sub (i j : Int) : sz (i - j) ≤ max (sz i) (sz j) + 1 := by
  have := sz_add i (-j)
  rw [sz_neg] at this
  rw [Int.sub_eq_add_neg]
  exact this
theorem sz_mono {i j : Int} (h : i.natAbs ≤ j.natAbs) : sz i ≤ sz j := by
  by_cases z : sz i = 0
  · omega
  · have h1 := lt_sz j
    have := sz_lt (i := i) (n := sz j + 1) (by omega) (by omega)
    omega
theorem sz_div {i j : Int} (hj : 0 < j) : sz (i / j) ≤ sz i := by
  apply sz_mono
  by_cases h : 0 ≤ i
  · have h1 : 0 ≤ i / j := Int.ediv_nonneg h (by omega)
    have h2 : i / j ≤ i := Int.ediv_le_self _ h
    omega
  · have h1 : i / j < 0 := Int.ediv_neg_of_neg_of_pos (by omega) hj
    have h2 : i ≤ i / j := by
      have := Int.mul_ediv_add_emod i j
      have h3 := Int.emod_nonneg i (show j ≠ 0 by omega)
      have h4 := Int.emod_lt_of_pos i hj
      have h5 : i / j * (j - 1) ≤ 0 := Int.mul_nonpos_of_nonpos_of_nonneg (by omega) (by omega)
      have : j * (i / j) = i / j * (j - 1) + i / j := by
        rw [Int.mul_sub, Int.mul_one, Int.mul_comm]
        omega
      -- i = j * q + r with 0 ≤ r
      have h6 : i / j * (j - 1) ≤ 0 := h5
      have h7 : i = i / j * (j - 1) + i / j + i % j := by omega
      have h8 : i / j * (j - 1) ≤ -1 * (j - 1) := Int.mul_le_mul_of_nonneg_right (by omega) (by omega)
      omega
    omega
theorem sz_small {i : Int} {n : Nat} (h0 : 0 < n) (h : i.natAbs < 2 ^ n) : sz i ≤ n := Nat.le_of_lt (sz_lt h0 h)
end Ev
namespace Ev
open PySem PySem.Spec PyProof.Rows L2
section
variable {g : G} {X : Cx} {E : XK}
/-! x[k] = v, x a live list -/
@[simp] def setJ (n : Nat) (ds : List D) (y : D) : Option Nat → HP → R Unit
  | some j, h => .ok () (h.set n (.lst (ds.set j y)))
  | none, _ => .stuck
@[simp] def setL (n : Nat) (k : Int) (y : D) : Option O → HP → R Unit
  | some (.lst ds), h => setJ n ds y (ixN ds.length k) h
  | _, _ => .stuck
@[simp] def setD (y : D) : D → D → HP → R Unit
  | .ref n, .int k, h => setL n k y h[n]? h
  | _, _, _ => .stuck
@[simp] def kNx (env : EN) (_ : Unit) (h : HP) : SR := .nx env h
@[simp] def kSetIx2 (env : EN) (y o : D) (k : D) (h : HP) : SR := (setD y o k h).sbind (kNx env)
@[simp] def kSetIx1 (fi : M D) (env : EN) (y : D) (o : D) (h : HP) : SR := (fi env h).sbind (kSetIx2 env y o)
@[simp] def kSetIx (fo fi : M D) (env : EN) (y : D) (h : HP) : SR := (fo env h).sbind (kSetIx1 fi env y)
@[simp] def sSetIx (fv fo fi : M D) (env : EN) (hp : HP) : SR := (fv env hp).sbind (kSetIx fo fi env)
theorem reps.set {m : AM} {H : Hp} {y : D} {v : V} (rv : rep g m H y v) : ∀ {ds : List D} {vs : List V} {j : Nat}, reps g m H ds vs → reps g m H (ds.set j y) (vs.set j v)
  | [], vs, j, h => by
    simp only [reps] at h
    subst h
    simp [reps]
  | d :: ds, vs, 0, h => by
    simp only [reps] at h
    obtain ⟨w, r, rfl, h1, h2⟩ := h
    simp only [List.set_cons_zero, reps]
    exact ⟨v, r, rfl, rv, h2⟩
  | d :: ds, vs, j + 1, h => by
    simp only [reps] at h
    obtain ⟨w, r, rfl, h1, h2⟩ := h
    simp only [List.set_cons_succ, reps]
    exact ⟨w, _, rfl, h1, reps.set rv h2⟩
theorem SV.setIx {o i e : Expr} {pos pos' : Pos} {fv fo fi : M D} (hv : EV g X E e fv) (ho : EV g X E o fo) (hi : EV g X E i fi)
    (ha : ∀ v, assign (.Subscript o i pos') X.env v = (do
      let ov ← holding [v] (eval o X.env)
      let iv ← holding [v, ov] (eval i X.env)
      standAt pos'
      holding [v, ov, iv] (setItem ov iv v)
      release [v, ov, iv] []))
    (hs : swapsWithSole [.Subscript o i pos'] e pos.line X.env = pure false) (hw : swappedStores [.Subscript o i pos'] e X.env = pure none)
    (h1 : (assignEach [.Subscript o i pos'] X.env).map (·.2) = [assign (.Subscript o i pos') X.env]) : SV g X E (.Assign [.Subscript o i pos'] e pos) (sSetIx fv fo fi) := by
  obtain ⟨tv, pv, qv⟩ := hv
  obtain ⟨to, po, qo⟩ := ho
  obtain ⟨ti, pi, qi⟩ := hi
  refine ⟨_, ps_asg pv (pg_sub po pi set_list ha) hs hw h1, fun K σ H m env hp hl er h => ?_⟩
  refine qv σ H _ m env hp hl er (SPO.bind h fun y h1 m1 H1 v x1 hl1 r1 h => ?_)
  refine qo σ H1 _ m1 env h1 hl1 (er.ext x1) (SPO.bind h fun od h2 m2 H2 u x2 hl2 r2 h => ?_)
  refine qi σ H2 _ m2 env h2 hl2 ((er.ext x1).ext x2) (SPO.bind h fun k h3 m3 H3 w x3 hl3 r3 h => ?_)
  unfold kSetIx2 at h
  cases od with
  | ref n =>
    cases k with
    | int k =>
      simp only [setD] at h
      cases eo : h3[n]? with
      | none => rw [eo] at h; exact h.elim
      | some ob =>
        rw [eo] at h
        cases ob with
        | lst ds =>
          simp only [setL] at h
          cases ej : ixN ds.length k with
          | none => rw [ej] at h; exact h.elim
          | some j =>
            rw [ej] at h
            simp only [setJ, R.sbind, kNx] at h
            have r2' := rep.ext x3 _ _ r2
            simp only [rep] at r2'
            obtain ⟨a, ea, us, hA, rr⟩ := hl3.at eo (by simp)
            have ry := rep.ext (x2.trans x3) _ _ r1
            obtain ⟨x6, hl6⟩ := hl3.write (u := .lst (us.set j v)) (ob' := .lst (ds.set j y)) ea eo (by simp) fun x6 => ⟨us.set j v, upd_same, reps.ext x6 _ _ (reps.set ry rr)⟩
            exact ⟨a, us, k, j, r2'.2 a ea, rInt r3, hA, by rw [← reps.length rr]; exact ej, h m3 _ σ x6 hl6 (((er.ext x1).ext x2).ext x3 |>.ext x6)⟩
        | _ => exact h.elim
    | _ => exact h.elim
  | _ => exact h.elim
/-! x.bit_length() -/
@[simp] def kBits : D → HP → R D
  | .int i, h => .ok (.int (Builtin.Int.intBits i : Nat)) h
  | _, _ => .stuck
@[simp] def mBits (f : M D) (env : EN) (hp : HP) : R D := (f env hp).bind kBits
theorem EV.bits {o : Expr} {apos pos : Pos} {f : M D} (ho : EV g X E o f) (hbase : attributeBase o "bit_length" X.env (eval o X.env) = eval o X.env) (hline : (apos.endLine == pos.line) = true) :
    EV g X E (.Call (.Attribute o "bit_length" apos) [] [] pos) (mBits f) := by
  obtain ⟨t, p, q⟩ := ho
  refine ⟨_, pe_bits p hbase hline, fun σ H Q m env hp hl er h => q σ H _ m env hp hl er (PO.bind h fun x h1 m1 H1 v x1 hl1 r1 h => ?_)⟩
  cases x with
  | int i => exact ⟨i, rInt r1, PO.here hl1 h (by simp [rep])⟩
  | _ => exact h.elim
/-! l.index(x), flat items -/
@[simp] def tyLs (h : HP) (d : D) : Bool := (asL h d).isSome
@[simp] def idxN (n : Nat) (j : Nat) (h : HP) : R D := if j < n then .ok (.int (j : Nat)) h else .stuck
@[simp] def idxO (y : D) : Option (List D) → HP → R D
  | some ds, h => if flatD y = true ∧ ds.all flatD = true then idxN ds.length (ds.findIdx fun z => eqD z y) h else .stuck
  | none, _ => .stuck
@[simp] def lIndex : D → List D → HP → R D
  | d, [y], h => idxO y (asL h d) h
  | _, _, _ => .stuck
theorem reps.back {m : AM} {H : Hp} : ∀ {ds : List D} {vs : List V} {i : Nat} {v : V}, reps g m H ds vs → vs[i]? = some v → ∃ d, ds[i]? = some d ∧ rep g m H d v
  | [], vs, i, v, h, e => by
    simp only [reps] at h
    subst h
    simp at e
  | d :: ds, vs, 0, v, h, e => by
    simp only [reps] at h
    obtain ⟨w, r, rfl, h1, h2⟩ := h
    cases e
    exact ⟨d, rfl, h1⟩
  | d :: ds, vs, i + 1, v, h, e => by
    simp only [reps] at h
    obtain ⟨w, r, rfl, h1, h2⟩ := h
    obtain ⟨d', e', r'⟩ := reps.back (ds := ds) (i := i) h2 (by simpa using e)
    exact ⟨d', by simpa using e', r'⟩
theorem bm_index (hK : X.K = g.K) : BM X g E "list" "list.index" tyLs lIndex := by
  refine ⟨fun m H hp d v hl r e => ?_, _, mt_index, fun m H hp d ds v vs Q hl r rs h => ?_⟩
  · unfold tyLs at e
    obtain ⟨es, ee⟩ := Option.isSome_iff_exists.mp e
    obtain ⟨a, us, rfl, hs, _⟩ := asL_ok hl r ee
    exact .inl ⟨rfl, us, hs⟩
  · rw [hK]
    unfold lIndex at h
    split at h
    · rename_i y
      unfold idxO at h
      split at h
      · rename_i es ee
        obtain ⟨a, us, rfl, hs, ru⟩ := asL_ok hl r ee
        obtain ⟨u, rfl, ry⟩ := reps1 rs
        split at h
        · rename_i c
          unfold idxN at h
          split at h
          · rename_i c2
            obtain ⟨z, hz, rz⟩ := reps.get ru (List.getElem?_eq_getElem c2)
            have fl : ∀ d ∈ es, flatD d = true := List.all_eq_true.mp c.2
            refine ⟨a, us, u, es.findIdx fun z => eqD z y, z, rfl, rfl, hs, flatD_ok _ _ ry c.1, reps.mem ru _ _ (fun d v => flatD_ok d v) c.2, hz, ?_, fun k z' hk hz' => ?_, PO.here hl h (by simp [rep])⟩
            · rw [eqD_ok rz ry (fl _ (List.getElem_mem c2)) c.1]
              exact List.findIdx_getElem (w := c2)
            · obtain ⟨d', hd', rd'⟩ := reps.back ru hz'
              have hm := List.mem_of_getElem? hd'
              rw [eqD_ok rd' ry (fl _ hm) c.1]
              have hk' := List.not_of_lt_findIdx hk
              have e' : es[k]? = some d' := hd'
              obtain ⟨hlt, e2⟩ := List.getElem?_eq_some_iff.mp e'
              rw [e2] at hk'
              simpa using hk'
          · exact h.elim
        · exact h.elim
      · exact h.elim
    · exact h.elim
/-! range(i, j, -1) -/
def rngN (lo : Int) (n : Nat) : List D := (List.range n).map fun i => .int (lo + (i : Nat) * (-1))
theorem rngN_len (lo : Int) (n : Nat) : (rngN lo n).length = n := by simp [rngN]
theorem foll_rangeN {m0 : AM} {H0 : Hp} {lo : Int} {n : Nat} : Foll g m0 H0 (Itc lo (-1) n) (rngN lo n) [] := by
  refine ⟨fun i m H hp hi x _ _ => by rw [rngN_len] at hi; exact hi, fun i m H hp v H' hi x hl' _ y => ?_, fun m H hp x _ _ => by rw [rngN_len]; exact Nat.le_refl _⟩
  obtain ⟨e, y⟩ := y
  subst e
  subst y
  rw [rngN_len] at hi
  exact ⟨.int (lo + (i : Nat) * (-1)), by simp [rngN, hi], .refl _ _, hl', by simp [rep]⟩
open Classical in
@[simp] noncomputable def kRange3 : List D → HP → R (List D × GdL)
  | [.int i, .int j, .int c], h => if c = -1 ∧ Rg i ∧ Rg j then .ok (rngN i (i - j).toNat, []) h else .stuck
  | _, _ => .stuck
@[simp] noncomputable def iRange3 (a : M (List D)) (env : EN) (hp : HP) : R (List D × GdL) := (a env hp).bind kRange3
theorem IV.range3 {tg a b c : Expr} {p pos : Pos} {f : M (List D)} (hm : X.mg "range" = none) (h : AV g X E [a, b, c] f) (hg : Gl X "range")
    (hs : starEach [a, b, c] X.env = (false, eval a X.env) :: starEach [b, c] X.env) (hpl : (backTo pos (starEach [b, c] X.env)).any (·.1) = false) : IV g X E tg (.Call (.Name "range" p) [a, b, c] [] pos) (iRange3 f) := by
  obtain ⟨t, p, q⟩ := h
  refine ⟨_, pi_range3 hg hm p hs hpl, fun σ H Rr m env hp hl er h => ?_⟩
  refine q σ H _ m env hp hl er (IPO.bind h fun xs h1 m1 H1 vs x1 hl1 r1 h => ?_)
  unfold kRange3 at h
  split at h
  · split at h
    · rename_i c
      obtain ⟨v, vs2, rfl, rr, r2⟩ := reps_cons r1
      obtain ⟨u, w, rfl, rr2, rr3⟩ := reps2 r2
      obtain rfl := rInt rr
      obtain rfl := rInt rr2
      obtain rfl := rInt rr3
      obtain ⟨rfl, c1, c2⟩ := c
      exact ⟨_, _, _, _, rfl, RgC.neg c1.1 c1.2 c2.1 c2.2, h m1 H1 _ (.refl _ _) hl1 foll_rangeN⟩
    · exact h.elim
  · exact h.elim
end
end Ev
namespace Ev
open PySem PySem.Spec PyProof.Rows L2
section
variable {g : G} {X : Cx} {E : XK}

/-! ### a < b < c < d -/
section
variable {a b c d : Expr} {pos : Pos} {ta tb tc td : TE}
def tChain3 (r r' r'' : R2) (ta tb tc td : TE) : TE := fun σ H Q => ta σ H fun x H1 => tb σ H1 fun y H2 => r x y H2 fun z H3 => ∃ k, z = .bl k ∧
  (if k = true then tc σ H3 fun w' H4 => r' y w' H4 fun z2 H5 => ∃ k2, z2 = .bl k2 ∧ (if k2 = true then td σ H5 fun w2 H6 => r'' w' w2 H6 Q else Q (.bl false) H5) else Q (.bl false) H3)
theorem pe_chain3 {op op' op'' : CmpOp} {r r' r'' : R2} (ho : OpR X (compareOp op) r) (ho' : OpR X (compareOp op') r') (ho'' : OpR X (compareOp op'') r'') (ha : PE X a ta) (hb : PE X b tb) (hc : PE X c tc) (hd : PE X d td)
    (hm : lastMarks [op, op', op''] [b, c, d] = false) : PE X (.Compare a [op, op', op''] [b, c, d] pos) (tChain3 r r' r'' ta tb tc td) := by
  refine ⟨fun pins s σ H Q I h => ?_⟩
  refine Compare_chain (thn (ha.run pins s σ H _ I h) fun v s1 ⟨x, H1, I1, r1, q1⟩ => chain_link (thn (hb.run pins s1 σ H1 _ I1 q1) fun u s2 ⟨y, H2, I2, r2, q2⟩ =>
    thn (ho pins s2 σ H2 x y v u _ I2 r1 r2 q2) fun d s3 ⟨z, H3, I3, r3, k, e, q3⟩ => ?_)) hm
  subst e
  cases r3
  refine wpAny_truthy_bool ?_
  cases k with
  | false => exact ite_ff ⟨.bl false, H3, I3, rfl, q3⟩
  | true =>
    refine ite_tt (chain_link (thn (hc.run pins s3 σ H3 _ I3 q3) fun w' s4 ⟨z', H4, I4, r4, q4⟩ => thn (ho' pins s4 σ H4 y z' u w' _ I4 r2 r4 q4) fun d s5 ⟨z2, H5, I5, r5, k2, e2, q5⟩ => ?_))
    subst e2
    cases r5
    refine wpAny_truthy_bool ?_
    cases k2 with
    | false => exact ite_ff ⟨.bl false, H5, I5, rfl, q5⟩
    | true => exact ite_tt (chain_last (thn (hd.run pins s5 σ H5 _ I5 q5) fun w2 s6 ⟨z3, H6, I6, r6, q6⟩ => ho'' pins s6 σ H6 z' z3 w' w2 Q I6 r4 r6 q6))
theorem pt_chain3 {op op' op'' : CmpOp} {r r' r'' : R2} (ho : OpR X (compareOp op) r) (ho' : OpR X (compareOp op') r') (ho'' : OpR X (compareOp op'') r'') (ha : PE X a ta) (hb : PE X b tb) (hc : PE X c tc) (hd : PE X d td)
    (hm : lastMarks [op, op', op''] [b, c, d] = false) : PT X (.Compare a [op, op', op''] [b, c, d] pos) (tTest (tChain3 r r' r'' ta tb tc td)) := by
  refine ⟨fun pins s σ H Q I h => ?_⟩
  refine isTrue_chain (thn (ha.run pins s σ H _ I h) fun v s1 ⟨x, H1, I1, r1, q1⟩ => test_link (thn (hb.run pins s1 σ H1 _ I1 q1) fun u s2 ⟨y, H2, I2, r2, q2⟩ =>
    thn (ho pins s2 σ H2 x y v u _ I2 r1 r2 q2) fun d s3 ⟨z, H3, I3, r3, k, e, q3⟩ => ?_)) hm
  subst e
  cases r3
  refine wpAny_truthy_bool ?_
  cases k with
  | false =>
    obtain ⟨k', e', q'⟩ := q3
    cases e'
    exact ite_ff ⟨H3, I3, q'⟩
  | true =>
    refine ite_tt (test_link (thn (hc.run pins s3 σ H3 _ I3 q3) fun w' s4 ⟨z', H4, I4, r4, q4⟩ => thn (ho' pins s4 σ H4 y z' u w' _ I4 r2 r4 q4) fun d s5 ⟨z2, H5, I5, r5, k2, e2, q5⟩ => ?_))
    subst e2
    cases r5
    refine wpAny_truthy_bool ?_
    cases k2 with
    | false =>
      obtain ⟨k', e', q'⟩ := q5
      cases e'
      exact ite_ff ⟨H5, I5, q'⟩
    | true =>
      refine ite_tt (test_last (thn (hd.run pins s5 σ H5 _ I5 q5) fun w2 s6 ⟨z3, H6, I6, r6, q6⟩ => thn (ho'' pins s6 σ H6 z' z3 w' w2 _ I6 r4 r6 q6) fun d' s7 ⟨z4, H7, I7, r7, k3, e3, q7⟩ => ?_))
      subst e3
      cases r7
      exact wpAny_truthy_bool ⟨H7, I7, q7⟩
end
@[simp] def kC3g (f3 : F2) (d : M D) (env : EN) (w : D) (k : Bool) (h : HP) : R D := if k = true then (d env h).bind (f3 w) else .ok (.bl false) h
@[simp] def kC3f (f3 : F2) (d : M D) (env : EN) (w : D) (z : D) (h : HP) : R D := (isB z h).bind (kC3g f3 d env w)
@[simp] def kC3e (f2 f3 : F2) (d : M D) (env : EN) (y : D) (w : D) (h : HP) : R D := (f2 y w h).bind (kC3f f3 d env w)
@[simp] def kC3d (f2 f3 : F2) (c d : M D) (env : EN) (y : D) (k : Bool) (h : HP) : R D := if k = true then (c env h).bind (kC3e f2 f3 d env y) else .ok (.bl false) h
@[simp] def kC3c (f2 f3 : F2) (c d : M D) (env : EN) (y : D) (z : D) (h : HP) : R D := (isB z h).bind (kC3d f2 f3 c d env y)
@[simp] def kC3b (f f2 f3 : F2) (c d : M D) (env : EN) (x y : D) (h2 : HP) : R D := (f x y h2).bind (kC3c f2 f3 c d env y)
@[simp] def kC3a (f f2 f3 : F2) (b c d : M D) (env : EN) (x : D) (h1 : HP) : R D := (b env h1).bind (kC3b f f2 f3 c d env x)
@[simp] def mCh3 (f f2 f3 : F2) (a b c d : M D) (env : EN) (hp : HP) : R D := (a env hp).bind (kC3a f f2 f3 b c d env)
theorem EV.ch3 {op op2 op3 : CmpOp} {a b c d : Expr} {pos : Pos} {fa fb fc fd : M D} {f f2 f3 : F2} (ho : OKS X g E (compareOp op) f) (ho2 : OKS X g E (compareOp op2) f2) (ho3 : OKS X g E (compareOp op3) f3) (ha : EV g X E a fa) (hb : EV g X E b fb) (hc : EV g X E c fc) (hd : EV g X E d fd) (hm : lastMarks [op, op2, op3] [b, c, d] = false) :
    EV g X E (.Compare a [op, op2, op3] [b, c, d] pos) (mCh3 f f2 f3 fa fb fc fd) := by
  obtain ⟨r, hr, ho⟩ := ho
  obtain ⟨r2, hr2, ho2⟩ := ho2
  obtain ⟨r3, hr3, ho3⟩ := ho3
  obtain ⟨ta, pa, qa⟩ := ha
  obtain ⟨tb, pb, qb⟩ := hb
  obtain ⟨tc, pc, qc⟩ := hc
  obtain ⟨td, pd, qd⟩ := hd
  refine ⟨_, pe_chain3 hr hr2 hr3 pa pb pc pd hm, fun σ H Q m env hp hl er h => ?_⟩
  refine qa σ H _ m env hp hl er (PO.bind h fun x h1 m1 H1 v x1 hl1 r1 h => ?_)
  refine qb σ H1 _ m1 env h1 hl1 (er.ext x1) (PO.bind h fun y h2 m2 H2 u x2 hl2 r2 h => ?_)
  refine ho m2 H2 h2 x y v u _ hl2 (rep.ext x2 _ _ r1) r2 (PO.bind h fun z h3 m3 H3 w x3 hl3 r3 h => ?_)
  obtain ⟨k, e, h⟩ := PO.isBk r3 h
  refine ⟨k, e, ?_⟩
  unfold kC3d at h
  cases k with
  | true =>
    rw [if_pos rfl] at h ⊢
    refine qc σ H3 _ m3 env h3 hl3 ((er.ext x1).ext (x2.trans x3)) (PO.bind h fun z h4 m4 H4 w4 x4 hl4 r4 h => ?_)
    refine ho2 m4 H4 h4 y z u w4 _ hl4 (rep.ext (x3.trans x4) _ _ r2) r4 (PO.bind h fun z5 h5 m5 H5 w5 x5 hl5 r5 h => ?_)
    obtain ⟨k2, e2, h⟩ := PO.isBk r5 h
    refine ⟨k2, e2, ?_⟩
    unfold kC3g at h
    cases k2 with
    | true =>
      rw [if_pos rfl] at h ⊢
      refine qd σ H5 _ m5 env h5 hl5 ((er.ext x1).ext (x2.trans (x3.trans (x4.trans x5)))) (PO.bind h fun z6 h6 m6 H6 w6 x6 hl6 r6 h => ?_)
      exact ho3 m6 H6 h6 z z6 w4 w6 Q hl6 (rep.ext (x5.trans x6) _ _ r4) r6 h
    | false =>
      rw [if_neg Bool.false_ne_true] at h ⊢
      exact h m5 H5 _ (.refl _ _) hl5 (by simp [rep])
  | false =>
    rw [if_neg Bool.false_ne_true] at h ⊢
    exact h m3 H3 _ (.refl _ _) hl3 (by simp [rep])

theorem TV.ch3 {op op2 op3 : CmpOp} {a b c d : Expr} {pos : Pos} {fa fb fc fd : M D} {f f2 f3 : F2} (ho : OKS X g E (compareOp op) f) (ho2 : OKS X g E (compareOp op2) f2) (ho3 : OKS X g E (compareOp op3) f3) (ha : EV g X E a fa) (hb : EV g X E b fb) (hc : EV g X E c fc) (hd : EV g X E d fd) (hm : lastMarks [op, op2, op3] [b, c, d] = false) :
    TV g X E (.Compare a [op, op2, op3] [b, c, d] pos) (mB (mCh3 f f2 f3 fa fb fc fd)) := by
  obtain ⟨r, hr, ho⟩ := ho
  obtain ⟨r2, hr2, ho2⟩ := ho2
  obtain ⟨r3, hr3, ho3⟩ := ho3
  obtain ⟨ta, pa, qa⟩ := ha
  obtain ⟨tb, pb, qb⟩ := hb
  obtain ⟨tc, pc, qc⟩ := hc
  obtain ⟨td, pd, qd⟩ := hd
  refine ⟨_, pt_chain3 hr hr2 hr3 pa pb pc pd hm, fun σ H Q m env hp hl er h => ?_⟩
  simp only [mB, mCh3, R.bind_assoc] at h
  unfold kC3a kC3b kC3c at h
  simp only [R.bind_assoc] at h
  refine qa σ H _ m env hp hl er (PO.bind h fun x h1 m1 H1 v x1 hl1 r1 h => ?_)
  refine qb σ H1 _ m1 env h1 hl1 (er.ext x1) (PO.bind h fun y h2 m2 H2 u x2 hl2 r2 h => ?_)
  refine ho m2 H2 h2 x y v u _ hl2 (rep.ext x2 _ _ r1) r2 (PO.bind h fun z h3 m3 H3 w x3 hl3 r3 h => ?_)
  obtain ⟨k, e, h⟩ := PO.isBk r3 h
  refine ⟨k, e, ?_⟩
  unfold kC3d at h
  cases k with
  | true =>
    rw [if_pos rfl] at h ⊢
    rw [R.bind_assoc] at h
    unfold kC3e kC3f at h
    simp only [R.bind_assoc] at h
    refine qc σ H3 _ m3 env h3 hl3 ((er.ext x1).ext (x2.trans x3)) (PO.bind h fun z h4 m4 H4 w4 x4 hl4 r4 h => ?_)
    refine ho2 m4 H4 h4 y z u w4 _ hl4 (rep.ext (x3.trans x4) _ _ r2) r4 (PO.bind h fun z5 h5 m5 H5 w5 x5 hl5 r5 h => ?_)
    obtain ⟨k2, e2, h⟩ := PO.isBk r5 h
    refine ⟨k2, e2, ?_⟩
    unfold kC3g at h
    cases k2 with
    | true =>
      rw [if_pos rfl] at h ⊢
      rw [R.bind_assoc] at h
      refine qd σ H5 _ m5 env h5 hl5 ((er.ext x1).ext (x2.trans (x3.trans (x4.trans x5)))) (PO.bind h fun z6 h6 m6 H6 w6 x6 hl6 r6 h => ?_)
      refine ho3 m6 H6 h6 z z6 w4 w6 _ hl6 (rep.ext (x5.trans x6) _ _ r4) r6 (PO.bind h fun z7 h7 m7 H7 w7 x7 hl7 r7 h => ?_)
      exact PO.toB hl7 r7 h
    | false =>
      rw [if_neg Bool.false_ne_true] at h ⊢
      exact PO.toB (d := .bl false) (v := .bl false) hl5 (by simp [rep]) h
  | false =>
    rw [if_neg Bool.false_ne_true] at h ⊢
    exact PO.toB (d := .bl false) (v := .bl false) hl3 (by simp [rep]) h
/-! ### own classes -/
/-- what is asked of a class: plain, and none of the names of its fields is one of its attributes -/
structure ClsT (K : PySem.W.Frag) (C : Addr) (fs : List Str) : Prop where
  cl : Cls K C
  na : ∀ f ∈ fs, NoAttr K C f
def CsOk (g : G) (f : Str) : Prop := ∀ c, Cls g.K (g.cA c) ∧ NoAttr g.K (g.cA c) f
theorem CsOk.of {f : Str} {fs : List Str} (t : ∀ c, ClsT g.K (g.cA c) fs) (hf : f ∈ fs) : CsOk g f := fun c => ⟨(t c).cl, (t c).na f hf⟩
@[simp] def insO : Option O → Option (Nat × List (Str × D))
  | some (.ins c fs) => some (c, fs)
  | _ => none
def asI (h : HP) : D → Option (Nat × List (Str × D))
  | .ins c fs => some (c, fs)
  | .ref n => insO h[n]?
  | _ => none
@[simp] theorem asI_ins (h : HP) (c : Nat) (fs : List (Str × D)) : asI h (.ins c fs) = some (c, fs) := rfl
@[simp] theorem asI_ref (h : HP) (n : Nat) : asI h (.ref n) = insO h[n]? := rfl
theorem asI_ok {m : AM} {H : Hp} {hp : HP} {d : D} {v : V} {c : Nat} {fs : List (Str × D)} (hl : HL g m H hp) (r : rep g m H d v) (e : asI hp d = some (c, fs)) : ∃ a dx vs, v = .ref a ∧ H a = some (.ins (g.cA c) dx vs) ∧ repf g m H fs vs := by
  cases d with
  | ins c' fs' =>
    simp only [asI] at e
    cases e
    simp only [rep] at r
    obtain ⟨a, dx, vs, e1, e2, _, e3⟩ := r
    exact ⟨a, dx, vs, e1, e2, e3⟩
  | ref n =>
    simp only [asI] at e
    unfold insO at e
    split at e
    · rename_i c' fs' q
      cases e
      simp only [rep] at r
      obtain ⟨a, ea, dx, vs, ha, rv⟩ := hl.at q (by simp)
      exact ⟨a, dx, vs, r.2 a ea, ha, rv⟩
    · cases e
  | _ => cases e
theorem repf.lookup {m : AM} {H : Hp} {f : Str} : ∀ {fs : List (Str × D)} {vs : List (Str × V)}, repf g m H fs vs → (∀ d, fs.lookup f = some d → ∃ v, vs.lookup f = some v ∧ rep g m H d v) ∧ (fs.lookup f = none → vs.lookup f = none)
  | [], vs, h => by
    simp only [repf] at h
    subst h
    exact ⟨fun d e => (by cases e), fun _ => rfl⟩
  | (k, d) :: fs, vs, h => by
    simp only [repf] at h
    obtain ⟨v, r, rfl, h1, h2⟩ := h
    have ih := repf.lookup (f := f) h2
    simp only [List.lookup_cons]
    cases q : f == k with
    | true => exact ⟨fun d' e => ⟨v, rfl, by cases e; exact h1⟩, fun e => by cases e⟩
    | false => exact ih
@[simp] def optR : Option D → HP → R D
  | some d, h => .ok d h
  | none, _ => .stuck
@[simp] def fldI (f : Str) : Option (Nat × List (Str × D)) → HP → R D
  | some (_, fs), h => optR (fs.lookup f) h
  | none, _ => .stuck
@[simp] def kFld (f : Str) (x : D) (h : HP) : R D := fldI f (asI h x) h
@[simp] def mFld (f : Str) (a : M D) (env : EN) (hp : HP) : R D := (a env hp).bind (kFld f)
/-- e.f -/
theorem EV.fld {e : Expr} {f : Str} {pos : Pos} {fe : M D} (hK : X.K = g.K) (hcs : CsOk g f) (h : EV g X E e fe) (hb : attributeBase e f X.env (eval e X.env) = eval e X.env) : EV g X E (.Attribute e f pos) (mFld f fe) := by
  obtain ⟨t, p, q⟩ := h
  refine ⟨_, pe_fld p hb, fun σ H Q m env hp hl er h => q σ H _ m env hp hl er (PO.bind h fun x h1 m1 H1 v x1 hl1 r1 h => ?_)⟩
  unfold kFld fldI at h
  split at h
  · rename_i c fs e
    unfold optR at h
    split at h
    · rename_i d el
      obtain ⟨a, dx, vs, rfl, ea, rf⟩ := asI_ok hl1 r1 e
      obtain ⟨u, eu, ru⟩ := rf.lookup.1 d el
      rw [hK]
      exact ⟨a, _, dx, vs, u, rfl, ea, (hcs c).1, (hcs c).2, eu, PO.here hl1 h ru⟩
    · exact h.elim
  · exact h.elim
/-! o.f = e -/
@[simp] def putD (f : Str) (d : D) : List (Str × D) → List (Str × D)
  | [] => [(f, d)]
  | (k, x) :: r => if k = f then (k, d) :: r else (k, x) :: putD f d r
theorem repf.put {m : AM} {H : Hp} {f : Str} {d : D} {v : V} (rv : rep g m H d v) : ∀ {fs : List (Str × D)} {vs : List (Str × V)}, repf g m H fs vs → repf g m H (putD f d fs) (putF f v vs)
  | [], vs, h => by
    simp only [repf] at h
    subst h
    simp only [putD, putF, repf]
    exact ⟨v, [], rfl, rv, rfl⟩
  | (k, x) :: fs, vs, h => by
    simp only [repf] at h
    obtain ⟨w, r, rfl, h1, h2⟩ := h
    simp only [putD, putF]
    by_cases q : k = f
    · rw [if_pos q, if_pos q]
      simp only [repf]
      exact ⟨v, r, rfl, rv, h2⟩
    · rw [if_neg q, if_neg q]
      simp only [repf]
      exact ⟨w, _, rfl, h1, repf.put rv h2⟩
theorem repf.length {m : AM} {H : Hp} : ∀ {ds : List (Str × D)} {vs : List (Str × V)}, repf g m H ds vs → ds.length = vs.length
  | [], vs, h => by simp only [repf] at h; subst h; rfl
  | (k, d) :: ds, vs, h => by
    simp only [repf] at h
    obtain ⟨v, r, rfl, _, h2⟩ := h
    simp [repf.length h2]
@[simp] def putI (f : Str) (y : D) (n : Nat) : Option O → HP → R Unit
  | some (.ins c fs), h => if fs.length < 1000 then .ok () (h.set n (.ins c (putD f y fs))) else .stuck
  | _, _ => .stuck
@[simp] def putR (f : Str) (y : D) : D → HP → R Unit
  | .ref n, h => putI f y n h[n]? h
  | _, _ => .stuck
@[simp] def kPut2 (f : Str) (env : EN) (y o : D) (h : HP) : SR := (putR f y o h).sbind (kNx env)
@[simp] def kPut1 (f : Str) (fo : M D) (env : EN) (y : D) (h : HP) : SR := (fo env h).sbind (kPut2 f env y)
@[simp] def sPut (f : Str) (fv fo : M D) (env : EN) (hp : HP) : SR := (fv env hp).sbind (kPut1 f fo env)
theorem SV.put {o e : Expr} {f : Str} {pos pos' : Pos} {fv fo : M D} (hK : X.K = g.K) (hcs : CsOk g f) (hv : EV g X E e fv) (ho : EV g X E o fo) (hs : swapsWith e (some (.Attribute o f pos')) pos.line X.env = pure false) :
    SV g X E (.Assign [.Attribute o f pos'] e pos) (sPut f fv fo) := by
  obtain ⟨tv, pv, qv⟩ := hv
  obtain ⟨to, po, qo⟩ := ho
  refine ⟨_, ps_fld po pv hs, fun K σ H m env hp hl er h => ?_⟩
  refine qv σ H _ m env hp hl er (SPO.bind h fun y h1 m1 H1 v x1 hl1 r1 h => ?_)
  refine qo σ H1 _ m1 env h1 hl1 (er.ext x1) (SPO.bind h fun od h2 m2 H2 u x2 hl2 r2 h => ?_)
  unfold kPut2 at h
  cases od with
  | ref n =>
    simp only [putR] at h
    cases eo : h2[n]? with
    | none => rw [eo] at h; exact h.elim
    | some ob =>
      rw [eo] at h
      cases ob with
      | ins c fs =>
        simp only [putI] at h
        split at h
        · rename_i hc
          simp only [R.sbind, kNx] at h
          simp only [rep] at r2
          obtain ⟨a, ea, dx, vs, hA, rr⟩ := hl2.at eo (by simp)
          have ry := rep.ext x2 _ _ r1
          obtain ⟨x6, hl6⟩ := hl2.write (u := .ins (g.cA c) dx (putF f v vs)) (ob' := .ins c (putD f y fs)) ea eo (by simp) fun x6 => ⟨dx, _, upd_same, repf.ext x6 _ _ (repf.put ry rr)⟩
          rw [hK]
          exact ⟨a, _, dx, vs, r2.2 a ea, hA, (hcs c).1, (hcs c).2, by rw [← repf.length rr]; exact hc, h m2 _ σ x6 hl6 ((er.ext x1).ext x2 |>.ext x6)⟩
        · exact h.elim
      | _ => exact h.elim
  | _ => exact h.elim
/-! a statement that is never run -/
@[simp] def sStuck (_ : EN) (_ : HP) : SR := .stuck
theorem SV.no {s : Stmt} : SV g X E s sStuck := ⟨fun _ _ _ => False, ⟨fun _ _ _ _ _ _ h => h.elim⟩, fun _ _ _ _ _ _ _ _ h => h⟩

/-! ### keywords -/
structure KwV (g : G) (X : Cx) (E : XK) (ks : List Keyword) (f : M (List D)) : Prop where
  ex : ∃ t, PK X ks t ∧ ∀ σ H Q m env hp, HL g m H hp → ER g m H σ env → PO g m H E (reps g) Q (f env hp) → t σ H Q
theorem KwV.nil : KwV g X E [] aNil := ⟨_, pk_nil, fun σ H Q m env hp hl er h => h m H [] (.refl _ _) hl (by simp [reps])⟩
theorem KwV.cons {nm : Option Str} {kpos : Pos} {e : Expr} {es : List Keyword} {f : M D} {fs : M (List D)} (ha : EV g X E e f) (hr : KwV g X E es fs) : KwV g X E (⟨nm, e, kpos⟩ :: es) (aCons f fs) := by
  obtain ⟨ta, pa, qa⟩ := ha
  obtain ⟨tr, pr, qr⟩ := hr
  refine ⟨_, pk_cons pa pr, fun σ H Q m env hp hl er h => ?_⟩
  refine qa σ H _ m env hp hl er (PO.bind h fun x h1 m1 H1 v x1 hl1 r1 h => ?_)
  refine qr σ H1 _ m1 env h1 hl1 (er.ext x1) (PO.bind h fun xs h2 m2 H2 vs x2 hl2 r2 h => ?_)
  exact h m2 H2 _ (.refl _ _) hl2 (by simp only [reps]; exact ⟨v, vs, rfl, rep.ext x2 _ _ r1, r2⟩)
/-- how values of a call are put in the parameters' order -/
def ArgO (g : G) (gD : List D → List D → List D) (gV : List V → List V → List V) : Prop := ∀ m H xs vs ys ws, reps g m H xs vs → reps g m H ys ws → reps g m H (gD xs ys) (gV vs ws)
@[simp] def gApp (xs ys : List D) : List D := xs ++ ys
theorem ArgO.app : ArgO g gApp fun vs ws => vs ++ ws := fun m H xs vs ys ws h1 h2 => reps.append h1 h2
/-- .. defaults behind -/
@[simp] def gAppD (ds : List D) (xs ys : List D) : List D := xs ++ (ys ++ ds)
theorem ArgO.appD {ds : List D} {us : List V} (hd : ∀ m H, reps g m H ds us) : ArgO g (gAppD ds) fun vs ws => vs ++ (ws ++ us) := fun m H xs vs ys ws h1 h2 => reps.append h1 (reps.append h2 (hd m H))
@[simp] def kCallN (n k : Nat) (gD : List D → List D → List D) (F : FA) (xs ys : List D) (h : HP) : R D := if xs.length = n ∧ ys.length = k then F (gD xs ys) h else .stuck
@[simp] def kCallN1 (n k : Nat) (gD : List D → List D → List D) (F : FA) (ks : M (List D)) (env : EN) (xs : List D) (h : HP) : R D := (ks env h).bind (kCallN n k gD F xs)
@[simp] def mCallN (n k : Nat) (gD : List D → List D → List D) (F : FA) (a ks : M (List D)) (env : EN) (hp : HP) : R D := (a env hp).bind (kCallN1 n k gD F ks env)
section
variable {CX : CXT} {k n np : Nat} {f : Addr} {fd : FuncData} {ps ks : List Str} {Fa : FA} {x : Str} {p pos : Pos} {e : Expr} {es : List Expr} {kws : List Keyword} {fs fk : M (List D)} {gv : List Value → List Value → List Value} {gV : List V → List V → List V} {gD : List D → List D → List D}
/-- f(e, .., k = v, ..) -/
theorem EV.callN (F : FnOk X.prog X.w X.K X.mg X.base CX k f fd ps (spF g np Fa)) (hr : Room k X.A) (hm : X.mg x = some (.ref f)) (hk : PySem.W.keepIn X.K (.ref f) = true) (hb : KBn X.K fd ps n ks gv gV) (hD : ArgO g gD gV) (hnp : ∀ xs ys : List D, xs.length = n → ys.length = ks.length → (gD xs ys).length = np) (hx : Passes CX X E)
    (ha : AV g X E (e :: es) fs) (hkw : KwV g X E kws fk) (hg : Gl X x) (hall : (backToKw pos (keywordEach kws X.env)).all (·.1.isSome) = true) (hks : (backToKw pos (keywordEach kws X.env)).filterMap (·.1) = ks)
    (hdb : (x == ("__debug__" : Str)) = false) (he : starEach (e :: es) X.env = (false, eval e X.env) :: starEach es X.env)
    (hpl : ((backTo pos (starEach (e :: es) X.env)).any (·.1) || (backToKw pos (keywordEach kws X.env)).any (·.1.isNone)) = false) :
    EV g X E (.Call (.Name x p) (e :: es) kws pos) (mCallN n ks.length gD Fa fs fk) := by
  obtain ⟨t, pa, qa⟩ := ha
  obtain ⟨tk, pk, qk⟩ := hkw
  refine ⟨_, pe_callN F hr hg hm hk hb hx pa pk hall hks hdb he hpl, fun σ H Q m env hp hl er h => ?_⟩
  refine qa σ H _ m env hp hl er (PO.bind h fun xs h1 m1 H1 vs x1 hl1 r1 h => ?_)
  refine qk σ H1 _ m1 env h1 hl1 (er.ext x1) (PO.bind h fun ys h2 m2 H2 ws x2 hl2 r2 h => ?_)
  unfold kCallN at h
  split at h
  · rename_i c
    have rr := hD m2 H2 _ _ _ _ (reps.ext x2 _ _ r1) r2
    exact ⟨(reps.length r1).symm.trans c.1, (reps.length r2).symm.trans c.2, by rw [← reps.length rr]; exact hnp _ _ c.1 c.2, m2, h2, _, hl2, rr, h⟩
  · exact h.elim
/-! C(..): a new instance, then __init__; what it leaves is a value (frozen) -/
noncomputable def mkR (h0 : HP) : R D → R D
  | .ok .non h => pure_ h0 (.ref h0.length) h
  | _ => .stuck
@[simp] def gMk (gD : List D → List D → List D) (h : HP) (xs ys : List D) : List D := gD (.ref h.length :: xs) ys
@[simp] noncomputable def kMkN (c n k : Nat) (gD : List D → List D → List D) (F : FA) (xs ys : List D) (h : HP) : R D := if xs.length = n ∧ ys.length = k then mkR h (F (gMk gD h xs ys) (h ++ [.ins c []])) else .stuck
@[simp] noncomputable def kMkN1 (c n k : Nat) (gD : List D → List D → List D) (F : FA) (ks : M (List D)) (env : EN) (xs : List D) (h : HP) : R D := (ks env h).bind (kMkN c n k gD F xs)
@[simp] noncomputable def mMkN (c n k : Nat) (gD : List D → List D → List D) (F : FA) (a ks : M (List D)) (env : EN) (hp : HP) : R D := (a env hp).bind (kMkN1 c n k gD F ks env)
theorem mk_sp {c : Nat} {m : AM} {H : Hp} {hp : HP} {xs ys : List D} {vs ws : List V} {Q : VK} (hl : HL g m H hp) (r1 : reps g m H xs vs) (r2 : reps g m H ys ws) (hD : ArgO g gD gV) (hnp : (gMk gD hp xs ys).length = np)
    (h : PO g m H E (rep g) Q (mkR hp (Fa (gMk gD hp xs ys) (hp ++ [.ins c []])))) :
    ∀ x dx, H x = none → H dx = none → dx ≠ x → spF g np Fa (gV (.ref x :: vs) ws) (upd (upd H dx (.own x)) x (.ins (g.cA c) dx [])) (fun v H3 => v = .non ∧ Q (.ref x) H3) E := by
  intro x dx nx ndx ne
  obtain ⟨x1, hl1, _⟩ := hl.new (o := .own x) ndx
  have nx1 : (upd H dx (.own x)) x = none := by rw [upd_ne (Ne.symm ne)]; exact nx
  obtain ⟨x2, hl2⟩ := hl1.push (o := .ins (g.cA c) dx []) (ob := .ins c []) nx1 (by simp) fun x2 => ⟨dx, [], upd_same, by simp [repf]⟩
  have rx : rep g (m ++ [some x]) (upd (upd H dx (.own x)) x (.ins (g.cA c) dx [])) (.ref hp.length) (.ref x) := by
    simp only [rep]
    refine ⟨by simp [hl.len], fun a e => ?_⟩
    rw [← hl.len, List.getElem?_append_right (Nat.le_refl _)] at e
    simp at e
    rw [e]
  have rr := hD _ _ (.ref hp.length :: xs) (.ref x :: vs) ys ws (by simp only [reps]; exact ⟨_, _, rfl, rx, reps.ext (x1.trans x2) _ _ r1⟩) (reps.ext (x1.trans x2) _ _ r2)
  refine ⟨by rw [← reps.length rr]; exact hnp, _, _, _, hl2, rr, ?_⟩
  have e : gD (.ref hp.length :: xs) ys = gMk gD hp xs ys := rfl
  rw [e]
  revert h
  cases Fa (gMk gD hp xs ys) (hp ++ [.ins c []]) with
  | ok d h' =>
    cases d with
    | non =>
      intro h m' H' v x3 hl3 rv
      refine ⟨by simpa [rep] using rv, ?_⟩
      exact PO.pure_ hl ((x1.trans x2).trans x3) hl3 (rep.ext x3 _ _ rx) h
    | _ => exact fun h => h.elim
  | exc _ _ _ => exact fun h => h.elim
  | stuck => exact fun h => h.elim
theorem EV.mkN {c : Nat} (M : Mk X.K (g.cA c) f) (F : FnOk X.prog X.w X.K X.mg X.base CX k f fd ps (spF g np Fa)) (hr : Room (k + 1) X.A) (hm : X.mg x = some (.ref (g.cA c))) (hb : KBn X.K fd ps (n + 1) ks gv gV) (hD : ArgO g gD gV) (hnp : ∀ xs ys : List D, xs.length = n + 1 → ys.length = ks.length → (gD xs ys).length = np) (hx : Passes CX X E)
    (ha : AV g X E (e :: es) fs) (hkw : KwV g X E kws fk) (hg : Gl X x) (hall : (backToKw pos (keywordEach kws X.env)).all (·.1.isSome) = true) (hks : (backToKw pos (keywordEach kws X.env)).filterMap (·.1) = ks)
    (hdb : (x == ("__debug__" : Str)) = false) (he : starEach (e :: es) X.env = (false, eval e X.env) :: starEach es X.env)
    (hpl : ((backTo pos (starEach (e :: es) X.env)).any (·.1) || (backToKw pos (keywordEach kws X.env)).any (·.1.isNone)) = false) :
    EV g X E (.Call (.Name x p) (e :: es) kws pos) (mMkN c n ks.length gD Fa fs fk) := by
  obtain ⟨t, pa, qa⟩ := ha
  obtain ⟨tk, pk, qk⟩ := hkw
  refine ⟨_, pe_makeK M F hr hg hm hb hx pa pk hall hks hdb he hpl, fun σ H Q m env hp hl er h => ?_⟩
  refine qa σ H _ m env hp hl er (PO.bind h fun xs h1 m1 H1 vs x1 hl1 r1 h => ?_)
  refine qk σ H1 _ m1 env h1 hl1 (er.ext x1) (PO.bind h fun ys h2 m2 H2 ws x2 hl2 r2 h => ?_)
  unfold kMkN at h
  split at h
  · rename_i cnd
    exact ⟨(reps.length r1).symm.trans cnd.1, (reps.length r2).symm.trans cnd.2, mk_sp hl2 (reps.ext x2 _ _ r1) r2 hD (hnp _ _ (by simp [cnd.1]) cnd.2) h⟩
  · exact h.elim
/-- C(e, ..) -/
@[simp] noncomputable def kMkP (c n : Nat) (F : FA) (xs : List D) (h : HP) : R D := if xs.length = n then mkR h (F (gMk gApp h xs []) (h ++ [.ins c []])) else .stuck
@[simp] noncomputable def mMkP (c n : Nat) (F : FA) (a : M (List D)) (env : EN) (hp : HP) : R D := (a env hp).bind (kMkP c n F)
theorem EV.mkP {c : Nat} (M : Mk X.K (g.cA c) f) (F : FnOk X.prog X.w X.K X.mg X.base CX k f fd ps (spF g (n + 1) Fa)) (hr : Room (k + 1) X.A) (hm : X.mg x = some (.ref (g.cA c))) (hb : Binds X.K fd ps []) (hx : Passes CX X E)
    (ha : AV g X E (e :: es) fs) (hg : Gl X x) (hdb : (x == ("__debug__" : Str)) = false) (he : starEach (e :: es) X.env = (false, eval e X.env) :: starEach es X.env) (hpl : (backTo pos (starEach es X.env)).any (·.1) = false) :
    EV g X E (.Call (.Name x p) (e :: es) [] pos) (mMkP c n Fa fs) := by
  obtain ⟨t, pa, qa⟩ := ha
  refine ⟨_, pe_make M F hr hg hm hb .nil hx pa hdb he hpl, fun σ H Q m env hp hl er h => ?_⟩
  refine qa σ H _ m env hp hl er (PO.bind h fun xs h1 m1 H1 vs x1 hl1 r1 h => ?_)
  unfold kMkP at h
  split at h
  · rename_i cnd
    have := mk_sp (gV := fun vs ws => vs ++ ws) (gD := gApp) (ys := []) (ws := []) (np := n + 1) (Fa := Fa) (c := c) hl1 r1 (by simp [reps]) ArgO.app (by simp [cnd]) h
    intro y dy n1 n2 n3
    have := this y dy n1 n2 n3
    simpa using this
  · exact h.elim
/-! o.m(e, ..) -/
@[simp] def methI (c : Nat) (nm : Str) : Option (Nat × List (Str × D)) → Bool
  | some (c', fs) => decide (c' = c) && (fs.lookup nm).isNone
  | none => false
@[simp] def kMeth2 (n : Nat) (F : FA) (x : D) (xs : List D) (h : HP) : R D := if xs.length = n then F (x :: xs) h else .stuck
@[simp] def kMeth (c n : Nat) (nm : Str) (F : FA) (a : M (List D)) (env : EN) (x : D) (h : HP) : R D := if methI c nm (asI h x) = true then (a env h).bind (kMeth2 n F x) else .stuck
@[simp] def mMeth (c n : Nat) (nm : Str) (F : FA) (o : M D) (a : M (List D)) (env : EN) (hp : HP) : R D := (o env hp).bind (kMeth c n nm F a env)
theorem EV.meth {c : Nat} {nm : Str} {o : Expr} {apos : Pos} {fo : M D} {pl : Sem Bool} (t : Cls X.K (g.cA c)) (hmt : Meth X.K (g.cA c) nm f) (F : FnOk X.prog X.w X.K X.mg X.base CX k f fd ps (spF g (n + 1) Fa)) (hr : Room k X.A) (hb : Binds X.K fd ps []) (hx : Passes CX X E)
    (ho : EV g X E o fo) (ha : AV g X E (e :: es) fs) (hst : starEach (e :: es) X.env = (false, eval e X.env) :: starEach es X.env) (hpl : (backTo pos (starEach es X.env)).any (·.1) = false)
    (ht : eval (.Call (.Attribute o nm apos) (e :: es) [] pos) X.env = (do
      let ov ← eval o X.env
      standAt apos.atName
      let (f, first) ← holding [ov] (getMethod ov nm pl)
      callWith pos f first (backTo pos (starEach (e :: es) X.env)) (backToKw pos (keywordEach [] X.env)))) :
    EV g X E (.Call (.Attribute o nm apos) (e :: es) [] pos) (mMeth c n nm Fa fo fs) := by
  obtain ⟨to, po, qo⟩ := ho
  obtain ⟨ta, pa, qa⟩ := ha
  refine ⟨_, pe_meth po t hmt F hr hb .nil hx pa hst hpl ht, fun σ H Q m env hp hl er h => ?_⟩
  refine qo σ H _ m env hp hl er (PO.bind h fun x h1 m1 H1 v x1 hl1 r1 h => ?_)
  unfold kMeth at h
  split at h
  · rename_i cnd
    unfold methI at cnd
    split at cnd
    · rename_i c' fs' e
      rw [Bool.and_eq_true] at cnd
      obtain ⟨a, dx, vs, rfl, ea, rf⟩ := asI_ok hl1 r1 e
      have ec := of_decide_eq_true cnd.1
      rw [ec] at ea
      refine ⟨a, dx, vs, rfl, ea, rf.lookup.2 (Option.isNone_iff_eq_none.mp cnd.2), ?_⟩
      refine qa σ H1 _ m1 env h1 hl1 (er.ext x1) (PO.bind h fun xs h2 m2 H2 ws x2 hl2 r2 h => ?_)
      unfold kMeth2 at h
      split at h
      · rename_i cn
        rw [List.append_nil]
        refine ⟨by rw [List.length_cons, ← reps.length r2, cn], m2, h2, x :: xs, hl2, ?_, h⟩
        simp only [reps]
        exact ⟨_, _, rfl, rep.ext x2 _ _ r1, r2⟩
      · exact h.elim
    · cases cnd
  · exact h.elim
end
/-- how a def without defaults binds n values and the keywords ks, all in the parameters' order -/
theorem kbA {K : PySem.W.Frag} {x qual : Str} {st : Stmt} {f : Addr} {fd : FuncData} {ps : List Str} (F : Fun K x qual st f fd) (n : Nat) (ks : List Str)
    (h : ∀ (kV doc pm : Value) (an : Option Addr) (cdv ct : Value) (us ws : List Value), us.length = n → ws.length = ks.length → bindArgs (PySem.W.fnOf x qual (defArgs st) (defBody st) (defScope st) .none kV doc pm an cdv ct) ⟨us, ks.zip ws⟩ = pure (ps.zip (us ++ ws))) :
    KBn K fd ps n ks (fun us ws => us ++ ws) (fun vs zs => vs ++ zs) := by
  obtain ⟨oc, od, kV, doc, pm, an, cdv, ct, osl, rfl, lk, hcd⟩ := F.ex
  exact ⟨fun s us ws X l1 l2 => .of_eq (h kV doc pm an cdv ct us ws l1 l2), fun r1 r2 => r1.append r2⟩
end
end Ev
namespace Ev
open PySem PySem.Spec PyProof.Rows L2
/-- the law's own promise: no class is named in it -/
def spL (K : PySem.W.Frag) (F : FA) : Sp := fun vs H Q _ => ∃ (a : Addr) (ns : List Int), vs = [.ref a] ∧ SqL K H a (ns.map V.int) ∧ F [.klst (ns.map D.int)] [] = .ok (.bl true) [] ∧ ∀ H', Q (.bl true) H'
theorem spL_imp {g : G} {F : FA} {vs : List V} {H : Hp} {Q : VK} {E : XK} (h : spL g.K F vs H Q E) : spF g 1 F vs H Q E := by
  obtain ⟨a, ns, rfl, hS, e, k⟩ := h
  refine ⟨rfl, [], [], [.klst (ns.map D.int)], ⟨rfl, fun i j a e => by simp at e, fun i o e => by simp at e⟩, ?_, ?_⟩
  · simp only [reps]
    exact ⟨_, [], rfl, rep_script hS (by simp), rfl⟩
  · rw [e]
    intro m' H' v x hl r
    have : v = .bl true := by simpa [rep] using r
    rw [this]
    exact k H'
end Ev
namespace Ev
open PySem PySem.Spec PyProof.Rows L2
/-! ### keyword-only defaults -/
theorem fund_mk {K : PySem.W.Frag} {x qual : Str} {st : Stmt} {f D : Addr} {oc : Value} {od an : Option Addr} {osl : Array (Option Value)} {doc pm cdv ct : Value} {kws : List (Str × V)} (l : K.lookup f = some ⟨oc, od, .func (PySem.W.fnOf x qual (defArgs st) (defBody st) (defScope st) .none (.ref D) doc pm an cdv ct), osl⟩)
    (c : PySem.W.codeIn K cdv qual = true) (k : PySem.W.keepIn K (.ref f) = true) (hd : ∀ q ∈ kws, ∃ u, PySem.W.nsIn K D q.1 = some (some u) ∧ RelV q.2 u) :
    FunD K x qual (defArgs st) (defBody st) (defScope st) [] kws f (PySem.W.fnOf x qual (defArgs st) (defBody st) (defScope st) .none (.ref D) doc pm an cdv ct) :=
  ⟨⟨oc, od, .none, .ref D, doc, pm, an, cdv, ct, osl, rfl, l, c, .inl ⟨rfl, rfl⟩, .inr ⟨D, rfl, hd⟩⟩, k⟩
theorem kbD {K : PySem.W.Frag} {x qual : Str} {params : Arguments} {body : List Stmt} {scope : Scope} {kws : List (Str × V)} {f : Addr} {fd : FuncData} {ps : List Str} (F : FunD K x qual params body scope [] kws f fd) (n : Nat) (ks : List Str) (hk : kws ≠ [])
    (h : ∀ (D : Addr) (doc pm : Value) (an : Option Addr) (cdv ct : Value) (us mv ws : List Value), us.length = n → mv.length = kws.length → ws.length = ks.length →
      KwChain D ((kws.map (·.1)).zip mv) (bindArgs (PySem.W.fnOf x qual params body scope .none (.ref D) doc pm an cdv ct) ⟨us, ks.zip ws⟩) (ps.zip (us ++ (ws ++ mv)))) :
    ∃ mv : List Value, KBn K fd ps n ks (fun us ws => us ++ (ws ++ mv)) (fun vs zs => vs ++ (zs ++ kws.map (·.2))) :=
  FunD.kbinds0 F n ks kws (fun a b c => a ++ (c ++ b)) hk (fun _ h => h) (fun r1 r2 r3 => r1.append (r3.append r2)) h
section
variable {g : G} {X : Cx} {E : XK}
/-! str(i) -/
@[simp] def bStr : List D → HP → R D
  | [.int i], h => if i.natAbs.log2 < 1920 then .ok (.str (toString i)) h else .stuck
  | _, _ => .stuck
theorem cv_str : CV X g E (.type "str") bStr := by
  refine ⟨_, call_str_int, fun m H hp ds vs Q hl r h => ?_⟩
  unfold bStr at h
  split at h
  · obtain ⟨v, rfl, rr⟩ := reps1 r
    obtain rfl := rInt rr
    split at h
    · rename_i c
      exact ⟨_, rfl, c, PO.here hl h (by simp [rep])⟩
    · exact h.elim
  · exact h.elim
end
end Ev
namespace Lib
open PySem PySem.Spec PyProof.Rows L2 Ev
@[simp] theorem nb_dims_speed : (("dims" : Str) == ("speed" : Str)) = false := by decide +kernel
@[simp] theorem ne_dims_speed : (("dims" : Str) = ("speed" : Str)) = False := eq_false (by decide +kernel)
@[simp] theorem nb_dims_drift : (("dims" : Str) == ("drift" : Str)) = false := by decide +kernel
@[simp] theorem ne_dims_drift : (("dims" : Str) = ("drift" : Str)) = False := eq_false (by decide +kernel)
@[simp] theorem nb_dims_per : (("dims" : Str) == ("per" : Str)) = false := by decide +kernel
@[simp] theorem ne_dims_per : (("dims" : Str) = ("per" : Str)) = False := eq_false (by decide +kernel)
@[simp] theorem nb_speed_dims : (("speed" : Str) == ("dims" : Str)) = false := by decide +kernel
@[simp] theorem ne_speed_dims : (("speed" : Str) = ("dims" : Str)) = False := eq_false (by decide +kernel)
@[simp] theorem nb_speed_drift : (("speed" : Str) == ("drift" : Str)) = false := by decide +kernel
@[simp] theorem ne_speed_drift : (("speed" : Str) = ("drift" : Str)) = False := eq_false (by decide +kernel)
@[simp] theorem nb_speed_per : (("speed" : Str) == ("per" : Str)) = false := by decide +kernel
@[simp] theorem ne_speed_per : (("speed" : Str) = ("per" : Str)) = False := eq_false (by decide +kernel)
@[simp] theorem nb_drift_dims : (("drift" : Str) == ("dims" : Str)) = false := by decide +kernel
@[simp] theorem ne_drift_dims : (("drift" : Str) = ("dims" : Str)) = False := eq_false (by decide +kernel)
@[simp] theorem nb_drift_speed : (("drift" : Str) == ("speed" : Str)) = false := by decide +kernel
@[simp] theorem ne_drift_speed : (("drift" : Str) = ("speed" : Str)) = False := eq_false (by decide +kernel)
@[simp] theorem nb_drift_per : (("drift" : Str) == ("per" : Str)) = false := by decide +kernel
@[simp] theorem ne_drift_per : (("drift" : Str) = ("per" : Str)) = False := eq_false (by decide +kernel)
@[simp] theorem nb_per_dims : (("per" : Str) == ("dims" : Str)) = false := by decide +kernel
@[simp] theorem ne_per_dims : (("per" : Str) = ("dims" : Str)) = False := eq_false (by decide +kernel)
@[simp] theorem nb_per_speed : (("per" : Str) == ("speed" : Str)) = false := by decide +kernel
@[simp] theorem ne_per_speed : (("per" : Str) = ("speed" : Str)) = False := eq_false (by decide +kernel)
@[simp] theorem nb_per_drift : (("per" : Str) == ("drift" : Str)) = false := by decide +kernel
@[simp] theorem ne_per_drift : (("per" : Str) = ("drift" : Str)) = False := eq_false (by decide +kernel)
@[simp] theorem nb_source_moment : (("source" : Str) == ("moment" : Str)) = false := by decide +kernel
@[simp] theorem ne_source_moment : (("source" : Str) = ("moment" : Str)) = False := eq_false (by decide +kernel)
@[simp] theorem nb_source_kind : (("source" : Str) == ("kind" : Str)) = false := by decide +kernel
@[simp] theorem ne_source_kind : (("source" : Str) = ("kind" : Str)) = False := eq_false (by decide +kernel)
@[simp] theorem nb_source_low : (("source" : Str) == ("low" : Str)) = false := by decide +kernel
@[simp] theorem ne_source_low : (("source" : Str) = ("low" : Str)) = False := eq_false (by decide +kernel)
@[simp] theorem nb_source_high : (("source" : Str) == ("high" : Str)) = false := by decide +kernel
@[simp] theorem ne_source_high : (("source" : Str) = ("high" : Str)) = False := eq_false (by decide +kernel)
@[simp] theorem nb_source_late : (("source" : Str) == ("late" : Str)) = false := by decide +kernel
@[simp] theorem ne_source_late : (("source" : Str) = ("late" : Str)) = False := eq_false (by decide +kernel)
@[simp] theorem nb_source_near : (("source" : Str) == ("near" : Str)) = false := by decide +kernel
@[simp] theorem ne_source_near : (("source" : Str) = ("near" : Str)) = False := eq_false (by decide +kernel)
@[simp] theorem nb_moment_source : (("moment" : Str) == ("source" : Str)) = false := by decide +kernel
@[simp] theorem ne_moment_source : (("moment" : Str) = ("source" : Str)) = False := eq_false (by decide +kernel)
@[simp] theorem nb_moment_kind : (("moment" : Str) == ("kind" : Str)) = false := by decide +kernel
@[simp] theorem ne_moment_kind : (("moment" : Str) = ("kind" : Str)) = False := eq_false (by decide +kernel)
@[simp] theorem nb_moment_low : (("moment" : Str) == ("low" : Str)) = false := by decide +kernel
@[simp] theorem ne_moment_low : (("moment" : Str) = ("low" : Str)) = False := eq_false (by decide +kernel)
@[simp] theorem nb_moment_high : (("moment" : Str) == ("high" : Str)) = false := by decide +kernel
@[simp] theorem ne_moment_high : (("moment" : Str) = ("high" : Str)) = False := eq_false (by decide +kernel)
@[simp] theorem nb_moment_late : (("moment" : Str) == ("late" : Str)) = false := by decide +kernel
@[simp] theorem ne_moment_late : (("moment" : Str) = ("late" : Str)) = False := eq_false (by decide +kernel)
@[simp] theorem nb_moment_near : (("moment" : Str) == ("near" : Str)) = false := by decide +kernel
@[simp] theorem ne_moment_near : (("moment" : Str) = ("near" : Str)) = False := eq_false (by decide +kernel)
@[simp] theorem nb_kind_source : (("kind" : Str) == ("source" : Str)) = false := by decide +kernel
@[simp] theorem ne_kind_source : (("kind" : Str) = ("source" : Str)) = False := eq_false (by decide +kernel)
@[simp] theorem nb_kind_moment : (("kind" : Str) == ("moment" : Str)) = false := by decide +kernel
@[simp] theorem ne_kind_moment : (("kind" : Str) = ("moment" : Str)) = False := eq_false (by decide +kernel)
@[simp] theorem nb_kind_low : (("kind" : Str) == ("low" : Str)) = false := by decide +kernel
@[simp] theorem ne_kind_low : (("kind" : Str) = ("low" : Str)) = False := eq_false (by decide +kernel)
@[simp] theorem nb_kind_high : (("kind" : Str) == ("high" : Str)) = false := by decide +kernel
@[simp] theorem ne_kind_high : (("kind" : Str) = ("high" : Str)) = False := eq_false (by decide +kernel)
@[simp] theorem nb_kind_late : (("kind" : Str) == ("late" : Str)) = false := by decide +kernel
@[simp] theorem ne_kind_late : (("kind" : Str) = ("late" : Str)) = False := eq_false (by decide +kernel)
@[simp] theorem nb_kind_near : (("kind" : Str) == ("near" : Str)) = false := by decide +kernel
@[simp] theorem ne_kind_near : (("kind" : Str) = ("near" : Str)) = False := eq_false (by decide +kernel)
@[simp] theorem nb_low_source : (("low" : Str) == ("source" : Str)) = false := by decide +kernel
@[simp] theorem ne_low_source : (("low" : Str) = ("source" : Str)) = False := eq_false (by decide +kernel)
@[simp] theorem nb_low_moment : (("low" : Str) == ("moment" : Str)) = false := by decide +kernel
@[simp] theorem ne_low_moment : (("low" : Str) = ("moment" : Str)) = False := eq_false (by decide +kernel)
@[simp] theorem nb_low_kind : (("low" : Str) == ("kind" : Str)) = false := by decide +kernel
@[simp] theorem ne_low_kind : (("low" : Str) = ("kind" : Str)) = False := eq_false (by decide +kernel)
@[simp] theorem nb_low_high : (("low" : Str) == ("high" : Str)) = false := by decide +kernel
@[simp] theorem ne_low_high : (("low" : Str) = ("high" : Str)) = False := eq_false (by decide +kernel)
@[simp] theorem nb_low_late : (("low" : Str) == ("late" : Str)) = false := by decide +kernel
@[simp] theorem ne_low_late : (("low" : Str) = ("late" : Str)) = False := eq_false (by decide +kernel)
@[simp] theorem nb_low_near : (("low" : Str) == ("near" : Str)) = false := by decide +kernel
@[simp] theorem ne_low_near : (("low" : Str) = ("near" : Str)) = False := eq_false (by decide +kernel)
@[simp] theorem nb_high_source : (("high" : Str) == ("source" : Str)) = false := by decide +kernel
@[simp] theorem ne_high_source : (("high" : Str) = ("source" : Str)) = False := eq_false (by decide +kernel)
@[simp] theorem nb_high_moment : (("high" : Str) == ("moment" : Str)) = false := by decide +kernel
@[simp] theorem ne_high_moment : (("high" : Str) = ("moment" : Str)) = False := eq_false (by decide +kernel)
@[simp] theorem nb_high_kind : (("high" : Str) == ("kind" : Str)) = false := by decide +kernel
@[simp] theorem ne_high_kind : (("high" : Str) = ("kind" : Str)) = False := eq_false (by decide +kernel)
@[simp] theorem nb_high_low : (("high" : Str) == ("low" : Str)) = false := by decide +kernel
@[simp] theorem ne_high_low : (("high" : Str) = ("low" : Str)) = False := eq_false (by decide +kernel)
@[simp] theorem nb_high_late : (("high" : Str) == ("late" : Str)) = false := by decide +kernel
@[simp] theorem ne_high_late : (("high" : Str) = ("late" : Str)) = False := eq_false (by decide +kernel)
@[simp] theorem nb_high_near : (("high" : Str) == ("near" : Str)) = false := by decide +kernel
@[simp] theorem ne_high_near : (("high" : Str) = ("near" : Str)) = False := eq_false (by decide +kernel)
@[simp] theorem nb_late_source : (("late" : Str) == ("source" : Str)) = false := by decide +kernel
@[simp] theorem ne_late_source : (("late" : Str) = ("source" : Str)) = False := eq_false (by decide +kernel)
@[simp] theorem nb_late_moment : (("late" : Str) == ("moment" : Str)) = false := by decide +kernel
@[simp] theorem ne_late_moment : (("late" : Str) = ("moment" : Str)) = False := eq_false (by decide +kernel)
@[simp] theorem nb_late_kind : (("late" : Str) == ("kind" : Str)) = false := by decide +kernel
@[simp] theorem ne_late_kind : (("late" : Str) = ("kind" : Str)) = False := eq_false (by decide +kernel)
@[simp] theorem nb_late_low : (("late" : Str) == ("low" : Str)) = false := by decide +kernel
@[simp] theorem ne_late_low : (("late" : Str) = ("low" : Str)) = False := eq_false (by decide +kernel)
@[simp] theorem nb_late_high : (("late" : Str) == ("high" : Str)) = false := by decide +kernel
@[simp] theorem ne_late_high : (("late" : Str) = ("high" : Str)) = False := eq_false (by decide +kernel)
@[simp] theorem nb_late_near : (("late" : Str) == ("near" : Str)) = false := by decide +kernel
@[simp] theorem ne_late_near : (("late" : Str) = ("near" : Str)) = False := eq_false (by decide +kernel)
@[simp] theorem nb_near_source : (("near" : Str) == ("source" : Str)) = false := by decide +kernel
@[simp] theorem ne_near_source : (("near" : Str) = ("source" : Str)) = False := eq_false (by decide +kernel)
@[simp] theorem nb_near_moment : (("near" : Str) == ("moment" : Str)) = false := by decide +kernel
@[simp] theorem ne_near_moment : (("near" : Str) = ("moment" : Str)) = False := eq_false (by decide +kernel)
@[simp] theorem nb_near_kind : (("near" : Str) == ("kind" : Str)) = false := by decide +kernel
@[simp] theorem ne_near_kind : (("near" : Str) = ("kind" : Str)) = False := eq_false (by decide +kernel)
@[simp] theorem nb_near_low : (("near" : Str) == ("low" : Str)) = false := by decide +kernel
@[simp] theorem ne_near_low : (("near" : Str) = ("low" : Str)) = False := eq_false (by decide +kernel)
@[simp] theorem nb_near_high : (("near" : Str) == ("high" : Str)) = false := by decide +kernel
@[simp] theorem ne_near_high : (("near" : Str) = ("high" : Str)) = False := eq_false (by decide +kernel)
@[simp] theorem nb_near_late : (("near" : Str) == ("late" : Str)) = false := by decide +kernel
@[simp] theorem ne_near_late : (("near" : Str) = ("late" : Str)) = False := eq_false (by decide +kernel)
@[simp] theorem nb_moment_root : (("moment" : Str) == ("root" : Str)) = false := by decide +kernel
@[simp] theorem ne_moment_root : (("moment" : Str) = ("root" : Str)) = False := eq_false (by decide +kernel)
@[simp] theorem nb_moment_liars : (("moment" : Str) == ("liars" : Str)) = false := by decide +kernel
@[simp] theorem ne_moment_liars : (("moment" : Str) = ("liars" : Str)) = False := eq_false (by decide +kernel)
@[simp] theorem nb_moment_share : (("moment" : Str) == ("share" : Str)) = false := by decide +kernel
@[simp] theorem ne_moment_share : (("moment" : Str) = ("share" : Str)) = False := eq_false (by decide +kernel)
@[simp] theorem nb_moment_earliest : (("moment" : Str) == ("earliest" : Str)) = false := by decide +kernel
@[simp] theorem ne_moment_earliest : (("moment" : Str) = ("earliest" : Str)) = False := eq_false (by decide +kernel)
@[simp] theorem nb_moment_latest : (("moment" : Str) == ("latest" : Str)) = false := by decide +kernel
@[simp] theorem ne_moment_latest : (("moment" : Str) = ("latest" : Str)) = False := eq_false (by decide +kernel)
@[simp] theorem nb_root_moment : (("root" : Str) == ("moment" : Str)) = false := by decide +kernel
@[simp] theorem ne_root_moment : (("root" : Str) = ("moment" : Str)) = False := eq_false (by decide +kernel)
@[simp] theorem nb_root_liars : (("root" : Str) == ("liars" : Str)) = false := by decide +kernel
@[simp] theorem ne_root_liars : (("root" : Str) = ("liars" : Str)) = False := eq_false (by decide +kernel)
@[simp] theorem nb_root_share : (("root" : Str) == ("share" : Str)) = false := by decide +kernel
@[simp] theorem ne_root_share : (("root" : Str) = ("share" : Str)) = False := eq_false (by decide +kernel)
@[simp] theorem nb_root_earliest : (("root" : Str) == ("earliest" : Str)) = false := by decide +kernel
@[simp] theorem ne_root_earliest : (("root" : Str) = ("earliest" : Str)) = False := eq_false (by decide +kernel)
@[simp] theorem nb_root_latest : (("root" : Str) == ("latest" : Str)) = false := by decide +kernel
@[simp] theorem ne_root_latest : (("root" : Str) = ("latest" : Str)) = False := eq_false (by decide +kernel)
@[simp] theorem nb_liars_moment : (("liars" : Str) == ("moment" : Str)) = false := by decide +kernel
@[simp] theorem ne_liars_moment : (("liars" : Str) = ("moment" : Str)) = False := eq_false (by decide +kernel)
@[simp] theorem nb_liars_root : (("liars" : Str) == ("root" : Str)) = false := by decide +kernel
@[simp] theorem ne_liars_root : (("liars" : Str) = ("root" : Str)) = False := eq_false (by decide +kernel)
@[simp] theorem nb_liars_share : (("liars" : Str) == ("share" : Str)) = false := by decide +kernel
@[simp] theorem ne_liars_share : (("liars" : Str) = ("share" : Str)) = False := eq_false (by decide +kernel)
@[simp] theorem nb_liars_earliest : (("liars" : Str) == ("earliest" : Str)) = false := by decide +kernel
@[simp] theorem ne_liars_earliest : (("liars" : Str) = ("earliest" : Str)) = False := eq_false (by decide +kernel)
@[simp] theorem nb_liars_latest : (("liars" : Str) == ("latest" : Str)) = false := by decide +kernel
@[simp] theorem ne_liars_latest : (("liars" : Str) = ("latest" : Str)) = False := eq_false (by decide +kernel)
@[simp] theorem nb_share_moment : (("share" : Str) == ("moment" : Str)) = false := by decide +kernel
@[simp] theorem ne_share_moment : (("share" : Str) = ("moment" : Str)) = False := eq_false (by decide +kernel)
@[simp] theorem nb_share_root : (("share" : Str) == ("root" : Str)) = false := by decide +kernel
@[simp] theorem ne_share_root : (("share" : Str) = ("root" : Str)) = False := eq_false (by decide +kernel)
@[simp] theorem nb_share_liars : (("share" : Str) == ("liars" : Str)) = false := by decide +kernel
@[simp] theorem ne_share_liars : (("share" : Str) = ("liars" : Str)) = False := eq_false (by decide +kernel)
@[simp] theorem nb_share_earliest : (("share" : Str) == ("earliest" : Str)) = false := by decide +kernel
@[simp] theorem ne_share_earliest : (("share" : Str) = ("earliest" : Str)) = False := eq_false (by decide +kernel)
@[simp] theorem nb_share_latest : (("share" : Str) == ("latest" : Str)) = false := by decide +kernel
@[simp] theorem ne_share_latest : (("share" : Str) = ("latest" : Str)) = False := eq_false (by decide +kernel)
@[simp] theorem nb_earliest_moment : (("earliest" : Str) == ("moment" : Str)) = false := by decide +kernel
@[simp] theorem ne_earliest_moment : (("earliest" : Str) = ("moment" : Str)) = False := eq_false (by decide +kernel)
@[simp] theorem nb_earliest_root : (("earliest" : Str) == ("root" : Str)) = false := by decide +kernel
@[simp] theorem ne_earliest_root : (("earliest" : Str) = ("root" : Str)) = False := eq_false (by decide +kernel)
@[simp] theorem nb_earliest_liars : (("earliest" : Str) == ("liars" : Str)) = false := by decide +kernel
@[simp] theorem ne_earliest_liars : (("earliest" : Str) = ("liars" : Str)) = False := eq_false (by decide +kernel)
@[simp] theorem nb_earliest_share : (("earliest" : Str) == ("share" : Str)) = false := by decide +kernel
@[simp] theorem ne_earliest_share : (("earliest" : Str) = ("share" : Str)) = False := eq_false (by decide +kernel)
@[simp] theorem nb_earliest_latest : (("earliest" : Str) == ("latest" : Str)) = false := by decide +kernel
@[simp] theorem ne_earliest_latest : (("earliest" : Str) = ("latest" : Str)) = False := eq_false (by decide +kernel)
@[simp] theorem nb_latest_moment : (("latest" : Str) == ("moment" : Str)) = false := by decide +kernel
@[simp] theorem ne_latest_moment : (("latest" : Str) = ("moment" : Str)) = False := eq_false (by decide +kernel)
@[simp] theorem nb_latest_root : (("latest" : Str) == ("root" : Str)) = false := by decide +kernel
@[simp] theorem ne_latest_root : (("latest" : Str) = ("root" : Str)) = False := eq_false (by decide +kernel)
@[simp] theorem nb_latest_liars : (("latest" : Str) == ("liars" : Str)) = false := by decide +kernel
@[simp] theorem ne_latest_liars : (("latest" : Str) = ("liars" : Str)) = False := eq_false (by decide +kernel)
@[simp] theorem nb_latest_share : (("latest" : Str) == ("share" : Str)) = false := by decide +kernel
@[simp] theorem ne_latest_share : (("latest" : Str) = ("share" : Str)) = False := eq_false (by decide +kernel)
@[simp] theorem nb_latest_earliest : (("latest" : Str) == ("earliest" : Str)) = false := by decide +kernel
@[simp] theorem ne_latest_earliest : (("latest" : Str) = ("earliest" : Str)) = False := eq_false (by decide +kernel)
@[simp] theorem nb_moment_cover : (("moment" : Str) == ("cover" : Str)) = false := by decide +kernel
@[simp] theorem ne_moment_cover : (("moment" : Str) = ("cover" : Str)) = False := eq_false (by decide +kernel)
@[simp] theorem nb_moment_used : (("moment" : Str) == ("used" : Str)) = false := by decide +kernel
@[simp] theorem ne_moment_used : (("moment" : Str) = ("used" : Str)) = False := eq_false (by decide +kernel)
@[simp] theorem nb_cover_moment : (("cover" : Str) == ("moment" : Str)) = false := by decide +kernel
@[simp] theorem ne_cover_moment : (("cover" : Str) = ("moment" : Str)) = False := eq_false (by decide +kernel)
@[simp] theorem nb_cover_used : (("cover" : Str) == ("used" : Str)) = false := by decide +kernel
@[simp] theorem ne_cover_used : (("cover" : Str) = ("used" : Str)) = False := eq_false (by decide +kernel)
@[simp] theorem nb_used_moment : (("used" : Str) == ("moment" : Str)) = false := by decide +kernel
@[simp] theorem ne_used_moment : (("used" : Str) = ("moment" : Str)) = False := eq_false (by decide +kernel)
@[simp] theorem nb_used_cover : (("used" : Str) == ("cover" : Str)) = false := by decide +kernel
@[simp] theorem ne_used_cover : (("used" : Str) = ("cover" : Str)) = False := eq_false (by decide +kernel)
@[simp] theorem nb_setting_table : (("setting" : Str) == ("table" : Str)) = false := by decide +kernel
@[simp] theorem ne_setting_table : (("setting" : Str) = ("table" : Str)) = False := eq_false (by decide +kernel)
@[simp] theorem nb_setting_held : (("setting" : Str) == ("held" : Str)) = false := by decide +kernel
@[simp] theorem ne_setting_held : (("setting" : Str) = ("held" : Str)) = False := eq_false (by decide +kernel)
@[simp] theorem nb_setting_keep : (("setting" : Str) == ("keep" : Str)) = false := by decide +kernel
@[simp] theorem ne_setting_keep : (("setting" : Str) = ("keep" : Str)) = False := eq_false (by decide +kernel)
@[simp] theorem nb_setting_moment : (("setting" : Str) == ("moment" : Str)) = false := by decide +kernel
@[simp] theorem ne_setting_moment : (("setting" : Str) = ("moment" : Str)) = False := eq_false (by decide +kernel)
@[simp] theorem nb_table_setting : (("table" : Str) == ("setting" : Str)) = false := by decide +kernel
@[simp] theorem ne_table_setting : (("table" : Str) = ("setting" : Str)) = False := eq_false (by decide +kernel)
@[simp] theorem nb_table_held : (("table" : Str) == ("held" : Str)) = false := by decide +kernel
@[simp] theorem ne_table_held : (("table" : Str) = ("held" : Str)) = False := eq_false (by decide +kernel)
@[simp] theorem nb_table_keep : (("table" : Str) == ("keep" : Str)) = false := by decide +kernel
@[simp] theorem ne_table_keep : (("table" : Str) = ("keep" : Str)) = False := eq_false (by decide +kernel)
@[simp] theorem nb_table_moment : (("table" : Str) == ("moment" : Str)) = false := by decide +kernel
@[simp] theorem ne_table_moment : (("table" : Str) = ("moment" : Str)) = False := eq_false (by decide +kernel)
@[simp] theorem nb_held_setting : (("held" : Str) == ("setting" : Str)) = false := by decide +kernel
@[simp] theorem ne_held_setting : (("held" : Str) = ("setting" : Str)) = False := eq_false (by decide +kernel)
@[simp] theorem nb_held_table : (("held" : Str) == ("table" : Str)) = false := by decide +kernel
@[simp] theorem ne_held_table : (("held" : Str) = ("table" : Str)) = False := eq_false (by decide +kernel)
@[simp] theorem nb_held_keep : (("held" : Str) == ("keep" : Str)) = false := by decide +kernel
@[simp] theorem ne_held_keep : (("held" : Str) = ("keep" : Str)) = False := eq_false (by decide +kernel)
@[simp] theorem nb_held_moment : (("held" : Str) == ("moment" : Str)) = false := by decide +kernel
@[simp] theorem ne_held_moment : (("held" : Str) = ("moment" : Str)) = False := eq_false (by decide +kernel)
@[simp] theorem nb_keep_setting : (("keep" : Str) == ("setting" : Str)) = false := by decide +kernel
@[simp] theorem ne_keep_setting : (("keep" : Str) = ("setting" : Str)) = False := eq_false (by decide +kernel)
@[simp] theorem nb_keep_table : (("keep" : Str) == ("table" : Str)) = false := by decide +kernel
@[simp] theorem ne_keep_table : (("keep" : Str) = ("table" : Str)) = False := eq_false (by decide +kernel)
@[simp] theorem nb_keep_held : (("keep" : Str) == ("held" : Str)) = false := by decide +kernel
@[simp] theorem ne_keep_held : (("keep" : Str) = ("held" : Str)) = False := eq_false (by decide +kernel)
@[simp] theorem nb_keep_moment : (("keep" : Str) == ("moment" : Str)) = false := by decide +kernel
@[simp] theorem ne_keep_moment : (("keep" : Str) = ("moment" : Str)) = False := eq_false (by decide +kernel)
@[simp] theorem nb_moment_setting : (("moment" : Str) == ("setting" : Str)) = false := by decide +kernel
@[simp] theorem ne_moment_setting : (("moment" : Str) = ("setting" : Str)) = False := eq_false (by decide +kernel)
@[simp] theorem nb_moment_table : (("moment" : Str) == ("table" : Str)) = false := by decide +kernel
@[simp] theorem ne_moment_table : (("moment" : Str) = ("table" : Str)) = False := eq_false (by decide +kernel)
@[simp] theorem nb_moment_held : (("moment" : Str) == ("held" : Str)) = false := by decide +kernel
@[simp] theorem ne_moment_held : (("moment" : Str) = ("held" : Str)) = False := eq_false (by decide +kernel)
@[simp] theorem nb_moment_keep : (("moment" : Str) == ("keep" : Str)) = false := by decide +kernel
@[simp] theorem ne_moment_keep : (("moment" : Str) = ("keep" : Str)) = False := eq_false (by decide +kernel)
@[simp] theorem nb_liars_points : (("liars" : Str) == ("points" : Str)) = false := by decide +kernel
@[simp] theorem ne_liars_points : (("liars" : Str) = ("points" : Str)) = False := eq_false (by decide +kernel)
@[simp] theorem nb_points_liars : (("points" : Str) == ("liars" : Str)) = false := by decide +kernel
@[simp] theorem ne_points_liars : (("points" : Str) = ("liars" : Str)) = False := eq_false (by decide +kernel)
noncomputable def F_root_down : FA := fnP 1 (sRet (mCall bIsqrt (aCons (mVar 0) aNil)))
noncomputable def F_root_up : FA := fnP 2 (sSeq (sAsg (mCall bIsqrt (aCons (mVar 0) aNil)) (gNm 1))
  (sSeq (sIf (mB (mBin fLt (mBin fMul (mVar 1) (mVar 1)) (mVar 0))) (sRet (mBin fAdd (mVar 1) (mCst (.int 1)))) sNil)
  (sRet (mVar 1))))
noncomputable def F__law_number : FA := fnP 5 (sSeq (sAsg (mBin fAdd (mBin fMul (mCst (.int 104729)) (mVar 1)) (mCst (.int 7919))) (gNm 2))
  (sSeq (sIf (mB (mBin fLt (mVar 1) (mCall bLen (aCons (mVar 0) aNil)))) (sAsg (mCall bInt (aCons (mBin fIx (mVar 0) (mVar 1)) aNil)) (gNm 2)) sNil)
  (sSeq (sIf (mB (mBin fLt (mVar 2) (mCst (.int 0)))) (sAsg (mBin fSub (mCst (.int 1)) (mBin fMul (mCst (.int 2)) (mVar 2))) (gNm 2)) sNil)
  (sSeq (sIf (mB (mBin fLt (mVar 2) (mCst (.int 1000000000)))) (sSeq (sAsg (mBin fMod (mCall bInt (aCons (mBin fAdd (mBin fAdd (mBin fMul (mVar 2) (mCst (.int 48271))) (mBin fMul (mVar 1) (mCst (.int 69621)))) (mCst (.int 7))) aNil)) (mCst (.int 2147483647))) (gNm 3))
  (sSeq (sAsg (mBin fMod (mCall bInt (aCons (mBin fAdd (mBin fAdd (mBin fMul (mVar 3) (mCst (.int 16807))) (mBin fMul (mVar 1) (mCst (.int 40692)))) (mCst (.int 13))) aNil)) (mCst (.int 2147483563))) (gNm 4))
  (sAsg (mBin fAdd (mBin fMul (mVar 3) (mCst (.int 2147483563))) (mVar 4)) (gNm 2)))) sNil)
  (sRet (mVar 2))))))
noncomputable def F__law_integer : FA := fnP 1 (sRet (mAnd (mIsi "int" (mVar 0)) (mNot (mIsi "bool" (mVar 0)))))
noncomputable abbrev C_middle_1 (live : Bool) : M D := mLc live (iAny (mVar 0)) [1, 2] (gTp 2 (gsCons (gNm 1) (gsCons (gNm 2) gsNil))) cYes (mBin fDiv (mBin fAdd (mVar 1) (mVar 2)) (mCst (.int 2)))
noncomputable def F_middle : FA := fnP 3 (sRet (mCall bTuple (aCons (C_middle_1 false) aNil)))
noncomputable def F_half_side : FA := fnP 3 (sSeq (sAsg (mVar 0) (gTp 2 (gsCons (gNm 1) (gsCons (gNm 2) gsNil))))
  (sRet (mBin fDiv (mBin fAdd (mBin fSub (mVar 2) (mVar 1)) (mCst (.int 1))) (mCst (.int 2)))))
noncomputable def F__law_near : FA := fnP 3 (sSeq (sAsg (mBin fMod (mCall bInt (aCons (mVar 0) aNil)) (mCst (.int 9))) (gNm 1))
  (sSeq (sAsg (mBin fDiv (mVar 0) (mCst (.int 9))) (gNm 2))
  (sSeq (sIf (mB (mBin fEq (mVar 1) (mCst (.int 0)))) (sRet (mBin fSub (mBin fMod (mCall bInt (aCons (mVar 2) aNil)) (mCst (.int 2000000000001))) (mCst (.int 1000000000000)))) sNil)
  (sSeq (sIf (mB (mBin fLt (mVar 1) (mCst (.int 3)))) (sRet (mBin fSub (mBin fMod (mCall bInt (aCons (mVar 2) aNil)) (mCst (.int 2001))) (mCst (.int 1000)))) sNil)
  (sRet (mBin fSub (mBin fMod (mCall bInt (aCons (mVar 2) aNil)) (mCst (.int 41))) (mCst (.int 20))))))))
noncomputable def F__law_length : FA := fnP 3 (sSeq (sAsg (mBin fMod (mCall bInt (aCons (mVar 0) aNil)) (mCst (.int 7))) (gNm 1))
  (sSeq (sAsg (mBin fDiv (mVar 0) (mCst (.int 7))) (gNm 2))
  (sSeq (sIf (mB (mBin fEq (mVar 1) (mCst (.int 0)))) (sRet (mCst (.int 0))) sNil)
  (sSeq (sIf (mB (mBin fEq (mVar 1) (mCst (.int 1)))) (sRet (mBin fMod (mCall bInt (aCons (mVar 2) aNil)) (mCst (.int 1000000000)))) sNil)
  (sRet (mBin fMod (mCall bInt (aCons (mVar 2) aNil)) (mCst (.int 13))))))))
noncomputable abbrev B__law_box_1 : SM := (sSeq (sAsg (mFn 1 F__law_near (aCons (mFn 2 F__law_number (aCons (mVar 0) (aCons (mBin fAdd (mVar 1) (mBin fMul (mCst (.int 2)) (mVar 4))) aNil))) aNil)) (gNm 5))
  (sExp (mBm tyL lAppend (mVar 3) (aCons (mTup (aCons (mVar 5) (aCons (mBin fAdd (mVar 5) (mFn 1 F__law_length (aCons (mFn 2 F__law_number (aCons (mVar 0) (aCons (mBin fAdd (mBin fAdd (mVar 1) (mBin fMul (mCst (.int 2)) (mVar 4))) (mCst (.int 1))) aNil))) aNil))) aNil))) aNil))))
noncomputable def F__law_box : FA := fnP 6 (sSeq (sAsg (mLst true aNil) (gNm 3))
  (sSeq (sFor (iRange1 (aCons (mVar 2) aNil)) (gNm 4) B__law_box_1)
  (sRet (mCall bTuple (aCons (mVar 3) aNil)))))
noncomputable abbrev C_radius_1 (live : Bool) : M D := mLc live (iAny (mSl (mVar 0) pNo (pYes (mNeg (mCst (.int 1)))))) [1] (gNm 1) cYes (mBin fPow (mFn 1 F_half_side (aCons (mVar 1) aNil)) (mCst (.int 2)))
noncomputable def F_radius : FA := fnP 2 (sRet (mFn 1 F_root_up (aCons (mCall bSum (aCons (C_radius_1 false) aNil)) aNil)))
noncomputable abbrev C_inside_1 (live : Bool) : M D := mLc live (iZip2 (aCons (mVar 0) (aCons (mVar 1) aNil))) [2, 3, 4, 5] (gTp 2 (gsCons (gTp 2 (gsCons (gNm 2) (gsCons (gNm 3) gsNil))) (gsCons (gTp 2 (gsCons (gNm 4) (gsCons (gNm 5) gsNil))) gsNil))) cYes (mAnd (mBin fLe (mVar 4) (mVar 2)) (mBin fLe (mVar 3) (mVar 5)))
noncomputable def F_inside : FA := fnP 6 (sRet (mCall bAll (aCons (C_inside_1 false) aNil)))
noncomputable def F__law_truth : FA := fnP 2 (sRet (mAnd (mIsi "bool" (mVar 0)) (mBin fEq (mVar 0) (mVar 1))))
noncomputable def F_cut : FA := fnP 7 (sSeq (sIf (tmNot (mB (mCh2 fLe fLt (mCst (.int 0)) (mVar 1) (mCall bLen (aCons (mVar 0) aNil))))) (sRet (mCst .non)) sNil)
  (sSeq (sAsg (mBin fIx (mVar 0) (mVar 1)) (gTp 2 (gsCons (gNm 3) (gsCons (gNm 4) gsNil))))
  (sSeq (sIf (tmNot (mB (mCh2 fLt fLt (mVar 3) (mVar 2) (mVar 4)))) (sRet (mCst .non)) sNil)
  (sSeq (sAsg (mBin fAdd (mBin fAdd (mSl (mVar 0) pNo (pYes (mVar 1))) (mTup (aCons (mTup (aCons (mVar 3) (aCons (mVar 2) aNil))) aNil))) (mSl (mVar 0) (pYes (mBin fAdd (mVar 1) (mCst (.int 1)))) pNo)) (gNm 5))
  (sSeq (sAsg (mBin fAdd (mBin fAdd (mSl (mVar 0) pNo (pYes (mVar 1))) (mTup (aCons (mTup (aCons (mVar 2) (aCons (mVar 4) aNil))) aNil))) (mSl (mVar 0) (pYes (mBin fAdd (mVar 1) (mCst (.int 1)))) pNo)) (gNm 6))
  (sRet (mTup (aCons (mVar 5) (aCons (mVar 6) aNil)))))))))
noncomputable abbrev B__law_is_box_1 : SM := (sSeq (sIf (tmOr (tmNot (mTru (mIsi "tuple" (mVar 2)))) (mB (mBin fNe (mCall bLen (aCons (mVar 2) aNil)) (mCst (.int 2))))) (sRet (mCst (.bl false))) sNil)
  (sIf (tmOr (tmNot (mTru (mFn 1 F__law_integer (aCons (mBin fIx (mVar 2) (mCst (.int 0))) aNil)))) (tmNot (mTru (mFn 1 F__law_integer (aCons (mBin fIx (mVar 2) (mCst (.int 1))) aNil))))) (sRet (mCst (.bl false))) sNil))
noncomputable def F__law_is_box : FA := fnP 3 (sSeq (sIf (tmOr (tmNot (mTru (mIsi "tuple" (mVar 0)))) (mB (mBin fNe (mCall bLen (aCons (mVar 0) aNil)) (mCall bLen (aCons (mVar 1) aNil))))) (sRet (mCst (.bl false))) sNil)
  (sSeq (sFor (iAny (mVar 0)) (gNm 2) B__law_is_box_1)
  (sRet (mBin fEq (mVar 0) (mVar 1)))))
noncomputable abbrev C_widest_1 (live : Bool) : M D := mLc live (iAny (mVar 0)) [2, 3] (gTp 2 (gsCons (gNm 2) (gsCons (gNm 3) gsNil))) cYes (mBin fSub (mVar 3) (mVar 2))
noncomputable def F_widest : FA := fnP 4 (sSeq (sAsg (C_widest_1 false) (gNm 1))
  (sRet (mBm tyLs lIndex (mVar 1) (aCons (mCall bMax (aCons (mVar 1) aNil)) aNil))))
noncomputable def F_halves : FA := fnP 4 (sSeq (sAsg (mFn 1 F_widest (aCons (mVar 0) aNil)) (gNm 1))
  (sSeq (sAsg (mBin fIx (mVar 0) (mVar 1)) (gTp 2 (gsCons (gNm 2) (gsCons (gNm 3) gsNil))))
  (sRet (mFn 3 F_cut (aCons (mVar 0) (aCons (mVar 1) (aCons (mBin fDiv (mBin fAdd (mVar 2) (mVar 3)) (mCst (.int 2))) aNil)))))))
noncomputable abbrev C_is_name_1 (live : Bool) : M D := mLc live (iAny (mVar 0)) [1] (gNm 1) cYes (mBin (fIn false) (mVar 1) (mCst (.str "abcdefghijklmnopqrstuvwxyz0123456789_-")))
noncomputable def F_is_name : FA := fnP 2 (sRet (mAnd (mCh2 fLe fLe (mCst (.int 1)) (mCall bLen (aCons (mVar 0) aNil)) (mCst (.int 64))) (mCall bAll (aCons (C_is_name_1 false) aNil))))
noncomputable abbrev C_all_within_1 (live : Bool) : M D := mLc live (iAny (mVar 0)) [3] (gNm 3) cYes (mCh2 fLe fLe (mVar 1) (mVar 3) (mVar 2))
noncomputable def F_all_within : FA := fnP 4 (sRet (mCall bAll (aCons (C_all_within_1 false) aNil)))
noncomputable def F_Setting__init__ : FA := fnR 5 (sSeq (sIf (tmNot (mB (mCh2 fLe fLe (mCst (.int 2)) (mVar 1) (mCst (.int 3))))) sStuck sNil)
  (sSeq (sIf (tmNot (mTru (mFn 3 F_all_within (aCons (mTup (aCons (mVar 2) (aCons (mVar 3) aNil))) (aCons (mCst (.int 0)) (aCons (mCst (.int 1000000000000)) aNil)))))) sStuck sNil)
  (sSeq (sIf (tmNot (mB (mCh2 fLe fLe (mCst (.int 1)) (mVar 4) (mCst (.int 1000000000000))))) sStuck sNil)
  (sSeq (sPut "dims" (mVar 1) (mVar 0))
  (sSeq (sPut "speed" (mVar 2) (mVar 0))
  (sSeq (sPut "drift" (mVar 3) (mVar 0))
  (sPut "per" (mVar 4) (mVar 0))))))))
noncomputable def F_Setting__eq__ : FA := fnP 2 (sRet (mAnd (mIsi "Setting" (mVar 1)) (mAnd (mBin fEq (mFld "dims" (mVar 0)) (mFld "dims" (mVar 1))) (mAnd (mBin fEq (mFld "speed" (mVar 0)) (mFld "speed" (mVar 1))) (mAnd (mBin fEq (mFld "drift" (mVar 0)) (mFld "drift" (mVar 1))) (mBin fEq (mFld "per" (mVar 0)) (mFld "per" (mVar 1))))))))
noncomputable abbrev C_sides_within_1 (live : Bool) : M D := mLc live (iAny (mVar 0)) [2, 3] (gTp 2 (gsCons (gNm 2) (gsCons (gNm 3) gsNil))) cYes (mCh3 fLe fLe fLe (mNeg (mVar 1)) (mVar 2) (mVar 3) (mVar 1))
noncomputable def F_sides_within : FA := fnP 4 (sRet (mCall bAll (aCons (C_sides_within_1 false) aNil)))
noncomputable abbrev C__direction_holds_1 (live : Bool) : M D := mLc live (iAny (mVar 0)) [1] (gNm 1) cYes (mBin fNe (mVar 1) (mCst (.int 0)))
noncomputable def F__direction_holds : FA := fnP 2 (sRet (mAnd (mFn 3 F_all_within (aCons (mVar 0) (aCons (mNeg (mCst (.int 1000))) (aCons (mCst (.int 1000)) aNil)))) (mCall bAny (aCons (C__direction_holds_1 false) aNil))))
noncomputable abbrev C__boxes_hold_1 (live : Bool) : M D := mLc live (iAny (mVar 0)) [1] (gNm 1) cYes (mFn 2 F_sides_within (aCons (mVar 1) (aCons (mCst (.int 1000000000000)) aNil)))
noncomputable def F__boxes_hold : FA := fnP 2 (sRet (mAnd (mCh2 fLe fLe (mCst (.int 1)) (mCall bLen (aCons (mVar 0) aNil)) (mCst (.int 16))) (mCall bAll (aCons (C__boxes_hold_1 false) aNil))))
noncomputable abbrev C__kind_holds_1 (live : Bool) : M D := mLc live (iAny (mSl (mVar 0) (pYes (mCst (.int 1))) pNo)) [1] (gNm 1) cYes (mFn 3 F_all_within (aCons (mVar 1) (aCons (mNeg (mCst (.int 1000000000000))) (aCons (mCst (.int 1000000000000)) aNil))))
noncomputable def F__kind_holds : FA := fnP 2 (sSeq (sIf (mB (mBin (fIn false) (mBin fIx (mVar 0) (mCst (.int 0))) (mTup (aCons (mCst (.str "range")) (aCons (mCst (.str "clocked")) (aCons (mCst (.str "differ")) (aCons (mCst (.str "piece")) aNil))))))) (sRet (mCall bAll (aCons (C__kind_holds_1 false) aNil))) sNil)
  (sSeq (sIf (mB (mBin fEq (mBin fIx (mVar 0) (mCst (.int 0))) (mCst (.str "side")))) (sRet (mFn 1 F__direction_holds (aCons (mBin fIx (mVar 0) (mCst (.int 1))) aNil))) sNil)
  (sRet (mAnd (mBin fEq (mBin fIx (mVar 0) (mCst (.int 0))) (mCst (.str "boxes"))) (mFn 1 F__boxes_hold (aCons (mBin fIx (mVar 0) (mCst (.int 1))) aNil))))))
noncomputable def F_Reading__init__ : FA := fnR 8 (sSeq (sIf (tmNot (mTru (mFn 1 F_is_name (aCons (mVar 1) aNil)))) sStuck sNil)
  (sSeq (sIf (tmNot (mB (mCh2 fLe fLe (mNeg (mCst (.int 1000000000000))) (mVar 2) (mCst (.int 1000000000000))))) sStuck sNil)
  (sSeq (sIf (tmNot (mTru (mFn 1 F__kind_holds (aCons (mVar 3) aNil)))) sStuck sNil)
  (sSeq (sIf (tmNot (mB (mCh3 fLe fLe fLe (mNeg (mCst (.int 1000000000000000))) (mVar 4) (mVar 5) (mCst (.int 1000000000000000))))) sStuck sNil)
  (sSeq (sIf (tmNot (mTru (mFn 3 F_all_within (aCons (mTup (aCons (mVar 6) (aCons (mVar 7) aNil))) (aCons (mCst (.int 0)) (aCons (mCst (.int 1000000000000)) aNil)))))) sStuck sNil)
  (sSeq (sPut "source" (mVar 1) (mVar 0))
  (sSeq (sPut "moment" (mVar 2) (mVar 0))
  (sSeq (sPut "kind" (mVar 3) (mVar 0))
  (sSeq (sPut "low" (mVar 4) (mVar 0))
  (sSeq (sPut "high" (mVar 5) (mVar 0))
  (sSeq (sPut "late" (mVar 6) (mVar 0))
  (sPut "near" (mVar 7) (mVar 0)))))))))))))
noncomputable def F_Reading__eq__ : FA := fnP 2 (sRet (mAnd (mIsi "Reading" (mVar 1)) (mAnd (mBin fEq (mFld "source" (mVar 0)) (mFld "source" (mVar 1))) (mAnd (mBin fEq (mFld "moment" (mVar 0)) (mFld "moment" (mVar 1))) (mAnd (mBin fEq (mFld "kind" (mVar 0)) (mFld "kind" (mVar 1))) (mAnd (mBin fEq (mFld "low" (mVar 0)) (mFld "low" (mVar 1))) (mAnd (mBin fEq (mFld "high" (mVar 0)) (mFld "high" (mVar 1))) (mAnd (mBin fEq (mFld "late" (mVar 0)) (mFld "late" (mVar 1))) (mBin fEq (mFld "near" (mVar 0)) (mFld "near" (mVar 1)))))))))))
noncomputable abbrev C__law_point_1 (live : Bool) : M D := mLc live (iRange1 (aCons (mVar 2) aNil)) [3] (gNm 3) cYes (mFn 1 F__law_near (aCons (mFn 2 F__law_number (aCons (mVar 0) (aCons (mBin fAdd (mVar 1) (mVar 3)) aNil))) aNil))
noncomputable def F__law_point : FA := fnP 4 (sRet (mCall bTuple (aCons (C__law_point_1 false) aNil)))
noncomputable def F__law_slope : FA := fnP 2 (sSeq (sIf (mB (mBin fEq (mVar 1) (mCst (.int 0)))) (sRet (mBin fAdd (mCst (.int 1)) (mBin fMod (mCall bInt (aCons (mVar 0) aNil)) (mCst (.int 4))))) sNil)
  (sSeq (sIf (mB (mBin fEq (mBin fMod (mCall bInt (aCons (mBin fDiv (mVar 0) (mCst (.int 4))) aNil)) (mCst (.int 5))) (mCst (.int 0)))) (sRet (mBin fSub (mBin fMod (mCall bInt (aCons (mBin fDiv (mBin fDiv (mVar 0) (mCst (.int 20))) (mBin fMul (mVar 1) (mCst (.int 7)))) aNil)) (mCst (.int 2001))) (mCst (.int 1000)))) sNil)
  (sRet (mBin fSub (mBin fMod (mCall bInt (aCons (mBin fDiv (mBin fDiv (mVar 0) (mCst (.int 20))) (mBin fMul (mVar 1) (mCst (.int 7)))) aNil)) (mCst (.int 9))) (mCst (.int 4))))))
noncomputable abbrev B__law_plain_box_1 : SM := (sSeq (sAsg (mFn 2 F__law_number (aCons (mVar 0) (aCons (mBin fAdd (mVar 1) (mVar 4)) aNil))) (gNm 5))
  (sSeq (sAsg (mFn 1 F__law_near (aCons (mBin fDiv (mVar 5) (mCst (.int 14))) aNil)) (gNm 6))
  (sExp (mBm tyL lAppend (mVar 3) (aCons (mTup (aCons (mCall bMax (aCons (mBin fSub (mVar 6) (mFn 1 F__law_length (aCons (mVar 5) aNil))) (aCons (mNeg (mCst (.int 1000000000000))) aNil))) (aCons (mVar 6) aNil))) aNil)))))
noncomputable def F__law_plain_box : FA := fnP 7 (sSeq (sAsg (mLst true aNil) (gNm 3))
  (sSeq (sFor (iRange1 (aCons (mVar 2) aNil)) (gNm 4) B__law_plain_box_1)
  (sRet (mCall bTuple (aCons (mVar 3) aNil)))))
noncomputable abbrev C__law_kind_1 (live : Bool) : M D := mLc live (iRange1 (aCons (mVar 2) aNil)) [6] (gNm 6) cYes (mFn 2 F__law_slope (aCons (mVar 4) (aCons (mVar 6) aNil)))
noncomputable def F__law_kind : FA := fnP 7 (sSeq (sAsg (mBin fMod (mCall bInt (aCons (mFn 2 F__law_number (aCons (mVar 0) (aCons (mVar 1) aNil))) aNil)) (mCst (.int 6))) (gNm 3))
  (sSeq (sAsg (mBin fDiv (mFn 2 F__law_number (aCons (mVar 0) (aCons (mVar 1) aNil))) (mCst (.int 6))) (gNm 4))
  (sSeq (sIf (mB (mBin fEq (mVar 3) (mCst (.int 0)))) (sRet (mTup (aCons (mCst (.str "range")) (aCons (mFn 3 F__law_point (aCons (mVar 0) (aCons (mBin fAdd (mVar 1) (mCst (.int 1))) (aCons (mVar 2) aNil)))) aNil)))) sNil)
  (sSeq (sIf (mB (mBin fEq (mVar 3) (mCst (.int 1)))) (sRet (mTup (aCons (mCst (.str "clocked")) (aCons (mFn 3 F__law_point (aCons (mVar 0) (aCons (mBin fAdd (mVar 1) (mCst (.int 1))) (aCons (mVar 2) aNil)))) aNil)))) sNil)
  (sSeq (sIf (mB (mBin fEq (mVar 3) (mCst (.int 2)))) (sRet (mTup (aCons (mCst (.str "differ")) (aCons (mFn 3 F__law_point (aCons (mVar 0) (aCons (mBin fAdd (mVar 1) (mCst (.int 1))) (aCons (mVar 2) aNil)))) (aCons (mFn 3 F__law_point (aCons (mVar 0) (aCons (mBin fAdd (mVar 1) (mCst (.int 4))) (aCons (mVar 2) aNil)))) aNil))))) sNil)
  (sSeq (sIf (mB (mBin fEq (mVar 3) (mCst (.int 3)))) (sRet (mTup (aCons (mCst (.str "piece")) (aCons (mFn 3 F__law_point (aCons (mVar 0) (aCons (mBin fAdd (mVar 1) (mCst (.int 1))) (aCons (mVar 2) aNil)))) (aCons (mFn 3 F__law_point (aCons (mVar 0) (aCons (mBin fAdd (mVar 1) (mCst (.int 4))) (aCons (mVar 2) aNil)))) aNil))))) sNil)
  (sSeq (sIf (mB (mBin fEq (mVar 3) (mCst (.int 4)))) (sRet (mTup (aCons (mCst (.str "side")) (aCons (mCall bTuple (aCons (C__law_kind_1 false) aNil)) aNil)))) sNil)
  (sSeq (sAsg (mLst true (aCons (mFn 3 F__law_plain_box (aCons (mVar 0) (aCons (mBin fAdd (mVar 1) (mCst (.int 1))) (aCons (mVar 2) aNil)))) aNil)) (gNm 5))
  (sSeq (sIf (mB (mBin fEq (mBin fMod (mCall bInt (aCons (mVar 4) aNil)) (mCst (.int 2))) (mCst (.int 1)))) (sExp (mBm tyL lAppend (mVar 5) (aCons (mFn 3 F__law_plain_box (aCons (mVar 0) (aCons (mBin fAdd (mVar 1) (mCst (.int 4))) (aCons (mVar 2) aNil)))) aNil))) sNil)
  (sRet (mTup (aCons (mCst (.str "boxes")) (aCons (mCall bTuple (aCons (mVar 5) aNil)) aNil)))))))))))))
noncomputable def F_Question__init__ : FA := fnR 7 (sSeq (sIf (tmNot (mTru (mFn 3 F_all_within (aCons (mTup (aCons (mVar 1) (aCons (mVar 5) (aCons (mVar 6) aNil)))) (aCons (mNeg (mCst (.int 1000000000000))) (aCons (mCst (.int 1000000000000)) aNil)))))) sStuck sNil)
  (sSeq (sIf (mB (mBin fGt (mVar 5) (mVar 6))) sStuck sNil)
  (sSeq (sIf (tmNot (mTru (mFn 2 F_sides_within (aCons (mVar 2) (aCons (mCst (.int 1000000000000)) aNil))))) sStuck sNil)
  (sSeq (sIf (tmNot (mB (mCh2 fLe fLe (mCst (.int 0)) (mVar 3) (mCst (.int 3))))) sStuck sNil)
  (sSeq (sIf (tmNot (mB (mCh2 fLe fLe (mCst (.int 1)) (mVar 4) (mCst (.int 1000000000000))))) sStuck sNil)
  (sSeq (sPut "moment" (mVar 1) (mVar 0))
  (sSeq (sPut "root" (mVar 2) (mVar 0))
  (sSeq (sPut "liars" (mVar 3) (mVar 0))
  (sSeq (sPut "share" (mVar 4) (mVar 0))
  (sSeq (sPut "earliest" (mVar 5) (mVar 0))
  (sPut "latest" (mVar 6) (mVar 0))))))))))))
noncomputable def F_Question__eq__ : FA := fnP 2 (sRet (mAnd (mIsi "Question" (mVar 1)) (mAnd (mBin fEq (mFld "moment" (mVar 0)) (mFld "moment" (mVar 1))) (mAnd (mBin fEq (mFld "root" (mVar 0)) (mFld "root" (mVar 1))) (mAnd (mBin fEq (mFld "liars" (mVar 0)) (mFld "liars" (mVar 1))) (mAnd (mBin fEq (mFld "share" (mVar 0)) (mFld "share" (mVar 1))) (mAnd (mBin fEq (mFld "earliest" (mVar 0)) (mFld "earliest" (mVar 1))) (mBin fEq (mFld "latest" (mVar 0)) (mFld "latest" (mVar 1))))))))))
noncomputable abbrev C_asked_1 (live : Bool) : M D := mLc live (iAny (mVar 1)) [2, 3] (gTp 2 (gsCons (gNm 2) (gsCons (gNm 3) gsNil))) (mB (mCh2 fLe fLe (mFld "earliest" (mVar 0)) (mFld "moment" (mVar 3)) (mFld "latest" (mVar 0)))) (mTup (aCons (mVar 2) (aCons (mVar 3) aNil)))
noncomputable def F_asked : FA := fnP 4 (sRet (C_asked_1 false))
noncomputable def F_gap : FA := fnP 2 (sRet (mCall bMax (aCons (mCst (.int 0)) (aCons (mBin fSub (mBin fIx (mVar 1) (mCst (.int 0))) (mBin fIx (mVar 0) (mCst (.int 1)))) (aCons (mBin fSub (mBin fIx (mVar 0) (mCst (.int 0))) (mBin fIx (mVar 1) (mCst (.int 1)))) aNil)))))
noncomputable abbrev C_nearest_1 (live : Bool) : M D := mLc live (iZip2 (aCons (mVar 0) (aCons (mVar 1) aNil))) [2, 3] (gTp 2 (gsCons (gNm 2) (gsCons (gNm 3) gsNil))) cYes (mBin fPow (mFn 2 F_gap (aCons (mTup (aCons (mVar 2) (aCons (mVar 2) aNil))) (aCons (mVar 3) aNil))) (mCst (.int 2)))
noncomputable def F_nearest : FA := fnP 4 (sRet (mCall bSum (aCons (C_nearest_1 false) aNil)))
noncomputable abbrev C_farthest_1 (live : Bool) : M D := mLc live (iZip2 (aCons (mVar 0) (aCons (mVar 1) aNil))) [2, 3, 4] (gTp 2 (gsCons (gNm 2) (gsCons (gTp 2 (gsCons (gNm 3) (gsCons (gNm 4) gsNil))) gsNil))) cYes (mBin fPow (mCall bMax (aCons (mBin fSub (mVar 2) (mVar 3)) (aCons (mBin fSub (mVar 4) (mVar 2)) aNil))) (mCst (.int 2)))
noncomputable def F_farthest : FA := fnP 5 (sRet (mCall bSum (aCons (C_farthest_1 false) aNil)))
noncomputable def F_distances : FA := fnP 2 (sRet (mTup (aCons (mFn 1 F_root_down (aCons (mFn 2 F_nearest (aCons (mVar 0) (aCons (mVar 1) aNil))) aNil)) (aCons (mFn 1 F_root_up (aCons (mFn 2 F_farthest (aCons (mVar 0) (aCons (mVar 1) aNil))) aNil)) aNil))))
noncomputable def F__law_pair : FA := fnP 1 (sSeq (sIf (tmOr (tmNot (mTru (mIsi "tuple" (mVar 0)))) (mB (mBin fNe (mCall bLen (aCons (mVar 0) aNil)) (mCst (.int 2))))) (sRet (mCst (.bl false))) sNil)
  (sRet (mAnd (mFn 1 F__law_integer (aCons (mBin fIx (mVar 0) (mCst (.int 0))) aNil)) (mFn 1 F__law_integer (aCons (mBin fIx (mVar 0) (mCst (.int 1))) aNil)))))
noncomputable abbrev B__law_root_1 : SM := (sSeq (sAsg (mBin fAdd (mVar 1) (mBin fShl (mCst (.int 1)) (mVar 2))) (gNm 3))
  (sIf (mB (mBin fLe (mBin fMul (mVar 3) (mVar 3)) (mVar 0))) (sAsg (mVar 3) (gNm 1)) sNil))
noncomputable def F__law_root : FA := fnP 4 (sSeq (sAsg (mCst (.int 0)) (gNm 1))
  (sSeq (sFor (iRange3 (aCons (mBin fAdd (mBin fDiv (mBits (mVar 0)) (mCst (.int 2))) (mCst (.int 1))) (aCons (mNeg (mCst (.int 1))) (aCons (mNeg (mCst (.int 1))) aNil)))) (gNm 2) B__law_root_1)
  (sRet (mVar 1))))
noncomputable def F__law_root_up : FA := fnP 2 (sSeq (sAsg (mFn 1 F__law_root (aCons (mVar 0) aNil)) (gNm 1))
  (sSeq (sIf (mB (mBin fLt (mBin fMul (mVar 1) (mVar 1)) (mVar 0))) (sRet (mBin fAdd (mVar 1) (mCst (.int 1)))) sNil)
  (sRet (mVar 1))))
noncomputable abbrev B__law_corners_1 : SM := (sSeq (sExp (mBm tyL lAppend (mVar 3) (aCons (mBin fAdd (mVar 4) (mLst false (aCons (mBin fIx (mVar 2) (mCst (.int 0))) aNil))) aNil)))
  (sExp (mBm tyL lAppend (mVar 3) (aCons (mBin fAdd (mVar 4) (mLst false (aCons (mBin fIx (mVar 2) (mCst (.int 1))) aNil))) aNil))))
noncomputable abbrev B__law_corners_2 : SM := (sSeq (sAsg (mLst true aNil) (gNm 3))
  (sSeq (sFor (iAny (mCall (bList false) (aCons (mVar 1) aNil))) (gNm 4) B__law_corners_1)
  (sAsg (mVar 3) (gNm 1))))
noncomputable def F__law_corners : FA := fnP 5 (sSeq (sAsg (mLst false (aCons (mLst false aNil) aNil)) (gNm 1))
  (sSeq (sFor (iAny (mVar 0)) (gNm 2) B__law_corners_2)
  (sRet (mVar 1))))
noncomputable abbrev C__law_square_1 (live : Bool) : M D := mLc live (iRange1 (aCons (mCall bLen (aCons (mVar 0) aNil)) aNil)) [2] (gNm 2) cYes (mBin fMul (mBin fSub (mBin fIx (mVar 0) (mVar 2)) (mBin fIx (mVar 1) (mVar 2))) (mBin fSub (mBin fIx (mVar 0) (mVar 2)) (mBin fIx (mVar 1) (mVar 2))))
noncomputable def F__law_square : FA := fnP 3 (sRet (mCall bSum (aCons (C__law_square_1 false) aNil)))
noncomputable def F_quotient_up : FA := fnP 2 (sRet (mNeg (mBin fDiv (mNeg (mVar 0)) (mVar 1))))
noncomputable abbrev C_dot_1 (live : Bool) : M D := mLc live (iZip2 (aCons (mVar 0) (aCons (mVar 1) aNil))) [2, 3] (gTp 2 (gsCons (gNm 2) (gsCons (gNm 3) gsNil))) cYes (mBin fMul (mVar 2) (mVar 3))
noncomputable def F_dot : FA := fnP 4 (sRet (mCall bSum (aCons (C_dot_1 false) aNil)))
noncomputable abbrev C__minus_1 (live : Bool) : M D := mLc live (iZip2 (aCons (mVar 0) (aCons (mVar 1) aNil))) [2, 3] (gTp 2 (gsCons (gNm 2) (gsCons (gNm 3) gsNil))) cYes (mBin fSub (mVar 2) (mVar 3))
noncomputable def F__minus : FA := fnP 4 (sRet (mCall bTuple (aCons (C__minus_1 false) aNil)))
noncomputable def F_from_piece : FA := fnP 9 (sSeq (sAsg (mFn 2 F__minus (aCons (mVar 2) (aCons (mVar 1) aNil))) (gNm 3))
  (sSeq (sAsg (mFn 2 F__minus (aCons (mVar 0) (aCons (mVar 1) aNil))) (gNm 4))
  (sSeq (sAsg (mFn 2 F_dot (aCons (mVar 3) (aCons (mVar 3) aNil))) (gNm 5))
  (sSeq (sAsg (mFn 2 F_dot (aCons (mVar 3) (aCons (mVar 4) aNil))) (gNm 6))
  (sSeq (sIf (mB (mBin fLe (mVar 6) (mCst (.int 0)))) (sRet (mTup (aCons (mFn 2 F_dot (aCons (mVar 4) (aCons (mVar 4) aNil))) (aCons (mFn 2 F_dot (aCons (mVar 4) (aCons (mVar 4) aNil))) aNil)))) sNil)
  (sSeq (sIf (mB (mBin fGe (mVar 6) (mVar 5))) (sSeq (sAsg (mFn 2 F__minus (aCons (mVar 0) (aCons (mVar 2) aNil))) (gNm 7))
  (sRet (mTup (aCons (mFn 2 F_dot (aCons (mVar 7) (aCons (mVar 7) aNil))) (aCons (mFn 2 F_dot (aCons (mVar 7) (aCons (mVar 7) aNil))) aNil))))) sNil)
  (sSeq (sAsg (mBin fSub (mBin fMul (mFn 2 F_dot (aCons (mVar 4) (aCons (mVar 4) aNil))) (mVar 5)) (mBin fMul (mVar 6) (mVar 6))) (gNm 8))
  (sRet (mTup (aCons (mBin fDiv (mVar 8) (mVar 5)) (aCons (mFn 2 F_quotient_up (aCons (mVar 8) (aCons (mVar 5) aNil))) aNil)))))))))))
noncomputable abbrev C__law_dot_1 (live : Bool) : M D := mLc live (iRange1 (aCons (mCall bLen (aCons (mVar 0) aNil)) aNil)) [2] (gNm 2) cYes (mBin fMul (mBin fIx (mVar 0) (mVar 2)) (mBin fIx (mVar 1) (mVar 2)))
noncomputable def F__law_dot : FA := fnP 3 (sRet (mCall bSum (aCons (C__law_dot_1 false) aNil)))
noncomputable abbrev C__law_minus_1 (live : Bool) : M D := mLc live (iRange1 (aCons (mCall bLen (aCons (mVar 0) aNil)) aNil)) [2] (gNm 2) cYes (mBin fSub (mBin fIx (mVar 0) (mVar 2)) (mBin fIx (mVar 1) (mVar 2)))
noncomputable def F__law_minus : FA := fnP 3 (sRet (mCall bTuple (aCons (C__law_minus_1 false) aNil)))
noncomputable def F__law_from_piece : FA := fnP 8 (sSeq (sAsg (mFn 2 F__law_minus (aCons (mVar 2) (aCons (mVar 1) aNil))) (gNm 3))
  (sSeq (sAsg (mFn 2 F__law_minus (aCons (mVar 0) (aCons (mVar 1) aNil))) (gNm 4))
  (sSeq (sAsg (mFn 2 F__law_dot (aCons (mVar 4) (aCons (mVar 3) aNil))) (gNm 5))
  (sSeq (sAsg (mFn 2 F__law_dot (aCons (mVar 3) (aCons (mVar 3) aNil))) (gNm 6))
  (sSeq (sIf (mB (mBin fLe (mVar 5) (mCst (.int 0)))) (sRet (mTup (aCons (mFn 2 F__law_dot (aCons (mVar 4) (aCons (mVar 4) aNil))) (aCons (mCst (.int 1)) aNil)))) sNil)
  (sSeq (sIf (mB (mBin fGe (mVar 5) (mVar 6))) (sSeq (sAsg (mFn 2 F__law_minus (aCons (mVar 0) (aCons (mVar 2) aNil))) (gNm 7))
  (sRet (mTup (aCons (mFn 2 F__law_dot (aCons (mVar 7) (aCons (mVar 7) aNil))) (aCons (mCst (.int 1)) aNil))))) sNil)
  (sRet (mTup (aCons (mBin fSub (mBin fMul (mFn 2 F__law_dot (aCons (mVar 4) (aCons (mVar 4) aNil))) (mVar 6)) (mBin fMul (mVar 5) (mVar 5))) (aCons (mVar 6) aNil))))))))))
noncomputable abbrev C_between_1 (live : Bool) : M D := mLc live (iZip2 (aCons (mVar 0) (aCons (mVar 1) aNil))) [2, 3] (gTp 2 (gsCons (gNm 2) (gsCons (gNm 3) gsNil))) cYes (mBin fPow (mFn 2 F_gap (aCons (mVar 2) (aCons (mVar 3) aNil))) (mCst (.int 2)))
noncomputable def F_between : FA := fnP 4 (sRet (mCall bSum (aCons (C_between_1 false) aNil)))
noncomputable abbrev C_greatest_from_1 (live : Bool) : M D := mLc live (iZip2 (aCons (mVar 0) (aCons (mVar 1) aNil))) [2, 3, 4] (gTp 2 (gsCons (gTp 2 (gsCons (gNm 3) (gsCons (gNm 4) gsNil))) (gsCons (gNm 2) gsNil))) cYes (mBin fPow (mCall bMax (aCons (mFn 2 F_gap (aCons (mTup (aCons (mVar 3) (aCons (mVar 3) aNil))) (aCons (mVar 2) aNil))) (aCons (mFn 2 F_gap (aCons (mTup (aCons (mVar 4) (aCons (mVar 4) aNil))) (aCons (mVar 2) aNil))) aNil))) (mCst (.int 2)))
noncomputable def F_greatest_from : FA := fnP 5 (sRet (mCall bSum (aCons (C_greatest_from_1 false) aNil)))
noncomputable abbrev C__side_span_1 (live : Bool) : M D := mLc live (iZip2 (aCons (mVar 0) (aCons (mVar 1) aNil))) [3, 4, 5] (gTp 2 (gsCons (gNm 3) (gsCons (gTp 2 (gsCons (gNm 4) (gsCons (gNm 5) gsNil))) gsNil))) cYes (mTup (aCons (mBin fMul (mVar 3) (mVar 4)) (aCons (mBin fMul (mVar 3) (mVar 5)) aNil)))
noncomputable abbrev C__side_span_2 (live : Bool) : M D := mLc live (iAny (mVar 2)) [6] (gNm 6) cYes (mCall bMax (aCons (mVar 6) aNil))
noncomputable abbrev C__side_span_3 (live : Bool) : M D := mLc live (iAny (mVar 2)) [6] (gNm 6) cYes (mCall bMin (aCons (mVar 6) aNil))
noncomputable def F__side_span : FA := fnP 7 (sSeq (sAsg (C__side_span_1 false) (gNm 2))
  (sRet (mTup (aCons (mCall bSum (aCons (C__side_span_3 false) aNil)) (aCons (mCall bSum (aCons (C__side_span_2 false) aNil)) aNil)))))
noncomputable def F__piece_span : FA := fnP 6 (sSeq (sAsg (mFn 3 F_from_piece (aCons (mFn 1 F_middle (aCons (mSl (mVar 2) pNo (pYes (mNeg (mCst (.int 1))))) aNil)) (aCons (mVar 0) (aCons (mVar 1) aNil)))) (gTp 2 (gsCons (gNm 3) (gsCons (gNm 4) gsNil))))
  (sSeq (sAsg (mFn 1 F_radius (aCons (mVar 2) aNil)) (gNm 5))
  (sRet (mTup (aCons (mBin fSub (mFn 1 F_root_down (aCons (mVar 3) aNil)) (mVar 5)) (aCons (mBin fAdd (mFn 1 F_root_up (aCons (mVar 4) aNil)) (mVar 5)) aNil))))))
noncomputable abbrev C__boxes_span_1 (live : Bool) : M D := mLc live (iAny (mVar 0)) [4] (gNm 4) cYes (mFn 2 F_between (aCons (mVar 1) (aCons (mVar 4) aNil)))
noncomputable abbrev C__boxes_span_2 (live : Bool) : M D := mLc live (iAny (mVar 0)) [4] (gNm 4) cYes (mFn 2 F_greatest_from (aCons (mVar 1) (aCons (mVar 4) aNil)))
noncomputable def F__boxes_span : FA := fnP 5 (sSeq (sAsg (mCall bMin (aCons (C__boxes_span_1 false) aNil)) (gNm 2))
  (sSeq (sAsg (mCall bMin (aCons (C__boxes_span_2 false) aNil)) (gNm 3))
  (sRet (mTup (aCons (mFn 1 F_root_down (aCons (mVar 2) aNil)) (aCons (mFn 1 F_root_up (aCons (mVar 3) aNil)) aNil))))))
noncomputable def F_span : FA := fnP 9 (sSeq (sAsg (mTup (aCons (mSl (mVar 1) pNo (pYes (mNeg (mCst (.int 1))))) (aCons (mBin fIx (mVar 1) (mNeg (mCst (.int 1)))) aNil))) (gTp 2 (gsCons (gNm 2) (gsCons (gTp 2 (gsCons (gNm 3) (gsCons (gNm 4) gsNil))) gsNil))))
  (sSeq (sIf (mB (mBin fEq (mBin fIx (mVar 0) (mCst (.int 0))) (mCst (.str "side")))) (sRet (mFn 2 F__side_span (aCons (mBin fIx (mVar 0) (mCst (.int 1))) (aCons (mVar 2) aNil)))) sNil)
  (sSeq (sIf (mB (mBin fEq (mBin fIx (mVar 0) (mCst (.int 0))) (mCst (.str "piece")))) (sRet (mFn 3 F__piece_span (aCons (mBin fIx (mVar 0) (mCst (.int 1))) (aCons (mBin fIx (mVar 0) (mCst (.int 2))) (aCons (mVar 1) aNil))))) sNil)
  (sSeq (sIf (mB (mBin fEq (mBin fIx (mVar 0) (mCst (.int 0))) (mCst (.str "boxes")))) (sRet (mFn 2 F__boxes_span (aCons (mBin fIx (mVar 0) (mCst (.int 1))) (aCons (mVar 2) aNil)))) sNil)
  (sSeq (sAsg (mFn 2 F_distances (aCons (mBin fIx (mVar 0) (mCst (.int 1))) (aCons (mVar 2) aNil))) (gTp 2 (gsCons (gNm 5) (gsCons (gNm 6) gsNil))))
  (sSeq (sIf (mB (mBin fEq (mBin fIx (mVar 0) (mCst (.int 0))) (mCst (.str "clocked")))) (sRet (mTup (aCons (mBin fAdd (mVar 5) (mVar 3)) (aCons (mBin fAdd (mVar 6) (mVar 4)) aNil)))) sNil)
  (sSeq (sIf (mB (mBin fEq (mBin fIx (mVar 0) (mCst (.int 0))) (mCst (.str "differ")))) (sSeq (sAsg (mFn 2 F_distances (aCons (mBin fIx (mVar 0) (mCst (.int 2))) (aCons (mVar 2) aNil))) (gTp 2 (gsCons (gNm 7) (gsCons (gNm 8) gsNil))))
  (sRet (mTup (aCons (mBin fSub (mVar 5) (mVar 8)) (aCons (mBin fSub (mVar 6) (mVar 7)) aNil))))) sNil)
  (sRet (mTup (aCons (mVar 5) (aCons (mVar 6) aNil)))))))))))
noncomputable abbrev B__law_from_boxes_1 : SM := (sSeq (sAsg (mCall bMax (aCons (mBin fSub (mBin fIx (mBin fIx (mVar 3) (mVar 5)) (mCst (.int 0))) (mBin fIx (mVar 0) (mVar 5))) (aCons (mBin fSub (mBin fIx (mVar 0) (mVar 5)) (mBin fIx (mBin fIx (mVar 3) (mVar 5)) (mCst (.int 1)))) (aCons (mCst (.int 0)) aNil)))) (gNm 6))
  (sAsg (mBin fAdd (mVar 4) (mBin fMul (mVar 6) (mVar 6))) (gNm 4)))
noncomputable abbrev B__law_from_boxes_2 : SM := (sSeq (sAsg (mCst (.int 0)) (gNm 4))
  (sSeq (sFor (iRange1 (aCons (mCall bLen (aCons (mVar 0) aNil)) aNil)) (gNm 5) B__law_from_boxes_1)
  (sExp (mBm tyL lAppend (mVar 2) (aCons (mVar 4) aNil)))))
noncomputable def F__law_from_boxes : FA := fnP 7 (sSeq (sAsg (mLst true aNil) (gNm 2))
  (sSeq (sFor (iAny (mVar 1)) (gNm 3) B__law_from_boxes_2)
  (sRet (mCall bMin (aCons (mVar 2) aNil)))))
noncomputable def F_rate : FA := fnP 1 (sSeq (sIf (mB (mBin fEq (mBin fIx (mVar 0) (mCst (.int 0))) (mCst (.str "differ")))) (sRet (mCst (.int 2))) sNil)
  (sSeq (sIf (mB (mBin fEq (mBin fIx (mVar 0) (mCst (.int 0))) (mCst (.str "side")))) (sRet (mFn 1 F_root_up (aCons (mFn 2 F_dot (aCons (mBin fIx (mVar 0) (mCst (.int 1))) (aCons (mBin fIx (mVar 0) (mCst (.int 1))) aNil))) aNil))) sNil)
  (sRet (mCst (.int 1)))))
noncomputable def F_clock_rate : FA := fnP 1 (sRet (mIf (mB (mBin fEq (mBin fIx (mVar 0) (mCst (.int 0))) (mCst (.str "clocked")))) (mCst (.int 1)) (mCst (.int 0))))
noncomputable def F_moved : FA := fnP 1 (sSeq (sIf (mB (mBin fEq (mBin fIx (mVar 0) (mCst (.int 0))) (mCst (.str "differ")))) (sRet (mCst (.int 2))) sNil)
  (sRet (mIf (mB (mBin fEq (mBin fIx (mVar 0) (mCst (.int 0))) (mCst (.str "side")))) (mCst (.int 0)) (mCst (.int 1)))))
noncomputable def F_reach : FA := fnP 2 (sRet (mFn 2 F_quotient_up (aCons (mBin fMul (mFld "speed" (mVar 0)) (mVar 1)) (aCons (mFld "per" (mVar 0)) aNil))))
noncomputable def F_slip : FA := fnP 2 (sRet (mFn 2 F_quotient_up (aCons (mBin fMul (mFld "drift" (mVar 0)) (mVar 1)) (aCons (mFld "per" (mVar 0)) aNil))))
noncomputable def F__law_setting : FA := fnP 7 (sSeq (sAsg (mFn 2 F__law_number (aCons (mVar 0) (aCons (mVar 1) aNil))) (gNm 2))
  (sSeq (sAsg (mFn 2 F__law_number (aCons (mVar 0) (aCons (mBin fAdd (mVar 1) (mCst (.int 1))) aNil))) (gNm 3))
  (sSeq (sAsg (mBin fAdd (mCst (.int 2)) (mBin fMod (mCall bInt (aCons (mVar 2) aNil)) (mCst (.int 2)))) (gNm 4))
  (sSeq (sAsg (mBin fAdd (mCst (.int 1)) (mBin fMod (mCall bInt (aCons (mBin fDiv (mVar 2) (mCst (.int 2))) aNil)) (mCst (.int 5)))) (gNm 5))
  (sSeq (sAsg (mBin fMod (mCall bInt (aCons (mBin fDiv (mVar 2) (mCst (.int 10))) aNil)) (mCst (.int 23))) (gNm 6))
  (sSeq (sIf (mB (mBin fEq (mBin fMod (mCall bInt (aCons (mBin fDiv (mVar 2) (mCst (.int 230))) aNil)) (mCst (.int 8))) (mCst (.int 0)))) (sSeq (sAsg (mBin fAdd (mCst (.int 1)) (mBin fMod (mCall bInt (aCons (mVar 3) aNil)) (mCst (.int 1000000000000)))) (gNm 5))
  (sAsg (mBin fMod (mCall bInt (aCons (mBin fDiv (mVar 3) (mCst (.int 1000000000000))) aNil)) (mCst (.int 1000000000001))) (gNm 6))) sNil)
  (sRet (mMkN 0 1 3 gApp F_Setting__init__ (aCons (mVar 4) aNil) (aCons (mVar 6) (aCons (mBin fMod (mCall bInt (aCons (mBin fDiv (mVar 2) (mCst (.int 1840))) aNil)) (mCst (.int 7))) (aCons (mVar 5) aNil)))))))))))
noncomputable def F_farther : FA := fnP 6 (sSeq (sAsg (mBin fMul (mBin fPow (mFld "per" (mVar 0)) (mCst (.int 2))) (mFn 2 F_between (aCons (mSl (mVar 2) pNo (pYes (mNeg (mCst (.int 1))))) (aCons (mSl (mVar 3) pNo (pYes (mNeg (mCst (.int 1))))) aNil)))) (gNm 4))
  (sSeq (sAsg (mBin fMul (mFld "per" (mVar 0)) (mFn 2 F_gap (aCons (mBin fIx (mVar 2) (mNeg (mCst (.int 1)))) (aCons (mBin fIx (mVar 3) (mNeg (mCst (.int 1)))) aNil)))) (gNm 5))
  (sRet (mOr (mBin fGt (mVar 4) (mBin fPow (mBin fMul (mFld "speed" (mVar 0)) (mVar 1)) (mCst (.int 2)))) (mBin fGt (mVar 5) (mBin fMul (mFld "drift" (mVar 0)) (mVar 1)))))))
noncomputable def F_carried : FA := fnP 7 (sSeq (sAsg (mFld "kind" (mVar 1)) (gNm 3))
  (sSeq (sAsg (mBin fAdd (mFld "late" (mVar 1)) (mCall bAbs (aCons (mBin fSub (mVar 2) (mFld "moment" (mVar 1))) aNil))) (gNm 4))
  (sSeq (sAsg (mBin fMul (mFn 1 F_rate (aCons (mVar 3) aNil)) (mFn 2 F_reach (aCons (mVar 0) (aCons (mVar 4) aNil)))) (gNm 5))
  (sSeq (sAsg (mBin fMul (mFn 1 F_clock_rate (aCons (mVar 3) aNil)) (mFn 2 F_slip (aCons (mVar 0) (aCons (mVar 4) aNil)))) (gNm 6))
  (sRet (mBin fAdd (mBin fAdd (mBin fMul (mFn 1 F_moved (aCons (mVar 3) aNil)) (mFld "near" (mVar 1))) (mVar 5)) (mVar 6)))))))
noncomputable def F_allowed : FA := fnP 4 (sSeq (sAsg (mFn 3 F_carried (aCons (mVar 0) (aCons (mVar 1) (aCons (mVar 2) aNil)))) (gNm 3))
  (sRet (mTup (aCons (mBin fSub (mFld "low" (mVar 1)) (mVar 3)) (aCons (mBin fAdd (mFld "high" (mVar 1)) (mVar 3)) aNil)))))
noncomputable def F_misses : FA := fnP 7 (sSeq (sAsg (mVar 1) (gTp 2 (gsCons (gNm 3) (gsCons (gNm 4) gsNil))))
  (sSeq (sAsg (mFn 2 F_span (aCons (mVar 0) (aCons (mVar 2) aNil))) (gTp 2 (gsCons (gNm 5) (gsCons (gNm 6) gsNil))))
  (sRet (mOr (mBin fLt (mVar 6) (mVar 3)) (mBin fGt (mVar 5) (mVar 4))))))
noncomputable def F_excludes : FA := fnP 4 (sRet (mFn 3 F_misses (aCons (mFld "kind" (mVar 1)) (aCons (mFn 3 F_allowed (aCons (mVar 0) (aCons (mVar 1) (aCons (mVar 2) aNil)))) (aCons (mVar 3) aNil)))))
noncomputable abbrev C__next_steps_right_1 (live : Bool) : M D := mLc live (iAny (mVar 3)) [5] (gNm 5) cYes (mCh2 fLt fLt (mVar 0) (mVar 5) (mVar 1))
noncomputable def F__next_steps_right : FA := fnP 6 (sSeq (sIf (mB (mBin fEq (mVar 4) (mCst (.int 0)))) (sRet (mBin fEq (mCall bLen (aCons (mVar 3) aNil)) (mCst (.int 0)))) sNil)
  (sRet (mAnd (mBin fEq (mCall bLen (aCons (mVar 3) aNil)) (mCall bLen (aCons (mVar 2) aNil))) (mCall bAll (aCons (C__next_steps_right_1 false) aNil)))))
noncomputable abbrev C__law_used_1 (live : Bool) : M D := mLc live (iRange1 (aCons (mVar 7) aNil)) [10] (gNm 10) cYes (mBin fIx (mVar 3) (mBin fMod (mBin fAdd (mVar 8) (mBin fMul (mVar 9) (mVar 10))) (mCst (.int 4))))
noncomputable abbrev B__law_used_1 : SM := (sSeq (sAsg (mFn 2 F__law_number (aCons (mVar 0) (aCons (mBin fAdd (mVar 1) (mVar 5)) aNil))) (gNm 6))
  (sIf (mB (mBin fEq (mBin fMod (mCall bInt (aCons (mVar 6) aNil)) (mCst (.int 7))) (mCst (.int 0)))) (sExp (mBm tyL lAppend (mVar 4) (aCons (mCst .non) aNil))) (sSeq (sAsg (mBin fIx (mLst false (aCons (mCst (.int 1)) (aCons (mCst (.int 2)) (aCons (mCst (.int 2)) (aCons (mCst (.int 3)) (aCons (mCst (.int 0)) (aCons (mCst (.int 1)) aNil))))))) (mBin fMod (mCall bInt (aCons (mBin fDiv (mVar 6) (mCst (.int 7))) aNil)) (mCst (.int 6)))) (gNm 7))
  (sSeq (sAsg (mBin fMod (mCall bInt (aCons (mBin fDiv (mVar 6) (mCst (.int 42))) aNil)) (mCst (.int 4))) (gNm 8))
  (sSeq (sAsg (mBin fAdd (mCst (.int 1)) (mBin fMul (mCst (.int 2)) (mCall bInt (aCons (mBin fMod (mCall bInt (aCons (mBin fDiv (mVar 6) (mCst (.int 168))) aNil)) (mCst (.int 2))) aNil)))) (gNm 9))
  (sExp (mBm tyL lAppend (mVar 4) (aCons (mCall bTuple (aCons (C__law_used_1 false) aNil)) aNil))))))))
noncomputable def F__law_used : FA := fnP 11 (sSeq (sAsg (mLst false (aCons (mCst (.str "a")) (aCons (mCst (.str "b")) (aCons (mCst (.str "c")) (aCons (mCst (.str "d")) aNil))))) (gNm 3))
  (sSeq (sAsg (mLst true aNil) (gNm 4))
  (sSeq (sFor (iRange1 (aCons (mVar 2) aNil)) (gNm 5) B__law_used_1)
  (sRet (mVar 4)))))
noncomputable def F__law_honest : FA := fnP 1 (sRet (mBin fIx (mLst false (aCons (mTup aNil) (aCons (mTup aNil) (aCons (mTup (aCons (mCst (.str "a")) aNil)) (aCons (mTup (aCons (mCst (.str "b")) (aCons (mCst (.str "d")) aNil))) (aCons (mTup (aCons (mCst (.str "c")) aNil)) aNil)))))) (mBin fMod (mCall bInt (aCons (mVar 0) aNil)) (mCst (.int 5)))))
noncomputable def F__law_spoilt : FA := fnP 8 (sSeq (sAsg (mBin fMod (mCall bInt (aCons (mVar 1) aNil)) (mCst (.int 6))) (gNm 3))
  (sSeq (sAsg (mBin fDiv (mVar 1) (mCst (.int 6))) (gNm 4))
  (sSeq (sIf (tmOr (mB (mBin fLt (mVar 3) (mCst (.int 2)))) (mB (mBin fEq (mCall bLen (aCons (mVar 0) aNil)) (mCst (.int 0))))) (sRet (mVar 0)) sNil)
  (sSeq (sAsg (mBin fMod (mCall bInt (aCons (mVar 4) aNil)) (mCall bLen (aCons (mVar 0) aNil))) (gNm 5))
  (sSeq (sAsg (mBin fIx (mVar 0) (mVar 5)) (gTp 2 (gsCons (gNm 6) (gsCons (gNm 7) gsNil))))
  (sSeq (sAsg (mBin fDiv (mVar 4) (mCst (.int 64))) (gNm 4))
  (sSeq (sIf (mB (mBin fEq (mVar 3) (mCst (.int 2)))) (sRet (mBin fAdd (mBin fAdd (mSl (mVar 0) pNo (pYes (mVar 5))) (mLst false (aCons (mTup (aCons (mBin fSub (mBin fMod (mCall bInt (aCons (mVar 4) aNil)) (mBin fAdd (mVar 2) (mCst (.int 2)))) (mCst (.int 1))) (aCons (mVar 7) aNil))) aNil))) (mSl (mVar 0) (pYes (mBin fAdd (mVar 5) (mCst (.int 1)))) pNo))) sNil)
  (sSeq (sIf (mB (mBin fEq (mVar 3) (mCst (.int 3)))) (sRet (mBin fAdd (mBin fAdd (mSl (mVar 0) pNo (pYes (mVar 5))) (mLst false (aCons (mTup (aCons (mVar 6) (aCons (mBin fAdd (mVar 7) (mTup (aCons (mBin fSub (mBin fMod (mCall bInt (aCons (mVar 4) aNil)) (mBin fAdd (mCall bLen (aCons (mVar 0) aNil)) (mCst (.int 2)))) (mCst (.int 1))) aNil))) aNil))) aNil))) (mSl (mVar 0) (pYes (mBin fAdd (mVar 5) (mCst (.int 1)))) pNo))) sNil)
  (sSeq (sIf (tmAnd (mB (mBin fEq (mVar 3) (mCst (.int 4)))) (mB (mBin fGt (mCall bLen (aCons (mVar 7) aNil)) (mCst (.int 0))))) (sRet (mBin fAdd (mBin fAdd (mSl (mVar 0) pNo (pYes (mVar 5))) (mLst false (aCons (mTup (aCons (mVar 6) (aCons (mBin fAdd (mSl (mVar 7) pNo (pYes (mNeg (mCst (.int 1))))) (mTup (aCons (mBin fMod (mCall bInt (aCons (mVar 4) aNil)) (mBin fAdd (mCall bLen (aCons (mVar 0) aNil)) (mCst (.int 1)))) aNil))) aNil))) aNil))) (mSl (mVar 0) (pYes (mBin fAdd (mVar 5) (mCst (.int 1)))) pNo))) sNil)
  (sRet (mBin fAdd (mBin fAdd (mSl (mVar 0) pNo (pYes (mVar 5))) (mLst false (aCons (mTup (aCons (mVar 6) (aCons (mTup aNil) aNil))) aNil))) (mSl (mVar 0) (pYes (mBin fAdd (mVar 5) (mCst (.int 1)))) pNo))))))))))))
noncomputable abbrev C__law_drawn_1 (live : Bool) : M D := mLc live (iRange1 (aCons (mBin fMod (mCall bInt (aCons (mBin fDiv (mVar 6) (mCst (.int 8))) aNil)) (mCst (.int 4))) aNil)) [8] (gNm 8) cYes (mBin fAdd (mBin fAdd (mVar 5) (mCst (.int 1))) (mBin fMod (mCall bInt (aCons (mBin fDiv (mVar 6) (mBin fIx (mLst false (aCons (mCst (.int 40)) (aCons (mCst (.int 200)) (aCons (mCst (.int 1000)) aNil)))) (mVar 8))) aNil)) (mCst (.int 3))))
noncomputable abbrev B__law_drawn_1 : SM := (sSeq (sAsg (mFn 2 F__law_number (aCons (mVar 0) (aCons (mBin fAdd (mBin fAdd (mVar 1) (mCst (.int 1))) (mVar 5)) aNil))) (gNm 6))
  (sSeq (sAsg (C__law_drawn_1 false) (gNm 7))
  (sExp (mBm tyL lAppend (mVar 3) (aCons (mTup (aCons (mBin fMod (mCall bInt (aCons (mVar 6) aNil)) (mBin fAdd (mVar 2) (mCst (.int 1)))) (aCons (mCall bTuple (aCons (mVar 7) aNil)) aNil))) aNil)))))
noncomputable def F__law_drawn : FA := fnP 9 (sSeq (sAsg (mLst true aNil) (gNm 3))
  (sSeq (sAsg (mBin fAdd (mCst (.int 1)) (mBin fMod (mCall bInt (aCons (mFn 2 F__law_number (aCons (mVar 0) (aCons (mVar 1) aNil))) aNil)) (mCst (.int 5)))) (gNm 4))
  (sSeq (sFor (iRange1 (aCons (mVar 4) aNil)) (gNm 5) B__law_drawn_1)
  (sRet (mVar 3)))))
noncomputable def F_Held__init__ : FA := fnR 4 (sSeq (sPut "moment" (mVar 1) (mVar 0))
  (sSeq (sPut "cover" (mVar 2) (mVar 0))
  (sPut "used" (mVar 3) (mVar 0))))
noncomputable def F_Held__eq__ : FA := fnP 2 (sRet (mAnd (mIsi "Held" (mVar 1)) (mAnd (mBin fEq (mFld "moment" (mVar 0)) (mFld "moment" (mVar 1))) (mAnd (mBin fEq (mFld "cover" (mVar 0)) (mFld "cover" (mVar 1))) (mBin fEq (mFld "used" (mVar 0)) (mFld "used" (mVar 1)))))))
noncomputable abbrev B_beyond_1 : SM := (sIf (tmNot (mTru (mFn 4 F_farther (aCons (mVar 0) (aCons (mVar 4) (aCons (mVar 3) (aCons (mVar 5) aNil))))))) (sRet (mCst (.bl false))) sNil)
noncomputable def F_beyond : FA := fnP 6 (sSeq (sAsg (mCall bAbs (aCons (mBin fSub (mVar 2) (mFld "moment" (mVar 1))) aNil)) (gNm 4))
  (sSeq (sFor (iAny (mFld "cover" (mVar 1))) (gNm 5) B_beyond_1)
  (sRet (mCst (.bl true)))))
noncomputable def F_Case__init__ : FA := fnR 6 (sSeq (sPut "setting" (mVar 1) (mVar 0))
  (sSeq (sPut "table" (mVar 2) (mVar 0))
  (sSeq (sPut "held" (mVar 3) (mVar 0))
  (sSeq (sPut "keep" (mVar 4) (mVar 0))
  (sPut "moment" (mVar 5) (mVar 0))))))
noncomputable def F_Caseby_known : FA := fnP 4 (sSeq (sIf (tmNot (mB (mCh2 fLe fLt (mCst (.int 0)) (mVar 1) (mCall bLen (aCons (mFld "held" (mVar 0)) aNil))))) (sRet (mCst .non)) sNil)
  (sSeq (sAsg (mBin fIx (mFld "held" (mVar 0)) (mVar 1)) (gNm 3))
  (sRet (mIf (mTru (mFn 4 F_beyond (aCons (mFld "setting" (mVar 0)) (aCons (mVar 3) (aCons (mFld "moment" (mVar 0)) (aCons (mVar 2) aNil)))))) (mFld "used" (mVar 3)) (mCst .non)))))
noncomputable def F_Caseby_kept : FA := fnP 3 (sSeq (sIf (tmAnd (mB (mCh2 fLe fLt (mCst (.int 0)) (mVar 1) (mCall bLen (aCons (mFld "keep" (mVar 0)) aNil)))) (mTru (mFn 2 F_inside (aCons (mVar 2) (aCons (mBin fIx (mFld "keep" (mVar 0)) (mVar 1)) aNil))))) (sRet (mTup aNil)) sNil)
  (sRet (mCst .non)))
noncomputable abbrev B__law_leaf_1 : SM := (sIf (mTru (mFn 4 F_excludes (aCons (mVar 2) (aCons (mBin fIx (mVar 9) (mCst (.int 1))) (aCons (mVar 6) (aCons (mVar 7) aNil)))))) (sRet (mTup (aCons (mCst (.str "reading")) (aCons (mBin fIx (mVar 9) (mCst (.int 0))) aNil)))) sNil)
noncomputable abbrev B__law_leaf_2 : SM := (sIf (mTru (mFn 2 F_inside (aCons (mVar 7) (aCons (mBin fIx (mVar 5) (mVar 10)) aNil)))) (sRet (mTup (aCons (mCst (.str "kept")) (aCons (mVar 10) aNil)))) sNil)
noncomputable def F__law_leaf : FA := fnP 12 (sSeq (sAsg (mFn 2 F__law_number (aCons (mVar 0) (aCons (mVar 1) aNil))) (gNm 8))
  (sSeq (sIf (mB (mBin fGt (mBin fMod (mCall bInt (aCons (mVar 8) aNil)) (mCst (.int 4))) (mCst (.int 0)))) (sSeq (sFor (iAny (mVar 3)) (gNm 9) B__law_leaf_1)
  (sFor (iRange1 (aCons (mCall bLen (aCons (mVar 5) aNil)) aNil)) (gNm 10) B__law_leaf_2)) sNil)
  (sSeq (sAsg (mBin fMod (mCall bInt (aCons (mBin fDiv (mVar 8) (mCst (.int 4))) aNil)) (mCst (.int 3))) (gNm 11))
  (sSeq (sIf (mB (mBin fEq (mVar 11) (mCst (.int 0)))) (sRet (mTup (aCons (mCst (.str "reading")) (aCons (mBin fIx (mLst false (aCons (mCst (.int 3)) (aCons (mCst (.int 8)) (aCons (mCst (.int 5)) (aCons (mCst (.int 4)) (aCons (mCst (.int 7)) aNil)))))) (mBin fMod (mCall bInt (aCons (mBin fDiv (mVar 8) (mCst (.int 12))) aNil)) (mCst (.int 5)))) aNil)))) sNil)
  (sSeq (sIf (mB (mBin fEq (mVar 11) (mCst (.int 1)))) (sRet (mTup (aCons (mCst (.str "known")) (aCons (mBin fSub (mBin fMod (mCall bInt (aCons (mBin fDiv (mVar 8) (mCst (.int 12))) aNil)) (mBin fAdd (mCall bLen (aCons (mVar 4) aNil)) (mCst (.int 2)))) (mCst (.int 1))) aNil)))) sNil)
  (sRet (mTup (aCons (mCst (.str "kept")) (aCons (mBin fSub (mBin fMod (mCall bInt (aCons (mBin fDiv (mVar 8) (mCst (.int 12))) aNil)) (mBin fAdd (mCall bLen (aCons (mVar 5) aNil)) (mCst (.int 2)))) (mCst (.int 1))) aNil)))))))))
noncomputable abbrev B__law_tree_1 : SM := (sSeq (sIf (mB (mBin fEq (mCall bLen (aCons (mVar 9) aNil)) (mCst (.int 0)))) sBrk sNil)
  (sSeq (sAsg (mBm tyL lPop (mVar 9) aNil) (gNm 11))
  (sSeq (sAsg (mFn 2 F__law_number (aCons (mVar 0) (aCons (mBin fAdd (mVar 1) (mVar 10)) aNil))) (gNm 12))
  (sIf (tmAnd (mB (mBin fLt (mVar 10) (mCst (.int 6)))) (mB (mBin fLt (mBin fMod (mCall bInt (aCons (mVar 12) aNil)) (mCst (.int 5))) (mCst (.int 2))))) (sSeq (sAsg (mBin fMod (mCall bInt (aCons (mBin fDiv (mVar 12) (mCst (.int 5))) aNil)) (mBin fAdd (mCall bLen (aCons (mVar 7) aNil)) (mCst (.int 1)))) (gNm 13))
  (sSeq (sAsg (mBin fIx (mVar 11) (mCall bMin (aCons (mVar 13) (aCons (mBin fSub (mCall bLen (aCons (mVar 7) aNil)) (mCst (.int 1))) aNil)))) (gNm 14))
  (sSeq (sAsg (mBin fAdd (mBin fDiv (mBin fAdd (mBin fIx (mVar 14) (mCst (.int 0))) (mBin fIx (mVar 14) (mCst (.int 1)))) (mCst (.int 2))) (mCall bInt (aCons (mBin fEq (mBin fMod (mCall bInt (aCons (mBin fDiv (mVar 12) (mCst (.int 20))) aNil)) (mCst (.int 9))) (mCst (.int 0))) aNil))) (gNm 15))
  (sSeq (sExp (mBm tyL lAppend (mVar 8) (aCons (mTup (aCons (mCst (.str "cut")) (aCons (mVar 13) (aCons (mVar 15) aNil)))) aNil)))
  (sSeq (sAsg (mFn 3 F_cut (aCons (mVar 11) (aCons (mVar 13) (aCons (mVar 15) aNil)))) (gNm 16))
  (sIf (mB (mBin fNotN (mVar 16) (mCst .non))) (sSeq (sExp (mBm tyL lAppend (mVar 9) (aCons (mBin fIx (mVar 16) (mCst (.int 1))) aNil)))
  (sExp (mBm tyL lAppend (mVar 9) (aCons (mBin fIx (mVar 16) (mCst (.int 0))) aNil)))) sNil)))))) (sExp (mBm tyL lAppend (mVar 8) (aCons (mFn 8 F__law_leaf (aCons (mVar 0) (aCons (mBin fAdd (mBin fAdd (mVar 1) (mVar 10)) (mCst (.int 1))) (aCons (mVar 2) (aCons (mVar 3) (aCons (mVar 4) (aCons (mVar 5) (aCons (mVar 6) (aCons (mVar 11) aNil))))))))) aNil)))))))
noncomputable def F__law_tree : FA := fnP 17 (sSeq (sAsg (mLst true aNil) (gNm 8))
  (sSeq (sAsg (mLst true (aCons (mVar 7) aNil)) (gNm 9))
  (sSeq (sFor (iRange1 (aCons (mCst (.int 15)) aNil)) (gNm 10) B__law_tree_1)
  (sSeq (sAsg (mFn 2 F__law_number (aCons (mVar 0) (aCons (mBin fAdd (mVar 1) (mCst (.int 16))) aNil))) (gNm 12))
  (sSeq (sIf (mB (mBin fEq (mBin fMod (mCall bInt (aCons (mVar 12) aNil)) (mCst (.int 9))) (mCst (.int 0)))) (sRet (mCall bTuple (aCons (mSl (mVar 8) pNo (pYes (mNeg (mCst (.int 1))))) aNil))) sNil)
  (sSeq (sIf (mB (mBin fEq (mBin fMod (mCall bInt (aCons (mVar 12) aNil)) (mCst (.int 9))) (mCst (.int 1)))) (sRet (mCall bTuple (aCons (mBin fAdd (mVar 8) (mLst false (aCons (mBin fIx (mVar 8) (mNeg (mCst (.int 1)))) aNil))) aNil))) sNil)
  (sRet (mCall bTuple (aCons (mVar 8) aNil)))))))))
noncomputable abbrev C_ascending_1 (live : Bool) : M D := mLc live (iZip2 (aCons (mVar 0) (aCons (mSl (mVar 0) (pYes (mCst (.int 1))) pNo) aNil))) [1, 2] (gTp 2 (gsCons (gNm 1) (gsCons (gNm 2) gsNil))) cYes (mBin fLt (mVar 1) (mVar 2))
noncomputable def F_ascending : FA := fnP 3 (sRet (mCall bAll (aCons (C_ascending_1 false) aNil)))
noncomputable def F_Witness__init__ : FA := fnR 3 (sSeq (sPut "liars" (mVar 1) (mVar 0))
  (sPut "points" (mVar 2) (mVar 0)))
noncomputable def F_Witness__eq__ : FA := fnP 2 (sRet (mAnd (mIsi "Witness" (mVar 1)) (mAnd (mBin fEq (mFld "liars" (mVar 0)) (mFld "liars" (mVar 1))) (mBin fEq (mFld "points" (mVar 0)) (mFld "points" (mVar 1))))))
noncomputable abbrev C_ascend_1 (live : Bool) : M D := mLc live (iAny (mVar 0)) [1] (gNm 1) cYes (mBin fIx (mVar 1) (mCst (.int 0)))
noncomputable def F_ascend : FA := fnP 2 (sRet (mFn 1 F_ascending (aCons (C_ascend_1 false) aNil)))
noncomputable abbrev C__at_1 (live : Bool) : M D := mLc live (iAny (mSl (mVar 0) (pYes (mCst (.int 1))) pNo)) [1] (gNm 1) cYes (mTup (aCons (mVar 1) (aCons (mVar 1) aNil)))
noncomputable def F__at : FA := fnP 2 (sRet (mCall bTuple (aCons (C__at_1 false) aNil)))
noncomputable abbrev B__law_rows_1 : SM := (sSeq (sAsg (mCst (.int 0)) (gNm 4))
  (sSeq (sIf (mB (mBin fGt (mCall bLen (aCons (mVar 0) aNil)) (mCst (.int 0)))) (sAsg (mCall bInt (aCons (mBin fIx (mVar 0) (mBin fMod (mCall bInt (aCons (mVar 3) aNil)) (mCall bLen (aCons (mVar 0) aNil)))) aNil)) (gNm 4)) sNil)
  (sSeq (sIf (mB (mBin fLt (mVar 4) (mCst (.int 0)))) (sAsg (mBin fSub (mCst (.int 1)) (mBin fMul (mCst (.int 2)) (mVar 4))) (gNm 4)) sNil)
  (sSeq (sIf (tmOr (mB (mBin fGe (mVar 3) (mCall bLen (aCons (mVar 0) aNil)))) (mB (mBin fLt (mVar 4) (mCst (.int 1000000000))))) (sSeq (sAsg (mBin fMod (mCall bInt (aCons (mBin fAdd (mBin fMul (mBin fAdd (mBin fAdd (mVar 4) (mBin fMul (mCst (.int 131)) (mVar 3))) (mCst (.int 7))) (mCst (.int 48271))) (mBin fMul (mBin fMul (mVar 3) (mVar 3)) (mCst (.int 69621)))) aNil)) (mCst (.int 1000000007))) (gNm 4))
  (sAsg (mBin fMod (mCall bInt (aCons (mBin fMul (mBin fAdd (mBin fAdd (mVar 4) (mBin fMul (mCst (.int 17)) (mVar 3))) (mCst (.int 3))) (mCst (.int 2862933555777941757))) aNil)) (mCst (.int 18446744073709551557))) (gNm 4))) sNil)
  (sExp (mBm tyL lAppend (mVar 2) (aCons (mVar 4) aNil)))))))
noncomputable def F__law_rows : FA := fnP 5 (sSeq (sAsg (mLst true aNil) (gNm 2))
  (sSeq (sFor (iRange1 (aCons (mVar 1) aNil)) (gNm 3) B__law_rows_1)
  (sRet (mVar 2))))
noncomputable abbrev B__law_digits_1 : SM := (sSeq (sExp (mBm tyL lAppend (mVar 3) (aCons (mBin fMod (mCall bInt (aCons (mVar 0) aNil)) (mVar 1)) aNil)))
  (sAsg (mBin fDiv (mVar 0) (mVar 1)) (gNm 0)))
noncomputable def F__law_digits : FA := fnP 5 (sSeq (sAsg (mLst true aNil) (gNm 3))
  (sSeq (sFor (iRange1 (aCons (mVar 2) aNil)) (gNm 4) B__law_digits_1)
  (sRet (mVar 3))))
noncomputable def F_cell_radius : FA := fnP 3 (sSeq (sAsg (mFn 1 F_half_side (aCons (mTup (aCons (mCst (.int 0)) (aCons (mVar 1) aNil))) aNil)) (gNm 2))
  (sRet (mFn 1 F_root_up (aCons (mBin fMul (mBin fMul (mFld "dims" (mVar 0)) (mVar 2)) (mVar 2)) aNil))))
noncomputable def F_spread : FA := fnP 3 (sRet (mBin fAdd (mBin fMul (mFn 1 F_rate (aCons (mVar 2) aNil)) (mBin fAdd (mBin fMul (mCst (.int 2)) (mFn 2 F_cell_radius (aCons (mVar 0) (aCons (mVar 1) aNil)))) (mCst (.int 2)))) (mBin fMul (mFn 1 F_clock_rate (aCons (mVar 2) aNil)) (mVar 1))))
noncomputable def F_margin : FA := fnP 5 (sSeq (sAsg (mFld "kind" (mVar 2)) (gNm 3))
  (sSeq (sAsg (mBin fAdd (mBin fMul (mFn 1 F_rate (aCons (mVar 3) aNil)) (mFn 2 F_reach (aCons (mVar 0) (aCons (mFld "late" (mVar 2)) aNil)))) (mBin fMul (mFn 1 F_clock_rate (aCons (mVar 3) aNil)) (mFn 2 F_slip (aCons (mVar 0) (aCons (mFld "late" (mVar 2)) aNil))))) (gNm 4))
  (sRet (mBin fAdd (mBin fAdd (mBin fMul (mFn 1 F_moved (aCons (mVar 3) aNil)) (mFld "near" (mVar 2))) (mVar 4)) (mFn 3 F_spread (aCons (mVar 0) (aCons (mFld "share" (mVar 1)) (aCons (mVar 3) aNil))))))))
noncomputable abbrev C__law_velocity_1 (live : Bool) : M D := mLc live (iAny (mFn 3 F__law_digits (aCons (mVar 1) (aCons (mCst (.int 7)) (aCons (mFld "dims" (mVar 0)) aNil))))) [5] (gNm 5) cYes (mBin fSub (mVar 5) (mCst (.int 3)))
noncomputable abbrev C__law_velocity_2 (live : Bool) : M D := mLc live (iAny (mVar 2)) [6] (gNm 6) cYes (mBin fMul (mVar 6) (mVar 6))
noncomputable abbrev C__law_velocity_3 (live : Bool) : M D := mLc live (iAny (mVar 2)) [6] (gNm 6) cYes (mBin fMul (mBin fDiv (mCall bAbs (aCons (mVar 6) aNil)) (mCst (.int 2))) (mBin fSub (mCst (.int 1)) (mBin fMul (mCst (.int 2)) (mCall bInt (aCons (mBin fLt (mVar 6) (mCst (.int 0))) aNil)))))
noncomputable abbrev B__law_velocity_1 : SM := (sSeq (sAsg (mCall bSum (aCons (C__law_velocity_2 false) aNil)) (gNm 4))
  (sSeq (sIf (mB (mBin fLe (mBin fMul (mBin fMul (mFld "per" (mVar 0)) (mFld "per" (mVar 0))) (mVar 4)) (mBin fMul (mFld "speed" (mVar 0)) (mFld "speed" (mVar 0))))) sBrk sNil)
  (sAsg (C__law_velocity_3 false) (gNm 2))))
noncomputable def F__law_velocity : FA := fnP 7 (sSeq (sAsg (C__law_velocity_1 false) (gNm 2))
  (sSeq (sFor (iRange1 (aCons (mCst (.int 8)) aNil)) (gNm 3) B__law_velocity_1)
  (sRet (mVar 2))))
noncomputable abbrev C__law_way_1 (live : Bool) : M D := mLc live (iAny (mFn 3 F__law_digits (aCons (mBin fIx (mVar 1) (mCst (.int 0))) (aCons (mCst (.int 31)) (aCons (mFld "dims" (mVar 0)) aNil))))) [8] (gNm 8) cYes (mBin fSub (mVar 8) (mCst (.int 15)))
noncomputable def F__law_way : FA := fnP 9 (sSeq (sAsg (C__law_way_1 false) (gNm 2))
  (sSeq (sAsg (mBin fDiv (mFld "drift" (mVar 0)) (mFld "per" (mVar 0))) (gNm 3))
  (sSeq (sAsg (mBin fSub (mBin fMod (mCall bInt (aCons (mBin fIx (mVar 1) (mCst (.int 1))) aNil)) (mBin fAdd (mBin fMul (mCst (.int 2)) (mVar 3)) (mCst (.int 1)))) (mVar 3)) (gNm 4))
  (sSeq (sAsg (mBin fSub (mBin fMod (mCall bInt (aCons (mBin fDiv (mBin fIx (mVar 1) (mCst (.int 1))) (mCst (.int 16))) aNil)) (mBin fAdd (mBin fMul (mCst (.int 2)) (mVar 3)) (mCst (.int 1)))) (mVar 3)) (gNm 5))
  (sSeq (sAsg (mFn 2 F__law_velocity (aCons (mVar 0) (aCons (mBin fIx (mVar 1) (mCst (.int 2))) aNil))) (gNm 6))
  (sSeq (sAsg (mFn 2 F__law_velocity (aCons (mVar 0) (aCons (mBin fDiv (mBin fIx (mVar 1) (mCst (.int 2))) (mCst (.int 2401))) aNil))) (gNm 7))
  (sRet (mTup (aCons (mVar 2) (aCons (mBin fSub (mBin fMod (mCall bInt (aCons (mBin fDiv (mBin fIx (mVar 1) (mCst (.int 1))) (mCst (.int 256))) aNil)) (mCst (.int 9))) (mCst (.int 4))) (aCons (mBin fSub (mBin fMod (mCall bInt (aCons (mBin fDiv (mBin fIx (mVar 1) (mCst (.int 1))) (mCst (.int 4096))) aNil)) (mCst (.int 9))) (mCst (.int 4))) (aCons (mVar 6) (aCons (mVar 7) (aCons (mVar 4) (aCons (mVar 5) aNil)))))))))))))))
noncomputable abbrev C__law_piece_1 (live : Bool) : M D := mLc live (iRange1 (aCons (mCall bLen (aCons (mVar 1) aNil)) aNil)) [8] (gNm 8) cYes (mBin fSub (mBin fIx (mVar 2) (mVar 8)) (mBin fIx (mVar 1) (mVar 8)))
noncomputable abbrev C__law_piece_2 (live : Bool) : M D := mLc live (iRange1 (aCons (mCall bLen (aCons (mVar 1) aNil)) aNil)) [8] (gNm 8) cYes (mBin fSub (mBin fIx (mVar 0) (mVar 8)) (mBin fIx (mVar 1) (mVar 8)))
noncomputable abbrev C__law_piece_3 (live : Bool) : M D := mLc live (iAny (mVar 3)) [9] (gNm 9) cYes (mBin fMul (mVar 9) (mVar 9))
noncomputable abbrev C__law_piece_4 (live : Bool) : M D := mLc live (iRange1 (aCons (mCall bLen (aCons (mVar 1) aNil)) aNil)) [8] (gNm 8) cYes (mBin fMul (mBin fIx (mVar 4) (mVar 8)) (mBin fIx (mVar 3) (mVar 8)))
noncomputable abbrev C__law_piece_5 (live : Bool) : M D := mLc live (iAny (mVar 4)) [9] (gNm 9) cYes (mBin fMul (mVar 9) (mVar 9))
noncomputable def F__law_piece : FA := fnP 10 (sSeq (sAsg (C__law_piece_1 false) (gNm 3))
  (sSeq (sAsg (C__law_piece_2 false) (gNm 4))
  (sSeq (sAsg (mCall bSum (aCons (C__law_piece_3 false) aNil)) (gNm 5))
  (sSeq (sAsg (mCall bSum (aCons (C__law_piece_4 false) aNil)) (gNm 6))
  (sSeq (sIf (mB (mBin fLe (mVar 6) (mCst (.int 0)))) (sRet (mTup (aCons (mFn 2 F__law_square (aCons (mVar 0) (aCons (mVar 1) aNil))) (aCons (mFn 2 F__law_square (aCons (mVar 0) (aCons (mVar 1) aNil))) aNil)))) sNil)
  (sSeq (sIf (mB (mBin fGe (mVar 6) (mVar 5))) (sRet (mTup (aCons (mFn 2 F__law_square (aCons (mVar 0) (aCons (mVar 2) aNil))) (aCons (mFn 2 F__law_square (aCons (mVar 0) (aCons (mVar 2) aNil))) aNil)))) sNil)
  (sSeq (sAsg (mBin fSub (mBin fMul (mCall bSum (aCons (C__law_piece_5 false) aNil)) (mVar 5)) (mBin fMul (mVar 6) (mVar 6))) (gNm 7))
  (sRet (mTup (aCons (mBin fDiv (mVar 7) (mVar 5)) (aCons (mBin fSub (mCst (.int 0)) (mBin fDiv (mBin fSub (mCst (.int 0)) (mVar 7)) (mVar 5))) aNil)))))))))))
noncomputable abbrev C__law_moved_1 (live : Bool) : M D := mLc live (iRange1 (aCons (mCall bLen (aCons (mVar 3) aNil)) aNil)) [5] (gNm 5) cYes (mTup (aCons (mBin fAdd (mBin fIx (mBin fIx (mVar 3) (mVar 5)) (mCst (.int 0))) (mBin fIx (mVar 1) (mVar 5))) (aCons (mBin fAdd (mBin fIx (mBin fIx (mVar 3) (mVar 5)) (mCst (.int 1))) (mBin fIx (mVar 1) (mVar 5))) aNil)))
noncomputable abbrev B__law_moved_1 : SM := (sExp (mBm tyL lAppend (mVar 2) (aCons (mCall bTuple (aCons (C__law_moved_1 false) aNil)) aNil)))
noncomputable abbrev C__law_moved_2 (live : Bool) : M D := mLc live (iRange1 (aCons (mCall bLen (aCons (mVar 6) aNil)) aNil)) [5] (gNm 5) cYes (mBin fAdd (mBin fIx (mVar 6) (mVar 5)) (mBin fIx (mVar 1) (mVar 5)))
noncomputable abbrev C__law_moved_3 (live : Bool) : M D := mLc live (iAny (mSl (mVar 0) (pYes (mCst (.int 1))) pNo)) [6] (gNm 6) cYes (mCall bTuple (aCons (C__law_moved_2 false) aNil))
noncomputable def F__law_moved : FA := fnP 7 (sSeq (sIf (mB (mBin fEq (mBin fIx (mVar 0) (mCst (.int 0))) (mCst (.str "side")))) (sRet (mVar 0)) sNil)
  (sSeq (sIf (mB (mBin fEq (mBin fIx (mVar 0) (mCst (.int 0))) (mCst (.str "boxes")))) (sSeq (sAsg (mLst true aNil) (gNm 2))
  (sSeq (sFor (iAny (mBin fIx (mVar 0) (mCst (.int 1)))) (gNm 3) B__law_moved_1)
  (sRet (mTup (aCons (mBin fIx (mVar 0) (mCst (.int 0))) (aCons (mCall bTuple (aCons (mVar 2) aNil)) aNil)))))) sNil)
  (sSeq (sAsg (C__law_moved_3 false) (gNm 4))
  (sRet (mCall bTuple (aCons (mBin fAdd (mLst false (aCons (mBin fIx (mVar 0) (mCst (.int 0))) aNil)) (mVar 4)) aNil))))))
end Lib
namespace Lib
open PySem PySem.Spec PyProof.Rows L2 Ev
theorem sz64 {i : Int} (h : i.natAbs < 18446744073709551616) : sz i ≤ 64 := sz_small (n := 64) (by omega) h
/-- the k-th cell of the script -/
def cell0 (ns : List Int) (k : Nat) : Int := if k < ns.length then ns.getD k 0 else 104729 * k + 7919
def cell1 (ns : List Int) (k : Nat) : Int := if cell0 ns k < 0 then 1 - 2 * cell0 ns k else cell0 ns k
def numC (k : Int) (c : Int) : Int := if c < 1000000000 then ((c * 48271 + k * 69621 + 7) % 2147483647) * 2147483563 + ((((c * 48271 + k * 69621 + 7) % 2147483647) * 16807 + k * 40692 + 13) % 2147483563) else c
def num (ns : List Int) (k : Nat) : Int := numC k (cell1 ns k)
def Sc (ns : List Int) : D := .klst (ns.map D.int)
/-- scripts of the law -/
def Okn (ns : List Int) : Prop := ns.length ≤ 63 ∧ ∀ z ∈ ns, sz z ≤ 1048576
theorem sz_cell0 {ns : List Int} (hn : Okn ns) {k : Nat} (hk : k ≤ 1000) : sz (cell0 ns k) ≤ 1048576 := by
  unfold cell0
  split
  · rename_i hk
    rw [List.getD_eq_getElem?_getD, List.getElem?_eq_getElem hk]
    exact hn.2 _ (List.getElem_mem hk)
  · have := sz64 (i := 104729 * (k : Int) + 7919) (by omega)
    omega
theorem lit2 : sz 2 = 1 := by decide
theorem lit1 : sz 1 = 0 := by decide
theorem sz_cell1 {ns : List Int} (hn : Okn ns) {k : Nat} (hk : k ≤ 1000) : sz (cell1 ns k) ≤ 1048580 := by
  have h0 := sz_cell0 hn hk
  unfold cell1
  split
  · have h1 := sz_mul 2 (cell0 ns k)
    have h2 := sz_sub 1 (2 * cell0 ns k)
    rw [lit2] at h1
    rw [lit1] at h2
    omega
  · omega
theorem cell1_nn {ns : List Int} {k : Nat} : 0 ≤ cell1 ns k := by
  unfold cell1
  split <;> omega
theorem sz_num {ns : List Int} (hn : Okn ns) {k : Nat} (hk : k ≤ 1000) : sz (num ns k) ≤ 1048580 := by
  unfold num numC
  split
  · have h1 := Int.emod_lt_of_pos (cell1 ns k * 48271 + (k : Int) * 69621 + 7) (show (0 : Int) < 2147483647 by decide)
    have h2 := Int.emod_nonneg (cell1 ns k * 48271 + (k : Int) * 69621 + 7) (show (2147483647 : Int) ≠ 0 by decide)
    have h3 := Int.emod_lt_of_pos ((cell1 ns k * 48271 + (k : Int) * 69621 + 7) % 2147483647 * 16807 + (k : Int) * 40692 + 13) (show (0 : Int) < 2147483563 by decide)
    have h4 := Int.emod_nonneg ((cell1 ns k * 48271 + (k : Int) * 69621 + 7) % 2147483647 * 16807 + (k : Int) * 40692 + 13) (show (2147483563 : Int) ≠ 0 by decide)
    have := sz64 (i := (cell1 ns k * 48271 + (k : Int) * 69621 + 7) % 2147483647 * 2147483563 + ((cell1 ns k * 48271 + (k : Int) * 69621 + 7) % 2147483647 * 16807 + (k : Int) * 40692 + 13) % 2147483563) (by omega)
    omega
  · exact sz_cell1 hn hk
theorem num_nn {ns : List Int} {k : Nat} : 0 ≤ num ns k := by
  unfold num numC
  split
  · have h2 := Int.emod_nonneg (cell1 ns k * 48271 + (k : Int) * 69621 + 7) (show (2147483647 : Int) ≠ 0 by decide)
    have h4 := Int.emod_nonneg ((cell1 ns k * 48271 + (k : Int) * 69621 + 7) % 2147483647 * 16807 + (k : Int) * 40692 + 13) (show (2147483563 : Int) ≠ 0 by decide)
    omega
  · exact cell1_nn
theorem F_number {ns : List Int} (hn : Okn ns) {k : Nat} (hk : k ≤ 1000) (h : HP) : F__law_number [Sc ns, .int k] h = .ok (.int (num ns k)) h := by
  have c0 := sz_cell0 hn hk
  have hz : ns.length ≤ sizeLine := by have := hn.1; rw [sizeLine_eq]; omega
  have m1 : CMulE 104729 k := mulX 64 64 (sz64 (by decide)) (sz64 (by omega)) (by decide)
  have m2 : CMulE 2 (cell0 ns k) := mulX 64 1048576 (sz64 (by decide)) c0 (by decide)
  have m3 : CMulE (cell1 ns k) 48271 := mulX 1048580 64 (sz_cell1 hn hk) (sz64 (by decide)) (by decide)
  have m4 : CMulE k 69621 := mulX 64 64 (sz64 (by omega)) (sz64 (by decide)) (by decide)
  have m6 : CMulE k 40692 := mulX 64 64 (sz64 (by omega)) (sz64 (by decide)) (by decide)
  have h1 := Int.emod_lt_of_pos (cell1 ns k * 48271 + (k : Int) * 69621 + 7) (show (0 : Int) < 2147483647 by decide)
  have h2 := Int.emod_nonneg (cell1 ns k * 48271 + (k : Int) * 69621 + 7) (show (2147483647 : Int) ≠ 0 by decide)
  have m5 : CMulE ((cell1 ns k * 48271 + (k : Int) * 69621 + 7) % 2147483647) 16807 := mulX 64 64 (sz64 (by omega)) (sz64 (by decide)) (by decide)
  have m7 : CMulE ((cell1 ns k * 48271 + (k : Int) * 69621 + 7) % 2147483647) 2147483563 := mulX 64 64 (sz64 (by omega)) (sz64 (by decide)) (by decide)
  have p : ∀ z : Int, pure_ h (.int z) h = .ok (.int z) h := fun z => pure_clean h (clean_int z)
  have a4 : ¬ cell1 ns k < 0 := by have := @cell1_nn ns k; omega
  by_cases a1 : k < ns.length
  · have e0 : ns[k] = cell0 ns k := by unfold cell0; rw [if_pos a1]; simp [a1]
    by_cases a2 : cell0 ns k < 0
    · have e1 : 1 - 2 * cell0 ns k = cell1 ns k := by unfold cell1; rw [if_pos a2]
      by_cases a3 : cell1 ns k < 1000000000
      · simp [F__law_number, Sc, num, numC, m1, a1, atI, ixN, p, e0, a2, m2, e1, a3, m3, m4, m5, m6, m7]
      · simp [F__law_number, Sc, num, numC, m1, a1, atI, ixN, p, e0, a2, m2, e1, a3, m3, m4, m5, m6, m7]
    · have e1 : cell0 ns k = cell1 ns k := by unfold cell1; rw [if_neg a2]
      by_cases a3 : cell1 ns k < 1000000000
      · simp [F__law_number, Sc, num, numC, m1, a1, atI, ixN, p, e0, a4, e1, a3, m3, m4, m5, m6, m7]
      · simp [F__law_number, Sc, num, numC, m1, a1, atI, ixN, p, e0, a4, e1, a3, m3, m4, m5, m6, m7]
  · have e0 : 104729 * (k : Int) + 7919 = cell0 ns k := by unfold cell0; rw [if_neg a1]
    have a2 : ¬ cell0 ns k < 0 := by rw [← e0]; omega
    have e1 : cell0 ns k = cell1 ns k := by unfold cell1; rw [if_neg a2]
    by_cases a3 : cell1 ns k < 1000000000
    · simp [F__law_number, Sc, num, numC, m1, a1, atI, ixN, p, e0, a4, e1, a3, m3, m4, m5, m6, m7]
    · simp [F__law_number, Sc, num, numC, m1, a1, atI, ixN, p, e0, a4, e1, a3, m3, m4, m5, m6, m7]


theorem bits_sz {z : Int} (h : Builtin.Int.intBits z ≤ 1048576) : sz z ≤ 1048576 := by
  unfold Builtin.Int.intBits at h
  unfold sz
  split at h
  · rename_i c
    have : z.natAbs = 0 := by
      first | omega | simpa using c
    rw [this]
    decide
  · omega
/-! near -/
def near (c : Int) : Int := if c % 9 = 0 then c / 9 % 2000000000001 - 1000000000000 else if c % 9 < 3 then c / 9 % 2001 - 1000 else c / 9 % 41 - 20
theorem near_bd (c : Int) : -1000000000000 ≤ near c ∧ near c ≤ 1000000000000 := by
  unfold near
  split
  · omega
  · split <;> omega
theorem l9 : Nat.log2 9 < 9000 := by decide
theorem l7 : Nat.log2 7 < 9000 := by decide
theorem l2 : Nat.log2 2 < 9000 := by decide
theorem lg {n : Nat} (h : n < 18446744073709551616) : Nat.log2 n < 9000 := by
  have := sz64 (i := (n : Int)) (by omega)
  unfold sz at this
  simp at this
  omega
theorem F_near (c : Int) (h : HP) : F__law_near [.int c] h = .ok (.int (near c)) h := by
  have p : ∀ z : Int, pure_ h (.int z) h = .ok (.int z) h := fun z => pure_clean h (clean_int z)
  by_cases a1 : c % 9 = 0
  · simp [F__law_near, near, a1, p, lg, SeqAt.shaped, PyData.canLay0, PyData.depth, PyData.eqv]
  · by_cases a2 : c % 9 < 3
    · simp [F__law_near, near, a1, a2, p, lg, SeqAt.shaped, PyData.canLay0, PyData.depth, PyData.eqv]
    · simp [F__law_near, near, a1, a2, p, lg, SeqAt.shaped, PyData.canLay0, PyData.depth, PyData.eqv]
def len7 (c : Int) : Int := if c % 7 = 0 then 0 else if c % 7 = 1 then c / 7 % 1000000000 else c / 7 % 13
theorem len7_bd (c : Int) : 0 ≤ len7 c ∧ len7 c < 1000000000 := by
  unfold len7
  split
  · omega
  · split <;> omega
theorem F_length (c : Int) (h : HP) : F__law_length [.int c] h = .ok (.int (len7 c)) h := by
  have p : ∀ z : Int, pure_ h (.int z) h = .ok (.int z) h := fun z => pure_clean h (clean_int z)
  by_cases a1 : c % 7 = 0
  · simp [F__law_length, len7, a1, p, lg, SeqAt.shaped, PyData.canLay0, PyData.depth, PyData.eqv]
  · by_cases a2 : c % 7 = 1
    · simp [F__law_length, len7, a1, a2, p, lg, SeqAt.shaped, PyData.canLay0, PyData.depth, PyData.eqv]
    · simp [F__law_length, len7, a1, a2, p, lg, SeqAt.shaped, PyData.canLay0, PyData.depth, PyData.eqv]
/-- sides, boxes -/
def sideD (s : Int × Int) : D := .tup [.int s.1, .int s.2]
def boxD (b : List (Int × Int)) : D := .tup (b.map sideD)
theorem clean_side (s : Int × Int) : clean (sideD s) := clean_tup (by simp [clean_int])
theorem clean_box (b : List (Int × Int)) : clean (boxD b) := clean_tup fun d hd => by
  obtain ⟨s, _, rfl⟩ := List.mem_map.mp hd
  exact clean_side s
def mkSide (ns : List Int) (k i : Nat) : Int × Int := (near (num ns (k + 2 * i)), near (num ns (k + 2 * i)) + len7 (num ns (k + 2 * i + 1)))
def mkBox (ns : List Int) (k n : Nat) : List (Int × Int) := (List.range n).map (mkSide ns k)
noncomputable abbrev boxBody : SM := (sSeq (sAsg (mFn 1 F__law_near (aCons (mFn 2 F__law_number (aCons (mVar 0) (aCons (mBin fAdd (mVar 1) (mBin fMul (mCst (.int 2)) (mVar 4))) aNil))) aNil)) (gNm 5))
  (sExp (mBm tyL lAppend (mVar 3) (aCons (mTup (aCons (mVar 5) (aCons (mBin fAdd (mVar 5) (mFn 1 F__law_length (aCons (mFn 2 F__law_number (aCons (mVar 0) (aCons (mBin fAdd (mBin fAdd (mVar 1) (mBin fMul (mCst (.int 2)) (mVar 4))) (mCst (.int 1))) aNil))) aNil))) aNil))) aNil))))
theorem rng_get {n i : Nat} (h : i < (rngD 0 n).length) : (rngD 0 n)[i] = .int (i : Nat) := by simp [rngD]
theorem box_turn {ns : List Int} (hn : Okn ns) {k n i : Nat} (hk : k ≤ 100) (hi : i ≤ 10) (x y : Option D) (h : HP) (acc : List D) (ha : acc.length ≤ 100) :
    boxBody [some (Sc ns), some (.int k), some (.int n), some (.ref h.length), some (.int i), y] (h ++ [.lst acc]) =
      .nx [some (Sc ns), some (.int k), some (.int n), some (.ref h.length), some (.int i), some (.int (near (num ns (k + 2 * i))))] (h ++ [.lst (acc ++ [sideD (mkSide ns k i)])]) := by
  have m1 : CMulE 2 (i : Nat) := mulX 64 64 (sz64 (by decide)) (sz64 (by omega)) (by decide)
  have n1 := fun h => F_number hn (k := k + 2 * i) (by omega) h
  have n2 := fun h => F_number hn (k := k + 2 * i + 1) (by omega) h
  push_cast at n1 n2
  have ap := fun y => appL_last (y := y) (ds := acc) h (by rw [sizeLine_eq]; omega)
  simp [m1, n1, n2, F_near, F_length, ap, sideD, mkSide]
theorem box_loop {ns : List Int} (hn : Okn ns) {k n : Nat} (hk : k ≤ 100) (hs : n ≤ 10) (h : HP) : ∃ x y, forE (gNm 4) boxBody [] (rngD 0 n) [some (Sc ns), some (.int k), some (.int n), some (.ref h.length), none, none] (h ++ [.lst []]) =
   .nx [some (Sc ns), some (.int k), some (.int n), some (.ref h.length), x, y] (h ++ [.lst ((mkBox ns k n).map sideD)]) := by
  obtain ⟨env', h', e, ⟨x, y, rfl⟩, rfl⟩ := forE_inv (gd := []) (asg := gNm 4) (items := rngD 0 n) (body := boxBody)
      (fun i env h' => (∃ x y, env = [some (Sc ns), some (.int k), some (.int n), some (.ref h.length), x, y]) ∧ h' = h ++ [.lst ((mkBox ns k i).map sideD)])
      (fun i env h' _ => by simp) (fun i env h' hi hI => (by
        obtain ⟨⟨x, y, rfl⟩, rfl⟩ := hI
        have hi' := hi
        rw [rngD_len] at hi'
        have c1 : mkBox ns k (i + 1) = mkBox ns k i ++ [mkSide ns k i] := by simp [mkBox, List.range_succ]
        refine ⟨[some (Sc ns), some (.int k), some (.int n), some (.ref h.length), some (.int (i : Nat)), y], by rw [rng_get hi]; rfl, _, _, .inl (box_turn hn hk (by omega) x y h ((mkBox ns k i).map sideD) (by simp [mkBox]; omega)), ⟨_, _, rfl⟩, by rw [c1, List.map_append]; rfl⟩))
      (env := [some (Sc ns), some (.int k), some (.int n), some (.ref h.length), none, none]) (h := h ++ [.lst []]) ⟨⟨_, _, rfl⟩, by simp [mkBox]⟩
  rw [rngD_len] at e
  exact ⟨x, y, e⟩
theorem F_box {ns : List Int} (hn : Okn ns) {k n : Nat} (hk : k ≤ 100) (hs : n ≤ 10) (h : HP) : F__law_box [Sc ns, .int k, .int n] h = .ok (boxD (mkBox ns k n)) h := by
  obtain ⟨x, y, e⟩ := box_loop hn hk hs h
  have rg : Rg (n : Int) := rg_nat (by omega)
  have cl : clean (boxD (mkBox ns k n)) := clean_box _
  have p := fun x => pure_cleanJ h x cl
  unfold boxD at p
  simp [F__law_box, rg, e, p, boxD]

def midOf (b : List (Int × Int)) : List Int := b.map fun s => (s.1 + s.2) / 2
theorem F_mid (b : List (Int × Int)) (hb : b.length ≤ 1000) (h : HP) : F_middle [boxD b] h = .ok (.tup ((midOf b).map D.int)) h := by
  have c : clean (.tup ((midOf b).map D.int)) := clean_tup fun d hd => by
    obtain ⟨s, _, rfl⟩ := List.mem_map.mp hd
    exact clean_int s
  have lc := mLc_map (it := iAny (mVar 0)) (own := [1, 2]) (asg := gTp 2 (gsCons (gNm 1) (gsCons (gNm 2) gsNil))) (elt := mBin fDiv (mBin fAdd (mVar 1) (mVar 2)) (mCst (.int 2))) (env := [some (boxD b), none, none]) (h := h) (h1 := h) (items := b.map sideD)
    (fun d => match d with | .tup [.int x, .int y] => .int ((x + y) / 2) | d => .non) (by simp [boxD]) (by rw [List.length_map, sizeLine_eq]; omega)
    (fun d hd h' => by
      obtain ⟨s, _, rfl⟩ := List.mem_map.mp hd
      exact ⟨[some (boxD b), some (.int s.1), some (.int s.2)], by simp [sideD], by simp [sideD, lg]⟩)
    (fun d hd => by
      obtain ⟨s, _, rfl⟩ := List.mem_map.mp hd
      exact clean_int _)
  have e : (b.map sideD).map (fun d => match d with | .tup [.int x, .int y] => D.int ((x + y) / 2) | d => .non) = (midOf b).map D.int := by
    simp [midOf, sideD]
  rw [e] at lc
  simp [F_middle, lc, pure_clean h c]
theorem F_half (s : Int × Int) (h : HP) : F_half_side [sideD s] h = .ok (.int ((s.2 - s.1 + 1) / 2)) h := by
  have p : ∀ z : Int, pure_ h (.int z) h = .ok (.int z) h := fun z => pure_clean h (clean_int z)
  simp [F_half_side, sideD, lg, p]
theorem kit_ii : kitB "int" "int" = some true := by decide +kernel
theorem kit_ib : kitB "int" "bool" = some false := by decide +kernel
theorem kit_tt : kitB "tuple" "tuple" = some true := by decide +kernel
theorem F_integer (i : Int) (h : HP) : F__law_integer [.int i] h = .ok (.bl true) h := by
  have p : ∀ z : Bool, pure_ h (.bl z) h = .ok (.bl z) h := fun z => pure_clean h (clean_bl z)
  simp [F__law_integer, kit_ii, kit_ib, p]

theorem mk_ok {ns : List Int} {k n : Nat} : ∀ s ∈ mkBox ns k n, s.1 ≤ s.2 ∧ s.1.natAbs < 18446744073709551 ∧ s.2.natAbs < 18446744073709551 := fun s hs => by
  obtain ⟨i, _, rfl⟩ := List.mem_map.mp hs
  have h1 := near_bd (num ns (k + 2 * i))
  have h2 := len7_bd (num ns (k + 2 * i + 1))
  simp only [mkSide]
  omega

/-! typed lists -/
theorem lcE_ty {α : Type} (asg : TF) (cond : M Bool) (elt : M D) (envw : EN) (h : HP) (f G : α → D) (p : α → Bool) : ∀ (xs : List α) (acc : List D), acc.length + xs.length ≤ sizeLine →
    (∀ x ∈ xs, ∀ h' : HP, ∃ e, asg (f x) envw h' = some e ∧ cond e h' = .ok (p x) h' ∧ (p x = true → elt e h' = .ok (G x) h')) →
    lcE asg cond elt envw h.length [] (xs.map f) (h ++ [.lst acc]) = .ok () (h ++ [.lst (acc ++ (xs.filter p).map G)])
  | [], acc, _, _ => by
    rw [List.map_nil]
    unfold lcE
    rw [if_pos (by simp [Gd])]
    simp
  | d :: ds, acc, hz, H => by
    rw [List.map_cons]
    unfold lcE
    rw [if_pos (by simp [Gd])]
    obtain ⟨e, e1, e2, e3⟩ := H d (List.mem_cons_self ..) (h ++ [.lst acc])
    simp only [e1, e2, R.nx, R.bind]
    cases q : p d with
    | true =>
      have hz' : acc.length < sizeLine := by simp only [List.length_cons] at hz; omega
      simp only [if_true, e3 q, R.nx, R.bind, appL_last h hz']
      rw [lcE_ty asg cond elt envw h f G p ds (acc ++ [G d]) (by simp only [List.length_append, List.length_cons, List.length_nil] at hz ⊢; omega) fun d' hd h' => H d' (List.mem_cons_of_mem _ hd) h']
      simp [List.filter_cons, q]
    | false =>
      simp only [if_neg Bool.false_ne_true]
      rw [lcE_ty asg cond elt envw h f G p ds acc (by simp only [List.length_cons] at hz; omega) fun d' hd h' => H d' (List.mem_cons_of_mem _ hd) h']
      simp [List.filter_cons, q]
theorem mLc_tyF {α : Type} {it : IM} {own : List Nat} {asg : TF} {cond : M Bool} {elt : M D} {env : EN} {h h1 : HP} (xs : List α) (f G : α → D) (p : α → Bool) (hi : it env h = .ok (xs.map f, []) h1) (hz : xs.length ≤ 16000000)
    (H : ∀ x ∈ xs, ∀ h' : HP, ∃ e, asg (f x) (wipeE env own) h' = some e ∧ cond e h' = .ok (p x) h' ∧ (p x = true → elt e h' = .ok (G x) h')) (c : ∀ x ∈ xs, p x = true → clean (G x)) :
    mLc false it own asg cond elt env h = .ok (.lst ((xs.filter p).map G)) h1 := by
  unfold mLc
  rw [hi]
  simp only [R.bind]
  rw [lcE_ty asg cond elt _ h1 f G p xs [] (by have := sizeLine_eq; simp only [List.length_nil]; omega) H]
  simp only [List.nil_append, outL, if_neg Bool.false_ne_true]
  exact pure_list h1 (by
    intro d hd
    obtain ⟨x, hx, rfl⟩ := List.mem_map.mp hd
    obtain ⟨h1, h2⟩ := List.mem_filter.mp hx
    exact c x h1 h2)
theorem mLc_ty {α : Type} {it : IM} {own : List Nat} {asg : TF} {elt : M D} {env : EN} {h h1 : HP} (xs : List α) (f G : α → D) (hi : it env h = .ok (xs.map f, []) h1) (hz : xs.length ≤ 16000000)
    (H : ∀ x ∈ xs, ∀ h' : HP, ∃ e, asg (f x) (wipeE env own) h' = some e ∧ elt e h' = .ok (G x) h') (c : ∀ x ∈ xs, clean (G x)) :
    mLc false it own asg cYes elt env h = .ok (.lst (xs.map G)) h1 := by
  have := mLc_tyF (cond := cYes) xs f G (fun _ => true) hi hz (fun d hd h' => let ⟨e, e1, e2⟩ := H d hd h'; ⟨e, e1, rfl, fun _ => e2⟩) fun d hd _ => c d hd
  rw [this, List.filter_eq_self.mpr (fun _ _ => rfl)]
/-- a loop over a range -/
theorem for_rng {asg : TF} {body : SM} (I : Nat → EN → HP → Prop) {n : Nat}
    (hs : ∀ i env h, i < n → I i env h → ∃ e, asg (.int (i : Nat)) env h = some e ∧ ∃ env' h', (body e h = .nx env' h' ∨ body e h = .ct env' h') ∧ I (i + 1) env' h')
    {env : EN} {h : HP} (h0 : I 0 env h) : ∃ env' h', forE asg body [] (rngD 0 n) env h = .nx env' h' ∧ I n env' h' := by
  obtain ⟨env', h', e, H⟩ := forE_inv (gd := []) (asg := asg) (items := rngD 0 n) (body := body) I (fun i env h _ => by simp) (fun i env h hi hI => by
    rw [rngD_len] at hi
    obtain ⟨e, e1, e2⟩ := hs i env h hi hI
    exact ⟨e, by rw [rng_get]; exact e1, e2⟩) h0
  rw [rngD_len] at H
  exact ⟨env', h', e, H⟩
/-- a loop over a typed list -/
theorem for_ty {α : Type} {asg : TF} {body : SM} {gd : GdL} (I : Nat → EN → HP → Prop) (xs : List α) (f : α → D) (hg : ∀ i env h, I i env h → Gd gd h)
    (hs : ∀ i env h (hi : i < xs.length), I i env h → ∃ e, asg (f xs[i]) env h = some e ∧ ∃ env' h', (body e h = .nx env' h' ∨ body e h = .ct env' h') ∧ I (i + 1) env' h')
    {env : EN} {h : HP} (h0 : I 0 env h) : ∃ env' h', forE asg body gd (xs.map f) env h = .nx env' h' ∧ I xs.length env' h' := by
  obtain ⟨env', h', e, H⟩ := forE_inv (gd := gd) (asg := asg) (items := xs.map f) (body := body) I hg (fun i env h hi hI => by
    have hi' : i < xs.length := by simpa using hi
    obtain ⟨e, e1, e2⟩ := hs i env h hi' hI
    exact ⟨e, by simpa using e1, e2⟩) h0
  rw [List.length_map] at H
  exact ⟨env', h', e, H⟩
theorem sh_int (k : Int) : SeqAt.shaped (.int k) = true := by simp [SeqAt.shaped, PyData.canLay0, PyData.depth]
theorem sh_bool (k : Bool) : SeqAt.shaped (.bool k) = true := by simp [SeqAt.shaped, PyData.canLay0, PyData.depth]
theorem kit_bb : kitB "bool" "bool" = some true := by decide +kernel
theorem F_truth (b c : Bool) (h : HP) : F__law_truth [.bl b, .bl c] h = .ok (.bl (b == c)) h := by
  have p : ∀ z : Bool, pure_ h (.bl z) h = .ok (.bl z) h := fun z => pure_clean h (clean_bl z)
  cases b <;> cases c <;> simp [F__law_truth, kit_bb, p, sh_bool, PyData.eqv]
theorem at_box {b : List (Int × Int)} {i : Nat} (hi : i < b.length) : atI (b.map sideD) (i : Int) = some (sideD b[i]) := by
  simp [atI, ixN, hi]
theorem at_int {b : List Int} {i : Nat} (hi : i < b.length) : atI (b.map D.int) (i : Int) = some (.int b[i]) := by
  simp [atI, ixN, hi]
@[simp] theorem at2_0 (x y : D) : atI [x, y] 0 = some x := by simp [atI, ixN]
@[simp] theorem at2_1 (x y : D) : atI [x, y] 1 = some y := by simp [atI, ixN]
theorem zip_box (a b : List (Int × Int)) : zipD (a.map sideD) (b.map sideD) = (a.zip b).map fun p => .tup [sideD p.1, sideD p.2] := by
  unfold zipD
  rw [List.zipWith_map, List.zip, List.map_zipWith]
def inP (p : (Int × Int) × (Int × Int)) : Bool := decide (p.2.1 ≤ p.1.1) && decide (p.1.2 ≤ p.2.2)
def insideB (a b : List (Int × Int)) : Bool := ((a.zip b).map inP).all id
theorem F_inside' (a b : List (Int × Int)) (ha : a.length ≤ 1000) (h : HP) : F_inside [boxD a, boxD b] h = .ok (.bl (insideB a b)) h := by
  have p : ∀ z : Bool, pure_ h (.bl z) h = .ok (.bl z) h := fun z => pure_clean h (clean_bl z)
  have lc : C_inside_1 false [some (boxD a), some (boxD b), none, none, none, none] h = _ :=
    mLc_ty (h1 := h) (a.zip b) (fun p => .tup [sideD p.1, sideD p.2]) (fun p => .bl (inP p)) (by simp [boxD, zip_box]) (by simp [List.length_zip]; omega)
      (fun x _ h' => by
        obtain ⟨⟨a1, a2⟩, ⟨b1, b2⟩⟩ := x
        refine ⟨[some (boxD a), some (boxD b), some (.int a1), some (.int a2), some (.int b1), some (.int b2)], by simp [sideD], ?_⟩
        by_cases c : b1 ≤ a1 <;> simp [c, inP]) fun x _ => clean_bl _
  have e : ((a.zip b).map fun p => D.bl (inP p)) = ((a.zip b).map inP).map D.bl := by simp
  rw [e] at lc
  have k := blsD_map ((a.zip b).map inP)
  simp only [List.map_map] at lc k
  simp [F_inside, lc, k, p, insideB]
theorem midE (n : Nat) {α : Type} (xs : List α) (h : n < xs.length) : xs.take (n + 1) = xs.take n ++ [xs[n]] := (List.take_append_getElem h).symm
/-! shapes of values for == -/
def Shp (n : Nat) (p : PyData) : Prop := p.canLay0 = true ∧ p.depth ≤ n
theorem Shp.int (n : Nat) (i : Int) : Shp n (.int i) := ⟨by simp [PyData.canLay0], by simp [PyData.depth]⟩
theorem Shp.bool (n : Nat) (i : Bool) : Shp n (.bool i) := ⟨by simp [PyData.canLay0], by simp [PyData.depth]⟩
theorem Shp.none (n : Nat) : Shp n .none := ⟨by simp [PyData.canLay0], by simp [PyData.depth]⟩
theorem Shp.all {n : Nat} : ∀ {ps : List PyData}, (∀ p ∈ ps, Shp n p) → PyData.canLayAll0 ps = true ∧ PyData.depthAll ps ≤ n
  | [], _ => ⟨by simp [PyData.canLayAll0], by simp [PyData.depthAll]⟩
  | p :: ps, h => by
    have h1 := h p (List.mem_cons_self ..)
    have h2 := Shp.all (ps := ps) fun q hq => h q (List.mem_cons_of_mem _ hq)
    refine ⟨by simp [PyData.canLayAll0, h1.1, h2.1], ?_⟩
    simp only [PyData.depthAll]
    have := h1.2
    have := h2.2
    omega
theorem Shp.tup {n : Nat} {ps : List PyData} (h : ∀ p ∈ ps, Shp n p) : Shp (n + 1) (.tuple ps) := by
  have := Shp.all h
  exact ⟨by simp [PyData.canLay0, this.1], by simp only [PyData.depth]; omega⟩
theorem Shp.list {n : Nat} {ps : List PyData} (h : ∀ p ∈ ps, Shp n p) : Shp (n + 1) (.list ps) := by
  have := Shp.all h
  exact ⟨by simp [PyData.canLay0, this.1], by simp only [PyData.depth]; omega⟩
theorem Shp.ok {n : Nat} {p : PyData} (h : Shp n p) (hn : n ≤ 64) : SeqAt.shaped p = true := by
  unfold SeqAt.shaped
  rw [h.1, decide_eq_true (by have := h.2; omega)]
  rfl
theorem Shp.self {n : Nat} {p : PyData} (h : Shp n p) : PyData.eqv p p = true := PySem.SeqAt.eqv_refl p h.1
theorem toPs_map {α : Type} (f : α → D) (q : α → PyData) : ∀ (xs : List α), (∀ x ∈ xs, toP (f x) = some (q x)) → toPs (xs.map f) = some (xs.map q)
  | [], _ => by simp
  | x :: xs, h => by
    have h1 := h x (List.mem_cons_self ..)
    have h2 := toPs_map f q xs fun y hy => h y (List.mem_cons_of_mem _ hy)
    simp [h1, h2]
def sidePy (s : Int × Int) : PyData := .tuple [.int s.1, .int s.2]
def boxPy (b : List (Int × Int)) : PyData := .tuple (b.map sidePy)
theorem toP_side (s : Int × Int) : toP (sideD s) = some (sidePy s) := by simp [sideD, sidePy]
theorem toP_box (b : List (Int × Int)) : toP (boxD b) = some (boxPy b) := by
  have := toPs_map sideD sidePy b fun s _ => toP_side s
  simp [boxD, boxPy, this]
theorem Shp.side (s : Int × Int) : Shp 1 (sidePy s) := Shp.tup fun p hp => by
  simp only [List.mem_cons, List.not_mem_nil, or_false] at hp
  rcases hp with rfl | rfl <;> exact Shp.int _ _
theorem Shp.box (b : List (Int × Int)) : Shp 2 (boxPy b) := Shp.tup fun p hp => by
  obtain ⟨s, _, rfl⟩ := List.mem_map.mp hp
  exact Shp.side s
theorem F_is_box' (b : List (Int × Int)) (hb : b.length ≤ 1000) (h : HP) : F__law_is_box [boxD b, boxD b] h = .ok (.bl true) h := by
  have p : ∀ z : Bool, pure_ h (.bl z) h = .ok (.bl z) h := fun z => pure_clean h (clean_bl z)
  have L : ∃ x, forE (gNm 2) B__law_is_box_1 [] (b.map sideD) [some (boxD b), some (boxD b), none] h = .nx [some (boxD b), some (boxD b), x] h := by
    obtain ⟨_, h1, e, ⟨x, rfl⟩, hh⟩ := for_ty (asg := gNm 2) (body := B__law_is_box_1) (gd := []) (fun i env h' => (∃ x, env = [some (boxD b), some (boxD b), x]) ∧ h' = h) b sideD (fun _ _ _ _ => by simp)
      (fun i env h' hi hI => by
        obtain ⟨⟨x, rfl⟩, rfl⟩ := hI
        refine ⟨_, rfl, _, _, .inl ?_, ⟨some (sideD b[i]), rfl⟩, rfl⟩
        generalize b[i] = s
        have f1 := F_integer s.1
        have f2 := F_integer s.2
        simp [sideD, kit_tt, f1, f2, sh_int, PyData.eqv])
      (env := [some (boxD b), some (boxD b), none]) (h := h) ⟨⟨_, rfl⟩, rfl⟩
    rw [hh] at e
    exact ⟨x, e⟩
  obtain ⟨x, e⟩ := L
  have t := toPs_map sideD sidePy b fun s _ => toP_side s
  have s1 := (Shp.box b).ok (by omega)
  have s2 := (Shp.box b).self
  unfold boxPy at s1 s2
  have s3 : PyData.eqvAll (b.map sidePy) (b.map sidePy) = true := by simpa [PyData.eqv] using s2
  unfold boxD at e ⊢
  simp [F__law_is_box, kit_tt, sh_int, PyData.eqv, e, t, s1, s3, p]
theorem cut_to {xs : List D} {i : Nat} (hi : i ≤ xs.length) : Ev.cutD xs none (some (i : Int)) = xs.take i := by
  unfold Ev.cutD
  rw [HT.sIx_none, HT.sIx_nat, Nat.min_eq_left hi]
  simp
theorem cut_from {xs : List D} {i : Nat} (hi : i ≤ xs.length) : Ev.cutD xs (some (i : Int)) none = xs.drop i := by
  unfold Ev.cutD
  rw [HT.sIx_none, HT.sIx_nat, Nat.min_eq_left hi]
  exact List.take_of_length_le (by simp)
end Lib
namespace EvQ
open PySem PySem.SeqAt GQ
open AutoSeq1 (wpAny_loadPart')
open MeetsSeq MeetsSeq2 MeetsSeq3 SeqRoads2
section
variable {prog : Program} {w : World} {A : Around} {R : Result → Shared → Prop}
theorem ne_loopG (l b : Addr) (N : Nat) (I : Nat → Shared → Prop) (hl : ListI prog w A (fun e s' => R (.error e) s') l b N I)
    (fin : ∀ s, I N s → R (.ok (.ret (.bool false))) s) (k : Nat) :
    ∀ i : Nat, N - i = k → i ≤ N → ∀ s, I i s →
      wpAny (model prog w) A.in1 (Builtin.«list.__eq__.loop» ⟨[.ref l, .ref b, rawInt i, rawInt 3], []⟩) (FinOf prog w A R) (fun e s' => R (.error e) s') s := by
  induction k with
  | zero =>
    intro i hk hi s h
    obtain ⟨items, items2, n, n2, hl1, hb1, hs1, hs2, _⟩ := hl _ _ h
    have hi' : i = N := by omega
    have hR : R (.ok (.ret (.bool false))) s := fin s (hi' ▸ h)
    obtain ⟨hp, g, d, tk, os⟩ := s
    wp_walk using wpAny_loadPart' hl1, wpAny_loadPart' hb1
    have hi1 : items[((i : Nat) : Int).toNat]? = none := by simp; omega
    have hi2 : items2[((i : Nat) : Int).toNat]? = none := by simp; omega
    rw [hi1, hi2]
    wp_walk using wpAny_loadPart' hl1, wpAny_loadPart' hb1
    show R (.ok (.ret (.bool (items.size != items2.size)))) _
    rw [hs1, hs2]
    simpa using hR
  | succ k ih =>
    intro i hk hi s h
    obtain ⟨items, items2, n, n2, hl1, hb1, hs1, hs2, turn⟩ := hl _ _ h
    have hlt : i < items.size := by omega
    have hlt2 : i < items2.size := by omega
    have ht := turn hlt hlt2
    obtain ⟨hp, g, d, tk, os⟩ := s
    wp_walk using wpAny_loadPart' hl1, wpAny_loadPart' hb1
    have hi1 : items[((i : Nat) : Int).toNat]? = some items[i] := by simp [hlt]
    have hi2 : items2[((i : Nat) : Int).toNat]? = some items2[i] := by simp [hlt2]
    have hc : ((i : Int) + 1) = ((i + 1 : Nat) : Int) := by omega
    rw [hi1, hi2]
    refine wpAny_bind (wpAny_mono ht (fun r s2 h2 => ?_) fun _ _ x => x)
    obtain ⟨hr, h2⟩ := h2
    subst hr
    have hrec := ih (i + 1) (by omega) (by omega) s2 h2
    obtain ⟨hp2, g2, d2, tk2, os2⟩ := s2
    wp_walk
    rw [hc]
    exact ⟨plainId_quiet plain_eq_loop _, codeAny_builtin entry_eq_loop (by
      rw [Around.under_plainId plain_eq_loop _]
      exact hrec)⟩
theorem list_neG (l b : Addr) (N : Nat) (I : Nat → Shared → Prop) (hl : ListI prog w A (fun e s' => R (.error e) s') l b N I)
    (fin : ∀ s, I N s → R (.ok (.ret (.bool false))) s) {s : Shared} (h : I 0 s) :
    wpAny (model prog w) A.in1 (Builtin.«list.__ne__» ⟨[.ref l, .ref b], []⟩) (FinOf prog w A R) (fun e s' => R (.error e) s') s := by
  obtain ⟨items, items2, n, n2, hl1, hb1, hs1, hs2, _⟩ := hl _ _ h
  have hrec := ne_loopG (A := A) (R := R) l b N I hl fin _ 0 rfl (Nat.zero_le _) s h
  obtain ⟨hp, g, d, tk, os⟩ := s
  have f3 := AutoSeq1.sub_list_list
  have hne : ¬ (items.size != items2.size) = true := by simp [hs1, hs2]
  wp_walk using wpAny_loadPart' hl1, wpAny_loadPart' hb1
  exact ⟨plainId_quiet plain_eq_loop _, codeAny_builtin entry_eq_loop (by
    rw [Around.under_plainId plain_eq_loop _]
    exact hrec)⟩
end
section
variable {prog : Program} {w : World} {A : Around} {E : Value → Shared → Prop} {s : Shared}
theorem rc_neG {l b : Addr} {N : Nat} {Q : Value → Shared → Prop} (hu : A.units < cLine) (I : Nat → Shared → Prop) (hl : ListI prog w A E l b N I)
    (fin : ∀ s, I N s → Q (.bool false) s) (h : I 0 s) : wpAny (model prog w) A (richCompare .NotEq (.ref l) (.ref b)) Q E s := by
  obtain ⟨items, items2, n, n2, hl1, hb1, _, _, _⟩ := hl _ _ h
  refine wpAny_richCompare_same_room (op := .NotEq) ⟨_, hl1, rfl⟩ ⟨_, hb1, rfl⟩ F.slot_list_ne (call_here F.slot_list_ne ⟨_, hl1, rfl⟩ F.entry_list_ne (F.args_list_ne_2 _ _) ?_) hu
  exact list_neG (R := wants (fun v s' => v ≠ .notImplemented ∧ Q v s') E) l b N I hl (fun s' q => ⟨(fun x => nomatch x), fin s' q⟩) h
end
end EvQ

namespace Ev
open PySem PySem.Spec PyProof.Rows L2
section
variable {g : G} {X : Cx} {n : Nat} {hp : HP}
/-- the state has grown, the live objects say what they said -/
def Grown (X : Cx) (g : G) (hp : HP) (pins : List (Addr × Obj)) (σ : L2.St) (m : AM) (H : Hp) (s' : Shared) : Prop := ∃ m' H', Inv X pins σ H' s' ∧ Ex m H m' H' ∧ HL g m' H' hp
/-- two copies of d are seen to be equal -/
def EqN (X : Cx) (g : G) (n : Nat) (hp : HP) (d : D) : Prop :=
  ∀ (A : Around) (pins : List (Addr × Obj)) (s : Shared) (σ : L2.St) (m : AM) (H : Hp) (x y : V) (u v : Value), Sub X n A → Inv X pins σ H s → HL g m H hp → rep g m H d x → rep g m H d y → RelV x u → RelV y v →
    wpAny (model X.prog X.w) A (eqBool u v) (fun r s' => r = true ∧ Grown X g hp pins σ m H s') X.xe s
theorem EqN.mono {n k : Nat} {d : D} (h : EqN X g n hp d) (l : n ≤ k) : EqN X g k hp d := fun A pins s σ m H x y u v sb => h A pins s σ m H x y u v (sb.mono l)
theorem eqN_flat {d : D} (hf : ∀ m H v, rep g m H d v → (flatV v = true ∧ eqV v v = true) ∧ ∀ w, rep g m H d w → w = v) : EqN X g n hp d := by
  intro A pins s σ m H x y u v sb I hl rx ry ru rv
  obtain ⟨⟨f, e⟩, q⟩ := hf m H x rx
  obtain rfl := q y ry
  have z := eqAt_V (A := A) (s := s) ru rv f f
  rw [e] at z
  exact z X.prog X.w X.xe _ ⟨rfl, m, H, I, Ex.refl _ _, hl⟩
theorem eqN_int {i : Int} : EqN X g n hp (.int i) := eqN_flat fun m H v r => by
  simp only [rep] at r
  subst r
  exact ⟨⟨rfl, by simp [eqV]⟩, fun w r => by simpa [rep] using r⟩
theorem eqN_str {i : Str} : EqN X g n hp (.str i) := eqN_flat fun m H v r => by
  simp only [rep] at r
  subst r
  exact ⟨⟨rfl, by simp [eqV]⟩, fun w r => by simpa [rep] using r⟩
theorem eqN_bl {i : Bool} : EqN X g n hp (.bl i) := eqN_flat fun m H v r => by
  simp only [rep] at r
  subst r
  exact ⟨⟨rfl, by simp [eqV]⟩, fun w r => by simpa [rep] using r⟩
theorem eqN_non : EqN X g n hp .non := eqN_flat fun m H v r => by
  simp only [rep] at r
  subst r
  exact ⟨⟨rfl, by simp [eqV]⟩, fun w r => by simpa [rep] using r⟩

theorem turnN (hK : X.K = g.K) {ds : List D} (hd : ∀ d ∈ ds, EqN X g n hp d) {A : Around} (sb : Sub X (n + 1) A) {pins : List (Addr × Obj)} {σ : L2.St} {m m1 : AM} {H H1 : Hp} {xs ys : List V} {its its2 : List Value}
    (r1 : reps g m1 H1 ds xs) (r2 : reps g m1 H1 ds ys) (q1 : Vals xs its) (q2 : Vals ys its2) (s' : Shared) (I1 : Inv X pins σ H1 s') (e1 : Ex m H m1 H1) (hl : HL g m1 H1 hp)
    (i : Nat) (h1 : i < its.toArray.size) (h2 : i < its2.toArray.size) :
    wpAny (model X.prog X.w) A.in1 (eqBool its.toArray[i] its2.toArray[i]) (fun r s2 => r = true ∧ Grown X g hp pins σ m H s2) X.xe s' := by
  have g1 : its[i]? = some its.toArray[i] := by
    have h1' : i < its.length := by simpa using h1
    rw [List.getElem?_eq_getElem h1'] <;> simp
  have g2 : its2[i]? = some its2.toArray[i] := by
    have h2' : i < its2.length := by simpa using h2
    rw [List.getElem?_eq_getElem h2'] <;> simp
  have k1 : i < xs.length := by rw [q1.length]; simpa using h1
  have kd : i < ds.length := by rw [r1.length]; exact k1
  obtain ⟨x, ex, rx⟩ := r1.get (List.getElem?_eq_getElem kd)
  obtain ⟨y, ey, ry⟩ := r2.get (List.getElem?_eq_getElem kd)
  obtain ⟨u, hu, ru⟩ := q1.get ex
  obtain ⟨v, hv, rv⟩ := q2.get ey
  rw [g1] at hu
  rw [g2] at hv
  rw [Option.some.inj hu, Option.some.inj hv]
  refine wpAny_mono (hd _ (List.getElem_mem kd) A.in1 pins s' σ m1 H1 x y u v sb.in1 I1 hl rx ry ru rv) (fun r s2 q => ?_) fun _ _ x => x
  obtain ⟨hr, m2, H2, I2, x2, hl2⟩ := q
  exact ⟨hr, m2, H2, I2, e1.trans x2, hl2⟩
theorem eqN_tup (hK : X.K = g.K) {ds : List D} (hd : ∀ d ∈ ds, EqN X g n hp d) : EqN X g (n + 1) hp (.tup ds) := by
  intro A pins s σ m H x y u v sb I hl rx ry ru rv
  obtain ⟨a, xs, rfl, fa, ra⟩ := rTup rx
  obtain ⟨b, ys, rfl, fb, rb⟩ := rTup ry
  rw [← hK] at fa fb
  cases ru
  cases rv
  by_cases hab : a = b
  · subst hab
    exact SeqAt.EqAt.same (A := A) (s := s) (.ref a) X.prog X.w X.xe _ ⟨rfl, m, H, I, Ex.refl _ _, hl⟩
  · refine GQ.eqBool_refG hab ?_
    obtain ⟨its, r, e, z⟩ := I.tuple fa
    obtain ⟨its2, r2, e2, z2⟩ := I.tuple fb
    have hsz : its.toArray.size = its2.toArray.size := by
      rw [List.size_toArray, List.size_toArray, ← r.length, ← r2.length, ← ra.length, ← rb.length]
    refine GQ.rc_tupG hsz sb.room.units0 (fun _ s' => Grown X g hp pins σ m H s') e e2 (fun i h1 h2 s' q => ?_) (fun s' q => ⟨true, rfl, rfl, q⟩) ⟨m, H, I, Ex.refl _ _, hl⟩
    obtain ⟨m1, H1, I1, e1, hl1⟩ := q
    exact turnN hK hd sb (reps.ext e1 _ _ ra) (reps.ext e1 _ _ rb) r r2 s' I1 e1 hl1 i h1 h2
/-- the own == of a class, at these fields -/
structure OwnQ (X : Cx) (g : G) (CX : CXT) (E : XK) (c n : Nat) (F : FA) (f : Addr) (fd : FuncData) (ps : List Str) : Prop where
  ok : FnOk X.prog X.w X.K X.mg X.base CX n f fd ps (spF g 2 F)
  at_ : PySem.W.findIn X.K (.ref (g.cA c)) "__eq__" = some (some (.ref f))
  fn : PySem.W.isFn X.K (.ref f) = true
  bind : Binds X.K fd ps []
  pass : Passes CX X E
theorem eqN_ins {CX : CXT} {c : Nat} {F : FA} {f : Addr} {fd : FuncData} {ps : List Str} (O : OwnQ X g CX (fun _ _ _ => False) c n F f fd ps) {fs : List (Str × D)} (hF : F [.ins c fs, .ins c fs] hp = .ok (.bl true) hp) : EqN X g n hp (.ins c fs) := by
  intro A pins s σ m H x y u v sb I hl rx ry ru rv
  have rx' := rx
  have ry' := ry
  simp only [rep] at rx ry
  obtain ⟨a, dx, xs, rfl, ha, _, _⟩ := rx
  obtain ⟨b, dy, ys, rfl, hb, _, _⟩ := ry
  cases ru
  cases rv
  by_cases hab : a = b
  · subst hab
    exact SeqAt.EqAt.same (A := A) (s := s) (.ref a) X.prog X.w X.xe _ ⟨rfl, m, H, I, Ex.refl _ _, hl⟩
  · refine GQ.eqBool_refG hab ?_
    obtain ⟨mA, J, _⟩ := ins_get I.hok ha
    obtain ⟨mB, J', _⟩ := ins_get I.hok hb
    obtain ⟨od, J, _⟩ := J.look
    obtain ⟨od', J', _⟩ := J'.look
    obtain ⟨mm, hF'⟩ := I.fr
    refine PySem.W.cmp_K (op := .Eq) (tb := .ref (g.cA c)) sb.room.units0 hF' I.ok.mod.kin J J'.type (by simp [PySem.W.notFirst]) O.at_ O.fn ?_
    have hsp : spF g 2 F [.ref a, .ref b] H (fun v H' => v = .bl true ∧ ∃ m', Ex m H m' H' ∧ HL g m' H' hp) (fun _ _ _ => False) := by
      refine ⟨rfl, m, hp, [.ins c fs, .ins c fs], hl, ?_, ?_⟩
      · exact ⟨_, _, rfl, rx', _, _, rfl, ry', rfl⟩
      · rw [hF]
        intro m' H' v x' hl' rv
        simp only [rep] at rv
        exact ⟨rv, m', x', hl'⟩
    have e0 : Env0 X.prog X.w X.K X.mg X.base A X.stack s H := by
      have e := I.env0
      exact ⟨by rw [sb.fr]; exact e.frames, e.mod, e.bs, e.bsz, e.funs, e.frf, e.hok, e.bare⟩
    have hl2 := O.ok.len _ _ _ _ hsp
    have r2 : Vals [V.ref a, V.ref b] [Value.ref a, Value.ref b] := .cons rfl (.cons rfl .nil)
    refine wpAny_call (codeAny_mono (O.ok.run A X.stack s H ⟨[.ref a, .ref b], []⟩ [.ref a, .ref b] [.ref a, .ref b] _ _ sb.room e0 (by
      have := O.bind s [.ref a, .ref b] I.kIn (by simpa using hl2)
      simpa using this) r2 hsp) fun r s' hq => ?_)
    cases r with
    | error e => exact O.pass pins σ H s e s' I hq
    | ok fl =>
      cases fl with
      | ret w =>
        obtain ⟨z, H', I', rz, ez, m', ex, hl'⟩ := I.after hq
        subst ez
        cases rz
        exact ⟨true, rfl, rfl, m', H', I', ex, hl'⟩
      | next => exact False.elim hq
      | brk => exact False.elim hq
      | cont => exact False.elim hq

/-- what the own == says is equal to itself; F: the classes' own == -/
def owD (F : Nat → FA) (h : HP) : Nat → D → Prop
  | 0, _ => False
  | n + 1, .tup ds => ∀ d ∈ ds, owD F h n d
  | _ + 1, .ins c fs => F c [.ins c fs, .ins c fs] h = .ok (.bl true) h
  | _ + 1, .int _ => True
  | _ + 1, .str _ => True
  | _ + 1, .bl _ => True
  | _ + 1, .non => True
  | _ + 1, _ => False
/-- the classes' own ==, those that are known -/
def Owns (X : Cx) (g : G) (n : Nat) (F : Nat → FA) : Prop := ∀ c, (∃ CX f fd ps, OwnQ X g CX (fun _ _ _ => False) c n (F c) f fd ps) ∨ ∀ ds h, F c ds h = .stuck
theorem owD_ok {F : Nat → FA} {n0 : Nat} (hK : X.K = g.K) (O : Owns X g n0 F) : ∀ (k : Nat) (d : D), owD F hp k d → EqN X g (n0 + k) hp d
  | 0, _, h => (show False from h).elim
  | k + 1, .tup ds, h => eqN_tup hK fun d hd => owD_ok hK O k d (by
      simp only [owD] at h
      exact h d hd)
  | k + 1, .ins c fs, h => by
    simp only [owD] at h
    rcases O c with ⟨CX, f, fd, ps, o⟩ | o
    · exact (eqN_ins o h).mono (by omega)
    · rw [o] at h
      cases h
  | _ + 1, .int _, _ => eqN_int
  | _ + 1, .str _, _ => eqN_str
  | _ + 1, .bl _, _ => eqN_bl
  | _ + 1, .non, _ => eqN_non
  | _ + 1, .lst _, h => by simp [owD] at h
  | _ + 1, .klst _, h => by simp [owD] at h
  | _ + 1, .dic _, h => by simp [owD] at h
  | _ + 1, .ref _, h => by simp [owD] at h
/-- the items of a list -/
@[simp] def lsD (h : HP) : D → Option (List D)
  | .lst ds => some ds
  | .ref i => match h[i]? with
    | some (.lst ds) => some ds
    | _ => none
  | _ => none
theorem lsD_ok {m : AM} {H : Hp} {d : D} {v : V} {ds : List D} (hl : HL g m H hp) (r : rep g m H d v) (e : lsD hp d = some ds) : ∃ a vs, v = .ref a ∧ H a = some (.lst vs) ∧ reps g m H ds vs := by
  cases d with
  | lst es =>
    simp only [lsD, Option.some.injEq] at e
    subst e
    simp only [rep] at r
    obtain ⟨a, vs, rfl, e, _, rr⟩ := r
    exact ⟨a, vs, rfl, e, rr⟩
  | ref i =>
    simp only [lsD] at e
    split at e
    · rename_i es q
      cases e
      obtain ⟨a, ea, vs, ha, rv⟩ := hl.at q (by simp)
      simp only [rep] at r
      exact ⟨a, vs, r.2 a ea, ha, rv⟩
    · cases e
  | _ => simp [lsD] at e
open Classical in
/-- two lists that say the same -/
@[simp] noncomputable def sameLs (F : Nat → FA) (b : Bool) : Option (List D) → Option (List D) → HP → R D
  | some ds, some es, h => if ds = es ∧ ∀ d ∈ ds, owD F h 6 d then .ok (.bl b) h else .stuck
  | _, _, _ => .stuck
@[simp] noncomputable def sameL (F : Nat → FA) (b : Bool) (x y : D) (h : HP) : R D := sameLs F b (lsD h x) (lsD h y) h
def rSameL (g : G) (F : Nat → FA) (b : Bool) : R2 := fun x y H Q => ∃ m hp d e ds, HL g m H hp ∧ rep g m H d x ∧ rep g m H e y ∧ lsD hp d = some ds ∧ lsD hp e = some ds ∧ (∀ d ∈ ds, owD F hp 6 d) ∧
  ∀ m' H', Ex m H m' H' → HL g m' H' hp → Q (.bl b) H'
theorem ok2_same {F : Nat → FA} {b : Bool} {E : XK} : OK2 g E (rSameL g F b) (sameL F b) := by
  intro m H hp x y v u Q hl rx ry h
  unfold sameL sameLs at h
  split at h
  · split at h
    · rename_i _ _ _ ds es _ e1 e2 c
      obtain ⟨rfl, c⟩ := c
      exact ⟨m, _, x, y, _, hl, rx, ry, e1, e2, c, fun m' H' ex hl' => h m' H' _ ex hl' (by simp [rep])⟩
    · exact h.elim
  · exact h.elim
theorem listI_same {F : Nat → FA} {n0 : Nat} (hK : X.K = g.K) (O : Owns X g n0 F) {A : Around} (sb : Sub X (n0 + 7) A) {pins : List (Addr × Obj)} {σ : L2.St} {m : AM} {H : Hp} {d e : D} {ds : List D} {a b : Addr}
    (r1 : rep g m H d (.ref a)) (r2 : rep g m H e (.ref b)) (e1 : lsD hp d = some ds) (e2 : lsD hp e = some ds) (hd : ∀ d ∈ ds, owD F hp 6 d) :
    GQ.ListI X.prog X.w A X.xe a b ds.length (fun _ s' => Grown X g hp pins σ m H s') := by
  intro i' s' q
  obtain ⟨m1, H1, I1, x1, hl1⟩ := q
  obtain ⟨a', xs, qa, ha, ra⟩ := lsD_ok hl1 (rep.ext x1 _ _ r1) e1
  obtain ⟨b', ys, qb, hb, rb⟩ := lsD_ok hl1 (rep.ext x1 _ _ r2) e2
  cases qa
  cases qb
  obtain ⟨z, its, k, r, e⟩ := I1.hok a _ ha
  obtain ⟨z2, its2, k2, r2, e2'⟩ := I1.hok b _ hb
  refine ⟨its.toArray, its2.toArray, k, k2, e, e2', by rw [List.size_toArray, ← r.length, ← ra.length], by rw [List.size_toArray, ← r2.length, ← rb.length], fun h1 h2 => ?_⟩
  exact turnN hK (fun d m => owD_ok hK O 6 d (hd d m)) sb ra rb r r2 s' I1 x1 hl1 i' h1 h2
theorem op_neSame {F : Nat → FA} {n0 : Nat} (hK : X.K = g.K) (O : Owns X g n0 F) (hr : Room (n0 + 7) X.A) : OpR X (compareOp .NotEq) (rSameL g F false) := by
  intro pins s σ H x y v u Q I rx ry h
  obtain ⟨m, hp, d, e, ds, hl, r1, r2, e1, e2, hd, q⟩ := h
  obtain ⟨a, vs, rfl, ha, rv⟩ := lsD_ok hl r1 e1
  obtain ⟨b, ws, rfl, hb, rw'⟩ := lsD_ok hl r2 e2
  cases rx
  cases ry
  show wpAny (model X.prog X.w) X.A (richCompare .NotEq (.ref a) (.ref b)) (EP X pins σ Q) X.xe s
  refine EvQ.rc_neG hr.units0 (fun _ s' => Grown X g hp pins σ m H s') (listI_same hK O ⟨hr, rfl⟩ r1 r2 e1 e2 hd) (fun s' q' => ?_) ⟨m, H, I, Ex.refl _ _, hl⟩
  obtain ⟨m', H', I', ex, hl'⟩ := q'
  exact ⟨.bl false, H', I', rfl, q m' H' ex hl'⟩
theorem op_eqSame {F : Nat → FA} {n0 : Nat} (hK : X.K = g.K) (O : Owns X g n0 F) (hr : Room (n0 + 7) X.A) : OpR X (compareOp .Eq) (rSameL g F true) := by
  intro pins s σ H x y v u Q I rx ry h
  obtain ⟨m, hp, d, e, ds, hl, r1, r2, e1, e2, hd, q⟩ := h
  obtain ⟨a, vs, rfl, ha, rv⟩ := lsD_ok hl r1 e1
  obtain ⟨b, ws, rfl, hb, rw'⟩ := lsD_ok hl r2 e2
  cases rx
  cases ry
  show wpAny (model X.prog X.w) X.A (richCompare .Eq (.ref a) (.ref b)) (EP X pins σ Q) X.xe s
  refine GQ.rc_listG hr.units0 (fun _ s' => Grown X g hp pins σ m H s') (listI_same hK O ⟨hr, rfl⟩ r1 r2 e1 e2 hd) (fun s' q' => ?_) ⟨m, H, I, Ex.refl _ _, hl⟩
  obtain ⟨m', H', I', ex, hl'⟩ := q'
  exact ⟨.bl true, H', I', rfl, q m' H' ex hl'⟩
theorem ok_neO {F : Nat → FA} {n0 : Nat} {E : XK} (hK : X.K = g.K) (O : Owns X g n0 F) (hr : Room (n0 + 7) X.A) : OKS X g E (compareOp .NotEq) (sameL F false) := ⟨_, op_neSame hK O hr, ok2_same⟩
theorem ok_eqO {F : Nat → FA} {n0 : Nat} {E : XK} (hK : X.K = g.K) (O : Owns X g n0 F) (hr : Room (n0 + 7) X.A) : OKS X g E (compareOp .Eq) (sameL F true) := ⟨_, op_eqSame hK O hr, ok2_same⟩
def own1 (c0 : Nat) (F0 : FA) : Nat → FA := fun c => if c = c0 then F0 else fun _ _ => .stuck
@[simp] theorem own1_at (c0 : Nat) (F0 : FA) : own1 c0 F0 c0 = F0 := if_pos rfl
theorem owns1 {c0 n : Nat} {F0 : FA} {f : Addr} {fd : FuncData} {ps : List Str} (me : Meth X.K (g.cA c0) "__eq__" f) (o : FnOk X.prog X.w X.K X.mg X.base CX0 n f fd ps (spF g 2 F0)) (b : Binds X.K fd ps []) : Owns X g n (own1 c0 F0) := fun c => by
  by_cases h : c = c0
  · subst h
    exact .inl ⟨CX0, f, fd, ps, by rw [own1_at]; exact o, me.1, me.2, b, fun _ _ _ _ _ _ _ h => h.elim⟩
  · exact .inr fun ds hp => by rw [own1, if_neg h]

/-! isinstance(x, C), an own class -/
structure Isi (K : PySem.W.Frag) (C : Addr) : Prop where
  ha : PySem.W.findIn K (.ref C) "__class__" = some (some (.builtin "object.__class__"))
  hn : PySem.W.specialIn K (.builtin "object.__class__") "__get__" = some (some (.builtin "getset_descriptor.__get__"))
  ht : PySem.W.takesIn K (.builtin "object.__class__") = some true
  hm : PySem.W.mroIn K C (.type "object") = some true
@[simp] def kIsC (c : Nat) : D → HP → R D
  | .ins c' _, h => if c' = c then .ok (.bl true) h else .stuck
  | _, _ => .stuck
@[simp] def mIsC (c : Nat) (a : M D) (env : EN) (hp : HP) : R D := (a env hp).bind (kIsC c)
theorem EV.isC {E : XK} {c : Nat} {t isi : Str} {a : Expr} {p p2 pos : Pos} {fa : M D} (hK : X.K = g.K) (he0 : isi = "isinstance") (hm : X.mg isi = none) (hmt : X.mg t = some (.ref (g.cA c))) (tc : Cls X.K (g.cA c)) (ui : Isi X.K (g.cA c)) (ha : EV g X E a fa) (hg : Gl X isi) (hgt : Gl X t) (hd : (t == ("__debug__" : Str)) = false)
    (he : starEach [a, .Name t p2] X.env = (false, eval a X.env) :: starEach [.Name t p2] X.env) : EV g X E (.Call (.Name isi p) [a, .Name t p2] [] pos) (mIsC c fa) := by
  subst he0
  obtain ⟨ta, pa, qa⟩ := ha
  refine ⟨_, pe_callB call_isi hg hm (by decide +kernel) (pa_cons pa (pa_cons (pe_glob (v := .ref (g.cA c)) hgt hmt rfl hd) pa_nil rfl) he) (by decide) (by decide) he rfl, fun σ H Q m env hp hl er h => ?_⟩
  refine qa σ H _ m env hp hl er (PO.bind h fun x h1 m1 H1 v x1 hl1 r1 h => ?_)
  cases x with
  | ins c' fs =>
    simp only [kIsC] at h
    by_cases e : c' = c
    · subst e
      rw [if_pos rfl] at h
      simp only [rep] at r1
      obtain ⟨a, dx, vs, rfl, e, _⟩ := r1
      exact ⟨_, .ref (g.cA c'), .ref (g.cA c'), .ref (g.cA c'), true, rfl, .own _, .base (.ins e tc ui.ha ui.hn ui.ht ui.hm), by simp [PySem.W.kitOne], PO.here hl1 h (by simp [rep])⟩
    · rw [if_neg e] at h
      exact h.elim
  | _ => exact h.elim
end
end Ev
namespace Ev
open PySem PySem.Spec PyProof.Rows L2
section
variable {g : G} {X : Cx} {n : Nat} {hp : HP}
/-- no built-in type stands below an own class -/
def TB (T : String) : Bool := T == "NoneType" || T == "bool" || T == "int" || T == "str" || T == "tuple" || T == "list" || T == "dict"
theorem sub_tb {K : PySem.W.Frag} {T : String} {C : Addr} (h : TB T = true) : PySem.W.subIn K (.type T) (.ref C) = some false := by
  unfold TB at h
  simp only [Bool.or_eq_true, beq_iff_eq] at h
  rcases h with (((((rfl | rfl) | rfl) | rfl) | rfl) | rfl) | rfl <;> kernel_rfl
theorem tb_of {h : HP} {d : D} {T : String} (e : tyD h d = some T) : TB T = true := by
  cases d with
  | non => cases e; rfl
  | bl _ => cases e; rfl
  | int _ => cases e; rfl
  | str _ => cases e; rfl
  | tup _ => cases e; rfl
  | lst _ => cases e; rfl
  | dic _ => cases e; rfl
  | klst _ => cases e
  | ins _ _ => cases e
  | ref n =>
    simp only [tyD] at e
    unfold tyO at e
    split at e
    · cases e; rfl
    · cases e; rfl
    · cases e
theorem kit_tb {K : PySem.W.Frag} {T : String} {C : Addr} (h : TB T = true) (hm : PySem.W.mroIn K C (.type "object") = some true) (ht : PySem.W.typeIn K (.ref C) = some (.type "type")) : PySem.W.kitOne K (.type T) (.ref C) = some false := by
  unfold PySem.W.kitOne
  have e : (Value.type T == Value.ref C) = false := rfl
  rw [e]
  unfold PySem.W.kitCls
  have c : (PySem.W.clsIn K C).isSome = true := by
    unfold PySem.W.mroIn at hm
    cases z : PySem.W.clsIn K C with
    | none => rw [z] at hm; cases hm
    | some _ => rfl
  simp [c, ht, sub_tb h]
/-! x == y, two objects of one class with an own ==: the def's answer -/
@[simp] def boR : R D → R D
  | .ok (.bl b) h => .ok (.bl b) h
  | _ => .stuck
/-- pairs of own classes of which the first one does not stand below the second one -/
structure DifT (K : PySem.W.Frag) (cA : Nat → Addr) (dp : Nat → Nat → Bool) : Prop where
  df : ∀ a b, dp a b = true → PySem.W.mroIn K (cA a) (.ref (cA b)) = some false
  ne : ∀ a b, dp a b = true → cA a ≠ cA b
theorem kit_df {K : PySem.W.Frag} {cA : Nat → Addr} {dp : Nat → Nat → Bool} (W : DifT K cA dp) {a b : Nat} (h : dp a b = true) (hm : PySem.W.mroIn K (cA b) (.type "object") = some true) (ht : PySem.W.typeIn K (.ref (cA b)) = some (.type "type")) : PySem.W.kitOne K (.ref (cA a)) (.ref (cA b)) = some false := by
  unfold PySem.W.kitOne
  have e : (Value.ref (cA a) == Value.ref (cA b)) = false := by simp [W.ne a b h]
  rw [e]
  unfold PySem.W.kitCls
  have c : (PySem.W.clsIn K (cA b)).isSome = true := by
    unfold PySem.W.mroIn at hm
    cases z : PySem.W.clsIn K (cA b) with
    | none => rw [z] at hm; cases hm
    | some _ => rfl
  simp [c, ht, PySem.W.subIn, W.df a b h]
/-- the other side: an object of the class, of another one, or a value of a built-in type -/
@[simp] def othC (dp : Nat → Nat → Bool) (c : Nat) (h : HP) : D → Bool
  | .ins c' _ => c' == c || dp c' c
  | d => (tyD h d).isSome
@[simp] def fEqI (dp : Nat → Nat → Bool) (F : Nat → FA) (x y : D) (h : HP) : R D := match x with
  | .ins c fs => if othC dp c h y = true then boR (F c [.ins c fs, y] h) else .stuck
  | _ => .stuck
def rEqI (g : G) (dp : Nat → Nat → Bool) (F : Nat → FA) : R2 := fun x y H Q => ∃ m hp hp' c fs e b, HL g m H hp ∧ rep g m H (.ins c fs) x ∧ rep g m H e y ∧ othC dp c hp e = true ∧ F c [.ins c fs, e] hp = .ok (.bl b) hp' ∧ ∀ m' H', Ex m H m' H' → HL g m' H' hp' → Q (.bl b) H'
theorem ok2_eqI {dp : Nat → Nat → Bool} {F : Nat → FA} {E : XK} : OK2 g E (rEqI g dp F) (fEqI dp F) := by
  intro m H hp x y v u Q hl rx ry h
  unfold fEqI at h
  split at h
  · split at h
    · rename_i c fs e
      cases hF : F c [.ins c fs, y] hp with
      | ok d hp' =>
        rw [hF] at h
        cases d with
        | bl b => exact ⟨m, hp, hp', c, fs, y, b, hl, rx, ry, e, hF, fun m' H' ex hl' => h m' H' _ ex hl' (by simp [rep])⟩
        | _ => exact h.elim
      | exc _ _ _ => rw [hF] at h; exact h.elim
      | stuck => rw [hF] at h; exact h.elim
    · exact h.elim
  · exact h.elim
/-- the other side's type, which does not go first -/
theorem oth_ok {pins : List (Addr × Obj)} {σ : L2.St} {s : Shared} {m : AM} {H : Hp} {c : Nat} {e : D} {y : V} {u : Value} {dp : Nat → Nat → Bool} (W : DifT X.K g.cA dp) (hK : X.K = g.K) (I : Inv X pins σ H s) (hl : HL g m H hp) (r : rep g m H e y) (ry : RelV y u) (o : othC dp c hp e = true) :
    ∃ tb, PySem.W.Looks (model X.prog X.w) s.heap (typeOf u) tb ∧ PySem.W.notFirst X.K (g.cA c) tb = true := by
  have nb : ∀ T, tyD hp e = some T → ∃ tb, PySem.W.Looks (model X.prog X.w) s.heap (typeOf u) tb ∧ PySem.W.notFirst X.K (g.cA c) tb = true := fun T q => by
    obtain ⟨P, Z, p, _⟩ := kit_of I ry (hK ▸ tyD_ok hl r q)
    exact ⟨_, Z.ty _ _ I.kIn p, by simp [PySem.W.notFirst, sub_tb (tb_of q)]⟩
  cases e with
  | ins c' fs =>
    simp only [othC, Bool.or_eq_true, beq_iff_eq] at o
    simp only [rep] at r
    obtain ⟨b, dy, ys, rfl, hb, _, _⟩ := r
    cases ry
    obtain ⟨mB, J', _⟩ := ins_get I.hok hb
    obtain ⟨od', J', _⟩ := J'.look
    rcases o with rfl | o
    · exact ⟨_, J'.type, by simp [PySem.W.notFirst]⟩
    · exact ⟨_, J'.type, by simp [PySem.W.notFirst, PySem.W.subIn, W.df _ _ o]⟩
  | _ =>
    simp only [othC, Option.isSome_iff_exists] at o
    obtain ⟨T, q⟩ := o
    exact nb T q
theorem op_eqI {dp : Nat → Nat → Bool} {F : Nat → FA} {n0 : Nat} (W : DifT X.K g.cA dp) (hK : X.K = g.K) (O : Owns X g n0 F) (hr : Room n0 X.A) : OpR X (compareOp .Eq) (rEqI g dp F) := by
  intro pins s σ H x y v u Q I rx ry h
  obtain ⟨m, hp, hp', c, fs, e, b0, hl, r1, r2, ot, hF, q⟩ := h
  rcases O c with ⟨CX, f, fd, ps, o⟩ | o
  · have r1' := r1
    obtain ⟨tb, hty, hnf⟩ := oth_ok W hK I hl r2 ry ot
    simp only [rep] at r1
    obtain ⟨a, dx, xs, rfl, ha, _, _⟩ := r1
    cases rx
    obtain ⟨mA, J, _⟩ := ins_get I.hok ha
    obtain ⟨od, J, _⟩ := J.look
    obtain ⟨mm, hF'⟩ := I.fr
    show wpAny (model X.prog X.w) X.A (richCompare .Eq (.ref a) u) (EP X pins σ Q) X.xe s
    refine PySem.W.cmp_K (op := .Eq) (tb := tb) hr.units0 hF' I.ok.mod.kin J hty hnf o.at_ o.fn ?_
    have hsp : spF g 2 (F c) [.ref a, y] H (fun v H' => v = .bl b0 ∧ ∃ m', Ex m H m' H' ∧ HL g m' H' hp') (fun _ _ _ => False) := by
      refine ⟨rfl, m, hp, [.ins c fs, e], hl, ⟨_, _, rfl, r1', _, _, rfl, r2, rfl⟩, ?_⟩
      rw [hF]
      intro m' H' v x' hl' rv
      simp only [rep] at rv
      exact ⟨rv, m', x', hl'⟩
    have hl2 := o.ok.len _ _ _ _ hsp
    have rr : Vals [V.ref a, y] [Value.ref a, u] := .cons rfl (.cons ry .nil)
    refine wpAny_call (codeAny_mono (o.ok.run X.A X.stack s H ⟨[.ref a, u], []⟩ [.ref a, u] [.ref a, y] _ _ hr I.env0 (by
      have := o.bind s [.ref a, u] I.kIn (by simpa using hl2)
      simpa using this) rr hsp) fun r s' hq => ?_)
    cases r with
    | error e => exact o.pass pins σ H s e s' I hq
    | ok fl =>
      cases fl with
      | ret w =>
        obtain ⟨z, H', I', rz, ez, m', ex, hl'⟩ := I.after hq
        subst ez
        cases rz
        exact ⟨.bl b0, H', I', rfl, q m' H' ex hl'⟩
      | next => exact False.elim hq
      | brk => exact False.elim hq
      | cont => exact False.elim hq
  · rw [o] at hF
    cases hF
theorem ok_eqI {dp : Nat → Nat → Bool} {F : Nat → FA} {n0 : Nat} {E : XK} (W : DifT X.K g.cA dp) (hK : X.K = g.K) (O : Owns X g n0 F) (hr : Room n0 X.A) : OKS X g E (compareOp .Eq) (fEqI dp F) := ⟨_, op_eqI W hK O hr, ok2_eqI⟩
/-! isinstance(x, C), an own class; x an object of the class, or a value of a built-in type -/
@[simp] def bNo : Option String → HP → R D
  | some _, h => .ok (.bl false) h
  | none, _ => .stuck
@[simp] def kIsD (dp : Nat → Nat → Bool) (c : Nat) : D → HP → R D
  | .ins c' _, h => if c' = c then .ok (.bl true) h else if dp c' c = true then .ok (.bl false) h else .stuck
  | d, h => bNo (tyD h d) h
@[simp] def mIsD (dp : Nat → Nat → Bool) (c : Nat) (a : M D) (env : EN) (hp : HP) : R D := (a env hp).bind (kIsD dp c)
theorem EV.isD {E : XK} {dp : Nat → Nat → Bool} {c : Nat} {t isi : Str} {a : Expr} {p p2 pos : Pos} {fa : M D} (hK : X.K = g.K) (he0 : isi = "isinstance") (hm : X.mg isi = none) (hmt : X.mg t = some (.ref (g.cA c))) (W : DifT X.K g.cA dp) (tc : ∀ c, Cls X.K (g.cA c)) (ui : ∀ c, Isi X.K (g.cA c)) (ty : PySem.W.typeIn X.K (.ref (g.cA c)) = some (.type "type")) (ha : EV g X E a fa) (hg : Gl X isi) (hgt : Gl X t) (hd : (t == ("__debug__" : Str)) = false)
    (he : starEach [a, .Name t p2] X.env = (false, eval a X.env) :: starEach [.Name t p2] X.env) : EV g X E (.Call (.Name isi p) [a, .Name t p2] [] pos) (mIsD dp c fa) := by
  subst he0
  obtain ⟨ta, pa, qa⟩ := ha
  refine ⟨_, pe_callB call_isi hg hm (by decide +kernel) (pa_cons pa (pa_cons (pe_glob (v := .ref (g.cA c)) hgt hmt rfl hd) pa_nil rfl) he) (by decide) (by decide) he rfl, fun σ H Q m env hp hl er h => ?_⟩
  refine qa σ H _ m env hp hl er (PO.bind h fun x h1 m1 H1 v x1 hl1 r1 h => ?_)
  have nb : PO g m1 H1 E (rep g) Q (bNo (tyD h1 x) h1) → rIsi X.K [v, .ref (g.cA c)] H1 Q := fun h => by
    cases q : tyD h1 x with
    | none => rw [q] at h; exact h.elim
    | some T =>
      rw [q] at h
      exact ⟨_, .ref (g.cA c), .type T, .ref (g.cA c), false, rfl, .own _, hK ▸ tyD_ok hl1 r1 q, kit_tb (tb_of q) (ui c).hm ty, PO.here hl1 h (by simp [rep])⟩
  cases x with
  | ins c' fs =>
    simp only [kIsD] at h
    by_cases e : c' = c
    · subst e
      rw [if_pos rfl] at h
      simp only [rep] at r1
      obtain ⟨a, dx, vs, rfl, e, _⟩ := r1
      exact ⟨_, .ref (g.cA c'), .ref (g.cA c'), .ref (g.cA c'), true, rfl, .own _, .base (.ins e (tc c') (ui c').ha (ui c').hn (ui c').ht (ui c').hm), by simp [PySem.W.kitOne], PO.here hl1 h (by simp [rep])⟩
    · rw [if_neg e] at h
      by_cases z : dp c' c = true
      · rw [if_pos z] at h
        simp only [rep] at r1
        obtain ⟨a, dx, vs, rfl, e, _⟩ := r1
        exact ⟨_, .ref (g.cA c), .ref (g.cA c'), .ref (g.cA c), false, rfl, .own _, .base (.ins e (tc c') (ui c').ha (ui c').hn (ui c').ht (ui c').hm), kit_df W z (ui c).hm ty, PO.here hl1 h (by simp [rep])⟩
      · rw [if_neg z] at h
        exact h.elim
  | _ => exact nb h
end
end Ev
namespace EvQ
open PySem PySem.W PySem.Calls PyProof.Rows
section
variable {prog : Program} {w : World} {A : Around} {E : Value → Shared → Prop} {s : Shared} {K : Frag} {x C f : Addr} {ox : Obj} {od : Option Obj} {b tb : Value} {h₀ : Heap} {L : Addr} {m : Str → Option Value}
theorem ifBound_blt {M : Model} {args : List Value} {name : Str} {id : String} {Q : Option Value → Shared → Prop} (X : K.In s.heap) (I : InstAt s.heap x ox C od) (hs : findIn K (.ref C) name = some (some (.builtin id)))
    (hb : ∀ self, bindSpecial (.builtin id) self = pure (.builtin id, [self])) (h : wpAny M A (call (.builtin id) (.ref x :: args)) (fun v => Q (some v)) E s) : wpAny M A (callSpecialIfBound? (.ref x) name args) Q E s := by
  simp only [callSpecialIfBound?, bindSpecialIfBound?]
  refine wpAny_holding (wpAny_bind (wpAny_bind (wpAny_bind (I.type.here ((looks_findIn X hs).here ?_)))))
  simp only [hb]
  refine wpAny_bind (wpAny_askSetting (wpAny_ite ?_))
  have fin : wpAny M A (call (.builtin id) ([.ref x] ++ args) >>= fun v => pure (some v)) Q E s := wpAny_bind (wpAny_mono h (fun v s' h' => wpAny_pure h') fun _ _ h' => h')
  split
  · exact wpAny_bind (wpAny_pure (wpAny_pure fin))
  · exact wpAny_tryCatch (wpAny_bind (wpAny_pure (wpAny_pure fin)))
theorem objNe_K (hu : A.units < cLine) (X : K.In s.heap) (I : InstAt s.heap x ox C od) (hs : findIn K (.ref C) "__eq__" = some (some (.ref f))) (hf : isFn K (.ref f) = true) {Q : Fin → Shared → Prop}
    (h : wpAny (model prog w) A (call (.ref f) [.ref x, b]) (fun v s' => ∃ r, v = .bool r ∧ Q (.done (.ret (.bool (!r)))) s') E s) : wpAny (model prog w) A (Builtin.«object.__ne__» ⟨[.ref x, b], []⟩) Q E s := by
  unfold Builtin.«object.__ne__»
  repeat (first
    | with_reducible refine wpAny_cRoomFor hu ?_
    | (refine wpAny_bind (m := callSpecialIfBound? (.ref x) (Str.ofString "__eq__") [b])
        (ifBound_K X I hs hf (wpAny_mono h (fun r s' hr => by
          obtain ⟨b, rfl, hq⟩ := hr
          repeat (first | exact hq | exact wpAny_pure hq | exact wpAny_truthy_bool hq | (refine wpAny_bind (m := truthy (.bool _)) (wpAny_truthy_bool ?_)) | wp_step)) fun _ _ e => e)))
    | wp_step)
theorem ne_K {Q : Value → Shared → Prop} (hu : A.units + 1 < cLine) (F : Fr h₀ L s.heap m) (X₀ : K.In h₀) (I : InstAt s.heap x ox C od) (hb : Looks (model prog w) s.heap (typeOf b) tb) (hn : notFirst K C tb = true)
    (hne : findIn K (.ref C) "__ne__" = some (some (.builtin "object.__ne__"))) (hm : mroIn K C (.type "object") = some true) (hs : findIn K (.ref C) "__eq__" = some (some (.ref f))) (hf : isFn K (.ref f) = true)
    (h : wpAny (model prog w) A.in1 (call (.ref f) [.ref x, b]) (fun v s' => ∃ r, v = .bool r ∧ Q (.bool (!r)) s') E s) : wpAny (model prog w) A (richCompare .NotEq (.ref x) b) Q E s := by
  have X := X₀.keeps F.keep
  have one : wpAny (model prog w) A (tryCompare (.ref x) (cmpInfo .NotEq).2.1 b) (fun r s' => ∃ v, r = some v ∧ Q v s') E s := by
    unfold tryCompare
    refine wpAny_bind (ifBound_blt (M := model prog w) X I hne PySem.F.cmp_object.ne.bind (wpAny_call (codeAny_call_builtin PySem.F.cmp_object.ne.plain PySem.F.cmpEntry_ne
      (check_slot PySem.F.cmpKind_ne PySem.F.cmpSplit_ne (I.type.andThen (looks_mroIn X hm)) (PySem.F.cmpArgs_ne _ _) (objNe_K (A := A.in1) (by exact hu) X I hs hf (wpAny_mono h (fun v s' hv => ?_) fun _ _ e => e))))))
    obtain ⟨r, rfl, hq⟩ := hv
    exact ⟨r, rfl, wpAny_pure ⟨_, rfl, hq⟩⟩
  unfold richCompare
  simp only [oneThing_ref]
  refine wpAny_holding (wpAny_bind (wpAny_cRoomFor (by omega) ?_))
  refine wpAny_bind (I.type.here (wpAny_bind (hb.here ?_)))
  split
  · rename_i q
    have e : subIn K tb (.ref C) = some false := by
      rcases Bool.or_eq_true_iff.mp hn with e | e
      · rw [beq_iff_eq.mp e] at q; simp at q
      · exact beq_iff_eq.mp e
    refine wpAny_bind ((looks_subIn X e).here ?_)
    simp only [Bool.false_eq_true, if_false]
    refine wpAny_bind (wpAny_mono one (fun r s' z => ?_) fun _ _ e => e)
    obtain ⟨v, rfl, hq⟩ := z
    exact wpAny_pure hq
  · refine wpAny_bind (wpAny_pure ?_)
    simp only [Bool.false_eq_true, if_false]
    refine wpAny_bind (wpAny_mono one (fun r s' z => ?_) fun _ _ e => e)
    obtain ⟨v, rfl, hq⟩ := z
    exact wpAny_pure hq
end
end EvQ

namespace Ev
open PySem PySem.Spec PyProof.Rows L2
section
variable {g : G} {X : Cx} {n : Nat} {hp : HP}
@[simp] def noR : R D → R D
  | .ok (.bl b) h => .ok (.bl (!b)) h
  | _ => .stuck
/-- x != y by the class's own == -/
@[simp] def fNeI (dp : Nat → Nat → Bool) (F : Nat → FA) (x y : D) (h : HP) : R D := match x with
  | .ins c fs => if othC dp c h y = true then noR (F c [.ins c fs, y] h) else .stuck
  | _ => .stuck
/-- the class has no __ne__ of its own -/
structure NoNe (K : PySem.W.Frag) (C : Addr) : Prop where
  ne : PySem.W.findIn K (.ref C) "__ne__" = some (some (.builtin "object.__ne__"))
  ob : PySem.W.mroIn K C (.type "object") = some true
def NoNes (X : Cx) (g : G) (F : Nat → FA) : Prop := ∀ c, NoNe X.K (g.cA c) ∨ ∀ ds h, F c ds h = .stuck
theorem noNes1 {c0 : Nat} {F0 : FA} (h : NoNe X.K (g.cA c0)) : NoNes X g (own1 c0 F0) := fun c => by
  by_cases e : c = c0
  · subst e; exact .inl h
  · exact .inr fun ds hp => by rw [own1, if_neg e]
def rNeI (g : G) (dp : Nat → Nat → Bool) (F : Nat → FA) : R2 := fun x y H Q => ∃ m hp hp' c fs e b, HL g m H hp ∧ rep g m H (.ins c fs) x ∧ rep g m H e y ∧ othC dp c hp e = true ∧ F c [.ins c fs, e] hp = .ok (.bl b) hp' ∧ ∀ m' H', Ex m H m' H' → HL g m' H' hp' → Q (.bl (!b)) H'
theorem ok2_neI {dp : Nat → Nat → Bool} {F : Nat → FA} {E : XK} : OK2 g E (rNeI g dp F) (fNeI dp F) := by
  intro m H hp x y v u Q hl rx ry h
  unfold fNeI at h
  split at h
  · split at h
    · rename_i c fs e
      cases hF : F c [.ins c fs, y] hp with
      | ok d hp' =>
        rw [hF] at h
        cases d with
        | bl b => exact ⟨m, hp, hp', c, fs, y, b, hl, rx, ry, e, hF, fun m' H' ex hl' => h m' H' _ ex hl' (by simp [rep])⟩
        | _ => exact h.elim
      | exc _ _ _ => rw [hF] at h; exact h.elim
      | stuck => rw [hF] at h; exact h.elim
    · exact h.elim
  · exact h.elim
theorem op_neI {dp : Nat → Nat → Bool} {F : Nat → FA} {n0 : Nat} (W : DifT X.K g.cA dp) (hK : X.K = g.K) (O : Owns X g n0 F) (N : NoNes X g F) (hr : Room (n0 + 1) X.A) : OpR X (compareOp .NotEq) (rNeI g dp F) := by
  intro pins s σ H x y v u Q I rx ry h
  obtain ⟨m, hp, hp', c, fs, e, b0, hl, r1, r2, ot, hF, q⟩ := h
  rcases O c with ⟨CX, f, fd, ps, o⟩ | o
  · rcases N c with nn | nn
    · have r1' := r1
      obtain ⟨tb, hty, hnf⟩ := oth_ok W hK I hl r2 ry ot
      simp only [rep] at r1
      obtain ⟨a, dx, xs, rfl, ha, _, _⟩ := r1
      cases rx
      obtain ⟨mA, J, _⟩ := ins_get I.hok ha
      obtain ⟨od, J, _⟩ := J.look
      obtain ⟨mm, hF'⟩ := I.fr
      show wpAny (model X.prog X.w) X.A (richCompare .NotEq (.ref a) u) (EP X pins σ Q) X.xe s
      refine EvQ.ne_K (tb := tb) (by have := hr.units; omega) hF' I.ok.mod.kin J hty hnf nn.ne nn.ob o.at_ o.fn ?_
      have hsp : spF g 2 (F c) [.ref a, y] H (fun v H' => v = .bl b0 ∧ ∃ m', Ex m H m' H' ∧ HL g m' H' hp') (fun _ _ _ => False) := by
        refine ⟨rfl, m, hp, [.ins c fs, e], hl, ⟨_, _, rfl, r1', _, _, rfl, r2, rfl⟩, ?_⟩
        rw [hF]
        intro m' H' v x' hl' rv
        simp only [rep] at rv
        exact ⟨rv, m', x', hl'⟩
      have hl2 := o.ok.len _ _ _ _ hsp
      have rr : Vals [V.ref a, y] [Value.ref a, u] := .cons rfl (.cons ry .nil)
      refine wpAny_call (codeAny_mono (o.ok.run X.A.in1 X.stack s H ⟨[.ref a, u], []⟩ [.ref a, u] [.ref a, y] _ _ hr.in1 I.env0.in1 (by
        have := o.bind s [.ref a, u] I.kIn (by simpa using hl2)
        simpa using this) rr hsp) fun r s' hq => ?_)
      cases r with
      | error e => exact o.pass pins σ H s e s' I hq
      | ok fl =>
        cases fl with
        | ret w =>
          obtain ⟨z, H', I', rz, ez, m', ex, hl'⟩ := I.after hq
          subst ez
          cases rz
          exact ⟨b0, rfl, .bl (!b0), H', I', rfl, q m' H' ex hl'⟩
        | next => exact False.elim hq
        | brk => exact False.elim hq
        | cont => exact False.elim hq
    · rw [nn] at hF
      cases hF
  · rw [o] at hF
    cases hF
theorem ok_neI {dp : Nat → Nat → Bool} {F : Nat → FA} {n0 : Nat} {E : XK} (W : DifT X.K g.cA dp) (hK : X.K = g.K) (O : Owns X g n0 F) (N : NoNes X g F) (hr : Room (n0 + 1) X.A) : OKS X g E (compareOp .NotEq) (fNeI dp F) := ⟨_, op_neI W hK O N hr, ok2_neI⟩
end
end Ev
namespace Ev
open PySem PySem.Spec PyProof.Rows L2
/-! max and min of a list of whole numbers with default= -/
section
variable {g : G} {X : Cx} {E : XK} {prog : Program} {w : World} {A : Around}
theorem maxd_loop {I : Addr} {fp wr : List Addr} {n : Nat} {P : Nat → Value → Prop} {St : Nat → Heap → Prop} {R : Result → Shared → Prop} {kd : Str} {d : Value} {S : Addr} {bt : Nat → Nat → Bool}
    (W : Walks prog w A.in1 I fp wr n P St) (hcmp : CmpOf prog w A.in1 .Gt P bt) (hSf : S ∉ fp) (k : Nat) : ∀ (j : Nat) (s : Shared) (vb : Value) (c : Nat), n - (j + 1) = k → j + 1 ≤ n → St (j + 1) s.heap → P (argBest bt j) vb →
    s.heap.get? S = some { cls := .type "list", dict := none, data := .seq #[vb, vb] c, slots := #[] } →
    (∀ v h' tk, P (argBest bt (n - 1)) v → (∀ b o, b ∉ wr → b ≠ S → s.heap.get? b = some o → h'.get? b = some o) → R (.ok (.ret v)) { s with heap := h', toks := tk }) →
    codeAny (model prog w) A (.builtin "max.loop" ⟨[.ref I, .none, .ref S], [(kd, d)]⟩) R s := by
  have hSw : S ∉ wr := fun h => hSf (W.sub _ h)
  have nm : (toString "max" ++ toString ".loop" : String) = "max.loop" := by decide
  induction k with
  | zero =>
    intro j s vb c hk hj hst hPb hS hR
    have hin : j + 1 = n := by omega
    refine codeAny_builtin F.entry_max_loop ?_; rw [Around.under_plainId F.plain_max_loop _]
    show wpAny _ A.in1 (seqItems? (.ref S) >>= _) _ _ s; refine wpAny_bind (wpAny_seqItems hS rfl ?_)
    show wpAny _ A.in1 (tryCatch (pyNext (.ref I)) _ >>= _) _ _ s; refine wpAny_bind (wpAny_tryCatch (W.done s _ _ (hin ▸ hst) fun h' tk hk' => ?_))
    show wpAny _ A.in1 (updateSeq S (fun _ => #[]) >>= _) _ _ _; refine wpAny_bind ?_; refine wpAny_updateSeq (hk' S _ hSw hS) rfl (wpAny_bind (wpAny_letGo (wpAny_pure ?_)))
    exact hR vb _ tk (by rw [← hin]; exact hPb) fun b o q1 q2 e => (Heap.get?_update_other _ _ (Ne.symm q2)).trans (hk' b o q1 e)
  | succ k ih =>
    intro j s vb c hk hj hst hPb hS hR
    have hlt : j + 1 < n := by omega
    refine codeAny_builtin F.entry_max_loop ?_; rw [Around.under_plainId F.plain_max_loop _]
    show wpAny _ A.in1 (seqItems? (.ref S) >>= _) _ _ s; refine wpAny_bind (wpAny_seqItems hS rfl ?_)
    show wpAny _ A.in1 (tryCatch (pyNext (.ref I)) _ >>= _) _ _ s; refine wpAny_bind (wpAny_tryCatch (W.item (j + 1) s _ _ hlt hst fun v h' tk hP hst' hk' => ?_))
    have hS' := hk' S _ hSw hS
    show wpAny _ A.in1 (tryCatch (holding [v, v] (richCompare .Gt v vb >>= _)) _ >>= _) _ _ _; refine wpAny_bind (wpAny_tryCatch (wpAny_holding (wpAny_bind (hcmp (j + 1) (argBest bt j) v vb _ _ _ hP hPb ?_))))
    refine wpAny_bind (wpAny_holding (wpAny_truthy_bool ?_)); refine wpAny_bind (wpAny_letGo (wpAny_pure ?_))
    cases hb : bt (j + 1) (argBest bt j) with
    | true =>
      simp only [if_true]; refine wpAny_bind ?_; refine wpAny_updateSeq hS' rfl (wpAny_bind (wpAny_letGo ?_)); rw [nm]
      refine wpAny_pure ⟨plainId_quiet F.plain_max_loop _, ih (j + 1) _ v _ (by omega) hlt (W.frame _ _ _ hst' fun b q3 o e => (Heap.get?_update_other _ _ (fun q : S = b => hSf (by rw [q]; exact q3))).trans e) (by simp only [argBest, hb, if_true]; exact hP) (Heap.get?_update_self _ hS' rfl) fun v' h2 tk2 hP2 hk2 => ?_⟩
      exact hR v' h2 tk2 hP2 fun b o q1 q2 e => hk2 b o q1 q2 ((Heap.get?_update_other _ _ (Ne.symm q2)).trans (hk' b o q1 e))
    | false =>
      simp only [Bool.false_eq_true, if_false]; refine wpAny_bind (wpAny_letGo ?_); rw [nm]
      refine wpAny_pure ⟨plainId_quiet F.plain_max_loop _, ih (j + 1) _ vb c (by omega) hlt hst' (by simp only [argBest, hb, Bool.false_eq_true, if_false]; exact hPb) hS' fun v' h2 tk2 hP2 hk2 => ?_⟩
      exact hR v' h2 tk2 hP2 fun b o q1 q2 e => hk2 b o q1 q2 (hk' b o q1 e)
theorem maxd_first {I : Addr} {fp wr : List Addr} {n : Nat} {P : Nat → Value → Prop} {St : Nat → Heap → Prop} {R : Result → Shared → Prop} {kd : Str} {d : Value} {S : Addr} {bt : Nat → Nat → Bool} {s : Shared} {c : Nat}
    (W : Walks prog w A.in1 I fp wr n P St) (hcmp : CmpOf prog w A.in1 .Gt P bt) (hSf : S ∉ fp) (hst : St 0 s.heap) (hS : s.heap.get? S = some { cls := .type "list", dict := none, data := .seq #[] c, slots := #[] })
    (h0 : n = 0 → ∀ h' tk, (∀ b o, b ∉ wr → b ≠ S → s.heap.get? b = some o → h'.get? b = some o) → R (.ok (.ret d)) { s with heap := h', toks := tk })
    (hR : 0 < n → ∀ v h' tk, P (argBest bt (n - 1)) v → (∀ b o, b ∉ wr → b ≠ S → s.heap.get? b = some o → h'.get? b = some o) → R (.ok (.ret v)) { s with heap := h', toks := tk }) :
    codeAny (model prog w) A (.builtin "max.loop" ⟨[.ref I, .none, .ref S], [(kd, d)]⟩) R s := by
  have hSw : S ∉ wr := fun h => hSf (W.sub _ h)
  have nm : (toString "max" ++ toString ".loop" : String) = "max.loop" := by decide
  rcases Nat.eq_zero_or_pos n with e0 | hn
  · subst e0
    refine codeAny_builtin F.entry_max_loop ?_; rw [Around.under_plainId F.plain_max_loop _]
    show wpAny _ A.in1 (seqItems? (.ref S) >>= _) _ _ s; refine wpAny_bind (wpAny_seqItems hS rfl ?_)
    show wpAny _ A.in1 (tryCatch (pyNext (.ref I)) _ >>= _) _ _ s; refine wpAny_bind (wpAny_tryCatch (W.done s _ _ hst fun h' tk hk' => ?_))
    refine wpAny_bind (wpAny_rule ?_); exact wpAny_pure (h0 rfl h' tk fun b o q1 q2 e => hk' b o q1 e)
  · refine codeAny_builtin F.entry_max_loop ?_; rw [Around.under_plainId F.plain_max_loop _]
    show wpAny _ A.in1 (seqItems? (.ref S) >>= _) _ _ s; refine wpAny_bind (wpAny_seqItems hS rfl ?_)
    show wpAny _ A.in1 (tryCatch (pyNext (.ref I)) _ >>= _) _ _ s; refine wpAny_bind (wpAny_tryCatch (W.item 0 s _ _ hn hst fun v h' tk hP hst' hk' => ?_))
    have hS' := hk' S _ hSw hS
    show wpAny _ A.in1 (updateSeq S (fun _ => #[v, v]) >>= _) _ _ _; refine wpAny_bind ?_; refine wpAny_updateSeq hS' rfl ?_; rw [nm]
    refine wpAny_pure ⟨plainId_quiet F.plain_max_loop _, maxd_loop W hcmp hSf _ 0 _ v _ rfl hn (W.frame _ _ _ hst' fun b q3 o e => (Heap.get?_update_other _ _ (fun q : S = b => hSf (by rw [q]; exact q3))).trans e) hP (Heap.get?_update_self _ hS' rfl) fun v' h2 tk2 hP2 hk2 => ?_⟩
    exact hR hn v' h2 tk2 hP2 fun b o q1 q2 e => hk2 b o q1 q2 ((Heap.get?_update_other _ _ (Ne.symm q2)).trans (hk' b o q1 e))
theorem maxd_args (a d : Value) : argsOk "max" ⟨[a], [(Str.ofString "default", d)]⟩ := by unfold argsOk; kernel_rfl
theorem maxd_call {l : Addr} {xs : Array (Int × Tok)} {d : Value} {Q : Value → Shared → Prop} {E : Value → Shared → Prop} {s : Shared} (hh : A.handled = none) (hl : s.heap.IsList l (intItems xs))
    (h0 : xs.size = 0 → ∀ h' tk, (∀ b o, s.heap.get? b = some o → h'.get? b = some o) → Q d { s with heap := h', toks := tk })
    (h : 0 < xs.size → ∀ v h' tk, (intItems xs)[argBest (fun i j => decide (numAt xs i > numAt xs j)) (xs.size - 1)]? = some v → (∀ b o, s.heap.get? b = some o → h'.get? b = some o) → Q v { s with heap := h', toks := tk }) :
    wpAny (model prog w) A (call (.builtin "max") [.ref l] [(Str.ofString "default", d)]) Q E s := by
  have nm : (toString "max" ++ toString ".loop" : String) = "max.loop" := by decide
  refine PyProof.Rows.kmb_tree F.kind_max F.plain_max F.entry_max (maxd_args _ _) ?_
  show wpAny _ A.in1 (Builtin.Builtins.bindParams "max" ["key", "default"] 0 ⟨[], [(Str.ofString "default", d)]⟩ >>= _) _ _ s
  refine wpAny_bind (wpAny_of_eq (show Builtin.Builtins.bindParams "max" ["key", "default"] 0 ⟨[], [(Str.ofString "default", d)]⟩ = pure [none, some d] from rfl) ?_)
  refine wpAny_bind (wpAny_pure ?_); refine wpAny_bind (iter_intList hl fun s₂ e st hfp hlI => ?_); subst e
  refine wpAny_bind (wpAny_newObj_type ?_); rw [nm]
  have W := Walks.list (prog := prog) (w := w) (A := A.in1) hh s.heap.objs.size l hlI (intItems xs)
  have hz : (intItems xs).size = xs.size := by simp [intItems]
  rw [hz] at W
  have old : ∀ (h2 h' : Heap), (∀ b o, b ∉ [s.heap.objs.size] → b ≠ (s.heap.push { cls := .type "list_iterator", data := .fields #[.ref l, .int 0 0] }).objs.size → h2.get? b = some o → h'.get? b = some o) → (∀ b o, s.heap.get? b = some o → h2.get? b = some o) → ∀ b o, s.heap.get? b = some o → h'.get? b = some o := fun h2 h' hk k2 b o e => by
    have hlt := Heap.lt_size e
    refine hk b o (fun q => ?_) (fun q => ?_) (k2 b o e)
    · have q := List.mem_singleton.mp q; rw [q] at hlt; exact Nat.lt_irrefl _ hlt
    · rw [q, Heap.size_push] at hlt; exact Nat.lt_irrefl _ (Nat.lt_of_succ_lt hlt)
  refine wpAny_pure ⟨plainId_quiet F.plain_max_loop _, maxd_first W (CmpOf.ints_gt (numAt xs) (fun _ _ => intItems_at)) (fun q => Nat.lt_irrefl _ (hfp _ q)) (W.frame _ _ _ st fun b _ o e => Heap.get?_push_of_some _ e) (Heap.get?_push_size _ rfl) (fun n0 h' tk hk => ?_) fun hn v h' tk hP hk => ?_⟩
  · exact h0 n0 h' tk (old _ h' hk fun b o e => Heap.get?_push_of_some _ (Heap.get?_push_of_some _ e))
  · exact h hn v h' tk hP (old _ h' hk fun b o e => Heap.get?_push_of_some _ (Heap.get?_push_of_some _ e))
theorem maxd_raw {its : List Value} {ns : List Int} {l : Addr} {d : Value} {Q : Value → Shared → Prop} {E : Value → Shared → Prop} {s : Shared} (hh : A.handled = none) (hl : s.heap.IsList l its.toArray) (hi : IntsAre its ns)
    (h0 : ns = [] → ∀ h' tk, (∀ b o, s.heap.get? b = some o → h'.get? b = some o) → Q d { s with heap := h', toks := tk })
    (h : ns ≠ [] → ∀ h' tk M t', (∀ b o, s.heap.get? b = some o → h'.get? b = some o) → M ∈ ns → (∀ a, a ∈ ns → a ≤ M) → Q (.int M t') { s with heap := h', toks := tk }) :
    wpAny (model prog w) A (call (.builtin "max") [.ref l] [(Str.ofString "default", d)]) Q E s := by
  obtain ⟨xs, e⟩ := hi.allInts.items
  have hn : numsOf (intItems xs).toList = ns := by rw [← e]; exact hi.numsOf
  rw [nums_intItems] at hn; subst hn; rw [e] at hl
  refine maxd_call hh hl (fun z h' tk hk => h0 (by simpa using z) h' tk hk) fun hsz v h' tk hv hk => ?_
  obtain ⟨t, rfl⟩ := intItems_at hv
  obtain ⟨h1, h2⟩ := argBest_gt (numAt xs) (xs.size - 1)
  refine h (by intro q; rw [List.map_eq_nil_iff] at q; have e9 := congrArg List.length q; rw [Array.length_toList] at e9; rw [e9] at hsz; exact absurd hsz (by decide)) h' tk _ t hk ?_ fun a ha => ?_
  · rw [numAt_eq]; exact PySem.getD_mem (by rw [List.length_map, Array.length_toList]; omega)
  · obtain ⟨j, hj, rfl⟩ := mem_getD ha
    rw [List.length_map, Array.length_toList] at hj; rw [← numAt_eq]; exact h2 j (by omega)
def rmaxD (K : PySem.W.Frag) : List V → List V → Hp → VK → Prop := fun vs zs H Q => ∃ (a : Addr) (ns : List Int) (z : V), vs = [V.ref a] ∧ zs = [z] ∧ SqL K H a (ns.map V.int) ∧ (ns = [] → Q z H) ∧ (ns ≠ [] → ∀ m, m ∈ ns → (∀ y, y ∈ ns → y ≤ m) → Q (.int m) H)
theorem cr_maxD (hc : X.calm = true) : CallRK X (.builtin "max") [Str.ofString "default"] (rmaxD X.K) := by
  intro pins s σ H vs zs us ws Q I r rz h
  obtain ⟨a, ns, z, rfl, rfl, hs, q0, q⟩ := h
  obtain rfl := Vals.ref1 r
  obtain ⟨w1, rfl, e1⟩ := vals1 rz
  obtain ⟨its, rv, hl, _⟩ := I.list hs
  exact maxd_raw (I.ok.hd hc) hl.isList rv.ints (fun z0 h' tk hk => ⟨z, H, I.kept hk, e1, q0 z0⟩) fun hne h' tk m t' hk h1 h2 => ⟨.int _, H, I.kept hk, ⟨_, rfl⟩, q hne m h1 h2⟩
@[simp] def maxDn (z : D) : Option (List Int) → HP → R D
  | some ns, h => if 0 < ns.length then .ok (.int (maxL ns)) h else .ok z h
  | none, _ => .stuck
@[simp] def maxDo (z : D) : Option (List D) → HP → R D
  | some es, h => maxDn z (intsD es) h
  | none, _ => .stuck
@[simp] def maxDk (z : D) (x : D) (h : HP) : R D := maxDo z (asL h x) h
@[simp] def maxDk1 (b : M D) (env : EN) (x : D) (h : HP) : R D := (b env h).bind fun z h2 => maxDk z x h2
@[simp] def mmaxD (a b : M D) (env : EN) (hp : HP) : R D := (a env hp).bind (maxDk1 b env)
theorem EV.maxD {x : Str} {p pos kp : Pos} {e z : Expr} {fa fz : M D} (hK : X.K = g.K) (hc : X.calm = true) (hx : x = "max") (hm : X.mg x = none) (ha : EV g X E e fa) (hz : EV g X E z fz) (hg : Gl X x)
    (he : backTo pos (starEach [e] X.env) = (false, eval e X.env) :: backTo pos (starEach [] X.env)) (he2 : starEach [e] X.env = (false, eval e X.env) :: starEach [] X.env)
    (hpl : (backTo pos (starEach [e] X.env)).any (·.1) = false)
    (hall : (backToKw pos (keywordEach [⟨some (Str.ofString "default"), z, kp⟩] X.env)).all (·.1.isSome) = true) (hnone : (backToKw pos (keywordEach [⟨some (Str.ofString "default"), z, kp⟩] X.env)).any (·.1.isNone) = false)
    (hks : (backToKw pos (keywordEach [⟨some (Str.ofString "default"), z, kp⟩] X.env)).filterMap (·.1) = [Str.ofString "default"]) :
    EV g X E (.Call (.Name x p) [e] [⟨some (Str.ofString "default"), z, kp⟩] pos) (mmaxD fa fz) := by
  subst hx
  obtain ⟨ta, pa, qa⟩ := ha
  obtain ⟨tz, pz, qz⟩ := hz
  refine ⟨_, pe_callBK (cr_maxD hc) hg hm (by decide +kernel) (pa_cons pa pa_nil he2) (pk_cons pz pk_nil) (by decide) (by decide) he hpl hall hnone hks, fun σ H Q m env hp hl er h => ?_⟩
  refine qa σ H _ m env hp hl er (PO.bind h fun x h1 m1 H1 v x1 hl1 r1 h => ?_)
  refine qz σ H1 _ m1 env h1 hl1 (er.ext x1) (PO.bind h fun y h2 m2 H2 u x2 hl2 r2 h => ?_)
  unfold maxDk maxDo at h
  rw [hK]
  split at h
  · rename_i es ee
    unfold maxDn at h
    split at h
    · rename_i ns en
      obtain ⟨a, us, rfl, hs, rs⟩ := asL_ok hl2 (rep.ext x2 _ _ r1) ee
      have := intsD_ok rs en
      subst this
      refine ⟨a, ns, u, rfl, rfl, hs, fun z0 => ?_, fun hne M h1 h2 => ?_⟩
      · rw [if_neg (by subst z0; simp)] at h
        exact PO.here hl2 h r2
      · rw [if_pos (List.length_pos_iff.mpr hne)] at h
        obtain ⟨k1, k2⟩ := maxL_mem (ns := ns) hne
        have e : M = maxL ns := Int.le_antisymm (k2 M h1) (h2 _ k1)
        rw [e]
        exact PO.here hl2 h (by simp [rep])
    · exact h.elim
  · exact h.elim
theorem mind_loop {I : Addr} {fp wr : List Addr} {n : Nat} {P : Nat → Value → Prop} {St : Nat → Heap → Prop} {R : Result → Shared → Prop} {kd : Str} {d : Value} {S : Addr} {bt : Nat → Nat → Bool}
    (W : Walks prog w A.in1 I fp wr n P St) (hcmp : CmpOf prog w A.in1 .Lt P bt) (hSf : S ∉ fp) (k : Nat) : ∀ (j : Nat) (s : Shared) (vb : Value) (c : Nat), n - (j + 1) = k → j + 1 ≤ n → St (j + 1) s.heap → P (argBest bt j) vb →
    s.heap.get? S = some { cls := .type "list", dict := none, data := .seq #[vb, vb] c, slots := #[] } →
    (∀ v h' tk, P (argBest bt (n - 1)) v → (∀ b o, b ∉ wr → b ≠ S → s.heap.get? b = some o → h'.get? b = some o) → R (.ok (.ret v)) { s with heap := h', toks := tk }) →
    codeAny (model prog w) A (.builtin "min.loop" ⟨[.ref I, .none, .ref S], [(kd, d)]⟩) R s := by
  have hSw : S ∉ wr := fun h => hSf (W.sub _ h)
  have nm : (toString "min" ++ toString ".loop" : String) = "min.loop" := by decide
  induction k with
  | zero =>
    intro j s vb c hk hj hst hPb hS hR
    have hin : j + 1 = n := by omega
    refine codeAny_builtin F.entry_min_loop ?_; rw [Around.under_plainId F.plain_min_loop _]
    show wpAny _ A.in1 (seqItems? (.ref S) >>= _) _ _ s; refine wpAny_bind (wpAny_seqItems hS rfl ?_)
    show wpAny _ A.in1 (tryCatch (pyNext (.ref I)) _ >>= _) _ _ s; refine wpAny_bind (wpAny_tryCatch (W.done s _ _ (hin ▸ hst) fun h' tk hk' => ?_))
    show wpAny _ A.in1 (updateSeq S (fun _ => #[]) >>= _) _ _ _; refine wpAny_bind ?_; refine wpAny_updateSeq (hk' S _ hSw hS) rfl (wpAny_bind (wpAny_letGo (wpAny_pure ?_)))
    exact hR vb _ tk (by rw [← hin]; exact hPb) fun b o q1 q2 e => (Heap.get?_update_other _ _ (Ne.symm q2)).trans (hk' b o q1 e)
  | succ k ih =>
    intro j s vb c hk hj hst hPb hS hR
    have hlt : j + 1 < n := by omega
    refine codeAny_builtin F.entry_min_loop ?_; rw [Around.under_plainId F.plain_min_loop _]
    show wpAny _ A.in1 (seqItems? (.ref S) >>= _) _ _ s; refine wpAny_bind (wpAny_seqItems hS rfl ?_)
    show wpAny _ A.in1 (tryCatch (pyNext (.ref I)) _ >>= _) _ _ s; refine wpAny_bind (wpAny_tryCatch (W.item (j + 1) s _ _ hlt hst fun v h' tk hP hst' hk' => ?_))
    have hS' := hk' S _ hSw hS
    show wpAny _ A.in1 (tryCatch (holding [v, v] (richCompare .Lt v vb >>= _)) _ >>= _) _ _ _; refine wpAny_bind (wpAny_tryCatch (wpAny_holding (wpAny_bind (hcmp (j + 1) (argBest bt j) v vb _ _ _ hP hPb ?_))))
    refine wpAny_bind (wpAny_holding (wpAny_truthy_bool ?_)); refine wpAny_bind (wpAny_letGo (wpAny_pure ?_))
    cases hb : bt (j + 1) (argBest bt j) with
    | true =>
      simp only [if_true]; refine wpAny_bind ?_; refine wpAny_updateSeq hS' rfl (wpAny_bind (wpAny_letGo ?_)); rw [nm]
      refine wpAny_pure ⟨plainId_quiet F.plain_min_loop _, ih (j + 1) _ v _ (by omega) hlt (W.frame _ _ _ hst' fun b q3 o e => (Heap.get?_update_other _ _ (fun q : S = b => hSf (by rw [q]; exact q3))).trans e) (by simp only [argBest, hb, if_true]; exact hP) (Heap.get?_update_self _ hS' rfl) fun v' h2 tk2 hP2 hk2 => ?_⟩
      exact hR v' h2 tk2 hP2 fun b o q1 q2 e => hk2 b o q1 q2 ((Heap.get?_update_other _ _ (Ne.symm q2)).trans (hk' b o q1 e))
    | false =>
      simp only [Bool.false_eq_true, if_false]; refine wpAny_bind (wpAny_letGo ?_); rw [nm]
      refine wpAny_pure ⟨plainId_quiet F.plain_min_loop _, ih (j + 1) _ vb c (by omega) hlt hst' (by simp only [argBest, hb, Bool.false_eq_true, if_false]; exact hPb) hS' fun v' h2 tk2 hP2 hk2 => ?_⟩
      exact hR v' h2 tk2 hP2 fun b o q1 q2 e => hk2 b o q1 q2 (hk' b o q1 e)
theorem mind_first {I : Addr} {fp wr : List Addr} {n : Nat} {P : Nat → Value → Prop} {St : Nat → Heap → Prop} {R : Result → Shared → Prop} {kd : Str} {d : Value} {S : Addr} {bt : Nat → Nat → Bool} {s : Shared} {c : Nat}
    (W : Walks prog w A.in1 I fp wr n P St) (hcmp : CmpOf prog w A.in1 .Lt P bt) (hSf : S ∉ fp) (hst : St 0 s.heap) (hS : s.heap.get? S = some { cls := .type "list", dict := none, data := .seq #[] c, slots := #[] })
    (h0 : n = 0 → ∀ h' tk, (∀ b o, b ∉ wr → b ≠ S → s.heap.get? b = some o → h'.get? b = some o) → R (.ok (.ret d)) { s with heap := h', toks := tk })
    (hR : 0 < n → ∀ v h' tk, P (argBest bt (n - 1)) v → (∀ b o, b ∉ wr → b ≠ S → s.heap.get? b = some o → h'.get? b = some o) → R (.ok (.ret v)) { s with heap := h', toks := tk }) :
    codeAny (model prog w) A (.builtin "min.loop" ⟨[.ref I, .none, .ref S], [(kd, d)]⟩) R s := by
  have hSw : S ∉ wr := fun h => hSf (W.sub _ h)
  have nm : (toString "min" ++ toString ".loop" : String) = "min.loop" := by decide
  rcases Nat.eq_zero_or_pos n with e0 | hn
  · subst e0
    refine codeAny_builtin F.entry_min_loop ?_; rw [Around.under_plainId F.plain_min_loop _]
    show wpAny _ A.in1 (seqItems? (.ref S) >>= _) _ _ s; refine wpAny_bind (wpAny_seqItems hS rfl ?_)
    show wpAny _ A.in1 (tryCatch (pyNext (.ref I)) _ >>= _) _ _ s; refine wpAny_bind (wpAny_tryCatch (W.done s _ _ hst fun h' tk hk' => ?_))
    refine wpAny_bind (wpAny_rule ?_); exact wpAny_pure (h0 rfl h' tk fun b o q1 q2 e => hk' b o q1 e)
  · refine codeAny_builtin F.entry_min_loop ?_; rw [Around.under_plainId F.plain_min_loop _]
    show wpAny _ A.in1 (seqItems? (.ref S) >>= _) _ _ s; refine wpAny_bind (wpAny_seqItems hS rfl ?_)
    show wpAny _ A.in1 (tryCatch (pyNext (.ref I)) _ >>= _) _ _ s; refine wpAny_bind (wpAny_tryCatch (W.item 0 s _ _ hn hst fun v h' tk hP hst' hk' => ?_))
    have hS' := hk' S _ hSw hS
    show wpAny _ A.in1 (updateSeq S (fun _ => #[v, v]) >>= _) _ _ _; refine wpAny_bind ?_; refine wpAny_updateSeq hS' rfl ?_; rw [nm]
    refine wpAny_pure ⟨plainId_quiet F.plain_min_loop _, mind_loop W hcmp hSf _ 0 _ v _ rfl hn (W.frame _ _ _ hst' fun b q3 o e => (Heap.get?_update_other _ _ (fun q : S = b => hSf (by rw [q]; exact q3))).trans e) hP (Heap.get?_update_self _ hS' rfl) fun v' h2 tk2 hP2 hk2 => ?_⟩
    exact hR hn v' h2 tk2 hP2 fun b o q1 q2 e => hk2 b o q1 q2 ((Heap.get?_update_other _ _ (Ne.symm q2)).trans (hk' b o q1 e))
theorem mind_args (a d : Value) : argsOk "min" ⟨[a], [(Str.ofString "default", d)]⟩ := by unfold argsOk; kernel_rfl
theorem mind_call {l : Addr} {xs : Array (Int × Tok)} {d : Value} {Q : Value → Shared → Prop} {E : Value → Shared → Prop} {s : Shared} (hh : A.handled = none) (hl : s.heap.IsList l (intItems xs))
    (h0 : xs.size = 0 → ∀ h' tk, (∀ b o, s.heap.get? b = some o → h'.get? b = some o) → Q d { s with heap := h', toks := tk })
    (h : 0 < xs.size → ∀ v h' tk, (intItems xs)[argBest (fun i j => decide (numAt xs i < numAt xs j)) (xs.size - 1)]? = some v → (∀ b o, s.heap.get? b = some o → h'.get? b = some o) → Q v { s with heap := h', toks := tk }) :
    wpAny (model prog w) A (call (.builtin "min") [.ref l] [(Str.ofString "default", d)]) Q E s := by
  have nm : (toString "min" ++ toString ".loop" : String) = "min.loop" := by decide
  refine PyProof.Rows.kmb_tree F.kind_min F.plain_min F.entry_min (mind_args _ _) ?_
  show wpAny _ A.in1 (Builtin.Builtins.bindParams "min" ["key", "default"] 0 ⟨[], [(Str.ofString "default", d)]⟩ >>= _) _ _ s
  refine wpAny_bind (wpAny_of_eq (show Builtin.Builtins.bindParams "min" ["key", "default"] 0 ⟨[], [(Str.ofString "default", d)]⟩ = pure [none, some d] from rfl) ?_)
  refine wpAny_bind (wpAny_pure ?_); refine wpAny_bind (iter_intList hl fun s₂ e st hfp hlI => ?_); subst e
  refine wpAny_bind (wpAny_newObj_type ?_); rw [nm]
  have W := Walks.list (prog := prog) (w := w) (A := A.in1) hh s.heap.objs.size l hlI (intItems xs)
  have hz : (intItems xs).size = xs.size := by simp [intItems]
  rw [hz] at W
  have old : ∀ (h2 h' : Heap), (∀ b o, b ∉ [s.heap.objs.size] → b ≠ (s.heap.push { cls := .type "list_iterator", data := .fields #[.ref l, .int 0 0] }).objs.size → h2.get? b = some o → h'.get? b = some o) → (∀ b o, s.heap.get? b = some o → h2.get? b = some o) → ∀ b o, s.heap.get? b = some o → h'.get? b = some o := fun h2 h' hk k2 b o e => by
    have hlt := Heap.lt_size e
    refine hk b o (fun q => ?_) (fun q => ?_) (k2 b o e)
    · have q := List.mem_singleton.mp q; rw [q] at hlt; exact Nat.lt_irrefl _ hlt
    · rw [q, Heap.size_push] at hlt; exact Nat.lt_irrefl _ (Nat.lt_of_succ_lt hlt)
  refine wpAny_pure ⟨plainId_quiet F.plain_min_loop _, mind_first W (CmpOf.ints_lt (numAt xs) (fun _ _ => intItems_at)) (fun q => Nat.lt_irrefl _ (hfp _ q)) (W.frame _ _ _ st fun b _ o e => Heap.get?_push_of_some _ e) (Heap.get?_push_size _ rfl) (fun n0 h' tk hk => ?_) fun hn v h' tk hP hk => ?_⟩
  · exact h0 n0 h' tk (old _ h' hk fun b o e => Heap.get?_push_of_some _ (Heap.get?_push_of_some _ e))
  · exact h hn v h' tk hP (old _ h' hk fun b o e => Heap.get?_push_of_some _ (Heap.get?_push_of_some _ e))
theorem mind_raw {its : List Value} {ns : List Int} {l : Addr} {d : Value} {Q : Value → Shared → Prop} {E : Value → Shared → Prop} {s : Shared} (hh : A.handled = none) (hl : s.heap.IsList l its.toArray) (hi : IntsAre its ns)
    (h0 : ns = [] → ∀ h' tk, (∀ b o, s.heap.get? b = some o → h'.get? b = some o) → Q d { s with heap := h', toks := tk })
    (h : ns ≠ [] → ∀ h' tk M t', (∀ b o, s.heap.get? b = some o → h'.get? b = some o) → M ∈ ns → (∀ a, a ∈ ns → M ≤ a) → Q (.int M t') { s with heap := h', toks := tk }) :
    wpAny (model prog w) A (call (.builtin "min") [.ref l] [(Str.ofString "default", d)]) Q E s := by
  obtain ⟨xs, e⟩ := hi.allInts.items
  have hn : numsOf (intItems xs).toList = ns := by rw [← e]; exact hi.numsOf
  rw [nums_intItems] at hn; subst hn; rw [e] at hl
  refine mind_call hh hl (fun z h' tk hk => h0 (by simpa using z) h' tk hk) fun hsz v h' tk hv hk => ?_
  obtain ⟨t, rfl⟩ := intItems_at hv
  obtain ⟨h1, h2⟩ := argBest_lt (numAt xs) (xs.size - 1)
  refine h (by intro q; rw [List.map_eq_nil_iff] at q; have e9 := congrArg List.length q; rw [Array.length_toList] at e9; rw [e9] at hsz; exact absurd hsz (by decide)) h' tk _ t hk ?_ fun a ha => ?_
  · rw [numAt_eq]; exact PySem.getD_mem (by rw [List.length_map, Array.length_toList]; omega)
  · obtain ⟨j, hj, rfl⟩ := mem_getD ha
    rw [List.length_map, Array.length_toList] at hj; rw [← numAt_eq]; exact h2 j (by omega)
def rminD (K : PySem.W.Frag) : List V → List V → Hp → VK → Prop := fun vs zs H Q => ∃ (a : Addr) (ns : List Int) (z : V), vs = [V.ref a] ∧ zs = [z] ∧ SqL K H a (ns.map V.int) ∧ (ns = [] → Q z H) ∧ (ns ≠ [] → ∀ m, m ∈ ns → (∀ y, y ∈ ns → m ≤ y) → Q (.int m) H)
theorem cr_minD (hc : X.calm = true) : CallRK X (.builtin "min") [Str.ofString "default"] (rminD X.K) := by
  intro pins s σ H vs zs us ws Q I r rz h
  obtain ⟨a, ns, z, rfl, rfl, hs, q0, q⟩ := h
  obtain rfl := Vals.ref1 r
  obtain ⟨w1, rfl, e1⟩ := vals1 rz
  obtain ⟨its, rv, hl, _⟩ := I.list hs
  exact mind_raw (I.ok.hd hc) hl.isList rv.ints (fun z0 h' tk hk => ⟨z, H, I.kept hk, e1, q0 z0⟩) fun hne h' tk m t' hk h1 h2 => ⟨.int _, H, I.kept hk, ⟨_, rfl⟩, q hne m h1 h2⟩
@[simp] def minDn (z : D) : Option (List Int) → HP → R D
  | some ns, h => if 0 < ns.length then .ok (.int (minL ns)) h else .ok z h
  | none, _ => .stuck
@[simp] def minDo (z : D) : Option (List D) → HP → R D
  | some es, h => minDn z (intsD es) h
  | none, _ => .stuck
@[simp] def minDk (z : D) (x : D) (h : HP) : R D := minDo z (asL h x) h
@[simp] def minDk1 (b : M D) (env : EN) (x : D) (h : HP) : R D := (b env h).bind fun z h2 => minDk z x h2
@[simp] def mminD (a b : M D) (env : EN) (hp : HP) : R D := (a env hp).bind (minDk1 b env)
theorem EV.minD {x : Str} {p pos kp : Pos} {e z : Expr} {fa fz : M D} (hK : X.K = g.K) (hc : X.calm = true) (hx : x = "min") (hm : X.mg x = none) (ha : EV g X E e fa) (hz : EV g X E z fz) (hg : Gl X x)
    (he : backTo pos (starEach [e] X.env) = (false, eval e X.env) :: backTo pos (starEach [] X.env)) (he2 : starEach [e] X.env = (false, eval e X.env) :: starEach [] X.env)
    (hpl : (backTo pos (starEach [e] X.env)).any (·.1) = false)
    (hall : (backToKw pos (keywordEach [⟨some (Str.ofString "default"), z, kp⟩] X.env)).all (·.1.isSome) = true) (hnone : (backToKw pos (keywordEach [⟨some (Str.ofString "default"), z, kp⟩] X.env)).any (·.1.isNone) = false)
    (hks : (backToKw pos (keywordEach [⟨some (Str.ofString "default"), z, kp⟩] X.env)).filterMap (·.1) = [Str.ofString "default"]) :
    EV g X E (.Call (.Name x p) [e] [⟨some (Str.ofString "default"), z, kp⟩] pos) (mminD fa fz) := by
  subst hx
  obtain ⟨ta, pa, qa⟩ := ha
  obtain ⟨tz, pz, qz⟩ := hz
  refine ⟨_, pe_callBK (cr_minD hc) hg hm (by decide +kernel) (pa_cons pa pa_nil he2) (pk_cons pz pk_nil) (by decide) (by decide) he hpl hall hnone hks, fun σ H Q m env hp hl er h => ?_⟩
  refine qa σ H _ m env hp hl er (PO.bind h fun x h1 m1 H1 v x1 hl1 r1 h => ?_)
  refine qz σ H1 _ m1 env h1 hl1 (er.ext x1) (PO.bind h fun y h2 m2 H2 u x2 hl2 r2 h => ?_)
  unfold minDk minDo at h
  rw [hK]
  split at h
  · rename_i es ee
    unfold minDn at h
    split at h
    · rename_i ns en
      obtain ⟨a, us, rfl, hs, rs⟩ := asL_ok hl2 (rep.ext x2 _ _ r1) ee
      have := intsD_ok rs en
      subst this
      refine ⟨a, ns, u, rfl, rfl, hs, fun z0 => ?_, fun hne M h1 h2 => ?_⟩
      · rw [if_neg (by subst z0; simp)] at h
        exact PO.here hl2 h r2
      · rw [if_pos (List.length_pos_iff.mpr hne)] at h
        obtain ⟨k1, k2⟩ := minL_mem (ns := ns) hne
        have e : M = minL ns := Int.le_antisymm (h2 _ k1) (k2 M h1)
        rw [e]
        exact PO.here hl2 h (by simp [rep])
    · exact h.elim
  · exact h.elim

/-! x turned round by a slice: x of a list -/
def rRevS (K : PySem.W.Frag) : V → Hp → VK → Prop := fun x H Q => ∃ a xs, x = .ref a ∧ SqL K H a xs ∧ ∀ p, H p = none → Q (.ref p) (upd H p (.lst xs.reverse))
def tRevS (K : PySem.W.Frag) (te : TE) (ts : TO) : TE := fun σ H Q => te σ H fun x H1 => ts σ H1 fun l H2 => l = some (-1) ∧ rRevS K x H2 Q
theorem pe_revS {e st : Expr} {te : TE} {ts : TO} {p2 pos : Pos} (he : PE X e te) (hs : L2.PO X (some st) ts) : PE X (.Subscript e (.Slice none none (some st) p2) pos) (tRevS X.K te ts) := by
  refine ⟨fun pins s σ H Q I h => Subscript_ (thn (he.run pins s σ H _ I h) fun v s1 ⟨x, H1, I1, r1, q1⟩ => ?_)⟩
  refine wpAny_Slice ?_
  rw [evalPart_none]
  refine wpAny_pure (wpAny_pure ?_)
  refine thn (hs.run pins s1 σ H1 _ I1 q1) fun vl s2 ⟨l, H2, I2, pl, q2⟩ => ?_
  obtain ⟨rfl, a, xs, rfl, hx, q⟩ := q2
  cases r1
  have I4 : Inv X pins σ H2 { s2 with heap := s2.heap.push { cls := .type "slice", data := .fields #[.none, .none, vl] } } := I2.kept (t' := s2.toks) fun b ob q => Heap.get?_push_of_some _ q
  obtain ⟨its, r, ht, hz⟩ := I4.list hx
  have hlen := r.length
  show wpAny (model X.prog X.w) X.A (subscriptTail e (.Slice none none (some st) p2) (.ref a) (.ref s2.heap.objs.size)) (EP X pins σ Q) X.xe { s2 with heap := s2.heap.push { cls := .type "slice", data := .fields #[.none, .none, vl] } }
  refine tail_any (ops := [.ref a, .ref s2.heap.objs.size]) ht.isList.typeIs slot_list_getitem.lookup ?_ (by with_unfolding_all rfl)
  refine wpAny_getItem_list_slice ht.isList (Heap.IsSliceOf.new ..) .none .none pl (by decide) ?_ (by rw [List.size_toArray] <;> omega)
  rw [PySem.W.krv_pick]
  refine ⟨.ref (s2.heap.push { cls := .type "slice", data := .fields #[.none, .none, vl] }).objs.size, _, I4.laid (t' := s2.toks) (o := .lst xs.reverse) (fun b ob q => Heap.get?_push_of_some _ q) (Nat.le_refl _) ?_, rfl, q _ (I4.hok.fresh (Nat.le_refl _))⟩
  exact ⟨by rw [List.length_reverse]; exact hz, _, 0, r.reverse, Heap.get?_push_size _ rfl⟩
theorem reps.reverse {m : AM} {H : Hp} {ds : List D} {vs : List V} (r : reps g m H ds vs) : reps g m H ds.reverse vs.reverse := by
  induction ds generalizing vs with
  | nil => simp only [reps] at r; subst r; simp [reps]
  | cons d ds ih =>
    simp only [reps] at r
    obtain ⟨v, us, rfl, h1, h2⟩ := r
    rw [List.reverse_cons, List.reverse_cons]
    exact (ih h2).append (by simp only [reps]; exact ⟨v, [], rfl, h1, rfl⟩)
@[simp] def revO : Option (List D) → HP → R D
  | some es, h => .ok (.lst es.reverse) h
  | none, _ => .stuck
@[simp] def kRevS (x : D) (h : HP) : R D := revO (asL h x) h
@[simp] def mRevS (a : M D) (env : EN) (hp : HP) : R D := (a env hp).bind kRevS
theorem EV.revS {e : Expr} {p2 p3 p4 pos : Pos} {j : Nat} {fa : M D} (hK : X.K = g.K) (ha : EV g X E e fa) : EV g X E (.Subscript e (.Slice none none (some (.UnaryOp .USub (.Constant (.int 1) j p3) p4)) p2) pos) (mRevS fa) := by
  obtain ⟨ta, pa, qa⟩ := ha
  obtain ⟨ts, ps, qs⟩ := (PV.yes (EV.neg (EV.int (i := 1) (j := j) (pos := p3)) (pos := p4)) : PV g X E (some (.UnaryOp .USub (.Constant (.int 1) j p3) p4)) _)
  refine ⟨_, pe_revS pa ps, fun σ H Q m env hp hl er h => ?_⟩
  refine qa σ H _ m env hp hl er (PO.bind h fun x h1 m1 H1 v x1 hl1 r1 h => ?_)
  refine qs σ H1 _ m1 env h1 hl1 (er.ext x1) ?_
  intro m2 H2 l x2 hl2 el
  refine ⟨el.symm, ?_⟩
  unfold kRevS revO at h
  split at h
  · rename_i es ee
    obtain ⟨a, us, rfl, hs, rs⟩ := asL_ok hl2 (rep.ext x2 _ _ r1) ee
    rw [hK]
    exact ⟨a, us, rfl, hs, PO.newF (E := E) (m := m2) (H := H2) hl2 rs.reverse fun m' H' v xx => h m' H' v (x2.trans xx)⟩
  · exact h.elim
end
end Ev
namespace Ev
open PySem PySem.Spec PyProof.Rows L2
section
variable {g : G} {X : Cx} {E : XK}
/-! x, y = a, b and x, y, z = a, b, c with plain names -/
@[simp] def kPar2 (i j : Nat) (env : EN) : List D → HP → SR
  | [x, y], h => .nx ((env.set i (some x)).set j (some y)) h
  | _, _ => .stuck
@[simp] def sPar2 (i j : Nat) (a : M (List D)) (env : EN) (hp : HP) : SR := (a env hp).sbind (kPar2 i j env)
theorem SV.par2 {i j : Nat} {x y : Str} {a b : Expr} {px py pt pos : Pos} {kt k2 pt2} {fa : M (List D)} (hc : X.calm = true) (hN : X.N.Nodup) (hi : X.N[i]? = some x) (hj : X.N[j]? = some y) (hij : i ≠ j)
    (hx : X.env.scope.names.lookup x = some .local) (hy : X.env.scope.names.lookup y = some .local) (ha : AV g X E [a, b] fa)
    (hw : swappedStores [.Tuple [.Name x px, .Name y py] kt pt] (.Tuple [a, b] k2 pt2) X.env = pure (some [x, y])) (hs : swapsWithSole [.Tuple [.Name x px, .Name y py] kt pt] (.Tuple [a, b] k2 pt2) pos.line X.env = pure false) :
    SV g X E (.Assign [.Tuple [.Name x px, .Name y py] kt pt] (.Tuple [a, b] k2 pt2) pos) (sPar2 i j fa) := by
  obtain ⟨ta, pa, qa⟩ := ha
  refine ⟨_, ps_par hc hN hi hj hij hx hy pa hw hs, fun K σ H m env hp hl er h => ?_⟩
  refine qa σ H _ m env hp hl er (SPO.bind h fun ds h1 m1 H1 vs x1 hl1 r1 h => ?_)
  unfold kPar2 at h
  split at h
  · obtain ⟨v, u, rfl, r2, r3⟩ := reps2 r1
    exact ⟨v, u, rfl, h m1 H1 _ (.refl _ _) hl1 (((er.ext x1).set r2).set r3)⟩
  · exact h.elim
@[simp] def kPar3 (i j l : Nat) (env : EN) : List D → HP → SR
  | [x, y, z], h => .nx (((env.set i (some x)).set j (some y)).set l (some z)) h
  | _, _ => .stuck
@[simp] def sPar3 (i j l : Nat) (a : M (List D)) (env : EN) (hp : HP) : SR := (a env hp).sbind (kPar3 i j l env)
theorem SV.par3 {i j l : Nat} {x y z : Str} {a b c : Expr} {px py pz pt pos : Pos} {kt k2 pt2} {fa : M (List D)} (hc : X.calm = true) (hN : X.N.Nodup) (hi : X.N[i]? = some x) (hj : X.N[j]? = some y) (hl : X.N[l]? = some z) (hij : i ≠ j) (hil : i ≠ l) (hjl : j ≠ l)
    (hx : X.env.scope.names.lookup x = some .local) (hy : X.env.scope.names.lookup y = some .local) (hz : X.env.scope.names.lookup z = some .local) (ha : AV g X E [a, b, c] fa)
    (hw : swappedStores [.Tuple [.Name x px, .Name y py, .Name z pz] kt pt] (.Tuple [a, b, c] k2 pt2) X.env = pure (some [x, y, z])) (hs : swapsWithSole [.Tuple [.Name x px, .Name y py, .Name z pz] kt pt] (.Tuple [a, b, c] k2 pt2) pos.line X.env = pure false) :
    SV g X E (.Assign [.Tuple [.Name x px, .Name y py, .Name z pz] kt pt] (.Tuple [a, b, c] k2 pt2) pos) (sPar3 i j l fa) := by
  obtain ⟨ta, pa, qa⟩ := ha
  refine ⟨_, ps_par3 hc hN hi hj hl hij hil hjl hx hy hz pa hw hs, fun K σ H m env hp hl er h => ?_⟩
  refine qa σ H _ m env hp hl er (SPO.bind h fun ds h1 m1 H1 vs x1 hl1 r1 h => ?_)
  unfold kPar3 at h
  split at h
  · obtain ⟨v, us, rfl, r2, r3⟩ := reps_cons r1
    obtain ⟨u, w, rfl, r3, r4⟩ := reps2 r3
    exact ⟨v, u, w, rfl, h m1 H1 _ (.refl _ _) hl1 ((((er.ext x1).set r2).set r3).set r4)⟩
  · exact h.elim
/-! is of bools -/
@[simp] def fIsB : D → D → HP → R D
  | .bl a, .bl b, h => .ok (.bl (decide (a = b))) h
  | _, _, _ => .stuck
@[simp] def fNotB : D → D → HP → R D
  | .bl a, .bl b, h => .ok (.bl (!decide (a = b))) h
  | _, _, _ => .stuck
theorem ok_isB : OKS X g E (compareOp .Is) fIsB := .mk op_isBl fun m H hp x y v u Q hl rx ry h => by
  unfold fIsB at h
  split at h
  · exact ⟨_, _, rBl rx, rBl ry, PO.here hl h (by simp [rep])⟩
  · exact h.elim
theorem ok_notB : OKS X g E (compareOp .IsNot) fNotB := .mk op_notBl fun m H hp x y v u Q hl rx ry h => by
  unfold fNotB at h
  split at h
  · exact ⟨_, _, rBl rx, rBl ry, PO.here hl h (by simp [rep])⟩
  · exact h.elim
end
end Ev
namespace Ev
open PySem PySem.Spec PyProof.Rows L2
section
variable {g : G} {X : Cx} {E : XK}
/-! name += e, name -= e of whole numbers -/
@[simp] def kAug2 (i : Nat) (f : Int → Int → Int) (env : EN) (a : Int) : D → HP → SR
  | .int b, h => .nx (env.set i (some (.int (f a b)))) h
  | _, _ => .stuck
@[simp] def kAug (i : Nat) (f : Int → Int → Int) (fa : M D) (env : EN) (hp : HP) : Option (Option D) → SR
  | some (some (.int a)) => (fa env hp).sbind (kAug2 i f env a)
  | _ => .stuck
@[simp] def sAug (i : Nat) (f : Int → Int → Int) (fa : M D) (env : EN) (hp : HP) : SR := kAug i f fa env hp env[i]?
theorem SV.aug {i : Nat} {x : Str} {e : Expr} {op : Operator} {pos pos' : Pos} {f : Int → Int → Int} {fa : M D} (ho : PIp X op (ipI f)) (hN : X.N.Nodup) (hi : X.N[i]? = some x) (hx : Loc X.env.scope x) (ha : EV g X E e fa) (hf : X.fn x = true ∨ X.env.scope.names.lookup x = some .local) :
    SV g X E (.AugAssign (.Name x pos') op e pos) (sAug i f fa) := by
  obtain ⟨ta, pa, qa⟩ := ha
  refine ⟨_, ps_aug hN hi hx pa ho hf, fun K σ H m env hp hl er h => ?_⟩
  unfold sAug kAug at h
  split at h
  · rename_i a ea
    obtain ⟨v, e1, r⟩ := er.at_ i _ ea
    refine ⟨v, e1, ?_⟩
    refine qa σ H _ m env hp hl er (SPO.bind h fun y h1 m1 H1 u x1 hl1 r1 h => ?_)
    unfold kAug2 at h
    split at h
    · obtain rfl := rInt r
      obtain rfl := rInt r1
      exact ⟨_, _, rfl, rfl, h m1 H1 _ (.refl _ _) hl1 ((er.ext x1).set (by simp [rep]))⟩
    · exact h.elim
  · exact h.elim
end
/-! a def that is not come to -/
theorem fn_no {g : G} {P : Program} {w : World} {K : PySem.W.Frag} {mg : Str → Option Value} {base : Heap} {k n : Nat} {f : Addr} {fd : FuncData} {ps : List Str} (hn : ps.length = n) : FnOk P w K mg base CX0 k f fd ps (spF g n fun _ _ => .stuck) :=
  ⟨fun vs H Q E h => h.1.trans hn.symm, fun A outer s H args us vs Q E hr he hb hv h => by
    obtain ⟨_, _, _, _, _, _, po⟩ := h
    exact po.elim⟩
end Ev
namespace EvQ
open PySem PySem.SeqAt GQ
open AutoSeq1 (wpAny_loadPart')
open MeetsSeq MeetsSeq2 MeetsSeq3 SeqRoads2
section
variable {prog : Program} {w : World} {A : Around} {R : Result → Shared → Prop}
/-- two tuples of one length, told equal item by item: != says no -/
theorem tup_neG (l b : Addr) (us vs : Array Value) (n n2 : Nat) (dd dd2 : Option Addr) (sl sl2 : Array (Option Value)) (hz : us.size = vs.size) (I : Nat → Shared → Prop)
    (step : ∀ i (h1 : i < us.size) (h2 : i < vs.size) s, I i s → wpAny (model prog w) A.in1 (eqBool us[i] vs[i]) (fun r s' => r = true ∧ I (i + 1) s') (fun e s' => R (.error e) s') s)
    (fin : ∀ s, I us.size s → R (.ok (.ret (.bool false))) s) {s : Shared} (ha : s.heap.get? l = some { cls := .type "tuple", dict := dd, data := .seq us n, slots := sl })
    (hb : s.heap.get? b = some { cls := .type "tuple", dict := dd2, data := .seq vs n2, slots := sl2 }) (h : I 0 s) :
    wpAny (model prog w) A.in1 (Builtin.«tuple.__ne__» ⟨[.ref l, .ref b], []⟩) (FinOf prog w A R) (fun e s' => R (.error e) s') s := by
  have sub := AutoSeq1.sub_tuple_tuple
  have zl : (us.toList.zip vs.toList).length = us.size := by simp [hz]
  have start := h
  obtain ⟨hp, g, d, tk, os⟩ := s
  wp_walk using wpAny_loadPart' ha, wpAny_loadPart' hb, wpAny_forIn_list _ (fun rest c s' => c.1 = none ∧ ∃ i, rest = (us.toList.zip vs.toList).drop i ∧ i ≤ us.size ∧ I i s') _
  case turn =>
    rintro ⟨p, q⟩ rest c s' ⟨hc, i, er, hi, hI⟩
    have k0 : i < (us.toList.zip vs.toList).length := by
      rcases Nat.lt_or_ge i (us.toList.zip vs.toList).length with z | z
      · exact z
      · rw [List.drop_of_length_le z] at er
        cases er
    have k1 : i < us.size := by omega
    have k2 : i < vs.size := by omega
    rw [List.drop_eq_getElem_cons k0] at er
    injection er with e1 e2
    have ep : p = us[i] := by simpa using congrArg Prod.fst e1
    have eq : q = vs[i] := by simpa using congrArg Prod.snd e1
    subst ep eq
    refine wpAny_bind (wpAny_mono (step i k1 k2 s' hI) (fun r s2 z => ?_) fun _ _ x => x)
    obtain ⟨hr, z⟩ := z
    subst hr
    wp_walk
    exact ⟨rfl, i + 1, e2, k1, z⟩
  case fin =>
    rintro ⟨c1, c2⟩ s' ⟨hc, i, er, hi, hI⟩
    simp only at hc
    subst hc
    have ge : us.size ≤ i := by
      rcases Nat.lt_or_ge i (us.toList.zip vs.toList).length with z | z
      · rw [List.drop_eq_getElem_cons z] at er
        cases er
      · omega
    have ei : i = us.size := by omega
    have done : R (.ok (.ret (.bool false))) s' := fin s' (ei ▸ hI)
    wp_walk
    simpa [Builtin.Tuple.tupleCompareSizes, hz] using done
  case h =>
    exact ⟨rfl, 0, rfl, Nat.zero_le _, start⟩
end
section
variable {prog : Program} {w : World} {A : Around} {E : Value → Shared → Prop} {s : Shared}
theorem rc_tupNeG {l b : Addr} {us vs : Array Value} {Q : Value → Shared → Prop} (hz : us.size = vs.size) (hu : A.units < cLine) (I : Nat → Shared → Prop)
    (hl : s.heap.IsTuple l us) (hb : s.heap.IsTuple b vs)
    (step : ∀ i (h1 : i < us.size) (h2 : i < vs.size) s, I i s → wpAny (model prog w) A.in1 (eqBool us[i] vs[i]) (fun r s' => r = true ∧ I (i + 1) s') E s)
    (fin : ∀ s, I us.size s → Q (.bool false) s) (h : I 0 s) : wpAny (model prog w) A (richCompare .NotEq (.ref l) (.ref b)) Q E s := by
  obtain ⟨⟨c, dd, da, sl⟩, ho, hc, n, hd⟩ := id hl
  obtain ⟨⟨c2, dd2, da2, sl2⟩, ho2, hc2, n2, hd2⟩ := id hb
  simp only at hc hd hc2 hd2
  subst hc hd hc2 hd2
  refine wpAny_richCompare_same_room (op := .NotEq) ⟨_, ho, rfl⟩ ⟨_, ho2, rfl⟩ F.slot_tuple_ne (call_here F.slot_tuple_ne ⟨_, ho, rfl⟩ F.entry_tuple_ne (F.args_tuple_ne_2 _ _) ?_) hu
  exact tup_neG (R := wants (fun v s' => v ≠ .notImplemented ∧ Q v s') E) l b us vs n n2 dd dd2 sl sl2 hz I step (fun s' q => ⟨(fun x => nomatch x), fin s' q⟩) ho ho2 h
/-- one of them is empty -/
theorem rc_tupEq0 {l b : Addr} {us vs : Array Value} {Q : Value → Shared → Prop} (h0 : us.size = 0 ∨ vs.size = 0) (hu : A.units < cLine) (hl : s.heap.IsTuple l us) (hb : s.heap.IsTuple b vs)
    (h : Q (.bool (us.size == vs.size)) s) : wpAny (model prog w) A (richCompare .Eq (.ref l) (.ref b)) Q E s := by
  obtain ⟨⟨c, dd, da, sl⟩, ho, hc, n, hd⟩ := id hl
  obtain ⟨⟨c2, dd2, da2, sl2⟩, ho2, hc2, n2, hd2⟩ := id hb
  simp only at hc hd hc2 hd2
  subst hc hd hc2 hd2
  have m0 : min us.size vs.size = 0 := by omega
  refine wpAny_richCompare_same_room (op := .Eq) ⟨_, ho, rfl⟩ ⟨_, ho2, rfl⟩ F.slot_tuple_eq (call_meets F.slot_tuple_eq ⟨_, ho, rfl⟩ F.entry_tuple_eq (F.args_tuple_eq_2 _ _) (tuple_eqAt l b us vs n n2 dd dd2 sl sl2 fun _ => true)
    ⟨ho, ho2, fun j h1 h2 => absurd (Nat.lt_min.mpr ⟨h1, h2⟩) (by omega), ?_⟩) hu
  rw [m0]
  exact ⟨(fun x => nomatch x), by simpa using h⟩
theorem rc_tupNe0 {l b : Addr} {us vs : Array Value} {Q : Value → Shared → Prop} (h0 : us.size = 0 ∨ vs.size = 0) (hu : A.units < cLine) (hl : s.heap.IsTuple l us) (hb : s.heap.IsTuple b vs)
    (h : Q (.bool (!(us.size == vs.size))) s) : wpAny (model prog w) A (richCompare .NotEq (.ref l) (.ref b)) Q E s := by
  obtain ⟨⟨c, dd, da, sl⟩, ho, hc, n, hd⟩ := id hl
  obtain ⟨⟨c2, dd2, da2, sl2⟩, ho2, hc2, n2, hd2⟩ := id hb
  simp only at hc hd hc2 hd2
  subst hc hd hc2 hd2
  have m0 : min us.size vs.size = 0 := by omega
  refine wpAny_richCompare_same_room (op := .NotEq) ⟨_, ho, rfl⟩ ⟨_, ho2, rfl⟩ F.slot_tuple_ne (call_meets F.slot_tuple_ne ⟨_, ho, rfl⟩ F.entry_tuple_ne (F.args_tuple_ne_2 _ _) (tuple_neAt l b us vs n n2 dd dd2 sl sl2 fun _ => true)
    ⟨ho, ho2, fun j h1 h2 => absurd (Nat.lt_min.mpr ⟨h1, h2⟩) (by omega), ?_⟩) hu
  rw [m0]
  exact ⟨(fun x => nomatch x), by simpa using h⟩
end
end EvQ

namespace Ev
open PySem PySem.Spec PyProof.Rows L2
section
variable {g : G} {X : Cx} {E : XK}
/-! several classes with an own == -/
def ownL : List (Nat × FA) → Nat → FA
  | [], _ => fun _ _ => .stuck
  | (c0, F0) :: r, c => if c = c0 then F0 else ownL r c
theorem ownsN {n : Nat} : Owns X g n (ownL []) := fun c => .inr fun ds h => rfl
theorem ownsL {c0 j n : Nat} {F0 : FA} {r : List (Nat × FA)} {f : Addr} {fd : FuncData} {ps : List Str} (me : Meth X.K (g.cA c0) "__eq__" f) (o : FnOk X.prog X.w X.K X.mg X.base CX0 j f fd ps (spF g 2 F0)) (b : Binds X.K fd ps []) (hj : j ≤ n)
    (t : Owns X g n (ownL r)) : Owns X g n (ownL ((c0, F0) :: r)) := fun c => by
  by_cases h : c = c0
  · subst h
    exact .inl ⟨CX0, f, fd, ps, by simpa [ownL] using o.mono hj, me.1, me.2, b, fun _ _ _ _ _ _ _ h => h.elim⟩
  · have e : ownL ((c0, F0) :: r) c = ownL r c := by simp [ownL, h]
    rw [e]
    exact t c
theorem noNesN : NoNes X g (ownL []) := fun c => .inr fun ds h => rfl
theorem noNesL {c0 : Nat} {F0 : FA} {r : List (Nat × FA)} (h : NoNe X.K (g.cA c0)) (t : NoNes X g (ownL r)) : NoNes X g (ownL ((c0, F0) :: r)) := fun c => by
  by_cases e : c = c0
  · subst e; exact .inl h
  · have e' : ownL ((c0, F0) :: r) c = ownL r c := by simp [ownL, e]
    rw [e']
    exact t c
/-! tuples of objects with an own ==: two that say the same, or one of them empty -/
open Classical in
@[simp] noncomputable def sameT (F : Nat → FA) (b : Bool) : D → D → HP → R D
  | .tup ds, .tup es, h => if ds = es ∧ ∀ d ∈ ds, owD F h 6 d then .ok (.bl b) h else if ds.isEmpty = es.isEmpty then .stuck else .ok (.bl (!b)) h
  | _, _, _ => .stuck
def rSameT (g : G) (F : Nat → FA) (b : Bool) : R2 := fun x y H Q => ∃ m hp ds es r, HL g m H hp ∧ rep g m H (.tup ds) x ∧ rep g m H (.tup es) y ∧ ((ds = es ∧ (∀ d ∈ ds, owD F hp 6 d) ∧ r = b) ∨ (ds.isEmpty ≠ es.isEmpty ∧ r = !b)) ∧
  ∀ m' H', Ex m H m' H' → HL g m' H' hp → Q (.bl r) H'
theorem ok2_sameT {F : Nat → FA} {b : Bool} {E : XK} : OK2 g E (rSameT g F b) (sameT F b) := by
  intro m H hp x y v u Q hl rx ry h
  unfold sameT at h
  split at h
  · rename_i ds es
    split at h
    · rename_i c
      exact ⟨m, hp, ds, es, b, hl, rx, ry, .inl ⟨c.1, c.2, rfl⟩, fun m' H' ex hl' => h m' H' _ ex hl' (by simp [rep])⟩
    · split at h
      · exact h.elim
      · rename_i c
        exact ⟨m, hp, ds, es, !b, hl, rx, ry, .inr ⟨c, rfl⟩, fun m' H' ex hl' => h m' H' _ ex hl' (by simp [rep])⟩
  · exact h.elim
theorem tup_sizes {ds es : List D} {its its2 : List Value} (l1 : ds.length = its.length) (l2 : es.length = its2.length) (h : ds.isEmpty ≠ es.isEmpty) : (its.toArray.size = 0 ∨ its2.toArray.size = 0) ∧ (its.toArray.size == its2.toArray.size) = false := by
  cases ds with
  | nil =>
    cases es with
    | nil => exact absurd rfl h
    | cons y ys =>
      simp only [List.length_nil, List.length_cons] at l1 l2
      simp only [List.size_toArray, beq_eq_false_iff_ne]
      omega
  | cons x xs =>
    cases es with
    | nil =>
      simp only [List.length_nil, List.length_cons] at l1 l2
      simp only [List.size_toArray, beq_eq_false_iff_ne]
      omega
    | cons y ys => exact absurd rfl h
theorem op_eqT {F : Nat → FA} {n0 : Nat} (hK : X.K = g.K) (O : Owns X g n0 F) (hr : Room (n0 + 7) X.A) : OpR X (compareOp .Eq) (rSameT g F true) := by
  intro pins s σ H x y v u Q I rx ry h
  obtain ⟨m, hp, ds, es, r, hl, r1, r2, c, q⟩ := h
  obtain ⟨a, xs, rfl, fa, ra⟩ := rTup r1
  obtain ⟨b, ys, rfl, fb, rb⟩ := rTup r2
  rw [← hK] at fa fb
  cases rx
  cases ry
  show wpAny (model X.prog X.w) X.A (richCompare .Eq (.ref a) (.ref b)) (EP X pins σ Q) X.xe s
  obtain ⟨its, w1, e, z⟩ := I.tuple fa
  obtain ⟨its2, w2, e2, z2⟩ := I.tuple fb
  rcases c with ⟨rfl, hd, rfl⟩ | ⟨c, rfl⟩
  · have hsz : its.toArray.size = its2.toArray.size := by
      rw [List.size_toArray, List.size_toArray, ← w1.length, ← w2.length, ← ra.length, ← rb.length]
    refine GQ.rc_tupG hsz hr.units0 (fun _ s' => Grown X g hp pins σ m H s') e e2 (fun i h1 h2 s' q => ?_) (fun s' q' => ?_) ⟨m, H, I, Ex.refl _ _, hl⟩
    · obtain ⟨m1, H1, I1, x1, hl1⟩ := q
      exact turnN hK (fun d k => owD_ok hK O 6 d (hd d k)) ⟨hr, rfl⟩ (reps.ext x1 _ _ ra) (reps.ext x1 _ _ rb) w1 w2 s' I1 x1 hl1 i h1 h2
    · obtain ⟨m', H', I', ex, hl'⟩ := q'
      exact ⟨.bl true, H', I', rfl, q m' H' ex hl'⟩
  · obtain ⟨s0, s1⟩ := tup_sizes (by rw [← w1.length, ra.length]) (by rw [← w2.length, rb.length]) c
    refine EvQ.rc_tupEq0 s0 hr.units0 e e2 ?_
    rw [s1]
    exact ⟨.bl false, H, I, rfl, q m H (Ex.refl _ _) hl⟩
theorem op_neT {F : Nat → FA} {n0 : Nat} (hK : X.K = g.K) (O : Owns X g n0 F) (hr : Room (n0 + 7) X.A) : OpR X (compareOp .NotEq) (rSameT g F false) := by
  intro pins s σ H x y v u Q I rx ry h
  obtain ⟨m, hp, ds, es, r, hl, r1, r2, c, q⟩ := h
  obtain ⟨a, xs, rfl, fa, ra⟩ := rTup r1
  obtain ⟨b, ys, rfl, fb, rb⟩ := rTup r2
  rw [← hK] at fa fb
  cases rx
  cases ry
  show wpAny (model X.prog X.w) X.A (richCompare .NotEq (.ref a) (.ref b)) (EP X pins σ Q) X.xe s
  obtain ⟨its, w1, e, z⟩ := I.tuple fa
  obtain ⟨its2, w2, e2, z2⟩ := I.tuple fb
  rcases c with ⟨rfl, hd, rfl⟩ | ⟨c, rfl⟩
  · have hsz : its.toArray.size = its2.toArray.size := by
      rw [List.size_toArray, List.size_toArray, ← w1.length, ← w2.length, ← ra.length, ← rb.length]
    refine EvQ.rc_tupNeG hsz hr.units0 (fun _ s' => Grown X g hp pins σ m H s') e e2 (fun i h1 h2 s' q => ?_) (fun s' q' => ?_) ⟨m, H, I, Ex.refl _ _, hl⟩
    · obtain ⟨m1, H1, I1, x1, hl1⟩ := q
      exact turnN hK (fun d k => owD_ok hK O 6 d (hd d k)) ⟨hr, rfl⟩ (reps.ext x1 _ _ ra) (reps.ext x1 _ _ rb) w1 w2 s' I1 x1 hl1 i h1 h2
    · obtain ⟨m', H', I', ex, hl'⟩ := q'
      exact ⟨.bl false, H', I', rfl, q m' H' ex hl'⟩
  · obtain ⟨s0, s1⟩ := tup_sizes (by rw [← w1.length, ra.length]) (by rw [← w2.length, rb.length]) c
    refine EvQ.rc_tupNe0 s0 hr.units0 e e2 ?_
    rw [s1]
    exact ⟨.bl true, H, I, rfl, q m H (Ex.refl _ _) hl⟩
theorem ok_eqT {F : Nat → FA} {n0 : Nat} {E : XK} (hK : X.K = g.K) (O : Owns X g n0 F) (hr : Room (n0 + 7) X.A) : OKS X g E (compareOp .Eq) (sameT F true) := ⟨_, op_eqT hK O hr, ok2_sameT⟩
theorem ok_neT {F : Nat → FA} {n0 : Nat} {E : XK} (hK : X.K = g.K) (O : Owns X g n0 F) (hr : Room (n0 + 7) X.A) : OKS X g E (compareOp .NotEq) (sameT F false) := ⟨_, op_neT hK O hr, ok2_sameT⟩
end
end Ev
namespace Ev
open PySem PySem.Spec PyProof.Rows L2
/-! tables of data -/
def valT : List (Key × D) → Key → Option D
  | [], _ => none
  | p :: r, k => if p.1 = k then some p.2 else valT r k
def putT (ks : List (Key × D)) (k : Key) (y : D) : List (Key × D) := if (ks.any fun p => decide (p.1 = k)) = true then ks.map (fun p => if p.1 = k then (p.1, y) else p) else ks ++ [(k, y)]
theorem valT_any (k : Key) : ∀ ks : List (Key × D), (ks.any fun p => decide (p.1 = k)) = (valT ks k).isSome
  | [] => rfl
  | p :: r => by
    have := valT_any k r
    by_cases e : p.1 = k
    · simp [valT, e]
    · simp [valT, e, this]
theorem valT_map (k j : Key) (y : D) : ∀ ks : List (Key × D), valT (ks.map fun p => if p.1 = k then (p.1, y) else p) j = (valT ks j).map fun x => if j = k then y else x
  | [] => rfl
  | p :: r => by
    have ih := valT_map k j y r
    rw [List.map_cons]
    by_cases a : p.1 = k
    · rw [if_pos a]
      by_cases e : p.1 = j
      · have : j = k := e.symm.trans a
        simp [valT, e, this]
      · simp only [valT, if_neg e]
        exact ih
    · rw [if_neg a]
      by_cases e : p.1 = j
      · have : ¬ j = k := fun z => a (e.trans z)
        simp [valT, e, this]
      · simp only [valT, if_neg e]
        exact ih
theorem valT_snoc (k j : Key) (y : D) : ∀ ks : List (Key × D), valT ks k = none → valT (ks ++ [(k, y)]) j = if j = k then some y else valT ks j
  | [], _ => by
    by_cases e : j = k
    · subst e; simp [valT]
    · have : ¬ k = j := fun z => e z.symm
      simp [valT, e, this]
  | p :: r, h => by
    have a : ¬ p.1 = k := fun z => by simp [valT, z] at h
    have ih := valT_snoc k j y r (by simpa [valT, a] using h)
    by_cases e : p.1 = j
    · have : ¬ j = k := fun z => a (e.trans z)
      simp [valT, e, this]
    · simp only [List.cons_append, valT, if_neg e]
      exact ih
theorem valT_put (k j : Key) (y : D) (ks : List (Key × D)) : valT (putT ks k y) j = if j = k then some y else valT ks j := by
  unfold putT
  rw [valT_any]
  cases h : valT ks k with
  | none =>
    rw [if_neg (by simp)]
    exact valT_snoc k j y ks h
  | some d =>
    rw [if_pos (by simp), valT_map]
    by_cases e : j = k
    · subst e
      simp [h]
    · simp only [if_neg e, Option.map_id_fun', id_eq]
theorem putT_len (ks : List (Key × D)) (k : Key) (y : D) : (putT ks k y).length ≤ ks.length + 1 := by
  unfold putT
  split <;> simp
section
variable {g : G} {X : Cx} {E : XK} {m : AM} {H : Hp}
theorem repk.val {k : Key} : ∀ {ks : List (Key × D)} {vs : List (Key × V)}, repk g m H ks vs → (∀ d, valT ks k = some d → ∃ v, valV vs k = some v ∧ rep g m H d v) ∧ (valT ks k = none → valV vs k = none)
  | [], vs, h => by
    simp only [repk] at h
    subst h
    exact ⟨fun d e => by simp [valT] at e, fun _ => valV_nil⟩
  | (k', d') :: ks, vs, h => by
    simp only [repk] at h
    obtain ⟨v, r, rfl, h1, h2⟩ := h
    obtain ⟨i1, i2⟩ := repk.val h2
    by_cases e : k' = k
    · subst e
      refine ⟨fun d q => ?_, fun q => by simp [valT] at q⟩
      simp [valT] at q
      subst q
      exact ⟨v, valV_pos rfl, h1⟩
    · refine ⟨fun d q => ?_, fun q => ?_⟩
      · rw [valV_neg (by exact e)]
        exact i1 d (by simpa [valT, e] using q)
      · rw [valV_neg (by exact e)]
        exact i2 (by simpa [valT, e] using q)
theorem repk.isSome {k : Key} {ks : List (Key × D)} {vs : List (Key × V)} (h : repk g m H ks vs) : (valV vs k).isSome = (valT ks k).isSome := by
  obtain ⟨i1, i2⟩ := h.val (k := k)
  cases e : valT ks k with
  | none => rw [i2 e]; rfl
  | some d =>
    obtain ⟨v, q, _⟩ := i1 d e
    rw [q]
    rfl
theorem repk.snoc {k : Key} {y : D} {v : V} (hy : rep g m H y v) : ∀ {ks : List (Key × D)} {vs : List (Key × V)}, repk g m H ks vs → repk g m H (ks ++ [(k, y)]) (vs ++ [(k, v)])
  | [], vs, h => by
    simp only [repk] at h
    subst h
    simp only [List.nil_append, repk]
    exact ⟨v, [], rfl, hy, rfl⟩
  | (k', d') :: ks, vs, h => by
    simp only [repk] at h
    obtain ⟨w, r, rfl, h1, h2⟩ := h
    simp only [List.cons_append, repk]
    exact ⟨w, r ++ [(k, v)], rfl, h1, repk.snoc hy h2⟩
theorem repk.repl {k : Key} {y : D} {v : V} (hy : rep g m H y v) : ∀ {ks : List (Key × D)} {vs : List (Key × V)}, repk g m H ks vs → repk g m H (ks.map fun p => if p.1 = k then (p.1, y) else p) (vs.map fun p => if p.1 = k then (p.1, v) else p)
  | [], vs, h => by
    simp only [repk] at h
    subst h
    simp [repk]
  | (k', d') :: ks, vs, h => by
    simp only [repk] at h
    obtain ⟨w, r, rfl, h1, h2⟩ := h
    have ih := repk.repl (k := k) hy h2
    simp only [List.map_cons]
    by_cases e : k' = k
    · simp only [e, if_true, repk]
      exact ⟨v, _, rfl, hy, ih⟩
    · simp only [e, if_false, repk]
      exact ⟨w, _, rfl, h1, ih⟩
theorem repk.put {k : Key} {y : D} {v : V} (hy : rep g m H y v) {ks : List (Key × D)} {vs : List (Key × V)} (h : repk g m H ks vs) : repk g m H (putT ks k y) (putK vs k v) := by
  unfold putT putK
  rw [valT_any, valV_any, h.isSome]
  split
  · exact h.repl hy
  · exact h.snoc hy
/-! keys, and the tables that a value says -/
@[simp] def dKey : D → Option Key
  | .int i => some (.inl i)
  | .str x => some (.inr x)
  | _ => none
theorem dKey_ok {d : D} {v : V} {k : Key} (r : rep g m H d v) (e : dKey d = some k) : v = kV k := by
  cases d with
  | int i => simp only [dKey, Option.some.injEq] at e; subst e; exact rInt r
  | str i => simp only [dKey, Option.some.injEq] at e; subst e; exact rStr r
  | _ => simp at e
@[simp] def dicO (h : HP) : D → Option (List (Key × D))
  | .ref n => match h[n]? with
    | some (.dic ks) => some ks
    | _ => none
  | _ => none
theorem dicO_ok {hp : HP} {d : D} {v : V} {ks : List (Key × D)} (hl : HL g m H hp) (r : rep g m H d v) (e : dicO hp d = some ks) : ∃ n a vs, d = .ref n ∧ hp[n]? = some (.dic ks) ∧ m[n]? = some (some a) ∧ v = .ref a ∧ H a = some (.dK vs) ∧ repk g m H ks vs := by
  cases d with
  | ref n =>
    simp only [dicO] at e
    split at e
    · rename_i ks' q
      cases e
      obtain ⟨a, ea, vs, ha, rr⟩ := hl.at q (by simp)
      simp only [rep] at r
      exact ⟨n, a, vs, rfl, q, ea, r.2 a ea, ha, rr⟩
    · cases e
  | _ => simp at e
/-! k in d, k not in d -/
@[simp] def dinO (neg : Bool) : Option Key → Option (List (Key × D)) → HP → R D
  | some k, some ks, h => .ok (.bl (if neg = true then !(valT ks k).isSome else (valT ks k).isSome)) h
  | _, _, _ => .stuck
@[simp] def fDIn (neg : Bool) (x y : D) (h : HP) : R D := dinO neg (dKey x) (dicO h y) h
theorem fDIn_ok {hp : HP} {neg : Bool} {x y : D} {v u : V} {Q : V → Hp → Prop} (hl : HL g m H hp) (rx : rep g m H x v) (ry : rep g m H y u) (h : PO g m H E (rep g) Q (fDIn neg x y hp)) :
    ∃ a o, u = .ref a ∧ DGet H a v o ∧ Q (.bl (if neg = true then !o.isSome else o.isSome)) H := by
  unfold fDIn dinO at h
  split at h
  · rename_i k ks e1 e2
    obtain ⟨n, a, vs, rfl, _, _, rfl, ha, rr⟩ := dicO_ok hl ry e2
    obtain rfl := dKey_ok rx e1
    refine ⟨a, valV vs k, rfl, .k ha, ?_⟩
    rw [rr.isSome]
    exact PO.here hl h (by simp [rep])
  · exact h.elim
theorem ok_din (hu : X.A.units + 64 < cLine) : OKS X g E (compareOp .In) (fDIn false) := by
  refine ⟨fun x y H Q => ∃ a o, y = .ref a ∧ DGet H a x o ∧ Q (.bl o.isSome) H, fun pins s σ H x y v u Q I rx ry h => ?_, fun m H hp x y v u Q hl rx ry h => by simpa using fDIn_ok hl rx ry h⟩
  obtain ⟨a, o, rfl, d, q⟩ := h
  obtain rfl : u = Value.ref a := ry
  exact d_in (by omega) I d rx fun s3 I3 => ⟨.bl o.isSome, H, I3, rfl, q⟩
theorem ok_dnotin (hu : X.A.units + 64 < cLine) : OKS X g E (compareOp .NotIn) (fDIn true) := by
  refine ⟨fun x y H Q => ∃ a o, y = .ref a ∧ DGet H a x o ∧ Q (.bl (!o.isSome)) H, fun pins s σ H x y v u Q I rx ry h => ?_, fun m H hp x y v u Q hl rx ry h => by simpa using fDIn_ok hl rx ry h⟩
  obtain ⟨a, o, rfl, d, q⟩ := h
  obtain rfl : u = Value.ref a := ry
  exact d_notIn (by omega) I d rx fun s3 I3 => ⟨.bl (!o.isSome), H, I3, rfl, q⟩
/-! d[k] -/
@[simp] def dgetV : Option D → HP → R D
  | some y, h => .ok y h
  | none, _ => .stuck
@[simp] def dgetO : Option Key → Option (List (Key × D)) → HP → R D
  | some k, some ks, h => dgetV (valT ks k) h
  | _, _, _ => .stuck
theorem dgetO_inv {Q : V → Hp → Prop} {hp : HP} : ∀ {a : Option Key} {b : Option (List (Key × D))}, PO g m H E (rep g) Q (dgetO a b hp) → ∃ k ks y, a = some k ∧ b = some ks ∧ valT ks k = some y ∧ PO g m H E (rep g) Q (.ok y hp)
  | some k, some ks, h => by
    simp only [dgetO] at h
    cases e : valT ks k with
    | none => rw [e] at h; exact h.elim
    | some y => rw [e] at h; exact ⟨k, ks, y, rfl, rfl, e, h⟩
  | none, _, h => (show False from h).elim
  | some _, none, h => (show False from h).elim
@[simp] def kDGet (d k : D) (h : HP) : R D := dgetO (dKey k) (dicO h d) h
@[simp] def kDGet1 (fk : M D) (env : EN) (d : D) (h : HP) : R D := (fk env h).bind (kDGet d)
@[simp] def mDGet (fd fk : M D) (env : EN) (h : HP) : R D := (fd env h).bind (kDGet1 fk env)
theorem EV.dget {o i : Expr} {pos : Pos} {fd fk : M D} (hu : X.A.units + 64 < cLine) (ho : EV g X E o fd) (hi : EV g X E i fk) (hs : NoSl i) : EV g X E (.Subscript o i pos) (mDGet fd fk) := by
  obtain ⟨to, po, qo⟩ := ho
  obtain ⟨ti, pi, qi⟩ := hi
  refine ⟨_, pe_dget (by omega) po pi hs, fun σ H Q m env hp hl er h => ?_⟩
  refine qo σ H _ m env hp hl er (PO.bind h fun x h1 m1 H1 v x1 hl1 r1 h => ?_)
  refine qi σ H1 _ m1 env h1 hl1 (er.ext x1) (PO.bind h fun y h2 m2 H2 u x2 hl2 r2 h => ?_)
  obtain ⟨k, ks, d, e1, e2, e, hd⟩ := dgetO_inv h
  obtain ⟨n, a, vs, rfl, _, _, rfl, ha, rr⟩ := dicO_ok hl2 (rep.ext x2 _ _ r1) e2
  obtain rfl := dKey_ok r2 e1
  obtain ⟨w, ew, rw'⟩ := (rr.val (k := k)).1 d e
  exact ⟨a, w, rfl, by rw [← ew]; exact .k ha, PO.here hl2 hd rw'⟩
/-! d.get(k, x) -/
@[simp] def dgetE (z : D) : Option D → HP → R D
  | some y, h => .ok y h
  | none, h => .ok z h
@[simp] def dgetP (z : D) : Option Key → Option (List (Key × D)) → HP → R D
  | some k, some ks, h => dgetE z (valT ks k) h
  | _, _, _ => .stuck
@[simp] def kDGet23 (d k z : D) (h : HP) : R D := dgetP z (dKey k) (dicO h d) h
@[simp] def kDGet22 (fz : M D) (env : EN) (d k : D) (h : HP) : R D := (fz env h).bind (kDGet23 d k)
@[simp] def kDGet21 (fk fz : M D) (env : EN) (d : D) (h : HP) : R D := if (dicO h d).isSome = true then (fk env h).bind (kDGet22 fz env d) else .stuck
@[simp] def mDGet2 (fd fk fz : M D) (env : EN) (h : HP) : R D := (fd env h).bind (kDGet21 fk fz env)
theorem EV.dget2 {o e f : Expr} {apos cpos : Pos} {fd fk fz : M D} (hu : X.A.units + 64 < cLine) (ho : EV g X E o fd) (he : EV g X E e fk) (hf : EV g X E f fz) (mm : M2 X o "get" apos e f cpos) :
    EV g X E (.Call (.Attribute o "get" apos) [e, f] [] cpos) (mDGet2 fd fk fz) := by
  obtain ⟨to, po, qo⟩ := ho
  obtain ⟨te, pe, qe⟩ := he
  obtain ⟨tf, pf, qf⟩ := hf
  refine ⟨_, pe_dget2 (by omega) po pe pf mm, fun σ H Q m env hp hl er h => ?_⟩
  refine qo σ H _ m env hp hl er (PO.bind h fun x h1 m1 H1 v x1 hl1 r1 h => ?_)
  unfold kDGet21 at h
  split at h
  · rename_i c
    obtain ⟨ks, ek⟩ := Option.isSome_iff_exists.mp c
    obtain ⟨n, a, vs, rfl, _, en, rfl, ha, _⟩ := dicO_ok hl1 r1 ek
    refine ⟨a, rfl, .inl ⟨vs, .inl ha⟩, qe σ H1 _ m1 env h1 hl1 (er.ext x1) (PO.bind h fun y h2 m2 H2 u x2 hl2 r2 h => ?_)⟩
    refine qf σ H2 _ m2 env h2 hl2 ((er.ext x1).ext x2) (PO.bind h fun z h3 m3 H3 w x3 hl3 r3 h => ?_)
    unfold kDGet23 dgetP at h
    split at h
    · rename_i k ks' e1 e2
      obtain ⟨n', a', vs', q, _, en', ea', ha', rr⟩ := dicO_ok hl3 (rep.ext (x2.trans x3) _ _ r1) e2
      cases q
      cases ea'
      obtain rfl := dKey_ok r2 e1
      refine ⟨valV vs' k, .k ha', ?_⟩
      cases e : valT ks' k with
      | none =>
        rw [e] at h
        rw [(rr.val (k := k)).2 e]
        exact PO.here hl3 h r3
      | some d =>
        rw [e] at h
        obtain ⟨w', ew, rw'⟩ := (rr.val (k := k)).1 d e
        rw [ew]
        exact PO.here hl3 h rw'
    · exact h.elim
  · exact h.elim
/-! {k: v} -/
@[simp] def kDisp3 (n : Nat) (y : D) : Option Key → Option O → HP → R D
  | some k, some (.dic []), h => .ok (.ref n) (h.set n (.dic [(k, y)]))
  | _, _, _ => .stuck
@[simp] def kDisp2 (n : Nat) (kd y : D) (h : HP) : R D := kDisp3 n y (dKey kd) h[n]? h
@[simp] def kDisp1 (fv : M D) (env : EN) (n : Nat) (kd : D) (h : HP) : R D := (fv env h).bind (kDisp2 n kd)
@[simp] def mDisp1 (fk fv : M D) (env : EN) (h : HP) : R D := (fk env (h ++ [.dic []])).bind (kDisp1 fv env h.length)
theorem EV.disp1 {ek ev : Expr} {pos : Pos} {fk fv : M D} (hk : EV g X E ek fk) (hv : EV g X E ev fv) : EV g X E (.Dict [some ek] [ev] pos) (mDisp1 fk fv) := by
  obtain ⟨tk, pk, qk⟩ := hk
  obtain ⟨tv, pv, qv⟩ := hv
  refine ⟨_, pe_disp (pps_cons pk pv pps_nil) rfl rfl (by simp) (by simp), fun σ H Q m env hp hl er h p np => ?_⟩
  obtain ⟨x0, hl0⟩ := hl.push (o := .dK []) (ob := .dic []) np (by simp) fun x => ⟨[], upd_same, by simp [repk]⟩
  refine qk σ _ _ _ env _ hl0 (er.ext x0) (PO.bindB h x0 fun x h1 m1 H1 v x1 hl1 r1 h => ?_)
  refine qv σ H1 _ m1 env h1 hl1 ((er.ext x0).ext x1) (PO.bindB h (x0.trans x1) fun y h2 m2 H2 u x2 hl2 r2 h => ?_)
  unfold kDisp2 kDisp3 at h
  split at h
  · rename_i k e1 e2
    obtain ⟨a, ea, vs, ha, rr⟩ := hl2.at e2 (by simp)
    have e0 : (m ++ [some p])[hp.length]? = some (some a) := (x1.trans x2).mp _ _ ea (by simp [hl.len])
    rw [← hl.len, List.getElem?_append_right (Nat.le_refl _)] at e0
    simp at e0
    subst e0
    simp only [repk] at rr
    subst rr
    obtain rfl := dKey_ok r1 e1
    refine ⟨ha, [(k, u)], rfl, by simp, ?_⟩
    have em : mergeK [] [(k, u)] = [(k, u)] := by simp [mergeK, putK]
    rw [em]
    obtain ⟨x3, hl3⟩ := hl2.write (u := .dK [(k, u)]) (ob' := .dic [(k, y)]) ea e2 (by simp) fun x3 => ⟨[(k, u)], upd_same, by simp only [repk]; exact ⟨u, [], rfl, rep.ext x3 _ _ r2, rfl⟩⟩
    refine h m2 _ _ (((x0.trans x1).trans x2).trans x3) hl3 ?_
    simp only [rep]
    refine ⟨(List.getElem?_eq_some_iff.mp ea).1, fun b eb => ?_⟩
    rw [ea] at eb
    cases eb
    rfl
  · exact h.elim
/-! d[k] = v -/
@[simp] def dputL (n : Nat) (k : Key) (y : D) (env : EN) : Option O → HP → SR
  | some (.dic ks), h => if ks.length < sizeLine then .nx env (h.set n (.dic (putT ks k y))) else .stuck
  | _, _ => .stuck
@[simp] def dputK (n : Nat) (y : D) (env : EN) : Option Key → HP → SR
  | some k, h => dputL n k y env h[n]? h
  | none, _ => .stuck
@[simp] def kDPut2 (env : EN) (y : D) : D → D → HP → SR
  | .ref n, k, h => dputK n y env (dKey k) h
  | _, _, _ => .stuck
@[simp] def kDPut1 (fi : M D) (env : EN) (y o : D) (h : HP) : SR := (fi env h).sbind (kDPut2 env y o)
@[simp] def kDPut (fo fi : M D) (env : EN) (y : D) (h : HP) : SR := (fo env h).sbind (kDPut1 fi env y)
@[simp] def sDPut (fv fo fi : M D) (env : EN) (h : HP) : SR := (fv env h).sbind (kDPut fo fi env)
theorem SV.dput {o i e : Expr} {pos pos' : Pos} {fv fo fi : M D} (hu : X.A.units + 64 < cLine) (hv : EV g X E e fv) (ho : EV g X E o fo) (hi : EV g X E i fi)
    (hs : swapsWith e (some (.Subscript o i pos')) pos.line X.env = pure false) : SV g X E (.Assign [.Subscript o i pos'] e pos) (sDPut fv fo fi) := by
  obtain ⟨tv, pv, qv⟩ := hv
  obtain ⟨to, po, qo⟩ := ho
  obtain ⟨ti, pi, qi⟩ := hi
  refine ⟨_, ps_dput (by omega) po pi pv hs, fun K σ H m env hp hl er h => ?_⟩
  refine qv σ H _ m env hp hl er (SPO.bind h fun y h1 m1 H1 v x1 hl1 r1 h => ?_)
  refine qo σ H1 _ m1 env h1 hl1 (er.ext x1) (SPO.bind h fun od h2 m2 H2 u x2 hl2 r2 h => ?_)
  refine qi σ H2 _ m2 env h2 hl2 ((er.ext x1).ext x2) (SPO.bind h fun kd h3 m3 H3 w x3 hl3 r3 h => ?_)
  unfold kDPut2 at h
  split at h
  · rename_i n
    unfold dputK at h
    split at h
    · rename_i k ek
      unfold dputL at h
      split at h
      · rename_i ks eo
        split at h
        · rename_i lk
          obtain ⟨a, ea, us, hA, rr⟩ := hl3.at eo (by simp)
          have r2' := rep.ext x3 _ _ r2
          simp only [rep] at r2'
          have ry := rep.ext (x2.trans x3) _ _ r1
          obtain rfl := dKey_ok r3 ek
          obtain ⟨x6, hl6⟩ := hl3.write (u := .dK (putK us k v)) (ob' := .dic (putT ks k y)) ea eo (by simp) fun x6 => ⟨putK us k v, upd_same, repk.ext x6 _ _ (rr.put ry)⟩
          exact ⟨a, _, r2'.2 a ea, .k hA (by rw [← rr.length]; exact lk), h m3 _ σ x6 hl6 (((er.ext x1).ext x2).ext x3 |>.ext x6)⟩
        · exact h.elim
      · exact h.elim
    · exact h.elim
  · exact h.elim
end
end Ev
namespace EvZ
open PySem PySem.Spec PyProof.Rows L2
/-! zip of two things, each a list or a tuple (k: a list) -/
def ItB (k : Bool) (h : Heap) (it a : Addr) (i : Nat) : Prop := if k = true then h.IsListIter it a i else h.IsTupleIter it a i
def SqB (k : Bool) (K : PySem.W.Frag) (H : Hp) (a : Addr) (xs : List V) : Prop := if k = true then SqL K H a xs else SqT K H a xs
def HasB (k : Bool) (h : Heap) (a : Addr) (its : Array Value) : Prop := if k = true then h.IsList a its else h.IsTuple a its
def obB (k : Bool) (a : Addr) : Obj := if k = true then { cls := .type "list_iterator", data := .fields #[.ref a, .int 0 0] } else { cls := .type "tuple_iterator", data := .fields #[.ref a, .int 0 0] }
theorem ItB.at {k : Bool} {h h' : Heap} {it a : Addr} {i : Nat} (x : ItB k h it a i) (e : ∀ o, h.get? it = some o → h'.get? it = some o) : ItB k h' it a i := by
  cases k with
  | true => exact Heap.IsListIter.at (show h.IsListIter it a i from x) e
  | false => exact Heap.IsTupleIter.at (show h.IsTupleIter it a i from x) e
theorem ItB.here {k : Bool} {h : Heap} {it a : Addr} {i : Nat} (x : ItB k h it a i) : ∃ o, h.get? it = some o ∧ ∀ v, o.data ≠ .cell v := by
  cases k with
  | true =>
    obtain ⟨o, e, _, d⟩ := (show h.IsListIter it a i from x)
    exact ⟨o, e, fun v q => by rw [d] at q; cases q⟩
  | false =>
    obtain ⟨o, e, _, d⟩ := (show h.IsTupleIter it a i from x)
    exact ⟨o, e, fun v q => by rw [d] at q; cases q⟩
theorem drawB {prog : Program} {w : World} {A : Around} (hh : A.handled = none) (k : Bool) (it a : Addr) (hne : a ≠ it) (its : Array Value) :
    Draws prog w A it [it, a] its.size (fun i v => its[i]? = some v) (fun i h => ItB k h it a i ∧ HasB k h a its) := by
  cases k with
  | true => exact Draws.list hh it a hne its
  | false => exact Draws.tuple hh it a hne its
theorem beginB (k : Bool) (a : Addr) (its : Array Value) : Begins (.ref a) (obB k a) fun h => HasB k h a its := by
  cases k with
  | true => exact begins_list a its
  | false => exact begins_tuple a its
theorem itB_new {k : Bool} {h : Heap} {it a : Addr} (e : h.get? it = some (obB k a)) : ItB k h it a 0 := by
  cases k with
  | true => exact ⟨_, e, rfl, rfl⟩
  | false => exact ⟨_, e, rfl, rfl⟩
theorem HasB.lt {k : Bool} {h : Heap} {a : Addr} {its : Array Value} (x : HasB k h a its) : a < h.objs.size := by
  cases k with
  | true =>
    obtain ⟨o, e, _⟩ := (show h.IsList a its from x)
    exact Heap.lt_size e
  | false =>
    obtain ⟨o, e, _⟩ := (show h.IsTuple a its from x)
    exact Heap.lt_size e
section
variable {X : Cx} {pins : List (Addr × Obj)} {σ : L2.St} {H : Hp} {s : Shared}
theorem has_of (I : Inv X pins σ H s) {k : Bool} {a : Addr} {xs : List V} (q : SqB k X.K H a xs) : ∃ its : List Value, Vals xs its ∧ HasB k s.heap a its.toArray := by
  cases k with
  | true =>
    obtain ⟨its, rv, p, _⟩ := I.list (show SqL X.K H a xs from q)
    exact ⟨its, rv, p.isList⟩
  | false =>
    obtain ⟨its, rv, p, _⟩ := I.tuple (show SqT X.K H a xs from q)
    exact ⟨its, rv, p⟩
theorem sqB_inj (I : Inv X pins σ H s) {k : Bool} {a : Addr} {xs ys : List V} (q : SqB k X.K H a xs) (r : SqB k X.K H a ys) : xs = ys := by
  cases k with
  | true => exact I.list_inj q r
  | false => exact I.tuple_inj q r
end
def ItzB (k1 k2 : Bool) (K : PySem.W.Frag) (a b : Addr) : It :=
  ⟨fun i H => ∃ (xs ys : List V) (x y : V), SqB k1 K H a xs ∧ SqB k2 K H b ys ∧ xs[i]? = some x ∧ ys[i]? = some y,
    fun i H v H' => ∃ T x y, v = .ref T ∧ H T = none ∧ H' = upd H T (.tup [x, y]) ∧ (∀ xs, SqB k1 K H a xs → xs[i]? = some x) ∧ ∀ ys, SqB k2 K H b ys → ys[i]? = some y,
    fun i H => ∃ xs ys : List V, SqB k1 K H a xs ∧ SqB k2 K H b ys ∧ i ≤ xs.length ∧ i ≤ ys.length ∧ (i = xs.length ∨ i = ys.length)⟩
theorem turn_zipB {P : Program} {w : World} {K : PySem.W.Frag} {elts : List Expr} {kk : Nat} {tpos : Pos} {k1 k2 : Bool} {a b z TI TO i1 i2 : Addr} (D : ZipSep2 z TI TO i1 i2 [i1, a] [i2, b]) (n1 : a ≠ i1) (n2 : b ≠ i2) :
    Turn P w K (.Tuple elts kk tpos) (ItzB k1 k2 K a b) [z, TI, TO, i1, i2] z (fun i h => IsZip h z TI TO .none ∧ IsTupOf2 h TI (.ref i1) (.ref i2) ∧ (∃ x y, IsTupOf2 h TO x y) ∧ ItB k1 h i1 a i ∧ ItB k2 h i2 b i) where
  mem := by simp
  obj := fun i h st c hc => by
    obtain ⟨hz, hTI, ⟨x, y, hTO⟩, h1, h2⟩ := st
    simp only [List.mem_cons, List.not_mem_nil, or_false] at hc
    rcases hc with rfl | rfl | rfl | rfl | rfl
    · exact ⟨_, hz, fun v q => nomatch q⟩
    · exact ⟨_, hTI, fun v q => nomatch q⟩
    · exact ⟨_, hTO, fun v q => nomatch q⟩
    · exact h1.here
    · exact h2.here
  keep := fun i h h' st k => by
    obtain ⟨hz, hTI, ⟨x, y, hTO⟩, h1, h2⟩ := st
    exact ⟨k z (by simp) _ hz, k TI (by simp) _ hTI, ⟨x, y, k TO (by simp) _ hTO⟩, h1.at fun o q => k i1 (by simp) o q, h2.at fun o q => k i2 (by simp) o q⟩
  item := by
    intro X hP hw hK hc i pins s σ H E I hf st hg
    subst hP hw hK
    obtain ⟨hz, hTI, ⟨x0, y0, hTO⟩, h1, h2⟩ := st
    obtain ⟨xs, ys, x, y, hqx, hqy, hx, hy⟩ := hg
    obtain ⟨its, rv, p⟩ := has_of I hqx
    obtain ⟨its2, rv2, p2⟩ := has_of I hqy
    obtain ⟨u, hu, ru⟩ := rv.get hx
    obtain ⟨u2, hu2, ru2⟩ := rv2.get hy
    have hh : X.A.in1.handled = none := I.ok.hd hc
    have l1 : i < its.toArray.size := by
      have := (List.getElem?_eq_some_iff.mp hu).1
      simpa using this
    have l2 : i < its2.toArray.size := by
      have := (List.getElem?_eq_some_iff.mp hu2).1
      simpa using this
    have hzl : z < s.heap.objs.size := Heap.lt_size hz
    refine wpAny_pyNext_zipD2_item D (drawB hh k1 i1 a n1 its.toArray) (drawB hh k2 i2 b n2 its2.toArray) hz hTI hTO ⟨h1, p⟩ ⟨h2, p2⟩ l1 l2 fun w1 w2 h' tk y1 y2 z' TO' g1 g2 hT hsz hk => ?_
    have q1 : w1 = u := by
      have : its[i]? = some w1 := by simpa using y1
      rw [this] at hu
      exact Option.some.inj hu
    have q2 : w2 = u2 := by
      have : its2[i]? = some w2 := by simpa using y2
      rw [this] at hu2
      exact Option.some.inj hu2
    subst q1 q2
    refine ⟨_, rfl, wpAny_letOwnedTupleGo_zip (s := { s with heap := h', toks := tk }) z' fun h'' z'' sb => ?_⟩
    have hT2 : h''.get? s.heap.objs.size = some { cls := .type "tuple", data := .seq #[w1, w2] } := (sb.2 _ (Nat.ne_of_gt hzl)).trans hT
    have new : ObjOk X.prog X.w (upd H s.heap.objs.size (.tup [x, y])) h'' s.heap.objs.size (.tup [x, y]) :=
      ⟨by show 2 ≤ sizeLine; decide, [w1, w2], .cons ru (.cons ru2 .nil), ⟨_, hT2, rfl, _, rfl⟩⟩
    have I1 : Inv X pins σ (upd H s.heap.objs.size (.tup [x, y])) { s with heap := h'', toks := tk } :=
      I.turnedNew (t' := tk) (ch := [z, TI, TO, i1, i2]) (fun c o hb q => by
        simp only [List.mem_cons, List.not_mem_nil, or_false, not_or] at hb
        exact (sb.2 c hb.1).trans (hk c o hb.1 hb.2.2.1 hb.2.2.2.1 hb.2.2.2.2 q)) hf (Nat.le_refl _) new
    refine ⟨.ref s.heap.objs.size, _, I1, rfl, ⟨_, x, y, rfl, I.hok.fresh (Nat.le_refl _), rfl, fun l hl => by rw [sqB_inj I hl hqx]; exact hx, fun l hl => by rw [sqB_inj I hl hqy]; exact hy⟩, ⟨z'', ?_, ⟨w1, w2, ?_⟩, ?_, ?_⟩, fun c hcm => ?_⟩
    · exact (sb.2 _ D.TIz).trans (hk _ _ D.TIz D.TITO D.TIi1 D.TIi2 hTI)
    · exact (sb.2 _ D.TOz).trans TO'
    · exact g1.1.at fun o q => (sb.2 _ (Ne.symm D.zi1)).trans q
    · exact g2.1.at fun o q => (sb.2 _ (Ne.symm D.zi2)).trans q
    · have hlt : c < s.heap.objs.size := by
        simp only [List.mem_cons, List.not_mem_nil, or_false] at hcm
        rcases hcm with rfl | rfl | rfl | rfl | rfl
        · exact hzl
        · exact Heap.lt_size hTI
        · exact Heap.lt_size hTO
        · obtain ⟨_, e, _⟩ := h1.here; exact Heap.lt_size e
        · obtain ⟨_, e, _⟩ := h2.here; exact Heap.lt_size e
      rw [upd_ne (Nat.ne_of_lt hlt)]
      exact (hf c hcm).1
  done := by
    intro X hP hw hK hc i pins s σ H E I hf st hg
    subst hP hw hK
    obtain ⟨hz, hTI, ⟨x0, y0, hTO⟩, h1, h2⟩ := st
    obtain ⟨xs, ys, hqx, hqy, i1', i2', hend⟩ := hg
    obtain ⟨its, rv, p⟩ := has_of I hqx
    obtain ⟨its2, rv2, p2⟩ := has_of I hqy
    have hh : X.A.in1.handled = none := I.ok.hd hc
    have e1 : its.toArray.size = xs.length := by simp [rv.length]
    have e2 : its2.toArray.size = ys.length := by simp [rv2.length]
    exact wpAny_pyNext_zipD2_end D (drawB hh k1 i1 a n1 its.toArray) (drawB hh k2 i2 b n2 its2.toArray) hz hTI hTO ⟨h1, p⟩ ⟨h2, p2⟩ (by omega) (by omega) (by omega) fun h' tk hk => ⟨rfl, I.turnedL (t' := tk) (ch := [z, TI, TO, i1, i2]) (fun c o hb q => by
      simp only [List.mem_cons, List.not_mem_nil, or_false, not_or] at hb
      exact hk c o hb.1 hb.2.2.1 hb.2.2.2.1 hb.2.2.2.2 q) hf⟩
  self := fun A i s Q E st h => wpAny_pyIter_zip st.1 h
def iZipB (K : PySem.W.Frag) (ta : TA) : TI := fun σ H R => ta σ H fun vs H1 => ∃ k1 k2 a b xs ys, vs = [.ref a, .ref b] ∧ SqB k1 K H1 a xs ∧ SqB k2 K H1 b ys ∧ R (ItzB k1 k2 K a b) H1
theorem pi_zipB {X : Cx} {e e2 : Expr} {ta : TA} {p pos tpos : Pos} {elts : List Expr} {kk : Nat} (hg : Gl X "zip") (hm : X.mg "zip" = none) (ha : PA X [e, e2] ta)
    (hs : starEach [e, e2] X.env = (false, eval e X.env) :: starEach [e2] X.env) (hpl : (backTo pos (starEach [e2] X.env)).any (·.1) = false) :
    PI X (.Tuple elts kk tpos) (.Call (.Name "zip" p) [e, e2] [] pos) (iZipB X.K ta) := by
  refine ⟨fun pins s σ H R I h => ?_⟩
  refine Call_ (ld_blt I hg hm PyProof.Rows.boot_zip (PyProof.Rows.callWith_type1 (thn (ha.run pos pins s σ H _ I h) fun us s1 ⟨vs, H1, I1, r1, q1⟩ => ?_) hs hpl))
  obtain ⟨k1, k2, a, b, xs, ys, ex, hqx, hqy, q⟩ := q1
  subst ex
  cases r1 with
  | cons r rr =>
    cases rr with
    | cons r' rr =>
      cases rr
      cases r
      cases r'
      obtain ⟨its, rv, p1⟩ := has_of I1 hqx
      obtain ⟨its2, rv2, p2⟩ := has_of I1 hqy
      refine zip_begins2 (beginB k1 a its.toArray) (beginB k2 b its2.toArray) p1 p2 fun h' hz hTI hTO o1 o2 hsz hk => wpAny_pyIter_zip hz ?_
      have I2 : Inv X pins σ H1 { s1 with heap := h' } := I1.kept (t' := s1.toks) hk
      have D := zip_sep2 (N := s1.heap.objs.size) (fp1 := [a]) (fp2 := [b]) (fun c hc => by rw [List.mem_singleton.mp hc]; exact p1.lt) (fun c hc => by rw [List.mem_singleton.mp hc]; exact p2.lt)
      refine ⟨s1.heap.objs.size + 4, [s1.heap.objs.size + 4, s1.heap.objs.size + 2, s1.heap.objs.size + 3, s1.heap.objs.size, s1.heap.objs.size + 1], _, _, H1, rfl, I2, turn_zipB D (Nat.ne_of_lt p1.lt) (Nat.ne_of_lt (Nat.lt_succ_of_lt p2.lt)), ⟨hz, hTI, ⟨_, _, hTO⟩, itB_new o1, itB_new o2⟩, fun c hcm => ?_, q⟩
      have hle : s1.heap.objs.size ≤ c := by
        simp only [List.mem_cons, List.not_mem_nil, or_false] at hcm
        rcases hcm with rfl | rfl | rfl | rfl | rfl
        · exact Nat.le_add_right _ _
        · exact Nat.le_add_right _ _
        · exact Nat.le_add_right _ _
        · exact Nat.le_refl _
        · exact Nat.le_add_right _ _
      exact I1.fpOk hle (I1.hok.fresh hle)
end EvZ

namespace Ev
open PySem PySem.Spec PyProof.Rows L2 EvZ
section
variable {g : G} {X : Cx} {E : XK}
@[simp] def srcD (h : HP) : D → Option (List D × GdL)
  | .tup ds => some (ds, [])
  | d => lview h d
def SSrc (g : G) (k : Bool) (m0 : AM) (H0 : Hp) (a : Addr) (ds : List D) (gd : GdL) : Prop := ∀ m H hp, Ex m0 H0 m H → HL g m H hp → Gd gd hp → ∃ vs, SqB k g.K H a vs ∧ reps g m H ds vs
theorem srcD_ok {m : AM} {H : Hp} {hp : HP} {d : D} {v : V} {p : List D × GdL} (hl : HL g m H hp) (r : rep g m H d v) (e : srcD hp d = some p) : ∃ k a, v = .ref a ∧ SSrc g k m H a p.1 p.2 ∧ Gd p.2 hp := by
  have ls : lview hp d = some p → ∃ k a, v = .ref a ∧ SSrc g k m H a p.1 p.2 ∧ Gd p.2 hp := fun e => by
    obtain ⟨a, ea, s, gd⟩ := lview_ok hl r e
    exact ⟨true, a, ea, s, gd⟩
  cases d with
  | tup ds =>
    cases e
    obtain ⟨a, rfl, s⟩ := tview_ok r
    exact ⟨false, a, rfl, fun m2 H2 hp2 x _ _ => s m2 H2 x, fun p hp => by cases hp⟩
  | _ => exact ls e
theorem foll_zipB {k1 k2 : Bool} {m0 : AM} {H0 : Hp} {a b : Addr} {xs ys : List D} {gd gd' : GdL} (s : SSrc g k1 m0 H0 a xs gd) (s' : SSrc g k2 m0 H0 b ys gd') : Foll g m0 H0 (ItzB k1 k2 g.K a b) (zipD xs ys) (gd ++ gd') := by
  have q : ∀ {m H hp}, Ex m0 H0 m H → HL g m H hp → Gd (gd ++ gd') hp → (∃ vs, SqB k1 g.K H a vs ∧ reps g m H xs vs) ∧ ∃ us, SqB k2 g.K H b us ∧ reps g m H ys us := fun x hl h =>
    ⟨s _ _ _ x hl fun p hp => h p (List.mem_append_left _ hp), s' _ _ _ x hl fun p hp => h p (List.mem_append_right _ hp)⟩
  refine ⟨fun i m H hp hi x hl gd => ?_, fun i m H hp v H' hi x hl gd y => ?_, fun m H hp x hl gd => ?_⟩
  · obtain ⟨⟨vs, s1, r1⟩, us, s2, r2⟩ := q x hl gd
    obtain ⟨h1, h2, _⟩ := zip_at hi
    obtain ⟨w, ew, _⟩ := r1.get (List.getElem?_eq_getElem h1)
    obtain ⟨w2, ew2, _⟩ := r2.get (List.getElem?_eq_getElem h2)
    exact ⟨vs, us, w, w2, s1, s2, ew, ew2⟩
  · obtain ⟨⟨vs, s1, r1⟩, us, s2, r2⟩ := q x hl gd
    obtain ⟨h1, h2, e⟩ := zip_at hi
    obtain ⟨T, x1, y1, rfl, nT, rfl, k1, k2⟩ := y
    obtain ⟨w, ew, rw1⟩ := r1.get (List.getElem?_eq_getElem h1)
    obtain ⟨w2, ew2, rw2⟩ := r2.get (List.getElem?_eq_getElem h2)
    have z1 := k1 vs s1
    have z2 := k2 us s2
    rw [ew] at z1
    rw [ew2] at z2
    cases z1
    cases z2
    obtain ⟨x', hl2, rr⟩ := new_pair hl nT rw1 rw2
    exact ⟨_, e, x', hl2, rr⟩
  · obtain ⟨⟨vs, s1, r1⟩, us, s2, r2⟩ := q x hl gd
    have l1 := reps.length r1
    have l2 := reps.length r2
    refine ⟨vs, us, s1, s2, ?_⟩
    simp only [zipD, List.length_zipWith]
    omega
@[simp] def zipS : Option (List D × GdL) → Option (List D × GdL) → HP → R (List D × GdL)
  | some p, some q, h => .ok (zipD p.1 q.1, p.2 ++ q.2) h
  | _, _, _ => .stuck
@[simp] def kZipS : List D → HP → R (List D × GdL)
  | [x, y], h => zipS (srcD h x) (srcD h y) h
  | _, _ => .stuck
@[simp] def iZipS (a : M (List D)) (env : EN) (hp : HP) : R (List D × GdL) := (a env hp).bind kZipS
theorem IV.zipS {e e2 : Expr} {p pos tpos : Pos} {elts : List Expr} {kk : Nat} {f : M (List D)} (hK : X.K = g.K) (hm : X.mg "zip" = none) (h : AV g X E [e, e2] f) (hg : Gl X "zip")
    (hs : starEach [e, e2] X.env = (false, eval e X.env) :: starEach [e2] X.env) (hpl : (backTo pos (starEach [e2] X.env)).any (·.1) = false) : IV g X E (.Tuple elts kk tpos) (.Call (.Name "zip" p) [e, e2] [] pos) (iZipS f) := by
  obtain ⟨t, p, q⟩ := h
  refine ⟨_, pi_zipB hg hm p hs hpl, fun σ H Rr m env hp hl er h => ?_⟩
  refine q σ H _ m env hp hl er (IPO.bind h fun xs h1 m1 H1 vs x1 hl1 r1 h => ?_)
  rw [hK]
  unfold kZipS at h
  split at h
  · rename_i x y
    obtain ⟨v, u, rfl, rr, rr2⟩ := reps2 r1
    unfold Ev.zipS at h
    split at h
    · rename_i p q e1 e2
      obtain ⟨k1, a, rfl, s, gd⟩ := srcD_ok hl1 rr e1
      obtain ⟨k2, b, rfl, s', gd'⟩ := srcD_ok hl1 rr2 e2
      obtain ⟨vs, sq, _⟩ := s _ _ _ (.refl _ _) hl1 gd
      obtain ⟨us, sq', _⟩ := s' _ _ _ (.refl _ _) hl1 gd'
      exact ⟨k1, k2, a, b, vs, us, rfl, sq, sq', h m1 H1 _ (.refl _ _) hl1 (foll_zipB s s')⟩
    · exact h.elim
  · exact h.elim
end
end Ev
namespace Ev
open PySem PySem.Spec PyProof.Rows L2
/-! keyword-only defaults that stand before the keywords that are told; a default () -/
theorem kbP {K : PySem.W.Frag} {x qual : Str} {params : Arguments} {body : List Stmt} {scope : Scope} {kws : List (Str × V)} {f : Addr} {fd : FuncData} {ps : List Str} (F : FunD K x qual params body scope [] kws f fd) (n : Nat) (ks : List Str) (hk : kws ≠ [])
    (h : ∀ (D : Addr) (doc pm : Value) (an : Option Addr) (cdv ct : Value) (us mv ws : List Value), us.length = n → mv.length = kws.length → ws.length = ks.length →
      KwChain D ((kws.map (·.1)).zip mv) (bindArgs (PySem.W.fnOf x qual params body scope .none (.ref D) doc pm an cdv ct) ⟨us, ks.zip ws⟩) (ps.zip (us ++ (mv ++ ws)))) :
    ∃ mv : List Value, KBn K fd ps n ks (fun us ws => us ++ (mv ++ ws)) (fun vs zs => vs ++ (kws.map (·.2) ++ zs)) :=
  FunD.kbinds0 F n ks kws (fun a b c => a ++ (b ++ c)) hk (fun _ h => h) (fun r1 r2 r3 => r1.append (r2.append r3)) h
@[simp] def gPreD (ds : List D) (xs ys : List D) : List D := xs ++ (ds ++ ys)
theorem ArgO.preD {g : G} {ds : List D} {us : List V} (hd : ∀ m H, reps g m H ds us) : ArgO g (gPreD ds) fun vs ws => vs ++ (us ++ ws) := fun m H xs vs ys ws h1 h2 => reps.append h1 (reps.append (hd m H) h2)
theorem reps_nilT {g : G} {a : Addr} {o : Obj} {n : Nat} (l : g.K.lookup a = some o) (c : o.cls = .type "tuple") (d : o.data = .seq #[] n) (m : AM) (H : Hp) : reps g m H [.tup []] [.ref a] := by
  simp only [reps, rep]
  refine ⟨_, [], rfl, ⟨a, [], rfl, .inr ⟨o, #[], n, l, c, d, by decide, ?_⟩, rfl⟩, rfl⟩
  first | exact .nil | simp
end Ev
namespace Lib
open PySem PySem.Spec PyProof.Rows L2 Ev
/-! roots -/
def rd (n : Int) : Int := (Float64.isqrt n.toNat : Nat)
def ru (n : Int) : Int := if rd n * rd n < n then rd n + 1 else rd n
theorem rd_spec {n : Int} (h : 0 ≤ n) : 0 ≤ rd n ∧ rd n * rd n ≤ n ∧ n < (rd n + 1) * (rd n + 1) := by
  have := Float64.isqrt_spec n.toNat
  unfold rd
  generalize Float64.isqrt n.toNat = r at this
  obtain ⟨h1, h2⟩ := this
  have h1 : ((r * r : Nat) : Int) ≤ (n.toNat : Int) := by exact_mod_cast h1
  have h2 : (n.toNat : Int) < (((r + 1) * (r + 1) : Nat) : Int) := by exact_mod_cast h2
  rw [Int.toNat_of_nonneg h] at h1 h2
  push_cast at h1 h2
  exact ⟨by omega, h1, h2⟩
theorem ru_spec {n : Int} (h : 0 ≤ n) : 0 ≤ ru n ∧ n ≤ ru n * ru n ∧ (0 < ru n → (ru n - 1) * (ru n - 1) < n) := by
  obtain ⟨h0, h1, h2⟩ := rd_spec h
  unfold ru
  generalize rd n = r at *
  split
  · rename_i c
    refine ⟨by omega, by omega, fun _ => ?_⟩
    rw [Int.add_sub_cancel]
    exact c
  · rename_i c
    refine ⟨h0, by omega, fun hr => ?_⟩
    have : (r - 1) * (r - 1) = r * r - 2 * r + 1 := by
      rw [Int.sub_mul, Int.mul_sub]
      omega
    omega
theorem sz_le {i : Int} {n : Nat} (h : sz i ≤ n) : i.natAbs < 2 ^ (n + 1) := Nat.lt_of_lt_of_le (lt_sz i) (Nat.pow_le_pow_right (by decide) (by omega))
theorem rd_le {n : Int} (h : 0 ≤ n) : rd n ≤ n := by
  obtain ⟨h0, h1, h2⟩ := rd_spec h
  by_cases c : rd n = 0
  · omega
  · have : 1 * rd n ≤ rd n * rd n := Int.mul_le_mul_of_nonneg_right (by omega) h0
    omega
theorem sz_rd {n : Int} (h : 0 ≤ n) : sz (rd n) ≤ sz n := sz_mono (by have := rd_le h; have := (rd_spec h).1; omega)
theorem sz_ru {n : Int} (h : 0 ≤ n) : sz (ru n) ≤ sz n := sz_mono (by
  have := rd_le h
  have := (rd_spec h).1
  have h3 := (ru_spec h)
  unfold ru at *
  split
  · rename_i c
    rw [if_pos c] at h3
    by_cases k : rd n + 1 ≤ n
    · omega
    · have : rd n = n := by omega
      rw [this] at c
      by_cases z : n = 0
      · rw [z] at c; omega
      · have : 1 * n ≤ n * n := Int.mul_le_mul_of_nonneg_right (by omega) h
        omega
  · omega)
theorem F_root_up' {n : Int} (h : 0 ≤ n) (hz : sz n < 6000) (hp : HP) : F_root_up [.int n] hp = .ok (.int (ru n)) hp := by
  have p : ∀ z : Int, pure_ hp (.int z) hp = .ok (.int z) hp := fun z => pure_clean hp (clean_int z)
  have hz' : n.toNat.log2 < 6000 := by
    have : n.toNat = n.natAbs := by omega
    rw [this]
    exact hz
  have s := sz_rd h
  have m : CMulE (rd n) (rd n) := mulX 6000 6000 (by omega) (by omega) (by decide)
  have e : ((Float64.isqrt n.toNat : Nat) : Int) = rd n := rfl
  by_cases c : rd n * rd n < n
  · simp [F_root_up, h, hz', e, m, c, ru, p]
  · simp [F_root_up, h, hz', e, m, c, ru, p]
theorem F_root_down' {n : Int} (h : 0 ≤ n) (hz : sz n < 6000) (hp : HP) : F_root_down [.int n] hp = .ok (.int (rd n)) hp := by
  have p : ∀ z : Int, pure_ hp (.int z) hp = .ok (.int z) hp := fun z => pure_clean hp (clean_int z)
  have hz' : n.toNat.log2 < 6000 := by
    have : n.toNat = n.natAbs := by omega
    rw [this]
    exact hz
  have e : ((Float64.isqrt n.toNat : Nat) : Int) = rd n := rfl
  simp [F_root_down, h, hz', e, p]
/-! the radius -/
def hf (s : Int × Int) : Int := (s.2 - s.1 + 1) / 2
def hq (s : Int × Int) : Int := hf s * hf s
def sq (b : List (Int × Int)) : Int := (b.map hq).sum
/-- sides of a size that the laws draw -/
def Smal (b : List (Int × Int)) : Prop := ∀ s ∈ b, s.1 ≤ s.2 ∧ s.1.natAbs < 18446744073709551 ∧ s.2.natAbs < 18446744073709551
theorem hq_nn (s : Int × Int) : 0 ≤ hq s := by
  by_cases c : 0 ≤ hf s
  · exact Int.mul_nonneg c c
  · exact Int.le_of_lt (Int.mul_pos_of_neg_of_neg (by omega) (by omega))
theorem hq_le {s : Int × Int} (h : s.1 ≤ s.2 ∧ s.1.natAbs < 18446744073709551 ∧ s.2.natAbs < 18446744073709551) : hq s ≤ 340282366920938463463374607431768211456 := by
  have h1 : 0 ≤ hf s := by unfold hf; omega
  have h2 : hf s ≤ 18446744073709551616 := by unfold hf; omega
  exact Int.mul_le_mul h2 h2 h1 (by omega)
theorem sq_bd : ∀ {b : List (Int × Int)}, Smal b → 0 ≤ sq b ∧ sq b ≤ b.length * 340282366920938463463374607431768211456
  | [], _ => by simp [sq]
  | s :: b, h => by
    have h1 := hq_nn s
    have h2 := hq_le (h s (List.mem_cons_self ..))
    have h3 := sq_bd (b := b) fun x hx => h x (List.mem_cons_of_mem _ hx)
    unfold sq at h3 ⊢
    simp only [List.map_cons, List.sum_cons, List.length_cons]
    push_cast
    omega
theorem sq_sz {b : List (Int × Int)} (h : Smal b) (hb : b.length ≤ 1000) : sz (sq b) < 200 := sz_lt (by omega) (by
  have := sq_bd h
  have : sq b ≤ 340282366920938463463374607431768211456000 := by omega
  have e : (2 : Nat) ^ 200 = 1606938044258990275541962092341162602522202993782792835301376 := by decide
  rw [e]
  omega)
theorem cut_init {xs : List D} (h : 0 < xs.length) : Ev.cutD xs none (some (-1)) = xs.take (xs.length - 1) := by
  unfold Ev.cutD
  have : HT.sIx xs.length xs.length (some (-1)) = xs.length - 1 := by
    show (if (-1 : Int) < 0 then ((-1 : Int) + (xs.length : Int)).toNat else min (-1 : Int).toNat xs.length) = _
    rw [if_pos (by omega)]
    omega
  rw [this, HT.sIx_none]
  simp
theorem F_radius' {b : List (Int × Int)} (h0 : 0 < b.length) (hb : b.length ≤ 1000) (hw : Smal (b.take (b.length - 1))) (h : HP) : F_radius [boxD b] h = .ok (.int (ru (sq (b.take (b.length - 1))))) h := by
  have p : ∀ z : Int, pure_ h (.int z) h = .ok (.int z) h := fun z => pure_clean h (clean_int z)
  have ci : Ev.cutD (b.map sideD) none (some (-1)) = (b.take (b.length - 1)).map sideD := by
    rw [cut_init (by simpa using h0), List.map_take, List.length_map]
  have hl : (b.take (b.length - 1)).length ≤ 1000 := by simp; omega
  generalize b.take (b.length - 1) = c at ci hw hl ⊢
  have bd := sq_bd hw
  have ft := F_root_up' bd.1 (by have := sq_sz hw hl; omega) h
  have lc : C_radius_1 false [some (boxD b), none] h = _ :=
    mLc_ty (h1 := h) c sideD (fun s => .int (hq s)) (by simp [boxD, ci]) (by omega)
      (fun s hs h' => by
        refine ⟨[some (boxD b), some (sideD s)], by simp, ?_⟩
        have w := hw s hs
        have f := F_half s h'
        have cp : CPowW (hf s) 2 := by
          refine ⟨by omega, ?_⟩
          have : sz (hf s) ≤ 64 := sz64 (by unfold hf; omega)
          have hh : Builtin.Int.intBits (hf s) ≤ 65 := by
            unfold Builtin.Int.intBits
            split
            · omega
            · unfold sz at this; omega
          have : ((2 : Int) ^ 27) = 134217728 := by decide
          rw [this]
          omega
        have e : hf s ^ 2 = hq s := by
          show hf s ^ 2 = hf s * hf s
          rw [Int.pow_succ, Int.pow_succ, Int.pow_zero, Int.one_mul]
        have e2 : (s.2 - s.1 + 1) / 2 = hf s := rfl
        rw [e2] at f
        simp [f, cp, e]) fun s _ => clean_int _
  have k := intsD_map (c.map hq)
  simp only [List.map_map] at k
  have e : D.int ∘ hq = fun s => D.int (hq s) := rfl
  rw [e] at k
  have e3 : (c.map hq).sum = sq c := rfl
  generalize c.map (fun s => D.int (hq s)) = xs at lc k
  simp [F_radius, lc, k, e3, ft, p]
end Lib
namespace Lib
open PySem PySem.Spec PyProof.Rows L2 Ev
/-! points -/
def vec (n : Nat) (p : Nat → Int) : D := .tup ((List.range n).map fun i => .int (p i))
def sg (n : Nat) (f : Nat → Int) : Int := ((List.range n).map f).sum
theorem sg_zero (f : Nat → Int) : sg 0 f = 0 := rfl
theorem sg_succ (n : Nat) (f : Nat → Int) : sg (n + 1) f = sg n f + f n := by
  unfold sg
  rw [List.range_succ, List.map_append, List.sum_append]
  simp
theorem sg_congr {f k : Nat → Int} : ∀ {n : Nat}, (∀ i < n, f i = k i) → sg n f = sg n k
  | 0, _ => rfl
  | n + 1, h => by rw [sg_succ, sg_succ, sg_congr (fun i hi => h i (by omega)), h n (by omega)]
theorem sg_bd {f : Nat → Int} {B : Int} : ∀ {n : Nat}, (∀ i < n, -B ≤ f i ∧ f i ≤ B) → -(n * B) ≤ sg n f ∧ sg n f ≤ n * B
  | 0, _ => by simp [sg_zero]
  | n + 1, h => by
    have h1 := sg_bd (n := n) fun i hi => h i (by omega)
    have h2 := h n (by omega)
    rw [sg_succ]
    have : ((n + 1 : Nat) : Int) * B = n * B + B := by push_cast; rw [Int.add_mul, Int.one_mul]
    omega
theorem sg_nn {f : Nat → Int} : ∀ {n : Nat}, (∀ i < n, 0 ≤ f i) → 0 ≤ sg n f
  | 0, _ => by simp [sg_zero]
  | n + 1, h => by
    have h1 := sg_nn (n := n) fun i hi => h i (by omega)
    have h2 := h n (by omega)
    rw [sg_succ]
    omega
theorem clean_vec (n : Nat) (p : Nat → Int) : clean (vec n p) := clean_tup fun d hd => by
  obtain ⟨i, _, rfl⟩ := List.mem_map.mp hd
  exact clean_int _
theorem at_vec {n : Nat} {p : Nat → Int} {i : Nat} (hi : i < n) : atI ((List.range n).map fun i => D.int (p i)) (i : Int) = some (.int (p i)) := by
  simp [atI, ixN, hi]
theorem rngD_eq (n : Nat) : rngD 0 n = (List.range n).map fun i => .int (i : Nat) := by
  unfold rngD
  simp
theorem zip_vec (n : Nat) (a b : Nat → D) : zipD ((List.range n).map a) ((List.range n).map b) = (List.range n).map fun i => .tup [a i, b i] := by
  unfold zipD
  rw [List.zipWith_map]
  generalize List.range n = l
  induction l with
  | nil => rfl
  | cons x l ih => simp [ih]
theorem ints_vec (n : Nat) (f : Nat → Int) : intsD ((List.range n).map fun i => D.int (f i)) = some ((List.range n).map f) := by
  have k := intsD_map ((List.range n).map f)
  simp only [List.map_map] at k
  exact k
/-- numbers below 2 ^ 64 -/
def Bd (n : Nat) (p : Nat → Int) : Prop := ∀ i < n, (p i).natAbs < 18446744073709551616
theorem mul64 {x y : Int} (hx : x.natAbs < 18446744073709551616) (hy : y.natAbs < 18446744073709551616) : CMulE x y := mulX 64 64 (sz64 hx) (sz64 hy) (by decide)
theorem abs_mul {x y : Int} (hx : x.natAbs < 18446744073709551616) (hy : y.natAbs < 18446744073709551616) : -340282366920938463463374607431768211456 ≤ x * y ∧ x * y ≤ 340282366920938463463374607431768211456 := by
  have h : (x * y).natAbs ≤ 18446744073709551616 * 18446744073709551616 := by
    rw [Int.natAbs_mul]
    exact Nat.mul_le_mul (by omega) (by omega)
  omega
theorem dot_bd {n : Nat} (hn : n ≤ 10) {p q : Nat → Int} (hp : Bd n p) (hq : Bd n q) : (sg n fun i => p i * q i).natAbs ≤ 3402823669209384634633746074317682114560 := by
  have := sg_bd (f := fun i => p i * q i) (B := 340282366920938463463374607431768211456) (n := n) fun i hi => abs_mul (hp i hi) (hq i hi)
  have e : (n : Int) * 340282366920938463463374607431768211456 ≤ 10 * 340282366920938463463374607431768211456 := Int.mul_le_mul_of_nonneg_right (by omega) (by omega)
  omega
theorem sz140 {x : Int} (h : x.natAbs ≤ 3402823669209384634633746074317682114560) : sz x < 140 := sz_lt (by omega) (by
  have e : (2 : Nat) ^ 140 = 1393796574908163946345982392040522594123776 := by decide
  omega)
theorem F_dot' {n : Nat} (hn : n ≤ 10) {p q : Nat → Int} (hp : Bd n p) (hq : Bd n q) (h : HP) : F_dot [vec n p, vec n q] h = .ok (.int (sg n fun i => p i * q i)) h := by
  have pr : ∀ z : Int, pure_ h (.int z) h = .ok (.int z) h := fun z => pure_clean h (clean_int z)
  have lc : C_dot_1 false [some (vec n p), some (vec n q), none, none] h = _ :=
    mLc_ty (h1 := h) (List.range n) (fun i => .tup [.int (p i), .int (q i)]) (fun i => .int (p i * q i)) (by simp [vec, zip_vec]) (by simp; omega)
      (fun i hi h' => ⟨[some (vec n p), some (vec n q), some (.int (p i)), some (.int (q i))], by simp, by
        have hi' := List.mem_range.mp hi
        simp [mul64 (hp i hi') (hq i hi')]⟩) fun i _ => clean_int _
  have k := ints_vec n fun i => p i * q i
  simp [F_dot, lc, k, sg, pr]
theorem F_minus' {n : Nat} (hn : n ≤ 10) (p q : Nat → Int) (h : HP) : F__minus [vec n p, vec n q] h = .ok (vec n fun i => p i - q i) h := by
  have pr := pure_clean h (clean_vec n fun i => p i - q i)
  have lc : C__minus_1 false [some (vec n p), some (vec n q), none, none] h = _ :=
    mLc_ty (h1 := h) (List.range n) (fun i => .tup [.int (p i), .int (q i)]) (fun i => .int (p i - q i)) (by simp [vec, zip_vec]) (by simp; omega)
      (fun i hi h' => ⟨[some (vec n p), some (vec n q), some (.int (p i)), some (.int (q i))], by simp, by simp⟩) fun i _ => clean_int _
  have ln : ((List.range n).map fun i => D.int (p i - q i)).length ≤ sizeLine := by simp; rw [sizeLine_eq]; omega
  unfold vec at pr lc ⊢
  generalize ((List.range n).map fun i => D.int (p i - q i)) = xs at *
  simp [F__minus, lc, pr, ln]
theorem F_law_dot' {n : Nat} (hn : n ≤ 10) {p q : Nat → Int} (hp : Bd n p) (hq : Bd n q) (h : HP) : F__law_dot [vec n p, vec n q] h = .ok (.int (sg n fun i => p i * q i)) h := by
  have pr : ∀ z : Int, pure_ h (.int z) h = .ok (.int z) h := fun z => pure_clean h (clean_int z)
  have rg : Rg (n : Int) := rg_nat (by omega)
  have lc : C__law_dot_1 false [some (vec n p), some (vec n q), none] h = _ :=
    mLc_ty (h1 := h) (List.range n) (fun i => .int (i : Nat)) (fun i => .int (p i * q i)) (by simp [vec, rg, rngD_eq]) (by simp; omega)
      (fun i hi h' => ⟨[some (vec n p), some (vec n q), some (.int (i : Nat))], by simp, by
        have hi' := List.mem_range.mp hi
        simp [vec, at_vec hi', mul64 (hp i hi') (hq i hi')]⟩) fun i _ => clean_int _
  have k := ints_vec n fun i => p i * q i
  simp [F__law_dot, lc, k, sg, pr]
theorem F_law_minus' {n : Nat} (hn : n ≤ 10) (p q : Nat → Int) (h : HP) : F__law_minus [vec n p, vec n q] h = .ok (vec n fun i => p i - q i) h := by
  have pr := pure_clean h (clean_vec n fun i => p i - q i)
  have rg : Rg (n : Int) := rg_nat (by omega)
  have lc : C__law_minus_1 false [some (vec n p), some (vec n q), none] h = _ :=
    mLc_ty (h1 := h) (List.range n) (fun i => .int (i : Nat)) (fun i => .int (p i - q i)) (by simp [vec, rg, rngD_eq]) (by simp; omega)
      (fun i hi h' => ⟨[some (vec n p), some (vec n q), some (.int (i : Nat))], by simp, by
        have hi' := List.mem_range.mp hi
        simp [vec, at_vec hi']⟩) fun i _ => clean_int _
  have ln : ((List.range n).map fun i => D.int (p i - q i)).length ≤ sizeLine := by simp; rw [sizeLine_eq]; omega
  unfold vec at pr lc ⊢
  generalize ((List.range n).map fun i => D.int (p i - q i)) = xs at *
  simp [F__law_minus, lc, pr, ln]
def pnt (ns : List Int) (k : Nat) (i : Nat) : Int := near (num ns (k + i))
theorem F_point {ns : List Int} (hn : Okn ns) {k n : Nat} (hk : k ≤ 100) (hs : n ≤ 10) (h : HP) : F__law_point [Sc ns, .int k, .int n] h = .ok (vec n (pnt ns k)) h := by
  have pr := pure_clean h (clean_vec n (pnt ns k))
  have rg : Rg (n : Int) := rg_nat (by omega)
  have lc : C__law_point_1 false [some (Sc ns), some (.int k), some (.int n), none] h = _ :=
    mLc_ty (h1 := h) (List.range n) (fun i => .int (i : Nat)) (fun i => .int (pnt ns k i)) (by simp [rg, rngD_eq]) (by simp; omega)
      (fun i hi h' => ⟨[some (Sc ns), some (.int k), some (.int n), some (.int (i : Nat))], by simp, by
        have hi' := List.mem_range.mp hi
        have n1 := fun h => F_number hn (k := k + i) (by omega) h
        push_cast at n1
        simp [n1, F_near, pnt]⟩) fun i _ => clean_int _
  have ln : ((List.range n).map fun i => D.int (pnt ns k i)).length ≤ sizeLine := by simp; rw [sizeLine_eq]; omega
  unfold vec at pr ⊢
  generalize ((List.range n).map fun i => D.int (pnt ns k i)) = xs at *
  simp [F__law_point, lc, pr, ln]
/-! a piece -/
def sub (p q : Nat → Int) : Nat → Int := fun i => p i - q i
def dt (n : Nat) (p q : Nat → Int) : Int := sg n fun i => p i * q i
theorem dt_comm (n : Nat) (p q : Nat → Int) : dt n p q = dt n q p := sg_congr fun i _ => Int.mul_comm _ _
theorem dt_self (n : Nat) (p : Nat → Int) : 0 ≤ dt n p p := sg_nn fun i _ => by
  by_cases c : 0 ≤ p i
  · exact Int.mul_nonneg c c
  · exact Int.le_of_lt (Int.mul_pos_of_neg_of_neg (by omega) (by omega))
/-- square, whole -/
def pc1 (n : Nat) (x a t : Nat → Int) : Int × Int :=
  if dt n (sub x a) (sub t a) ≤ 0 then (dt n (sub x a) (sub x a), 1) else if dt n (sub t a) (sub t a) ≤ dt n (sub x a) (sub t a) then (dt n (sub x t) (sub x t), 1)
  else (dt n (sub x a) (sub x a) * dt n (sub t a) (sub t a) - dt n (sub x a) (sub t a) * dt n (sub x a) (sub t a), dt n (sub t a) (sub t a))
/-- the greatest whole number that is not more, the least that is not less -/
def pc2 (n : Nat) (x a t : Nat → Int) : Int × Int := ((pc1 n x a t).1 / (pc1 n x a t).2, -(-(pc1 n x a t).1 / (pc1 n x a t).2))
theorem mul140 {x y : Int} (hx : sz x < 140) (hy : sz y < 140) : CMulE x y := mulX 140 140 (by omega) (by omega) (by decide)
theorem F_law_piece {n : Nat} (hn : n ≤ 10) {x a t : Nat → Int} (h1 : Bd n (sub x a)) (h2 : Bd n (sub t a)) (h3 : Bd n (sub x t)) (h : HP) :
    F__law_from_piece [vec n x, vec n a, vec n t] h = .ok (.tup [.int (pc1 n x a t).1, .int (pc1 n x a t).2]) h := by
  have pr : ∀ y z : Int, pure_ h (.tup [.int y, .int z]) h = .ok (.tup [.int y, .int z]) h := fun y z => pure_clean h (clean_tup (by simp [clean_int]))
  have e1 : ∀ h, F__law_minus [vec n t, vec n a] h = .ok (vec n (sub t a)) h := fun h => F_law_minus' hn t a h
  have e2 : ∀ h, F__law_minus [vec n x, vec n a] h = .ok (vec n (sub x a)) h := fun h => F_law_minus' hn x a h
  have e3 : ∀ h, F__law_minus [vec n x, vec n t] h = .ok (vec n (sub x t)) h := fun h => F_law_minus' hn x t h
  have d1 : ∀ h, F__law_dot [vec n (sub x a), vec n (sub t a)] h = .ok (.int (dt n (sub x a) (sub t a))) h := fun h => F_law_dot' hn h1 h2 h
  have d2 : ∀ h, F__law_dot [vec n (sub t a), vec n (sub t a)] h = .ok (.int (dt n (sub t a) (sub t a))) h := fun h => F_law_dot' hn h2 h2 h
  have d3 : ∀ h, F__law_dot [vec n (sub x a), vec n (sub x a)] h = .ok (.int (dt n (sub x a) (sub x a))) h := fun h => F_law_dot' hn h1 h1 h
  have d4 : ∀ h, F__law_dot [vec n (sub x t), vec n (sub x t)] h = .ok (.int (dt n (sub x t) (sub x t))) h := fun h => F_law_dot' hn h3 h3 h
  have m1 : CMulE (dt n (sub x a) (sub x a)) (dt n (sub t a) (sub t a)) := mul140 (sz140 (dot_bd hn h1 h1)) (sz140 (dot_bd hn h2 h2))
  have m2 : CMulE (dt n (sub x a) (sub t a)) (dt n (sub x a) (sub t a)) := mul140 (sz140 (dot_bd hn h1 h2)) (sz140 (dot_bd hn h1 h2))
  unfold pc1
  by_cases c1 : dt n (sub x a) (sub t a) ≤ 0
  · simp [F__law_from_piece, e1, e2, d1, d2, d3, c1, pr]
  · by_cases c2 : dt n (sub t a) (sub t a) ≤ dt n (sub x a) (sub t a)
    · simp [F__law_from_piece, e1, e2, d1, d2, c1, c2, e3, d4, pr]
    · simp [F__law_from_piece, e1, e2, d1, d2, d3, c1, c2, m1, m2, pr]
theorem F_piece {n : Nat} (hn : n ≤ 10) {x a t : Nat → Int} (h1 : Bd n (sub x a)) (h2 : Bd n (sub t a)) (h3 : Bd n (sub x t)) (h : HP) :
    F_from_piece [vec n x, vec n a, vec n t] h = .ok (.tup [.int (pc2 n x a t).1, .int (pc2 n x a t).2]) h := by
  have pr : ∀ y z : Int, pure_ h (.tup [.int y, .int z]) h = .ok (.tup [.int y, .int z]) h := fun y z => pure_clean h (clean_tup (by simp [clean_int]))
  have pi : ∀ z : Int, pure_ h (.int z) h = .ok (.int z) h := fun z => pure_clean h (clean_int z)
  have e1 : ∀ h, F__minus [vec n t, vec n a] h = .ok (vec n (sub t a)) h := fun h => F_minus' hn t a h
  have e2 : ∀ h, F__minus [vec n x, vec n a] h = .ok (vec n (sub x a)) h := fun h => F_minus' hn x a h
  have e3 : ∀ h, F__minus [vec n x, vec n t] h = .ok (vec n (sub x t)) h := fun h => F_minus' hn x t h
  have d1 : ∀ h, F_dot [vec n (sub t a), vec n (sub x a)] h = .ok (.int (dt n (sub x a) (sub t a))) h := fun h => by rw [F_dot' hn h2 h1 h]; exact congrArg (fun z => R.ok (D.int z) h) (dt_comm n (sub t a) (sub x a))
  have d2 : ∀ h, F_dot [vec n (sub t a), vec n (sub t a)] h = .ok (.int (dt n (sub t a) (sub t a))) h := fun h => F_dot' hn h2 h2 h
  have d3 : ∀ h, F_dot [vec n (sub x a), vec n (sub x a)] h = .ok (.int (dt n (sub x a) (sub x a))) h := fun h => F_dot' hn h1 h1 h
  have d4 : ∀ h, F_dot [vec n (sub x t), vec n (sub x t)] h = .ok (.int (dt n (sub x t) (sub x t))) h := fun h => F_dot' hn h3 h3 h
  have b2 := sz140 (dot_bd hn h2 h2)
  have m1 : CMulE (dt n (sub x a) (sub x a)) (dt n (sub t a) (sub t a)) := mul140 (sz140 (dot_bd hn h1 h1)) b2
  have m2 : CMulE (dt n (sub x a) (sub t a)) (dt n (sub x a) (sub t a)) := mul140 (sz140 (dot_bd hn h1 h2)) (sz140 (dot_bd hn h1 h2))
  have qu : ∀ (y : Int) h, 0 < dt n (sub t a) (sub t a) → F_quotient_up [.int y, .int (dt n (sub t a) (sub t a))] h = .ok (.int (-(-y / dt n (sub t a) (sub t a)))) h := fun y h c => by
    have pi : ∀ z : Int, pure_ h (.int z) h = .ok (.int z) h := fun z => pure_clean h (clean_int z)
    have b : Nat.log2 (dt n (sub t a) (sub t a)).natAbs < 9000 := by
      have : sz (dt n (sub t a) (sub t a)) < 140 := b2
      unfold sz at this
      omega
    simp [F_quotient_up, c, b, pi]
  have b : Nat.log2 (dt n (sub t a) (sub t a)).natAbs < 9000 := by
    have : sz (dt n (sub t a) (sub t a)) < 140 := b2
    unfold sz at this
    omega
  unfold pc2 pc1
  by_cases c1 : dt n (sub x a) (sub t a) ≤ 0
  · simp [F_from_piece, e1, e2, d1, d2, d3, c1, pr]
  · by_cases c2 : dt n (sub t a) (sub t a) ≤ dt n (sub x a) (sub t a)
    · simp [F_from_piece, e1, e2, d1, d2, c1, c2, e3, d4, pr]
    · have c3 : 0 < dt n (sub t a) (sub t a) := by omega
      simp [F_from_piece, e1, e2, d1, d2, d3, c1, c2, m1, m2, c3, b, qu, pr]
theorem F_pair (x y : Int) (h : HP) : F__law_pair [.tup [.int x, .int y]] h = .ok (.bl true) h := by
  have p : ∀ z : Bool, pure_ h (.bl z) h = .ok (.bl z) h := fun z => pure_clean h (clean_bl z)
  have f1 := F_integer x
  have f2 := F_integer y
  simp [F__law_pair, kit_tt, sh_int, PyData.eqv, f1, f2, p]
theorem pc1_pos (n : Nat) (x a t : Nat → Int) : 0 < (pc1 n x a t).2 := by
  unfold pc1
  have := dt_self n (sub t a)
  split
  · exact Int.one_pos
  · split
    · exact Int.one_pos
    · simp only
      omega
theorem div_facts (S W : Int) (h : 0 < W) : S / W * W ≤ S ∧ S < (S / W + 1) * W ∧ S ≤ -(-S / W) * W ∧ (-(-S / W) - 1) * W < S := by
  have e1 := Int.mul_ediv_add_emod S W
  have e2 := Int.emod_nonneg S (show W ≠ 0 by omega)
  have e3 := Int.emod_lt_of_pos S h
  have f1 := Int.mul_ediv_add_emod (-S) W
  have f2 := Int.emod_nonneg (-S) (show W ≠ 0 by omega)
  have f3 := Int.emod_lt_of_pos (-S) h
  generalize S / W = u at *
  generalize -S / W = v at *
  generalize S % W = r at *
  generalize -S % W = s at *
  have g1 : u * W = W * u := Int.mul_comm _ _
  have g2 : (u + 1) * W = W * u + W := by grind
  have g3 : -v * W = -(W * v) := by grind
  have g4 : (-v - 1) * W = -(W * v) - W := by grind
  rw [g1, g2, g3, g4]
  omega
theorem dt_diff : ∀ (n : Nat) (x a t : Nat → Int), dt n (sub x t) (sub x t) = dt n (sub x a) (sub x a) - 2 * dt n (sub x a) (sub t a) + dt n (sub t a) (sub t a)
  | 0, x, a, t => by simp [dt, sg_zero]
  | n + 1, x, a, t => by
    have ih := dt_diff n x a t
    unfold dt at ih ⊢
    rw [sg_succ, sg_succ, sg_succ, sg_succ, ih]
    simp only [sub]
    grind
/-- no place on the piece lies nearer -/
theorem piece_near {n : Nat} {x a t : Nat → Int} {A P q : Int} (hA : A * (pc1 n x a t).2 ≤ (pc1 n x a t).1) (h0 : 0 ≤ q) (h1 : q ≤ P) :
    A * P * P ≤ q * q * dt n (sub t a) (sub t a) - 2 * q * P * dt n (sub x a) (sub t a) + P * P * dt n (sub x a) (sub x a) := by
  have hW := dt_self n (sub t a)
  have hd := dt_diff n x a t
  unfold pc1 at hA
  generalize dt n (sub t a) (sub t a) = W at *
  generalize dt n (sub x a) (sub t a) = L at *
  generalize dt n (sub x a) (sub x a) = H at *
  have pp : 0 ≤ P * P := Int.mul_nonneg (by omega) (by omega)
  have qq : 0 ≤ q * q := Int.mul_nonneg h0 h0
  split at hA
  · rename_i c
    simp only [Int.mul_one] at hA
    have k1 : A * (P * P) ≤ H * (P * P) := Int.mul_le_mul_of_nonneg_right hA pp
    have k2 : 0 ≤ q * q * W := Int.mul_nonneg qq hW
    have k3 : 0 ≤ q * P * -L := Int.mul_nonneg (Int.mul_nonneg h0 (by omega)) (by omega)
    have e : q * q * W - 2 * q * P * L + P * P * H - A * P * P = q * q * W + 2 * (q * P * -L) + (H * (P * P) - A * (P * P)) := by grind
    omega
  · rename_i c
    split at hA
    · rename_i c2
      simp only [Int.mul_one] at hA
      rw [hd] at hA
      have k1 : A * (P * P) ≤ (H - 2 * L + W) * (P * P) := Int.mul_le_mul_of_nonneg_right hA pp
      have k2 : 0 ≤ (P - q) * (P - q) * W := Int.mul_nonneg (Int.mul_nonneg (by omega) (by omega)) hW
      have k3 : 0 ≤ P * ((P - q) * (L - W)) := Int.mul_nonneg (by omega) (Int.mul_nonneg (by omega) (by omega))
      have e : q * q * W - 2 * q * P * L + P * P * H - A * P * P = (P - q) * (P - q) * W + 2 * (P * ((P - q) * (L - W))) + ((H - 2 * L + W) * (P * P) - A * (P * P)) := by grind
      omega
    · rename_i c2
      simp only at hA
      have hp : 0 < W := by omega
      have k1 : A * W * (P * P) ≤ (H * W - L * L) * (P * P) := Int.mul_le_mul_of_nonneg_right hA pp
      have k2 : 0 ≤ (q * W - P * L) * (q * W - P * L) := by
        by_cases z : 0 ≤ q * W - P * L
        · exact Int.mul_nonneg z z
        · exact Int.le_of_lt (Int.mul_pos_of_neg_of_neg (by omega) (by omega))
      have e : (q * q * W - 2 * q * P * L + P * P * H) * W - A * P * P * W = (q * W - P * L) * (q * W - P * L) + ((H * W - L * L) * (P * P) - A * W * (P * P)) := by grind
      exact Int.le_of_mul_le_mul_right (by omega) hp
end Lib
namespace Lib
open PySem PySem.Spec PyProof.Rows L2 Ev
/-! kinds of reading -/
def slope (c : Int) (at_ : Nat) : Int := if at_ = 0 then 1 + c % 4 else if c / 4 % 5 = 0 then c / 20 / (at_ * 7) % 2001 - 1000 else c / 20 / (at_ * 7) % 9 - 4
theorem slope_bd (c : Int) (k : Nat) : -1000 ≤ slope c k ∧ slope c k ≤ 1000 := by
  unfold slope
  split
  · omega
  · split <;> omega
theorem F_slope (c : Int) {k : Nat} (hk : k ≤ 100) (h : HP) : F__law_slope [.int c, .int k] h = .ok (.int (slope c k)) h := by
  have p : ∀ z : Int, pure_ h (.int z) h = .ok (.int z) h := fun z => pure_clean h (clean_int z)
  have m : CMulE (k : Int) 7 := mul64 (by omega) (by decide)
  by_cases a0 : k = 0
  · subst a0
    simp [F__law_slope, slope, sh_int, PyData.eqv, p]
  · have a1 : ((k : Int) == 0) = false := beq_eq_false_iff_ne.mpr (by omega)
    have a2 : (0 : Int) < (k : Int) * 7 := by omega
    have a3 : Nat.log2 ((k : Int) * 7).natAbs < 9000 := by
      have := sz64 (i := (k : Int) * 7) (by omega)
      unfold sz at this
      omega
    have a4 : 0 < k := by omega
    by_cases a5 : c / 4 % 5 = 0
    · simp [F__law_slope, slope, sh_int, PyData.eqv, p, a0, a1, a2, a3, a4, a5, m, lg]
    · simp [F__law_slope, slope, sh_int, PyData.eqv, p, a0, a1, a2, a3, a4, a5, m, lg]
def plainS (c : Int) : Int × Int := (if -1000000000000 > near (c / 14) - len7 c then -1000000000000 else near (c / 14) - len7 c, near (c / 14))
def plainB (ns : List Int) (k n : Nat) : List (Int × Int) := (List.range n).map fun i => plainS (num ns (k + i))
theorem plain_ok {ns : List Int} {k n : Nat} : ∀ s ∈ plainB ns k n, s.1 ≤ s.2 ∧ s.1.natAbs ≤ 1001000000000 ∧ s.2.natAbs ≤ 1000000000000 := fun s hs => by
  obtain ⟨i, _, rfl⟩ := List.mem_map.mp hs
  have h1 := near_bd (num ns (k + i) / 14)
  have h2 := len7_bd (num ns (k + i))
  simp only [plainS]
  split <;> omega
theorem plain_turn {ns : List Int} (hn : Okn ns) {k n i : Nat} (hk : k ≤ 100) (hi : i ≤ 10) (x5 x6 : Option D) (h : HP) (acc : List D) (ha : acc.length ≤ 100) :
    B__law_plain_box_1 [some (Sc ns), some (.int k), some (.int n), some (.ref h.length), some (.int i), x5, x6] (h ++ [.lst acc]) =
      .nx [some (Sc ns), some (.int k), some (.int n), some (.ref h.length), some (.int i), some (.int (num ns (k + i))), some (.int (near (num ns (k + i) / 14)))] (h ++ [.lst (acc ++ [sideD (plainS (num ns (k + i)))])]) := by
  have n1 : ∀ h, F__law_number [Sc ns, .int ((k : Int) + (i : Int))] h = .ok (.int (num ns (k + i))) h := fun h => F_number hn (k := k + i) (by omega) h
  have ap := fun y => appL_last (y := y) (ds := acc) h (by rw [sizeLine_eq]; omega)
  simp [n1, F_near, F_length, lg, ap, sideD, plainS]
theorem F_plain {ns : List Int} (hn : Okn ns) {k n : Nat} (hk : k ≤ 100) (hs : n ≤ 10) (h : HP) : F__law_plain_box [Sc ns, .int k, .int n] h = .ok (boxD (plainB ns k n)) h := by
  obtain ⟨_, h1, e, ⟨x4, x5, x6, rfl⟩, hh⟩ := for_rng (asg := gNm 4) (body := B__law_plain_box_1) (n := n)
    (fun i env h' => (∃ x4 x5 x6, env = [some (Sc ns), some (.int k), some (.int n), some (.ref h.length), x4, x5, x6]) ∧ h' = h ++ [.lst ((plainB ns k i).map sideD)])
    (fun i env h' hi hI => by
      obtain ⟨⟨x4, x5, x6, rfl⟩, rfl⟩ := hI
      refine ⟨_, rfl, _, _, .inl (plain_turn hn hk (by omega) x5 x6 h _ (by simp [plainB]; omega)), ⟨_, _, _, rfl⟩, ?_⟩
      simp [plainB, List.range_succ])
    (env := [some (Sc ns), some (.int k), some (.int n), some (.ref h.length), none, none, none]) (h := h ++ [.lst []]) ⟨⟨_, _, _, rfl⟩, by simp [plainB]⟩
  rw [hh] at e
  have p := fun x => pure_cleanJ h x (clean_box (plainB ns k n))
  have rg : Rg (n : Int) := rg_nat (by omega)
  generalize plainB ns k n = o at e p ⊢
  unfold boxD at p ⊢
  simp [F__law_plain_box, rg, e, p]
inductive Kd where
  | range (p : Nat → Int)
  | clocked (p : Nat → Int)
  | differ (p q : Nat → Int)
  | piece (p q : Nat → Int)
  | side (p : Nat → Int)
  | boxes (bs : List (List (Int × Int)))
def boxesD (bs : List (List (Int × Int))) : D := .tup (bs.map boxD)
def kdD (n : Nat) : Kd → D
  | .range p => .tup [.str "range", vec n p]
  | .clocked p => .tup [.str "clocked", vec n p]
  | .differ p q => .tup [.str "differ", vec n p, vec n q]
  | .piece p q => .tup [.str "piece", vec n p, vec n q]
  | .side p => .tup [.str "side", vec n p]
  | .boxes bs => .tup [.str "boxes", boxesD bs]
def mkKd (ns : List Int) (k n : Nat) : Kd :=
  if num ns k % 6 = 0 then .range (pnt ns (k + 1)) else if num ns k % 6 = 1 then .clocked (pnt ns (k + 1)) else if num ns k % 6 = 2 then .differ (pnt ns (k + 1)) (pnt ns (k + 4))
  else if num ns k % 6 = 3 then .piece (pnt ns (k + 1)) (pnt ns (k + 4)) else if num ns k % 6 = 4 then .side (slope (num ns k / 6))
  else .boxes (plainB ns (k + 1) n :: if num ns k / 6 % 2 = 1 then [plainB ns (k + 4) n] else [])
theorem clean_boxes (bs : List (List (Int × Int))) : clean (boxesD bs) := clean_tup fun d hd => by
  obtain ⟨s, _, rfl⟩ := List.mem_map.mp hd
  exact clean_box s
theorem clean_kd (n : Nat) (K : Kd) : clean (kdD n K) := by
  cases K <;> exact clean_tup (by simp [clean_str, clean_vec, clean_boxes])
theorem F_kind {ns : List Int} (hn : Okn ns) {k n : Nat} (hk : k ≤ 90) (hs : n ≤ 10) (h : HP) : F__law_kind [Sc ns, .int k, .int n] h = .ok (kdD n (mkKd ns k n)) h := by
  have pr := pure_clean h (clean_kd n (mkKd ns k n))
  have n0 := fun h => F_number hn (k := k) (by omega) h
  have p1 : ∀ h, F__law_point [Sc ns, .int ((k : Int) + 1), .int n] h = .ok (vec n (pnt ns (k + 1))) h := fun h => F_point hn (k := k + 1) (by omega) hs h
  have p4 : ∀ h, F__law_point [Sc ns, .int ((k : Int) + 4), .int n] h = .ok (vec n (pnt ns (k + 4))) h := fun h => F_point hn (k := k + 4) (by omega) hs h
  have b1 : ∀ h, F__law_plain_box [Sc ns, .int ((k : Int) + 1), .int n] h = .ok (boxD (plainB ns (k + 1) n)) h := fun h => F_plain hn (k := k + 1) (by omega) hs h
  have b4 : ∀ h, F__law_plain_box [Sc ns, .int ((k : Int) + 4), .int n] h = .ok (boxD (plainB ns (k + 4) n)) h := fun h => F_plain hn (k := k + 4) (by omega) hs h
  have rg : Rg (n : Int) := rg_nat (by omega)
  unfold mkKd at pr ⊢
  generalize num ns k = c at *
  by_cases q0 : c % 6 = 0
  · simp [q0, kdD] at pr
    simp [F__law_kind, n0, lg, q0, sh_int, PyData.eqv, p1, kdD, pr]
  by_cases q1 : c % 6 = 1
  · simp [q1, kdD] at pr
    simp [F__law_kind, n0, lg, q1, sh_int, PyData.eqv, p1, kdD, pr]
  by_cases q2 : c % 6 = 2
  · simp [q2, kdD] at pr
    simp [F__law_kind, n0, lg, q2, sh_int, PyData.eqv, p1, p4, kdD, pr]
  by_cases q3 : c % 6 = 3
  · simp [q3, kdD] at pr
    simp [F__law_kind, n0, lg, q3, sh_int, PyData.eqv, p1, p4, kdD, pr]
  by_cases q4 : c % 6 = 4
  · have lc : C__law_kind_1 false [some (Sc ns), some (.int k), some (.int n), some (.int 4), some (.int (c / 6)), none, none] h = _ :=
      mLc_ty (h1 := h) (List.range n) (fun i => .int (i : Nat)) (fun i => .int (slope (c / 6) i)) (by simp [rg, rngD_eq]) (by simp; omega)
        (fun i hi h' => ⟨[some (Sc ns), some (.int k), some (.int n), some (.int 4), some (.int (c / 6)), none, some (.int (i : Nat))], by simp, by
          have hi' := List.mem_range.mp hi
          simp [F_slope (c / 6) (k := i) (by omega)]⟩) fun i _ => clean_int _
    have ln : ((List.range n).map fun i => D.int (slope (c / 6) i)).length ≤ sizeLine := by simp; rw [sizeLine_eq]; omega
    simp [q4, kdD, vec] at pr
    obtain ⟨xs, ex⟩ : ∃ xs, xs = ((List.range n).map fun i => D.int (slope (c / 6) i)) := ⟨_, rfl⟩
    rw [← ex] at lc ln pr
    simp [F__law_kind, n0, lg, q4, sh_int, PyData.eqv, lc, ln, pr, kdD, vec]
    exact ex
  · simp [q0, q1, q2, q3, q4, kdD, boxesD] at pr
    have pj := fun x => pure_cleanJ (d := .tup [.str "boxes", .tup ((plainB ns (k + 1) n :: if c / 6 % 2 = 1 then [plainB ns (k + 4) n] else []).map boxD)]) h x (clean_kd n (.boxes (plainB ns (k + 1) n :: if c / 6 % 2 = 1 then [plainB ns (k + 4) n] else [])))
    by_cases q5 : c / 6 % 2 = 1
    · simp [q5] at pj
      simp [F__law_kind, n0, lg, q0, q1, q2, q3, q4, sh_int, PyData.eqv, b1, b4, q5, appL, kdD, boxesD, pj]
    · simp [q5] at pj
      simp [F__law_kind, n0, lg, q0, q1, q2, q3, q4, sh_int, PyData.eqv, b1, b4, q5, kdD, boxesD, pj]
@[simp] theorem shs_range : SeqAt.shaped (.str "range") = true := by decide +kernel
@[simp] theorem eqs_range_range : PyData.eqv (.str "range") (.str "range") = true := by decide +kernel
@[simp] theorem eqs_range_clocked : PyData.eqv (.str "range") (.str "clocked") = false := by decide +kernel
@[simp] theorem eqs_range_differ : PyData.eqv (.str "range") (.str "differ") = false := by decide +kernel
@[simp] theorem eqs_range_piece : PyData.eqv (.str "range") (.str "piece") = false := by decide +kernel
@[simp] theorem eqs_range_side : PyData.eqv (.str "range") (.str "side") = false := by decide +kernel
@[simp] theorem eqs_range_boxes : PyData.eqv (.str "range") (.str "boxes") = false := by decide +kernel
@[simp] theorem shs_clocked : SeqAt.shaped (.str "clocked") = true := by decide +kernel
@[simp] theorem eqs_clocked_range : PyData.eqv (.str "clocked") (.str "range") = false := by decide +kernel
@[simp] theorem eqs_clocked_clocked : PyData.eqv (.str "clocked") (.str "clocked") = true := by decide +kernel
@[simp] theorem eqs_clocked_differ : PyData.eqv (.str "clocked") (.str "differ") = false := by decide +kernel
@[simp] theorem eqs_clocked_piece : PyData.eqv (.str "clocked") (.str "piece") = false := by decide +kernel
@[simp] theorem eqs_clocked_side : PyData.eqv (.str "clocked") (.str "side") = false := by decide +kernel
@[simp] theorem eqs_clocked_boxes : PyData.eqv (.str "clocked") (.str "boxes") = false := by decide +kernel
@[simp] theorem shs_differ : SeqAt.shaped (.str "differ") = true := by decide +kernel
@[simp] theorem eqs_differ_range : PyData.eqv (.str "differ") (.str "range") = false := by decide +kernel
@[simp] theorem eqs_differ_clocked : PyData.eqv (.str "differ") (.str "clocked") = false := by decide +kernel
@[simp] theorem eqs_differ_differ : PyData.eqv (.str "differ") (.str "differ") = true := by decide +kernel
@[simp] theorem eqs_differ_piece : PyData.eqv (.str "differ") (.str "piece") = false := by decide +kernel
@[simp] theorem eqs_differ_side : PyData.eqv (.str "differ") (.str "side") = false := by decide +kernel
@[simp] theorem eqs_differ_boxes : PyData.eqv (.str "differ") (.str "boxes") = false := by decide +kernel
@[simp] theorem shs_piece : SeqAt.shaped (.str "piece") = true := by decide +kernel
@[simp] theorem eqs_piece_range : PyData.eqv (.str "piece") (.str "range") = false := by decide +kernel
@[simp] theorem eqs_piece_clocked : PyData.eqv (.str "piece") (.str "clocked") = false := by decide +kernel
@[simp] theorem eqs_piece_differ : PyData.eqv (.str "piece") (.str "differ") = false := by decide +kernel
@[simp] theorem eqs_piece_piece : PyData.eqv (.str "piece") (.str "piece") = true := by decide +kernel
@[simp] theorem eqs_piece_side : PyData.eqv (.str "piece") (.str "side") = false := by decide +kernel
@[simp] theorem eqs_piece_boxes : PyData.eqv (.str "piece") (.str "boxes") = false := by decide +kernel
@[simp] theorem shs_side : SeqAt.shaped (.str "side") = true := by decide +kernel
@[simp] theorem eqs_side_range : PyData.eqv (.str "side") (.str "range") = false := by decide +kernel
@[simp] theorem eqs_side_clocked : PyData.eqv (.str "side") (.str "clocked") = false := by decide +kernel
@[simp] theorem eqs_side_differ : PyData.eqv (.str "side") (.str "differ") = false := by decide +kernel
@[simp] theorem eqs_side_piece : PyData.eqv (.str "side") (.str "piece") = false := by decide +kernel
@[simp] theorem eqs_side_side : PyData.eqv (.str "side") (.str "side") = true := by decide +kernel
@[simp] theorem eqs_side_boxes : PyData.eqv (.str "side") (.str "boxes") = false := by decide +kernel
@[simp] theorem shs_boxes : SeqAt.shaped (.str "boxes") = true := by decide +kernel
@[simp] theorem eqs_boxes_range : PyData.eqv (.str "boxes") (.str "range") = false := by decide +kernel
@[simp] theorem eqs_boxes_clocked : PyData.eqv (.str "boxes") (.str "clocked") = false := by decide +kernel
@[simp] theorem eqs_boxes_differ : PyData.eqv (.str "boxes") (.str "differ") = false := by decide +kernel
@[simp] theorem eqs_boxes_piece : PyData.eqv (.str "boxes") (.str "piece") = false := by decide +kernel
@[simp] theorem eqs_boxes_side : PyData.eqv (.str "boxes") (.str "side") = false := by decide +kernel
@[simp] theorem eqs_boxes_boxes : PyData.eqv (.str "boxes") (.str "boxes") = true := by decide +kernel
@[simp] theorem at3_0 (x y z : D) : atI [x, y, z] 0 = some x := by simp [atI, ixN]
@[simp] theorem at3_1 (x y z : D) : atI [x, y, z] 1 = some y := by simp [atI, ixN]
@[simp] theorem at3_2 (x y z : D) : atI [x, y, z] 2 = some z := by simp [atI, ixN]
def PtOk (p : Nat → Int) : Prop := ∀ i, (p i).natAbs ≤ 1000000000000
def KdOk (n : Nat) : Kd → Prop
  | .range p => PtOk p
  | .clocked p => PtOk p
  | .differ p q => PtOk p ∧ PtOk q
  | .piece p q => PtOk p ∧ PtOk q
  | .side p => (∀ i, (p i).natAbs ≤ 1000) ∧ 1 ≤ p 0
  | .boxes bs => 0 < bs.length ∧ bs.length ≤ 2 ∧ ∀ b ∈ bs, b.length = n ∧ ∀ s ∈ b, s.1 ≤ s.2 ∧ s.1.natAbs ≤ 1001000000000 ∧ s.2.natAbs ≤ 1000000000000
theorem pnt_ok (ns : List Int) (k : Nat) : PtOk (pnt ns k) := fun i => by
  have := near_bd (num ns (k + i))
  unfold pnt
  omega
theorem mkKd_ok (ns : List Int) (k n : Nat) : KdOk n (mkKd ns k n) := by
  have pl : ∀ k, (plainB ns k n).length = n := fun k => by simp [plainB]
  unfold mkKd
  split
  · exact pnt_ok _ _
  · split
    · exact pnt_ok _ _
    · split
      · exact ⟨pnt_ok _ _, pnt_ok _ _⟩
      · split
        · exact ⟨pnt_ok _ _, pnt_ok _ _⟩
        · split
          · refine ⟨fun i => ?_, ?_⟩
            · have := slope_bd (num ns k / 6) i
              omega
            · unfold slope
              rw [if_pos rfl]
              omega
          · split
            · refine ⟨by simp, by simp, fun b hb => ?_⟩
              simp only [List.mem_cons, List.not_mem_nil, or_false] at hb
              rcases hb with rfl | rfl <;> exact ⟨pl _, plain_ok⟩
            · refine ⟨by simp, by simp, fun b hb => ?_⟩
              simp only [List.mem_cons, List.not_mem_nil, or_false] at hb
              subst hb
              exact ⟨pl _, plain_ok⟩
def rateK (n : Nat) : Kd → Int
  | .differ _ _ => 2
  | .side p => ru (dt n p p)
  | _ => 1
def clockK : Kd → Int
  | .clocked _ => 1
  | _ => 0
def movedK : Kd → Int
  | .differ _ _ => 2
  | .side _ => 0
  | _ => 1
theorem F_rate' {n : Nat} (hn : n ≤ 10) {K : Kd} (hK : KdOk n K) (h : HP) : F_rate [kdD n K] h = .ok (.int (rateK n K)) h := by
  have p : ∀ z : Int, pure_ h (.int z) h = .ok (.int z) h := fun z => pure_clean h (clean_int z)
  cases K with
  | side d =>
    have hb : Bd n d := fun i _ => by have : (d i).natAbs ≤ 1000 := hK.1 i; omega
    have f1 : ∀ h, F_dot [vec n d, vec n d] h = .ok (.int (dt n d d)) h := fun h => F_dot' hn hb hb h
    have f2 := F_root_up' (dt_self n d) (by have := sz140 (dot_bd hn hb hb); exact Nat.lt_trans this (by decide)) h
    simp [F_rate, kdD, f1, f2, rateK, p]
  | _ => simp [F_rate, kdD, rateK, p]
theorem F_clock_rate' (n : Nat) (K : Kd) (h : HP) : F_clock_rate [kdD n K] h = .ok (.int (clockK K)) h := by
  have p : ∀ z : Int, pure_ h (.int z) h = .ok (.int z) h := fun z => pure_clean h (clean_int z)
  cases K <;> simp [F_clock_rate, kdD, clockK, p]
theorem F_moved' (n : Nat) (K : Kd) (h : HP) : F_moved [kdD n K] h = .ok (.int (movedK K)) h := by
  have p : ∀ z : Int, pure_ h (.int z) h = .ok (.int z) h := fun z => pure_clean h (clean_int z)
  cases K <;> simp [F_moved, kdD, movedK, p]
theorem dt_pos {n : Nat} (hn : 0 < n) {p : Nat → Int} (h : 1 ≤ p 0) : 0 < dt n p p := by
  have key : ∀ n, 0 < dt (n + 1) p p := fun n => by
    induction n with
    | zero =>
      unfold dt
      rw [sg_succ, sg_zero]
      have := Int.mul_pos (show 0 < p 0 by omega) (show 0 < p 0 by omega)
      omega
    | succ n ih =>
      have e : dt (n + 1 + 1) p p = dt (n + 1) p p + p (n + 1) * p (n + 1) := sg_succ _ _
      have : 0 ≤ p (n + 1) * p (n + 1) := by
        by_cases c : 0 ≤ p (n + 1)
        · exact Int.mul_nonneg c c
        · exact Int.le_of_lt (Int.mul_pos_of_neg_of_neg (by omega) (by omega))
      omega
  obtain ⟨m, rfl⟩ : ∃ m, n = m + 1 := ⟨n - 1, by omega⟩
  exact key m
end Lib
namespace Lib
open PySem PySem.Spec PyProof.Rows L2 Ev
theorem set_box (b : List (Int × Int)) (i : Nat) (s : Int × Int) : (b.set i s).map sideD = (b.map sideD).set i (sideD s) := by rw [List.map_set]
theorem cut_parts {xs : List D} {i : Nat} (hi : i < xs.length) (d : D) : xs.take i ++ ([d] ++ xs.drop (i + 1)) = xs.set i d := by
  rw [List.set_eq_take_append_cons_drop, if_pos hi]
  rfl
def okC (b : List (Int × Int)) (i : Nat) (p : Int) : Prop := ∃ h : i < b.length, (b[i]).1 < p ∧ p < (b[i]).2
def cutR (b : List (Int × Int)) (i : Nat) (p : Int) : D := .tup [boxD (b.set i ((b.getD i (0, 0)).1, p)), boxD (b.set i (p, (b.getD i (0, 0)).2))]
theorem cut_none {b : List (Int × Int)} {a p : Int} (hc : ¬ ∃ i : Nat, a = i ∧ okC b i p) (h : HP) : F_cut [boxD b, .int a, .int p] h = .ok .non h := by
  have pn : pure_ h .non h = .ok .non h := pure_clean h clean_non
  by_cases c1 : 0 ≤ a
  · by_cases c2 : a < b.length
    · obtain ⟨i, rfl⟩ : ∃ i : Nat, a = i := ⟨a.toNat, by omega⟩
      have hi : i < b.length := by omega
      have a1 := at_box hi
      obtain ⟨l, u, e⟩ : ∃ l u, b[i] = (l, u) := ⟨_, _, rfl⟩
      have nc : ¬ (l < p ∧ p < u) := fun k => hc ⟨i, rfl, hi, by rw [e]; exact k.1, by rw [e]; exact k.2⟩
      rw [e] at a1
      by_cases c3 : l < p
      · have c4 : ¬ p < u := fun k => nc ⟨c3, k⟩
        simp [F_cut, boxD, hi, a1, sideD, c3, c4, pn]
      · simp [F_cut, boxD, hi, a1, sideD, c3, pn]
    · simp [F_cut, boxD, c1, c2, pn]
  · simp [F_cut, boxD, c1, pn]
theorem cut_some {b : List (Int × Int)} (hb : b.length ≤ 100) {i : Nat} {p : Int} (hc : okC b i p) (h : HP) : F_cut [boxD b, .int i, .int p] h = .ok (cutR b i p) h := by
  obtain ⟨hi, h1, h2⟩ := hc
  have a1 := at_box hi
  obtain ⟨l, u, e⟩ : ∃ l u, b[i] = (l, u) := ⟨_, _, rfl⟩
  have e' : b.getD i (0, 0) = (l, u) := by simp [hi, e]
  rw [e] at a1 h1 h2
  unfold cutR
  rw [e']
  have k1 : Ev.cutD (b.map sideD) none (some (i : Int)) = (b.map sideD).take i := cut_to (by simp; omega)
  have k2 : Ev.cutD (b.map sideD) (some ((i : Int) + 1)) none = (b.map sideD).drop (i + 1) := cut_from (i := i + 1) (by simp; omega)
  have cl : ∀ x y : List (Int × Int), clean (.tup [boxD x, boxD y]) := fun x y => clean_tup (by simp [clean_box])
  have pn := pure_clean h (cl (b.set i (l, p)) (b.set i (p, u)))
  have s1 : ∀ d, (b.map sideD).take i ++ d :: (b.map sideD).drop (i + 1) = (b.map sideD).set i d := fun d => cut_parts (by simpa using hi) d
  unfold boxD at pn ⊢
  rw [set_box, set_box] at pn ⊢
  have l1 : ((b.map sideD).take i).length + 1 ≤ 16000000 := by simp; omega
  have l2 : ((b.map sideD).take i).length + 1 + ((b.map sideD).drop (i + 1)).length ≤ 16000000 := by simp; omega
  have lb : (b.map sideD).length = b.length := by simp
  have sd : ∀ x y, sideD (x, y) = .tup [.int x, .int y] := fun _ _ => rfl
  rw [sd, sd] at pn ⊢
  rw [sd] at a1
  generalize b.map sideD = xs at *
  simp [F_cut, hi, lb, a1, h1, h2, k1, k2, s1, pn, l1, l2, -List.length_take, -List.length_drop]

def lenS (s : Int × Int) : Int := s.2 - s.1
/-- the first of the longest sides -/
def wid (b : List (Int × Int)) : Nat := b.findIdx fun s => lenS s == maxL (b.map lenS)
theorem wid_lt {b : List (Int × Int)} (h : b ≠ []) : wid b < b.length := by
  have m := (maxL_mem (ns := b.map lenS) (by simpa using h)).1
  obtain ⟨s, hs, e⟩ := List.mem_map.mp m
  exact List.findIdx_lt_length_of_exists ⟨s, hs, by simp [e]⟩
theorem wid_is {b : List (Int × Int)} (h : b ≠ []) {i : Nat} (hi : i < b.length) (h1 : ∀ j (hj : j < b.length), lenS b[j] ≤ lenS b[i]) (h2 : ∀ j (hj : j < i), lenS (b[j]'(by omega)) < lenS b[i]) : wid b = i := by
  have m := maxL_mem (ns := b.map lenS) (by simpa using h)
  have e : maxL (b.map lenS) = lenS b[i] := by
    apply Int.le_antisymm
    · obtain ⟨s, hs, e⟩ := List.mem_map.mp m.1
      obtain ⟨j, hj, rfl⟩ := List.getElem_of_mem hs
      rw [← e]
      exact h1 j hj
    · exact m.2 _ (List.mem_map.mpr ⟨_, List.getElem_mem hi, rfl⟩)
  unfold wid
  rw [e]
  rw [List.findIdx_eq hi]
  refine ⟨by simp, fun j hj => ?_⟩
  have := h2 j hj
  simp
  omega
theorem F_widest' {b : List (Int × Int)} (h : b ≠ []) (hb : b.length ≤ 1000) (hp : HP) : F_widest [boxD b] hp = .ok (.int (wid b)) hp := by
  have p : ∀ z : Int, pure_ hp (.int z) hp = .ok (.int z) hp := fun z => pure_clean hp (clean_int z)
  have lc : ∀ x3, C_widest_1 false [some (boxD b), x3, none, none] hp = _ := fun x3 =>
    mLc_ty (h1 := hp) b sideD (fun s => .int (lenS s)) (by simp [boxD]) (by omega)
      (fun s _ h' => ⟨[some (boxD b), x3, some (.int s.1), some (.int s.2)], by simp [sideD], by simp [lenS]⟩) fun s _ => clean_int _
  have k := intsD_map (b.map lenS)
  simp only [List.map_map] at k
  have e : D.int ∘ lenS = fun s => D.int (lenS s) := rfl
  rw [e] at k
  have l0 : 0 < (b.map lenS).length := by
    rw [List.length_map]
    exact List.length_pos_iff.mpr h
  have fx : (b.map fun s => D.int (lenS s)).all flatD = true := by simp
  have fi : (b.map fun s => D.int (lenS s)).findIdx (fun z => eqD z (.int (maxL (b.map lenS)))) = wid b := by
    rw [List.findIdx_map]
    rfl
  have wl := wid_lt h
  have ll : (b.map fun s => D.int (lenS s)).length = b.length := by simp
  generalize (b.map fun s => D.int (lenS s)) = xs at *
  generalize b.map lenS = ys at *
  simp [F_widest, lc, k, l0, fx, fi, ll, wl, p]
theorem lcE_tyG {α : Type} (asg : TF) (cond : M Bool) (elt : M D) (envw : EN) (h : HP) (gd : GdL) (hg : ∀ x, Gd gd (h ++ x)) (f G : α → D) (p : α → Bool) : ∀ (xs : List α) (acc : List D), acc.length + xs.length ≤ sizeLine →
    (∀ x ∈ xs, ∀ y : HP, ∃ e, asg (f x) envw (h ++ y) = some e ∧ cond e (h ++ y) = .ok (p x) (h ++ y) ∧ (p x = true → elt e (h ++ y) = .ok (G x) (h ++ y))) →
    lcE asg cond elt envw h.length gd (xs.map f) (h ++ [.lst acc]) = .ok () (h ++ [.lst (acc ++ (xs.filter p).map G)])
  | [], acc, _, _ => by
    rw [List.map_nil]
    unfold lcE
    rw [if_pos (hg _)]
    simp
  | d :: ds, acc, hz, H => by
    rw [List.map_cons]
    unfold lcE
    rw [if_pos (hg _)]
    obtain ⟨e, e1, e2, e3⟩ := H d (List.mem_cons_self ..) [.lst acc]
    simp only [e1, e2, R.nx, R.bind]
    cases q : p d with
    | true =>
      have hz' : acc.length < sizeLine := by simp only [List.length_cons] at hz; omega
      simp only [if_true, e3 q, R.nx, R.bind, appL_last h hz']
      rw [lcE_tyG asg cond elt envw h gd hg f G p ds (acc ++ [G d]) (by simp only [List.length_append, List.length_cons, List.length_nil] at hz ⊢; omega) fun d' hd y => H d' (List.mem_cons_of_mem _ hd) y]
      simp [List.filter_cons, q]
    | false =>
      simp only [if_neg Bool.false_ne_true]
      rw [lcE_tyG asg cond elt envw h gd hg f G p ds acc (by simp only [List.length_cons] at hz; omega) fun d' hd y => H d' (List.mem_cons_of_mem _ hd) y]
      simp [List.filter_cons, q]
theorem mLc_tyL {α : Type} {it : IM} {own : List Nat} {asg : TF} {elt : M D} {env : EN} {h h1 : HP} {gd : GdL} (xs : List α) (f G : α → D) (hi : it env h = .ok (xs.map f, gd) h1) (hg : ∀ x, Gd gd (h1 ++ x)) (hz : xs.length ≤ 16000000)
    (H : ∀ x ∈ xs, ∀ y : HP, ∃ e, asg (f x) (wipeE env own) (h1 ++ y) = some e ∧ elt e (h1 ++ y) = .ok (G x) (h1 ++ y)) :
    mLc true it own asg cYes elt env h = .ok (.ref h1.length) (h1 ++ [.lst (xs.map G)]) := by
  unfold mLc
  rw [hi]
  simp only [R.bind]
  rw [lcE_tyG asg cYes elt _ h1 gd hg f G (fun _ => true) xs [] (by have := sizeLine_eq; simp only [List.length_nil]; omega) fun x hx y => let ⟨e, e1, e2⟩ := H x hx y; ⟨e, e1, rfl, fun _ => e2⟩, List.filter_eq_self.mpr (fun _ _ => rfl)]
  simp [outL]
theorem ixN_nat {n i : Nat} (hi : i < n) : ixN n (i : Int) = some i := by simp [ixN, hi]
theorem set_last (h : HP) (x y : O) : (h ++ [x]).set h.length y = h ++ [y] := by simp
def sd (b : List (Int × Int)) (i : Nat) : Int × Int := b.getD i (0, 0)
theorem sd_get {b : List (Int × Int)} {i : Nat} (hi : i < b.length) : sd b i = b[i] := by simp [sd, hi]
def midS (s : Int × Int) : Int := (s.1 + s.2) / 2
def halvR (b : List (Int × Int)) : D := if lenS (sd b (wid b)) < 2 then .non else cutR b (wid b) (midS (sd b (wid b)))
theorem clean_cutR (b : List (Int × Int)) (i : Nat) (p : Int) : clean (cutR b i p) := clean_tup (by simp [clean_box])
theorem halvR_cut {b : List (Int × Int)} (h : b ≠ []) (hb : b.length ≤ 100) (hp : HP) : F_cut [boxD b, .int (wid b), .int (midS (sd b (wid b)))] hp = .ok (halvR b) hp := by
  have wl := wid_lt h
  have e := sd_get wl
  unfold halvR
  by_cases c : lenS (sd b (wid b)) < 2
  · rw [if_pos c]
    refine cut_none (fun ⟨i, e1, hi, h1, h2⟩ => ?_) hp
    have e2 : i = wid b := by omega
    subst e2
    rw [← e] at h1 h2
    unfold lenS at c
    unfold midS at h1 h2
    omega
  · rw [if_neg c]
    refine cut_some hb ⟨wl, ?_, ?_⟩ hp
    · rw [← e]
      unfold lenS at c
      unfold midS
      omega
    · rw [← e]
      unfold lenS at c
      unfold midS
      omega
theorem clean_halvR (b : List (Int × Int)) : clean (halvR b) := by
  unfold halvR
  split
  · exact clean_non
  · exact clean_cutR _ _ _
theorem F_halves' {b : List (Int × Int)} (h : b ≠ []) (hb : b.length ≤ 100) (hp : HP) : F_halves [boxD b] hp = .ok (halvR b) hp := by
  have wl := wid_lt h
  have f1 := fun hp => F_widest' h (by omega) hp
  have f2 := fun hp => halvR_cut h hb hp
  have a1 := at_box wl
  rw [← sd_get wl] at a1
  have p := pure_clean hp (clean_halvR b)
  generalize halvR b = r at *
  unfold midS at f2
  unfold boxD at *
  simp [F_halves, f1, a1, sideD, lg, f2, p]
end Lib
namespace Lib
open PySem PySem.Spec PyProof.Rows L2 Ev
/-! distances between boxes and points -/
theorem box_fun {b : List (Int × Int)} {n : Nat} (hb : b.length = n) : b.map sideD = (List.range n).map fun i => sideD (sd b i) := by
  apply List.ext_getElem
  · simp [hb]
  · intro i h1 h2
    have hi : i < b.length := by simpa using h1
    simp [sd_get hi]
def mx (a b : Int) : Int := if b > a then b else a
theorem mx_le {a b c : Int} (h1 : a ≤ c) (h2 : b ≤ c) : mx a b ≤ c := by unfold mx; split <;> assumption
theorem le_mx1 (a b : Int) : a ≤ mx a b := by unfold mx; split <;> omega
theorem le_mx2 (a b : Int) : b ≤ mx a b := by unfold mx; split <;> omega
def gapS (s o : Int × Int) : Int := mx (mx 0 (o.1 - s.2)) (s.1 - o.2)
theorem gap_nn (s o : Int × Int) : 0 ≤ gapS s o := Int.le_trans (le_mx1 _ _) (le_mx1 _ _)
theorem gap_le {s o : Int × Int} {c : Int} (h0 : 0 ≤ c) (h1 : o.1 - s.2 ≤ c) (h2 : s.1 - o.2 ≤ c) : gapS s o ≤ c := mx_le (mx_le h0 h1) h2
theorem le_gap1 (s o : Int × Int) : o.1 - s.2 ≤ gapS s o := Int.le_trans (le_mx2 _ _) (le_mx1 _ _)
theorem le_gap2 (s o : Int × Int) : s.1 - o.2 ≤ gapS s o := le_mx2 _ _
theorem gap_comm (s o : Int × Int) : gapS s o = gapS o s := Int.le_antisymm (gap_le (gap_nn _ _) (le_gap2 _ _) (le_gap1 _ _)) (gap_le (gap_nn _ _) (le_gap2 _ _) (le_gap1 _ _))
/-- sides of a size for squares -/
def Sm (s : Int × Int) : Prop := s.1.natAbs < 4611686018427387904 ∧ s.2.natAbs < 4611686018427387904
theorem gap_sm {s o : Int × Int} (h : Sm s) (k : Sm o) : (gapS s o).natAbs < 18446744073709551616 := by
  obtain ⟨h1, h2⟩ := h
  obtain ⟨k1, k2⟩ := k
  unfold gapS mx
  split <;> split <;> omega
theorem F_gap' (s o : Int × Int) (h : HP) : F_gap [sideD s, sideD o] h = .ok (.int (gapS s o)) h := by
  have p : ∀ z : Int, pure_ h (.int z) h = .ok (.int z) h := fun z => pure_clean h (clean_int z)
  simp [F_gap, sideD, gapS, mx, p]
theorem pow64 {x : Int} (hx : x.natAbs < 18446744073709551616) : CPowW x 2 := by
  refine ⟨by omega, ?_⟩
  have : sz x ≤ 64 := sz64 hx
  have hh : Builtin.Int.intBits x ≤ 65 := by
    unfold Builtin.Int.intBits
    split
    · omega
    · unfold sz at this; omega
  have : ((2 : Int) ^ 27) = 134217728 := by decide
  rw [this]
  omega
theorem pow2 (x : Int) : x ^ 2 = x * x := by rw [Int.pow_succ, Int.pow_succ, Int.pow_zero, Int.one_mul]
theorem sd_sm {b : List (Int × Int)} (h : ∀ s ∈ b, Sm s) {i : Nat} (hi : i < b.length) : Sm (sd b i) := by
  rw [sd_get hi]
  exact h _ (List.getElem_mem hi)
def nearS (p : Nat → Int) (b : List (Int × Int)) (i : Nat) : Int := gapS (p i, p i) (sd b i)
def farS (p : Nat → Int) (b : List (Int × Int)) (i : Nat) : Int := mx (p i - (sd b i).1) ((sd b i).2 - p i)
def betS (a b : List (Int × Int)) (i : Nat) : Int := gapS (sd a i) (sd b i)
def grtS (a b : List (Int × Int)) (i : Nat) : Int := mx (gapS ((sd a i).1, (sd a i).1) (sd b i)) (gapS ((sd a i).2, (sd a i).2) (sd b i))
theorem F_nearest' {n : Nat} (hn : n ≤ 10) {p : Nat → Int} {b : List (Int × Int)} (hb : b.length = n) (hp : ∀ i < n, (p i).natAbs < 4611686018427387904) (hs : ∀ s ∈ b, Sm s) (h : HP) : F_nearest [vec n p, boxD b] h = .ok (.int (sg n fun i => nearS p b i * nearS p b i)) h := by
  have pr : ∀ z : Int, pure_ h (.int z) h = .ok (.int z) h := fun z => pure_clean h (clean_int z)
  have bf := box_fun hb
  have lc : C_nearest_1 false [some (vec n p), some (boxD b), none, none] h = _ :=
    mLc_ty (h1 := h) (List.range n) (fun i => .tup [.int (p i), sideD (sd b i)]) (fun i => .int (nearS p b i * nearS p b i)) (by simp [vec, boxD, bf, zip_vec]) (by simp; omega)
      (fun i hi h' => ⟨[some (vec n p), some (boxD b), some (.int (p i)), some (sideD (sd b i))], by simp, by
        have hi' := List.mem_range.mp hi
        have g : ∀ h, F_gap [.tup [.int (p i), .int (p i)], sideD (sd b i)] h = .ok (.int (nearS p b i)) h := fun h => F_gap' (p i, p i) (sd b i) h
        have c := pow64 (gap_sm (s := (p i, p i)) ⟨hp i hi', hp i hi'⟩ (sd_sm hs (show i < b.length by omega)))
        have c' : CPowW (nearS p b i) 2 := c
        simp [g, c', pow2]⟩) fun i _ => clean_int _
  have k := ints_vec n fun i => nearS p b i * nearS p b i
  simp [F_nearest, lc, k, sg, pr]
theorem F_farthest' {n : Nat} (hn : n ≤ 10) {p : Nat → Int} {b : List (Int × Int)} (hb : b.length = n) (hp : ∀ i < n, (p i).natAbs < 4611686018427387904) (hs : ∀ s ∈ b, Sm s) (h : HP) : F_farthest [vec n p, boxD b] h = .ok (.int (sg n fun i => farS p b i * farS p b i)) h := by
  have pr : ∀ z : Int, pure_ h (.int z) h = .ok (.int z) h := fun z => pure_clean h (clean_int z)
  have bf := box_fun hb
  have lc : C_farthest_1 false [some (vec n p), some (boxD b), none, none, none] h = _ :=
    mLc_ty (h1 := h) (List.range n) (fun i => .tup [.int (p i), sideD (sd b i)]) (fun i => .int (farS p b i * farS p b i)) (by simp [vec, boxD, bf, zip_vec]) (by simp; omega)
      (fun i hi h' => ⟨[some (vec n p), some (boxD b), some (.int (p i)), some (.int (sd b i).1), some (.int (sd b i).2)], by simp [sideD], by
        have hi' := List.mem_range.mp hi
        have c : CPowW (farS p b i) 2 := pow64 (by
          have h1 := hp i hi'
          obtain ⟨h2, h3⟩ := sd_sm hs (show i < b.length by omega)
          unfold farS mx
          split <;> omega)
        have e : (if (sd b i).2 - p i > p i - (sd b i).1 then (sd b i).2 - p i else p i - (sd b i).1) = farS p b i := rfl
        simp only [gt_iff_lt] at e
        simp [e, c, pow2]⟩) fun i _ => clean_int _
  have k := ints_vec n fun i => farS p b i * farS p b i
  simp [F_farthest, lc, k, sg, pr]
theorem F_between' {n : Nat} (hn : n ≤ 10) {a b : List (Int × Int)} (ha : a.length = n) (hb : b.length = n) (hr : ∀ s ∈ a, Sm s) (hs : ∀ s ∈ b, Sm s) (h : HP) : F_between [boxD a, boxD b] h = .ok (.int (sg n fun i => betS a b i * betS a b i)) h := by
  have pr : ∀ z : Int, pure_ h (.int z) h = .ok (.int z) h := fun z => pure_clean h (clean_int z)
  have af := box_fun ha
  have bf := box_fun hb
  have lc : C_between_1 false [some (boxD a), some (boxD b), none, none] h = _ :=
    mLc_ty (h1 := h) (List.range n) (fun i => .tup [sideD (sd a i), sideD (sd b i)]) (fun i => .int (betS a b i * betS a b i)) (by simp [boxD, af, bf, zip_vec]) (by simp; omega)
      (fun i hi h' => ⟨[some (boxD a), some (boxD b), some (sideD (sd a i)), some (sideD (sd b i))], by simp, by
        have hi' := List.mem_range.mp hi
        have g : ∀ h, F_gap [sideD (sd a i), sideD (sd b i)] h = .ok (.int (betS a b i)) h := fun h => F_gap' (sd a i) (sd b i) h
        have c : CPowW (betS a b i) 2 := pow64 (gap_sm (sd_sm hr (show i < a.length by omega)) (sd_sm hs (show i < b.length by omega)))
        simp [g, c, pow2]⟩) fun i _ => clean_int _
  have k := ints_vec n fun i => betS a b i * betS a b i
  simp [F_between, lc, k, sg, pr]
theorem F_greatest' {n : Nat} (hn : n ≤ 10) {a b : List (Int × Int)} (ha : a.length = n) (hb : b.length = n) (hr : ∀ s ∈ a, Sm s) (hs : ∀ s ∈ b, Sm s) (h : HP) : F_greatest_from [boxD a, boxD b] h = .ok (.int (sg n fun i => grtS a b i * grtS a b i)) h := by
  have pr : ∀ z : Int, pure_ h (.int z) h = .ok (.int z) h := fun z => pure_clean h (clean_int z)
  have af := box_fun ha
  have bf := box_fun hb
  have lc : C_greatest_from_1 false [some (boxD a), some (boxD b), none, none, none] h = _ :=
    mLc_ty (h1 := h) (List.range n) (fun i => .tup [sideD (sd a i), sideD (sd b i)]) (fun i => .int (grtS a b i * grtS a b i)) (by simp [boxD, af, bf, zip_vec]) (by simp; omega)
      (fun i hi h' => ⟨[some (boxD a), some (boxD b), some (sideD (sd b i)), some (.int (sd a i).1), some (.int (sd a i).2)], by simp [sideD], by
        have hi' := List.mem_range.mp hi
        obtain ⟨h2, h3⟩ := sd_sm hr (show i < a.length by omega)
        have hb' := sd_sm hs (show i < b.length by omega)
        have g1 : ∀ h, F_gap [.tup [.int (sd a i).1, .int (sd a i).1], sideD (sd b i)] h = .ok (.int (gapS ((sd a i).1, (sd a i).1) (sd b i))) h := fun h => F_gap' ((sd a i).1, (sd a i).1) (sd b i) h
        have g2 : ∀ h, F_gap [.tup [.int (sd a i).2, .int (sd a i).2], sideD (sd b i)] h = .ok (.int (gapS ((sd a i).2, (sd a i).2) (sd b i))) h := fun h => F_gap' ((sd a i).2, (sd a i).2) (sd b i) h
        have k1 := gap_sm (s := ((sd a i).1, (sd a i).1)) ⟨h2, h2⟩ hb'
        have k2 := gap_sm (s := ((sd a i).2, (sd a i).2)) ⟨h3, h3⟩ hb'
        have c : CPowW (grtS a b i) 2 := pow64 (by
          unfold grtS
          generalize gapS ((sd a i).1, (sd a i).1) (sd b i) = u at *
          generalize gapS ((sd a i).2, (sd a i).2) (sd b i) = v at *
          unfold mx
          split <;> assumption)
        have e : (if gapS ((sd a i).2, (sd a i).2) (sd b i) > gapS ((sd a i).1, (sd a i).1) (sd b i) then gapS ((sd a i).2, (sd a i).2) (sd b i) else gapS ((sd a i).1, (sd a i).1) (sd b i)) = grtS a b i := rfl
        simp only [gt_iff_lt] at e
        simp [g1, g2, e, c, pow2]⟩) fun i _ => clean_int _
  have k := ints_vec n fun i => grtS a b i * grtS a b i
  simp [F_greatest_from, lc, k, sg, pr]
end Lib
namespace Lib
open PySem PySem.Spec PyProof.Rows L2 Ev
/-! corners of a box -/
def lstI (c : List Int) : D := .lst (c.map D.int)
theorem clean_lstI (c : List Int) : clean (lstI c) := clean_lst fun d hd => by
  obtain ⟨i, _, rfl⟩ := List.mem_map.mp hd
  exact clean_int i
def two (s : Int × Int) (c : List Int) : List (List Int) := [c ++ [s.1], c ++ [s.2]]
def cstep (cs : List (List Int)) (s : Int × Int) : List (List Int) := cs.flatMap (two s)
def corn (b : List (Int × Int)) : List (List Int) := b.foldl cstep [[]]
theorem pure_ref {h x : HP} {n : Nat} {ds : List D} (hn : h.length ≤ n) (e : (h ++ x)[n]? = some (.lst ds)) (c : ∀ d ∈ ds, clean d) : pure_ h (.ref n) (h ++ x) = .ok (.lst ds) h := by
  unfold pure_
  rw [if_pos (by simp)]
  have : rlt.rlts h.length ds = true := by
    rw [rlts_eq, List.all_eq_true]
    exact fun d hd => c d hd _
  have n' : ¬ n < h.length := by omega
  simp [fz, rlt, this, e, n']
theorem corner_turn (s : Int × Int) {c : List Int} (hc : c.length ≤ 100) (z0 z1 : Option D) (h : HP) {acc : List D} (ha : acc.length ≤ 10000) :
    B__law_corners_1 [z0, z1, some (sideD s), some (.ref h.length), some (lstI c)] (h ++ [.lst acc]) =
      .nx [z0, z1, some (sideD s), some (.ref h.length), some (lstI c)] (h ++ [.lst (acc ++ (two s c).map lstI)]) := by
  have s1 : acc.length < sizeLine := by rw [sizeLine_eq]; omega
  have ap := fun y => appL_last (y := y) (ds := acc) h s1
  have ap2 := fun x y => appL_last (y := y) (ds := acc ++ [x]) h (by rw [sizeLine_eq]; simp; omega)
  have l1 : c.length + 1 ≤ 16000000 := by omega
  simp [sideD, lstI, ap, ap2, l1, two]
theorem corners_inner (s : Int × Int) {cs : List (List Int)} (hl : cs.length ≤ 100) (hc : ∀ c ∈ cs, c.length ≤ 100) (z0 z1 : Option D) (x : Option D) (h : HP) :
    ∃ y, forE (gNm 4) B__law_corners_1 [] (cs.map lstI) [z0, z1, some (sideD s), some (.ref h.length), x] (h ++ [.lst []]) =
      .nx [z0, z1, some (sideD s), some (.ref h.length), y] (h ++ [.lst ((cstep cs s).map lstI)]) := by
  have ln : ∀ i, ((cs.take i).flatMap (two s)).length ≤ 200 := fun i => by
    have : ∀ l : List (List Int), (l.flatMap (two s)).length = 2 * l.length := fun l => by
      induction l with
      | nil => rfl
      | cons a l ih => simp only [List.flatMap_cons, List.length_append, ih, List.length_cons, two, List.length_nil]; omega
    rw [this]
    simp
    omega
  obtain ⟨_, h1, e, ⟨y, rfl⟩, hh⟩ := for_ty (asg := gNm 4) (body := B__law_corners_1) (gd := [])
    (fun i env h' => (∃ y, env = [z0, z1, some (sideD s), some (.ref h.length), y]) ∧ h' = h ++ [.lst (((cs.take i).flatMap (two s)).map lstI)]) cs lstI (fun _ _ _ _ => by simp)
    (fun i env h' hi hI => by
      obtain ⟨⟨y, rfl⟩, rfl⟩ := hI
      refine ⟨_, rfl, _, _, .inl (corner_turn s (hc _ (List.getElem_mem hi)) z0 z1 h (by rw [List.length_map]; have := ln i; omega)), ⟨some (lstI cs[i]), rfl⟩, ?_⟩
      rw [midE i cs hi, List.flatMap_append, List.map_append]
      simp)
    (env := [z0, z1, some (sideD s), some (.ref h.length), x]) (h := h ++ [.lst []]) ⟨⟨x, rfl⟩, by simp⟩
  rw [hh, List.take_length] at e
  exact ⟨y, e⟩
def Has (d : D) (h : HP) (cs : List (List Int)) : Prop := d = .lst (cs.map lstI) ∨ ∃ n, d = .ref n ∧ h[n]? = some (.lst (cs.map lstI))
theorem corners_outer (s : Int × Int) {cs : List (List Int)} (hl : cs.length ≤ 100) (hc : ∀ c ∈ cs, c.length ≤ 100) {d : D} {h : HP} (hd : Has d h cs) (z0 x3 x4 : Option D) :
    ∃ y4, B__law_corners_2 [z0, some d, some (sideD s), x3, x4] h = .nx [z0, some (.ref h.length), some (sideD s), some (.ref h.length), y4] (h ++ [.lst ((cstep cs s).map lstI)]) := by
  obtain ⟨y, L⟩ := corners_inner s hl hc z0 (some d) x4 h
  have l1 : (cs.map lstI).length ≤ sizeLine := by rw [List.length_map, sizeLine_eq]; omega
  rcases hd with rfl | ⟨n, rfl, e⟩
  · generalize cs.map lstI = xs at *
    simp [l1, L]
  · have hn := (List.getElem?_eq_some_iff.mp e).1
    have e2 : (h ++ [O.lst []])[n]? = some (.lst (cs.map lstI)) := by rw [List.getElem?_append_left hn]; exact e
    generalize cs.map lstI = xs at *
    simp [l1, L, e2]
theorem cstep_len (cs : List (List Int)) (s : Int × Int) : (cstep cs s).length = 2 * cs.length := by
  unfold cstep
  induction cs with
  | nil => rfl
  | cons a l ih => simp only [List.flatMap_cons, List.length_append, ih, List.length_cons, two, List.length_nil]; omega
theorem corn_take {b : List (Int × Int)} {i : Nat} (hi : i < b.length) : corn (b.take (i + 1)) = cstep (corn (b.take i)) b[i] := by
  unfold corn
  rw [midE i b hi, List.foldl_append]
  rfl
theorem corn_len : ∀ (b : List (Int × Int)), (corn b).length = 2 ^ b.length := fun b => by
  have key : ∀ (b : List (Int × Int)) (cs : List (List Int)), (b.foldl cstep cs).length = cs.length * 2 ^ b.length := fun b => by
    induction b with
    | nil => intro cs; simp
    | cons s b ih =>
      intro cs
      rw [List.foldl_cons, ih, cstep_len, List.length_cons, Nat.pow_succ, Nat.mul_comm 2, Nat.mul_assoc, Nat.mul_comm 2]
  have := key b [[]]
  unfold corn
  rw [this]
  simp
theorem corn_each : ∀ (b : List (Int × Int)), ∀ c ∈ corn b, c.length = b.length := fun b => by
  have key : ∀ (b : List (Int × Int)) (cs : List (List Int)) (k : Nat), (∀ c ∈ cs, c.length = k) → ∀ c ∈ b.foldl cstep cs, c.length = k + b.length := fun b => by
    induction b with
    | nil => intro cs k h c hc; simpa using h c hc
    | cons s b ih =>
      intro cs k h c hc
      rw [List.foldl_cons] at hc
      have := ih (cstep cs s) (k + 1) (fun c' hc' => by
        unfold cstep at hc'
        obtain ⟨c0, h0, h1⟩ := List.mem_flatMap.mp hc'
        have := h c0 h0
        simp only [two, List.mem_cons, List.not_mem_nil, or_false] at h1
        rcases h1 with rfl | rfl <;> simp [this]) c hc
      rw [this, List.length_cons]
      omega
  intro c hc
  have := key b [[]] 0 (by simp) c hc
  omega
theorem F_corners' {b : List (Int × Int)} (hb : b.length ≤ 4) (h : HP) : F__law_corners [boxD b] h = .ok (.lst ((corn b).map lstI)) h := by
  have sm : ∀ i, (b.take i).length ≤ 4 := fun i => by simp; omega
  have pw : ∀ i, (corn (b.take i)).length ≤ 16 := fun i => by
    rw [corn_len]
    exact Nat.pow_le_pow_right (by decide) (sm i)
  obtain ⟨_, h1, e, ⟨d, x2, x3, x4, rfl, y, rfl, hd, hr⟩⟩ := for_ty (asg := gNm 2) (body := B__law_corners_2) (gd := [])
    (fun i env h' => ∃ d x2 x3 x4, env = [some (boxD b), some d, x2, x3, x4] ∧ ∃ y, h' = h ++ y ∧ Has d (h ++ y) (corn (b.take i)) ∧ (∀ n, d = .ref n → h.length ≤ n)) b sideD (fun _ _ _ _ => by simp)
    (fun i env h' hi hI => by
      obtain ⟨d, x2, x3, x4, rfl, y, rfl, hd, hr⟩ := hI
      obtain ⟨y4, e⟩ := corners_outer b[i] (by have := pw i; omega) (fun c hc => by rw [corn_each _ c hc]; have := sm i; omega) hd (some (boxD b)) x3 x4
      refine ⟨_, rfl, _, _, .inl e, _, _, _, _, rfl, y ++ [.lst ((cstep (corn (b.take i)) b[i]).map lstI)], by simp, .inr ⟨_, rfl, ?_⟩, fun n en => ?_⟩
      · rw [corn_take hi]
        simp
      · injection en with en
        rw [← en]
        simp)
    (env := [some (boxD b), some (.lst [lstI []]), none, none, none]) (h := h) ⟨_, none, none, none, rfl, [], by simp, .inl (by simp [corn]), fun n en => by cases en⟩
  rw [List.take_length] at hd
  have cl : ∀ d ∈ (corn b).map lstI, clean d := fun d hd => by
    obtain ⟨c, _, rfl⟩ := List.mem_map.mp hd
    exact clean_lstI c
  have l0 : lstI [] = .lst [] := rfl
  rw [l0] at e
  rcases hd with rfl | ⟨n, rfl, en⟩
  · have p := fun y => pure_cleanJ h y (clean_lst cl)
    generalize (corn b).map lstI = xs at *
    unfold boxD at *
    simp [F__law_corners, e, p]
  · have p := pure_ref (hr n rfl) en cl
    generalize (corn b).map lstI = xs at *
    unfold boxD at *
    simp [F__law_corners, e, p]
/-! a list of sides written place by place -/
def updB (U : Nat → Int × Int → Int × Int) (o : List (Int × Int)) (n : Nat) : List (Int × Int) := (List.range o.length).map fun i => if i < n then U i (sd o i) else sd o i
theorem updB_len (U : Nat → Int × Int → Int × Int) (o : List (Int × Int)) (n : Nat) : (updB U o n).length = o.length := by simp [updB]
theorem updB_zero (U : Nat → Int × Int → Int × Int) (o : List (Int × Int)) : updB U o 0 = o := by
  apply List.ext_getElem
  · simp [updB]
  · intro i h1 h2
    simp [updB, sd_get h2]
theorem updB_get {U : Nat → Int × Int → Int × Int} {o : List (Int × Int)} {n i : Nat} (hi : i < o.length) : sd (updB U o n) i = if i < n then U i (sd o i) else sd o i := by
  rw [sd_get (by rw [updB_len]; exact hi)]
  simp [updB]
theorem updB_succ {U : Nat → Int × Int → Int × Int} {o : List (Int × Int)} {n : Nat} (hn : n < o.length) : (updB U o n).set n (U n (sd o n)) = updB U o (n + 1) := by
  apply List.ext_getElem
  · simp [updB]
  · intro i h1 h2
    rw [List.getElem_set]
    have hi : i < o.length := by simpa [updB] using h2
    by_cases e : n = i
    · subst e
      simp [updB]
    · rw [if_neg e]
      by_cases q : i < n
      · have : i < n + 1 := by omega
        simp [updB, q, this]
      · have : ¬ i < n + 1 := by omega
        simp [updB, q, this]
theorem updB_same {U : Nat → Int × Int → Int × Int} {o : List (Int × Int)} {n : Nat} (hn : n < o.length) (e : U n (sd o n) = sd o n) : updB U o (n + 1) = updB U o n := by
  rw [← updB_succ hn, e]
  apply List.ext_getElem
  · simp
  · intro i h1 h2
    rw [List.getElem_set]
    split
    · rename_i q
      subst q
      simp [updB]
    · rfl
/-! the greatest over the corners -/
def gsq (p : Int) (o : Int × Int) : Int := gapS (p, p) o * gapS (p, p) o
def cf (o : List (Int × Int)) (c : List Int) (i : Nat) : Int := gsq (c.getD i 0) (sd o i)
theorem sq_le_sq {x y : Int} (hx : 0 ≤ x) (h : x ≤ y) : x * x ≤ y * y := Int.mul_le_mul h h hx (by omega)
theorem corn_max (b o : List (Int × Int)) : ∀ j ≤ b.length, (∀ c ∈ corn (b.take j), sg j (cf o c) ≤ sg j fun i => grtS b o i * grtS b o i) ∧ ∃ c ∈ corn (b.take j), sg j (cf o c) = sg j fun i => grtS b o i * grtS b o i
  | 0, _ => by simp [sg_zero, corn]
  | j + 1, hj => by
    obtain ⟨h1, c0, hc0, h2⟩ := corn_max b o j (by omega)
    have hj' : j < b.length := by omega
    rw [corn_take hj']
    have len : ∀ c ∈ corn (b.take j), c.length = j := fun c hc => by
      rw [corn_each _ c hc, List.length_take]
      omega
    have app : ∀ c ∈ corn (b.take j), ∀ x, sg (j + 1) (cf o (c ++ [x])) = sg j (cf o c) + gsq x (sd o j) := fun c hc x => by
      rw [sg_succ]
      have l := len c hc
      congr 1
      · refine sg_congr fun i hi => ?_
        unfold cf
        congr 1
        rw [List.getD_eq_getElem?_getD, List.getD_eq_getElem?_getD, List.getElem?_append_left (by omega)]
      · unfold cf
        congr 1
        rw [List.getD_eq_getElem?_getD, List.getElem?_append_right (by omega), l]
        simp
    have sj := sd_get hj'
    have q1 : gsq (b[j]).1 (sd o j) ≤ grtS b o j * grtS b o j := by
      unfold gsq grtS
      rw [sj]
      exact sq_le_sq (gap_nn _ _) (le_mx1 _ _)
    have q2 : gsq (b[j]).2 (sd o j) ≤ grtS b o j * grtS b o j := by
      unfold gsq grtS
      rw [sj]
      exact sq_le_sq (gap_nn _ _) (le_mx2 _ _)
    refine ⟨fun c hc => ?_, ?_⟩
    · unfold cstep at hc
      obtain ⟨c1, hc1, hx⟩ := List.mem_flatMap.mp hc
      have := h1 c1 hc1
      rw [sg_succ j fun i => grtS b o i * grtS b o i]
      simp only [two, List.mem_cons, List.not_mem_nil, or_false] at hx
      rcases hx with rfl | rfl
      · rw [app c1 hc1]; omega
      · rw [app c1 hc1]; omega
    · rw [sg_succ j fun i => grtS b o i * grtS b o i]
      by_cases e : gapS ((b[j]).2, (b[j]).2) (sd o j) > gapS ((b[j]).1, (b[j]).1) (sd o j)
      · refine ⟨c0 ++ [(b[j]).2], List.mem_flatMap.mpr ⟨c0, hc0, by simp [two]⟩, ?_⟩
        rw [app c0 hc0, h2]
        unfold gsq grtS mx
        rw [sj, if_pos e]
      · refine ⟨c0 ++ [(b[j]).1], List.mem_flatMap.mpr ⟨c0, hc0, by simp [two]⟩, ?_⟩
        rw [app c0 hc0, h2]
        unfold gsq grtS mx
        rw [sj, if_neg e]
theorem corn_maxL {b o : List (Int × Int)} {n : Nat} (hn : b.length = n) : maxL ((corn b).map fun c => sg n (cf o c)) = sg n fun i => grtS b o i * grtS b o i := by
  obtain ⟨h1, c0, h0, h2⟩ := corn_max b o b.length (Nat.le_refl _)
  rw [List.take_length] at h1 h0
  rw [hn] at h1 h2
  have m := maxL_mem (ns := (corn b).map fun c => sg n (cf o c)) (by
    intro z
    have := List.map_eq_nil_iff.mp z
    rw [this] at h0
    cases h0)
  apply Int.le_antisymm
  · obtain ⟨c, hc, e⟩ := List.mem_map.mp m.1
    rw [← e]
    exact h1 c hc
  · rw [← h2]
    exact m.2 _ (List.mem_map.mpr ⟨c0, h0, rfl⟩)
theorem corn_sm {b : List (Int × Int)} (hs : ∀ s ∈ b, Sm s) : ∀ c ∈ corn b, ∀ x ∈ c, x.natAbs < 4611686018427387904 := by
  have key : ∀ (b : List (Int × Int)) (cs : List (List Int)), (∀ s ∈ b, Sm s) → (∀ c ∈ cs, ∀ x ∈ c, x.natAbs < 4611686018427387904) → ∀ c ∈ b.foldl cstep cs, ∀ x ∈ c, x.natAbs < 4611686018427387904 := fun b => by
    induction b with
    | nil => intro cs _ h; exact h
    | cons s b ih =>
      intro cs hs h
      rw [List.foldl_cons]
      refine ih _ (fun t ht => hs t (List.mem_cons_of_mem _ ht)) fun c hc x hx => ?_
      unfold cstep at hc
      obtain ⟨c1, hc1, hy⟩ := List.mem_flatMap.mp hc
      have k := hs s (List.mem_cons_self ..)
      simp only [two, List.mem_cons, List.not_mem_nil, or_false] at hy
      rcases hy with rfl | rfl
      · rcases List.mem_append.mp hx with hx | hx
        · exact h c1 hc1 x hx
        · simp only [List.mem_cons, List.not_mem_nil, or_false] at hx
          rw [hx]
          exact k.1
      · rcases List.mem_append.mp hx with hx | hx
        · exact h c1 hc1 x hx
        · simp only [List.mem_cons, List.not_mem_nil, or_false] at hx
          rw [hx]
          exact k.2
  exact key b [[]] hs (by simp)
end Lib
namespace Lib
open PySem PySem.Spec PyProof.Rows L2 Ev
/-! the law's own root -/
theorem bits_lt {N : Int} (h : 0 ≤ N) : N < ((2 ^ Builtin.Int.intBits N : Nat) : Int) := by
  unfold Builtin.Int.intBits
  split
  · rename_i c
    have : N = 0 := by simpa using c
    rw [this]
    decide
  · have := Nat.lt_log2_self (n := N.natAbs)
    omega
theorem root_uniq {r s N : Int} (hr : 0 ≤ r) (hs : 0 ≤ s) (h1 : r * r ≤ N) (h2 : N < (r + 1) * (r + 1)) (k1 : s * s ≤ N) (k2 : N < (s + 1) * (s + 1)) : r = s := by
  rcases Int.lt_trichotomy r s with c | c | c
  · have := sq_le_sq (x := r + 1) (y := s) (by omega) (by omega)
    omega
  · exact c
  · have := sq_le_sq (x := s + 1) (y := r) (by omega) (by omega)
    omega
theorem root_turn {N r : Int} {k : Nat} (hk : k ≤ 10000) (hz : sz N < 6000) (hr : 0 ≤ r) (hrN : r * r ≤ N) (x3 : Option D) (h : HP) :
    ∃ y3, B__law_root_1 [some (.int N), some (.int r), some (.int k), x3] h = .nx [some (.int N), some (.int (if (r + ((2 ^ k : Nat) : Int)) * (r + ((2 ^ k : Nat) : Int)) ≤ N then r + ((2 ^ k : Nat) : Int) else r)), some (.int k), y3] h := by
  have s1 : sz r ≤ sz N := sz_mono (by
    have : r ≤ r * r := by
      by_cases c : r = 0
      · subst c; decide
      · have : 1 * r ≤ r * r := Int.mul_le_mul_of_nonneg_right (by omega) hr
        omega
    omega)
  have s2 : sz ((2 ^ k : Nat) : Int) ≤ k := by
    unfold sz
    rw [Int.natAbs_natCast, Nat.log2_two_pow]
    exact Nat.le_refl _
  have s3 := sz_add r ((2 ^ k : Nat) : Int)
  have m : CMulE (r + ((2 ^ k : Nat) : Int)) (r + ((2 ^ k : Nat) : Int)) := mulX 20000 20000 (by omega) (by omega) (by decide)
  have e : (1 : Int) * 2 ^ k = ((2 ^ k : Nat) : Int) := by simp
  have k6 : (k : Int) ≤ 1000000 := by omega
  have lt1 : (1 : Int).natAbs < 18446744073709551616 := by decide
  by_cases c : (r + ((2 ^ k : Nat) : Int)) * (r + ((2 ^ k : Nat) : Int)) ≤ N
  · rw [if_pos c]
    generalize ((2 ^ k : Nat) : Int) = P at *
    simp [k6, lt1, e, m, c]
  · rw [if_neg c]
    generalize ((2 ^ k : Nat) : Int) = P at *
    simp [k6, lt1, e, m, c]
theorem F_law_root' {N : Int} (h0 : 0 ≤ N) (hz : sz N < 6000) (h : HP) : F__law_root [.int N] h = .ok (.int (rd N)) h := by
  obtain ⟨L, eL⟩ : ∃ L : Nat, Builtin.Int.intBits N / 2 + 1 = L := ⟨_, rfl⟩
  have bl : Builtin.Int.intBits N ≤ 6000 := by
    unfold Builtin.Int.intBits
    split
    · omega
    · unfold sz at hz; omega
  have eLi : ((Builtin.Int.intBits N : Nat) : Int) / 2 + 1 = (L : Int) := by omega
  have ub : N < ((2 ^ (L + 1) : Nat) : Int) * ((2 ^ (L + 1) : Nat) : Int) := by
    have h1 := bits_lt h0
    have h2 : (2 : Nat) ^ Builtin.Int.intBits N ≤ 2 ^ (L + 1) * 2 ^ (L + 1) := by
      rw [← Nat.pow_add]
      exact Nat.pow_le_pow_right (by decide) (by omega)
    have h3 : ((2 ^ Builtin.Int.intBits N : Nat) : Int) ≤ ((2 ^ (L + 1) * 2 ^ (L + 1) : Nat) : Int) := by exact_mod_cast h2
    rw [Int.natCast_mul] at h3
    omega
  obtain ⟨_, h1, e, ⟨r, x2, x3, rfl, hr, r1, r2⟩, hh⟩ := forE_inv (gd := []) (asg := gNm 2) (body := B__law_root_1) (items := rngN (L : Int) (L + 1))
    (fun i env h' => (∃ (r : Int) (x2 x3 : Option D), env = [some (.int N), some (.int r), x2, x3] ∧ 0 ≤ r ∧ r * r ≤ N ∧ N < (r + ((2 ^ (L + 1 - i) : Nat) : Int)) * (r + ((2 ^ (L + 1 - i) : Nat) : Int))) ∧ h' = h) (fun _ _ _ _ => by simp)
    (fun i env h' hi hI => by
      obtain ⟨⟨r, x2, x3, rfl, hr, r1, r2⟩, rfl⟩ := hI
      rw [rngN_len] at hi
      obtain ⟨y3, e⟩ := root_turn (N := N) (r := r) (k := L - i) (by omega) hz hr r1 x3 h'
      have it : (rngN (L : Int) (L + 1))[i]'(by rw [rngN_len]; exact hi) = .int ((L - i : Nat) : Int) := by
        simp only [rngN, List.getElem_map, List.getElem_range]
        congr 1
        omega
      refine ⟨[some (.int N), some (.int r), some (.int ((L - i : Nat) : Int)), x3], by rw [it]; rfl, _, _, .inl e, ⟨_, _, _, rfl, ?_, ?_, ?_⟩, rfl⟩
      · have hp := Int.natCast_nonneg (2 ^ (L - i))
        generalize ((2 ^ (L - i) : Nat) : Int) = P at *
        split <;> omega
      · split
        · assumption
        · exact r1
      · have pw : ((2 ^ (L + 1 - i) : Nat) : Int) = ((2 ^ (L - i) : Nat) : Int) + ((2 ^ (L - i) : Nat) : Int) := by
          rw [show L + 1 - i = (L - i) + 1 by omega, Nat.pow_succ]
          omega
        rw [pw] at r2
        rw [show L + 1 - (i + 1) = L - i by omega]
        split
        · rename_i c
          rw [← Int.add_assoc] at r2
          exact r2
        · rename_i c
          omega)
    (env := [some (.int N), some (.int 0), none, none]) (h := h) ⟨⟨0, none, none, rfl, by omega, by omega, by rw [Int.zero_add]; exact ub⟩, rfl⟩
  rw [rngN_len, Nat.sub_self, Nat.pow_zero] at r2
  rw [hh] at e
  obtain ⟨d0, d1, d2⟩ := rd_spec h0
  have er : r = rd N := root_uniq hr d0 r1 r2 d1 d2
  subst er
  have rg : Rg (L : Int) := rg_nat (by omega)
  have rgm : Rg (-1) := rg_of (by omega) (by omega)
  have p : ∀ z : Int, pure_ h (.int z) h = .ok (.int z) h := fun z => pure_clean h (clean_int z)
  have en : ((L : Int) - -1).toNat = L + 1 := by omega
  simp [F__law_root, lg, eLi, rg, rgm, en, e, p]
theorem F_law_root_up' {N : Int} (h0 : 0 ≤ N) (hz : sz N < 6000) (h : HP) : F__law_root_up [.int N] h = .ok (.int (ru N)) h := by
  have p : ∀ z : Int, pure_ h (.int z) h = .ok (.int z) h := fun z => pure_clean h (clean_int z)
  have f := fun h => F_law_root' h0 hz h
  have s := sz_rd h0
  have m : CMulE (rd N) (rd N) := mulX 6000 6000 (by omega) (by omega) (by decide)
  by_cases c : rd N * rd N < N
  · simp [F__law_root_up, f, m, c, ru, p]
  · simp [F__law_root_up, f, m, c, ru, p]
/-! the greatest over the corners, for any values by place -/
theorem corn_maxG (b : List (Int × Int)) (g : Nat → Int → Int) (G : Nat → Int) (hG : ∀ i < b.length, g i (sd b i).1 ≤ G i ∧ g i (sd b i).2 ≤ G i ∧ (G i = g i (sd b i).1 ∨ G i = g i (sd b i).2)) :
    ∀ j ≤ b.length, (∀ c ∈ corn (b.take j), sg j (fun i => g i (c.getD i 0)) ≤ sg j G) ∧ ∃ c ∈ corn (b.take j), sg j (fun i => g i (c.getD i 0)) = sg j G
  | 0, _ => by simp [sg_zero, corn]
  | j + 1, hj => by
    obtain ⟨h1, c0, hc0, h2⟩ := corn_maxG b g G hG j (by omega)
    have hj' : j < b.length := by omega
    rw [corn_take hj']
    have len : ∀ c ∈ corn (b.take j), c.length = j := fun c hc => by
      rw [corn_each _ c hc, List.length_take]
      omega
    have app : ∀ c ∈ corn (b.take j), ∀ x, sg (j + 1) (fun i => g i ((c ++ [x]).getD i 0)) = sg j (fun i => g i (c.getD i 0)) + g j x := fun c hc x => by
      rw [sg_succ]
      have l := len c hc
      congr 1
      · refine sg_congr fun i hi => ?_
        congr 1
        rw [List.getD_eq_getElem?_getD, List.getD_eq_getElem?_getD, List.getElem?_append_left (by omega)]
      · congr 1
        rw [List.getD_eq_getElem?_getD, List.getElem?_append_right (by omega), l]
        simp
    have sj := sd_get hj'
    obtain ⟨q1, q2, q3⟩ := hG j hj'
    rw [sj] at q1 q2 q3
    refine ⟨fun c hc => ?_, ?_⟩
    · unfold cstep at hc
      obtain ⟨c1, hc1, hx⟩ := List.mem_flatMap.mp hc
      have := h1 c1 hc1
      rw [sg_succ j G]
      simp only [two, List.mem_cons, List.not_mem_nil, or_false] at hx
      rcases hx with rfl | rfl
      · rw [app c1 hc1]; omega
      · rw [app c1 hc1]; omega
    · rw [sg_succ j G]
      rcases q3 with q3 | q3
      · refine ⟨c0 ++ [(b[j]).1], List.mem_flatMap.mpr ⟨c0, hc0, by simp [two]⟩, ?_⟩
        rw [app c0 hc0, h2, q3]
      · refine ⟨c0 ++ [(b[j]).2], List.mem_flatMap.mpr ⟨c0, hc0, by simp [two]⟩, ?_⟩
        rw [app c0 hc0, h2, q3]
theorem corn_maxGL {b : List (Int × Int)} {n : Nat} (hn : b.length = n) (g : Nat → Int → Int) (G : Nat → Int) (hG : ∀ i < b.length, g i (sd b i).1 ≤ G i ∧ g i (sd b i).2 ≤ G i ∧ (G i = g i (sd b i).1 ∨ G i = g i (sd b i).2)) :
    maxL ((corn b).map fun c => sg n fun i => g i (c.getD i 0)) = sg n G := by
  obtain ⟨h1, c0, h0, h2⟩ := corn_maxG b g G hG b.length (Nat.le_refl _)
  rw [List.take_length] at h1 h0
  rw [hn] at h1 h2
  have m := maxL_mem (ns := (corn b).map fun c => sg n fun i => g i (c.getD i 0)) (by
    intro z
    have := List.map_eq_nil_iff.mp z
    rw [this] at h0
    cases h0)
  apply Int.le_antisymm
  · obtain ⟨c, hc, e⟩ := List.mem_map.mp m.1
    rw [← e]
    exact h1 c hc
  · rw [← h2]
    exact m.2 _ (List.mem_map.mpr ⟨c0, h0, rfl⟩)
theorem sq_nn (x : Int) : 0 ≤ x * x := by
  by_cases c : 0 ≤ x
  · exact Int.mul_nonneg c c
  · exact Int.le_of_lt (Int.mul_pos_of_neg_of_neg (by omega) (by omega))
theorem sg_sq_sz {n : Nat} (hn : n ≤ 10) {f : Nat → Int} (hf : ∀ i < n, (f i).natAbs < 18446744073709551616) : 0 ≤ (sg n fun i => f i * f i) ∧ sz (sg n fun i => f i * f i) < 140 := ⟨sg_nn fun i _ => sq_nn _, sz140 (dot_bd hn hf hf)⟩
theorem near_sm {n : Nat} {p : Nat → Int} {b : List (Int × Int)} (hb : b.length = n) (hp : ∀ i < n, (p i).natAbs < 4611686018427387904) (hs : ∀ s ∈ b, Sm s) : ∀ i < n, (nearS p b i).natAbs < 18446744073709551616 := fun i hi =>
  gap_sm (s := (p i, p i)) ⟨hp i hi, hp i hi⟩ (sd_sm hs (by omega))
theorem far_sm {n : Nat} {p : Nat → Int} {b : List (Int × Int)} (hb : b.length = n) (hp : ∀ i < n, (p i).natAbs < 4611686018427387904) (hs : ∀ s ∈ b, Sm s) : ∀ i < n, (farS p b i).natAbs < 18446744073709551616 := fun i hi => by
  have h1 := hp i hi
  obtain ⟨h2, h3⟩ := sd_sm hs (show i < b.length by omega)
  unfold farS mx
  split <;> omega
theorem F_distances' {n : Nat} (hn : n ≤ 10) {p : Nat → Int} {b : List (Int × Int)} (hb : b.length = n) (hp : ∀ i < n, (p i).natAbs < 4611686018427387904) (hs : ∀ s ∈ b, Sm s) (h : HP) :
    F_distances [vec n p, boxD b] h = .ok (.tup [.int (rd (sg n fun i => nearS p b i * nearS p b i)), .int (ru (sg n fun i => farS p b i * farS p b i))]) h := by
  have pr : ∀ y z : Int, pure_ h (.tup [.int y, .int z]) h = .ok (.tup [.int y, .int z]) h := fun y z => pure_clean h (clean_tup (by simp [clean_int]))
  have f1 := fun h => F_nearest' hn hb hp hs h
  have f2 := fun h => F_farthest' hn hb hp hs h
  obtain ⟨a1, a2⟩ := sg_sq_sz hn (near_sm hb hp hs)
  obtain ⟨b1, b2⟩ := sg_sq_sz hn (far_sm hb hp hs)
  have f3 := fun h => F_root_down' a1 (by omega) h
  have f4 := fun h => F_root_up' b1 (by omega) h
  simp [F_distances, f1, f2, f3, f4, pr]
end Lib
namespace Lib
open PySem PySem.Spec PyProof.Rows L2 Ev
/-! settings -/
theorem clean_ins {c : Nat} {fs : List (Str × D)} (h : ∀ p ∈ fs, clean p.2) : clean (.ins c fs) := fun n => by
  simp only [rlt]
  induction fs with
  | nil => rfl
  | cons p fs ih =>
    simp only [rlt.rltf, Bool.and_eq_true]
    exact ⟨h p List.mem_cons_self n, ih fun q hq => h q (List.mem_cons_of_mem _ hq)⟩
theorem pure_ins {h : HP} {c : Nat} {fs : List (Str × D)} (k : ∀ p ∈ fs, clean p.2) : pure_ h (.ref h.length) (h ++ [.ins c fs]) = .ok (.ins c fs) h := by
  unfold pure_
  rw [if_pos (by simp)]
  have := clean_ins (c := c) k h.length
  simp only [rlt] at this
  simp [fz, rlt, this]
structure SetV where
  d : Int
  s : Int
  r : Int
  p : Int
def SetV.ok (S : SetV) : Prop := 2 ≤ S.d ∧ S.d ≤ 3 ∧ 0 ≤ S.s ∧ S.s ≤ 1000000000000 ∧ 0 ≤ S.r ∧ S.r ≤ 1000000000000 ∧ 1 ≤ S.p ∧ S.p ≤ 1000000000000
@[simp] def setF (S : SetV) : List (Str × D) := [("dims", .int S.d), ("speed", .int S.s), ("drift", .int S.r), ("per", .int S.p)]
def setD (S : SetV) : D := .ins 0 (setF S)
@[simp] theorem asI_set (S : SetV) (h : HP) : asI h (setD S) = some (0, setF S) := rfl
theorem clean_set (S : SetV) : clean (setD S) := clean_ins (by simp [clean_int])
def wIn (lo hi x : Int) : Bool := decide (lo ≤ x) && decide (x ≤ hi)
theorem F_allw (xs : List Int) (lo hi : Int) (hz : xs.length ≤ 1000) (h : HP) : F_all_within [.tup (xs.map D.int), .int lo, .int hi] h = .ok (.bl ((xs.map (wIn lo hi)).all id)) h := by
  have lc : C_all_within_1 false [some (.tup (xs.map D.int)), some (.int lo), some (.int hi), none] h = _ :=
    mLc_ty (h1 := h) xs D.int (fun x => .bl (wIn lo hi x)) (by simp) (by omega) (fun i hi' h' => ⟨[some (.tup (xs.map D.int)), some (.int lo), some (.int hi), some (.int i)], by simp, by
      by_cases q : lo ≤ i <;> simp [q, wIn]⟩) fun i _ => clean_bl _
  have pb : ∀ b, pure_ h (.bl b) h = .ok (.bl b) h := fun b => pure_clean h (clean_bl b)
  have e : (xs.map fun x => D.bl (wIn lo hi x)) = (xs.map (wIn lo hi)).map D.bl := by simp
  rw [e] at lc
  have k := blsD_map (xs.map (wIn lo hi))
  generalize (xs.map (wIn lo hi)).map D.bl = ys at *
  generalize xs.map D.int = zs at *
  simp [F_all_within, lc, k, pb]
theorem F_allwT {xs : List Int} {lo hi : Int} (hz : xs.length ≤ 1000) (k : ∀ x ∈ xs, lo ≤ x ∧ x ≤ hi) (h : HP) : F_all_within [.tup (xs.map D.int), .int lo, .int hi] h = .ok (.bl true) h := by
  rw [F_allw xs lo hi hz h]
  congr 2
  rw [List.all_eq_true]
  intro b hb
  obtain ⟨x, hx, rfl⟩ := List.mem_map.mp hb
  have := k x hx
  simp [wIn, this]
theorem F_set_init {S : SetV} (k : S.ok) (h : HP) : F_Setting__init__ [.ref h.length, .int S.d, .int S.s, .int S.r, .int S.p] (h ++ [.ins 0 []]) = .ok .non (h ++ [.ins 0 [("dims", .int S.d), ("speed", .int S.s), ("drift", .int S.r), ("per", .int S.p)]]) := by
  obtain ⟨k1, k2, k3, k4, k5, k6, k7, k8⟩ := k
  have a : ∀ h, F_all_within [.tup [.int S.s, .int S.r], .int 0, .int 1000000000000] h = .ok (.bl true) h := fun h => F_allwT (xs := [S.s, S.r]) (by simp) (by simp [k3, k4, k5, k6]) h
  simp [F_Setting__init__, k1, k2, a, k7, k8]
theorem mk_set {S : SetV} (k : S.ok) (h : HP) : mkR h (F_Setting__init__ [.ref h.length, .int S.d, .int S.s, .int S.r, .int S.p] (h ++ [.ins 0 []])) = .ok (setD S) h := by
  rw [F_set_init k h]
  exact pure_ins (by simp [clean_int])
def mkSet (ns : List Int) (k : Nat) : SetV :=
  if num ns k / 230 % 8 = 0 then ⟨2 + num ns k % 2, num ns (k + 1) / 1000000000000 % 1000000000001, num ns k / 1840 % 7, 1 + num ns (k + 1) % 1000000000000⟩
  else ⟨2 + num ns k % 2, num ns k / 10 % 23, num ns k / 1840 % 7, 1 + num ns k / 2 % 5⟩
theorem mkSet_ok (ns : List Int) (k : Nat) : (mkSet ns k).ok := by
  unfold mkSet SetV.ok
  split <;> simp only <;> omega
theorem F_setting' {ns : List Int} (hn : Okn ns) {k : Nat} (hk : k ≤ 100) (h : HP) : F__law_setting [Sc ns, .int k] h = .ok (setD (mkSet ns k)) h := by
  have n0 := fun h => F_number hn (k := k) (by omega) h
  have n1 : ∀ h, F__law_number [Sc ns, .int ((k : Int) + 1)] h = .ok (.int (num ns (k + 1))) h := fun h => F_number hn (k := k + 1) (by omega) h
  have ok := mkSet_ok ns k
  have mk := mk_set ok h
  have pr := pure_clean h (clean_set (mkSet ns k))
  have ps : ∀ S, setD S = .ins 0 [("dims", .int S.d), ("speed", .int S.s), ("drift", .int S.r), ("per", .int S.p)] := fun _ => rfl
  by_cases q : num ns k / 230 % 8 = 0
  · have e : mkSet ns k = ⟨2 + num ns k % 2, num ns (k + 1) / 1000000000000 % 1000000000001, num ns k / 1840 % 7, 1 + num ns (k + 1) % 1000000000000⟩ := by unfold mkSet; rw [if_pos q]
    rw [e] at mk pr
    simp only at mk
    simp [F__law_setting, n0, n1, q, sh_int, PyData.eqv, lg, mk, pr, e]
  · have e : mkSet ns k = ⟨2 + num ns k % 2, num ns k / 10 % 23, num ns k / 1840 % 7, 1 + num ns k / 2 % 5⟩ := by unfold mkSet; rw [if_neg q]
    rw [e] at mk pr
    simp only at mk
    simp [F__law_setting, n0, n1, q, sh_int, PyData.eqv, lg, mk, pr, e]
/-! how far one can go -/
def qup (n d : Int) : Int := -(-n / d)
theorem F_qup {n d : Int} (h0 : 0 < d) (hd : d ≤ 1000000000000) (h : HP) : F_quotient_up [.int n, .int d] h = .ok (.int (qup n d)) h := by
  have l : Nat.log2 d.natAbs < 9000 := lg (by omega)
  have pr : ∀ z : Int, pure_ h (.int z) h = .ok (.int z) h := fun z => pure_clean h (clean_int z)
  simp [F_quotient_up, h0, l, pr, qup]
theorem qup_ge {n d : Int} (h : 0 < d) : n ≤ d * qup n d := by
  have := Int.ediv_mul_le (-n) (show d ≠ 0 by omega)
  unfold qup
  rw [Int.mul_neg, Int.mul_comm]
  omega
theorem qup_lt {n d : Int} (h : 0 < d) : d * (qup n d - 1) < n := by
  have := Int.lt_ediv_add_one_mul_self (-n) h
  unfold qup
  have e : d * (-(-n / d) - 1) = -((-n / d + 1) * d) := by grind
  rw [e]
  omega
def rchS (S : SetV) (t : Int) : Int := qup (S.s * t) S.p
def slpS (S : SetV) (t : Int) : Int := qup (S.r * t) S.p
theorem set_mul {S : SetV} (k : S.ok) {t : Int} (ht : t.natAbs < 18446744073709551616) : CMulE S.s t ∧ CMulE S.r t := by
  obtain ⟨k1, k2, k3, k4, k5, k6, k7, k8⟩ := k
  exact ⟨mul64 (by omega) ht, mul64 (by omega) ht⟩
theorem F_reach' {S : SetV} (k : S.ok) {t : Int} (ht : t.natAbs < 18446744073709551616) (h : HP) : F_reach [setD S, .int t] h = .ok (.int (rchS S t)) h := by
  obtain ⟨m1, m2⟩ := set_mul k ht
  obtain ⟨k1, k2, k3, k4, k5, k6, k7, k8⟩ := k
  have qu := fun h => F_qup (n := S.s * t) (d := S.p) (by omega) k8 h
  have pr : ∀ z : Int, pure_ h (.int z) h = .ok (.int z) h := fun z => pure_clean h (clean_int z)
  simp [F_reach, List.lookup, m1, qu, pr, rchS]
theorem F_slip' {S : SetV} (k : S.ok) {t : Int} (ht : t.natAbs < 18446744073709551616) (h : HP) : F_slip [setD S, .int t] h = .ok (.int (slpS S t)) h := by
  obtain ⟨m1, m2⟩ := set_mul k ht
  obtain ⟨k1, k2, k3, k4, k5, k6, k7, k8⟩ := k
  have qu := fun h => F_qup (n := S.r * t) (d := S.p) (by omega) k8 h
  have pr : ∀ z : Int, pure_ h (.int z) h = .ok (.int z) h := fun z => pure_clean h (clean_int z)
  simp [F_slip, List.lookup, m2, qu, pr, slpS]
/-! a box with the clock's side behind -/
theorem init_box (pl : List (Int × Int)) (c : Int × Int) : Ev.cutD ((pl ++ [c]).map sideD) none (some (-1)) = pl.map sideD := by
  rw [cut_init (by simp)]
  simp
theorem last_box (pl : List (Int × Int)) (c : Int × Int) : atI ((pl ++ [c]).map sideD) (-1) = some (sideD c) := by
  unfold atI ixN
  simp
  rw [if_pos (by omega)]
  have : ((-1 : Int) + ((pl.length : Int) + 1)).toNat = pl.length := by omega
  simp [this]
theorem mkBox_succ (ns : List Int) (k n : Nat) : mkBox ns k (n + 1) = mkBox ns k n ++ [mkSide ns k n] := by
  unfold mkBox
  rw [List.range_succ, List.map_append]
  rfl
end Lib
namespace Lib
open PySem PySem.Spec PyProof.Rows L2 Ev
/-! farther -/
theorem powX {x : Int} (n : Nat) (hx : sz x ≤ n) (hn : n ≤ 10000) : CPowW x 2 := by
  refine ⟨by omega, ?_⟩
  have hh : Builtin.Int.intBits x ≤ n + 1 := by
    unfold Builtin.Int.intBits
    split
    · omega
    · unfold sz at hx; omega
  have : ((2 : Int) ^ 27) = 134217728 := by decide
  rw [this]
  omega
theorem gap3 (s o : Int × Int) : (if 0 > (if s.1 - o.2 > o.1 - s.2 then s.1 - o.2 else o.1 - s.2) then 0 else (if s.1 - o.2 > o.1 - s.2 then s.1 - o.2 else o.1 - s.2)) = gapS s o := by
  have e : (if 0 > (if s.1 - o.2 > o.1 - s.2 then s.1 - o.2 else o.1 - s.2) then 0 else (if s.1 - o.2 > o.1 - s.2 then s.1 - o.2 else o.1 - s.2)) = mx (mx (o.1 - s.2) (s.1 - o.2)) 0 := rfl
  rw [e]
  exact Int.le_antisymm (mx_le (mx_le (le_gap1 _ _) (le_gap2 _ _)) (gap_nn _ _)) (gap_le (le_mx2 _ _) (Int.le_trans (le_mx1 _ _) (le_mx1 _ _)) (Int.le_trans (le_mx2 _ _) (le_mx1 _ _)))
def betQ (n : Nat) (a b : List (Int × Int)) : Int := sg n fun i => betS a b i * betS a b i
theorem betQ_comm (n : Nat) (a b : List (Int × Int)) : betQ n a b = betQ n b a := sg_congr fun i _ => by
  unfold betS
  rw [gap_comm]
theorem bet_sm {n : Nat} {a b : List (Int × Int)} (ha : a.length = n) (hb : b.length = n) (hr : ∀ s ∈ a, Sm s) (hs : ∀ s ∈ b, Sm s) : ∀ i < n, (betS a b i).natAbs < 18446744073709551616 := fun i hi =>
  gap_sm (sd_sm hr (by omega)) (sd_sm hs (by omega))
def farB (S : SetV) (n : Nat) (t : Int) (a : List (Int × Int)) (c : Int × Int) (b : List (Int × Int)) (e : Int × Int) : Bool :=
  decide (S.s * t * (S.s * t) < S.p * S.p * betQ n a b) || decide (S.r * t < S.p * gapS c e)
theorem farB_comm (S : SetV) (n : Nat) (t : Int) (a : List (Int × Int)) (c : Int × Int) (b : List (Int × Int)) (e : Int × Int) : farB S n t a c b e = farB S n t b e a c := by
  unfold farB
  rw [betQ_comm, gap_comm]
theorem set_sz {S : SetV} (k : S.ok) : sz S.d ≤ 64 ∧ sz S.s ≤ 64 ∧ sz S.r ≤ 64 ∧ sz S.p ≤ 64 := by
  obtain ⟨k1, k2, k3, k4, k5, k6, k7, k8⟩ := k
  exact ⟨sz64 (by omega), sz64 (by omega), sz64 (by omega), sz64 (by omega)⟩
theorem F_farther' {S : SetV} (k : S.ok) {t : Int} (ht : t.natAbs < 18446744073709551616) {n : Nat} (hn : n ≤ 10) {a b : List (Int × Int)} {c e : Int × Int} (ha : a.length = n) (hb : b.length = n) (hr : ∀ s ∈ a, Sm s) (hs : ∀ s ∈ b, Sm s) (hc : Sm c) (he : Sm e) (h : HP) :
    F_farther [setD S, .int t, boxD (a ++ [c]), boxD (b ++ [e])] h = .ok (.bl (farB S n t a c b e)) h := by
  have pr := fun b => pure_clean h (clean_bl b)
  obtain ⟨s1, s2, s3, s4⟩ := set_sz k
  have st := sz64 ht
  have fb := fun h => F_between' hn ha hb hr hs h
  have fg := fun h => F_gap' c e h
  obtain ⟨q1, q2⟩ := sg_sq_sz hn (bet_sm ha hb hr hs)
  have p1 : CPowW S.p 2 := powX 64 s4 (by decide)
  have m1 : CMulE (S.p * S.p) (betQ n a b) := mulX 129 140 (by have := sz_mul S.p S.p; omega) (by unfold betQ; omega) (by decide)
  have m2 : CMulE S.p (gapS c e) := mulX 64 64 s4 (sz64 (gap_sm hc he)) (by decide)
  have m3 : CMulE S.s t := mulX 64 64 s2 st (by decide)
  have m4 : CMulE S.r t := mulX 64 64 s3 st (by decide)
  have p2 : CPowW (S.s * t) 2 := powX 129 (by have := sz_mul S.s t; omega) (by decide)
  have i1 := init_box a c
  have i2 := init_box b e
  have l1 := last_box a c
  have l2 := last_box b e
  unfold farB
  unfold betQ at m1 ⊢
  generalize (sg n fun i => betS a b i * betS a b i) = B at *
  unfold boxD at *
  generalize (a ++ [c]).map sideD = xs at *
  generalize (b ++ [e]).map sideD = ys at *
  by_cases z : S.s * t * (S.s * t) < S.p * S.p * B
  · simp [F_farther, List.lookup, p1, pow2, i1, i2, l1, l2, fb, m1, m2, m3, m4, p2, fg, z, pr]
  · simp [F_farther, List.lookup, p1, pow2, i1, i2, l1, l2, fb, m1, m2, m3, m4, p2, fg, z, pr]
end Lib
namespace Lib
open PySem PySem.Spec PyProof.Rows L2 Ev
/-! wide numbers: of at most 500 bits; the defs on distances over them -/
def W (x : Int) : Prop := sz x ≤ 500
def WS (s : Int × Int) : Prop := W s.1 ∧ W s.2
theorem W.of {x : Int} (h : x.natAbs < 18446744073709551616) : W x := Nat.le_trans (sz64 h) (by decide)
theorem W.of128 {x : Int} (h : x.natAbs < 340282366920938463463374607431768211456) : W x := Nat.le_trans (sz_small (n := 128) (by omega) h) (by decide)
theorem sz_mx {a b : Int} {k : Nat} (h1 : sz a ≤ k) (h2 : sz b ≤ k) : sz (mx a b) ≤ k := by unfold mx; split <;> assumption
theorem sz0 : sz 0 = 0 := by decide
theorem sz_gap {s o : Int × Int} (h : WS s) (k : WS o) : sz (gapS s o) ≤ 501 := by
  have a1 := sz_sub o.1 s.2
  have a2 := sz_sub s.1 o.2
  obtain ⟨h1, h2⟩ := h
  obtain ⟨k1, k2⟩ := k
  unfold W at *
  exact sz_mx (sz_mx (by rw [sz0]; omega) (by omega)) (by omega)
theorem powW {x : Int} {n : Nat} (hx : sz x ≤ n) (hn : n ≤ 10000) : CPowW x 2 := powX n hx hn
theorem sg_sz {f : Nat → Int} {k : Nat} : ∀ {n : Nat}, (∀ i < n, sz (f i) ≤ k) → sz (sg n f) ≤ k + n
  | 0, _ => by rw [sg_zero, sz0]; omega
  | n + 1, h => by
    have h1 := sg_sz (n := n) fun i hi => h i (by omega)
    have h2 := h n (by omega)
    have h3 := sz_add (sg n f) (f n)
    rw [sg_succ]
    omega
theorem sg_sq {f : Nat → Int} {k n : Nat} (h : ∀ i < n, sz (f i) ≤ k) : 0 ≤ (sg n fun i => f i * f i) ∧ sz (sg n fun i => f i * f i) ≤ 2 * k + 1 + n :=
  ⟨sg_nn fun i _ => sq_nn _, sg_sz fun i hi => by
    have := sz_mul (f i) (f i)
    have := h i hi
    omega⟩
theorem sg_dot {f e : Nat → Int} {k n : Nat} (h : ∀ i < n, sz (f i) ≤ k) (h2 : ∀ i < n, sz (e i) ≤ k) : sz (sg n fun i => f i * e i) ≤ 2 * k + 1 + n :=
  sg_sz fun i hi => by
    have := sz_mul (f i) (e i)
    have := h i hi
    have := h2 i hi
    omega
theorem sd_w {b : List (Int × Int)} (h : ∀ s ∈ b, WS s) {i : Nat} (hi : i < b.length) : WS (sd b i) := by
  rw [sd_get hi]
  exact h _ (List.getElem_mem hi)
def WP (n : Nat) (p : Nat → Int) : Prop := ∀ i < n, W (p i)
section
variable {n : Nat} {p : Nat → Int} {a b : List (Int × Int)}
theorem near_w (hb : b.length = n) (hp : WP n p) (hs : ∀ s ∈ b, WS s) : ∀ i < n, sz (nearS p b i) ≤ 501 := fun i hi => sz_gap (s := (p i, p i)) ⟨hp i hi, hp i hi⟩ (sd_w hs (by omega))
theorem far_w (hb : b.length = n) (hp : WP n p) (hs : ∀ s ∈ b, WS s) : ∀ i < n, sz (farS p b i) ≤ 501 := fun i hi => by
  have h1 := hp i hi
  obtain ⟨h2, h3⟩ := sd_w hs (show i < b.length by omega)
  have a1 := sz_sub (p i) (sd b i).1
  have a2 := sz_sub (sd b i).2 (p i)
  unfold W at *
  exact sz_mx (by omega) (by omega)
theorem bet_w (ha : a.length = n) (hb : b.length = n) (hr : ∀ s ∈ a, WS s) (hs : ∀ s ∈ b, WS s) : ∀ i < n, sz (betS a b i) ≤ 501 := fun i hi => sz_gap (sd_w hr (by omega)) (sd_w hs (by omega))
theorem grt_w (ha : a.length = n) (hb : b.length = n) (hr : ∀ s ∈ a, WS s) (hs : ∀ s ∈ b, WS s) : ∀ i < n, sz (grtS a b i) ≤ 501 := fun i hi => by
  obtain ⟨h2, h3⟩ := sd_w hr (show i < a.length by omega)
  have hb' := sd_w hs (show i < b.length by omega)
  exact sz_mx (sz_gap (s := ((sd a i).1, (sd a i).1)) ⟨h2, h2⟩ hb') (sz_gap (s := ((sd a i).2, (sd a i).2)) ⟨h3, h3⟩ hb')
theorem F_nearestW (hn : n ≤ 10) (hb : b.length = n) (hp : WP n p) (hs : ∀ s ∈ b, WS s) (h : HP) : F_nearest [vec n p, boxD b] h = .ok (.int (sg n fun i => nearS p b i * nearS p b i)) h := by
  have pr : ∀ z : Int, pure_ h (.int z) h = .ok (.int z) h := fun z => pure_clean h (clean_int z)
  have bf := box_fun hb
  have lc : C_nearest_1 false [some (vec n p), some (boxD b), none, none] h = _ :=
    mLc_ty (h1 := h) (List.range n) (fun i => .tup [.int (p i), sideD (sd b i)]) (fun i => .int (nearS p b i * nearS p b i)) (by simp [vec, boxD, bf, zip_vec]) (by simp; omega)
      (fun i hi h' => ⟨[some (vec n p), some (boxD b), some (.int (p i)), some (sideD (sd b i))], by simp, by
        have hi' := List.mem_range.mp hi
        have g : ∀ h, F_gap [.tup [.int (p i), .int (p i)], sideD (sd b i)] h = .ok (.int (nearS p b i)) h := fun h => F_gap' (p i, p i) (sd b i) h
        have c : CPowW (nearS p b i) 2 := powW (near_w hb hp hs i hi') (by decide)
        simp [g, c, pow2]⟩) fun i _ => clean_int _
  have k := ints_vec n fun i => nearS p b i * nearS p b i
  simp [F_nearest, lc, k, sg, pr]
theorem F_farthestW (hn : n ≤ 10) (hb : b.length = n) (hp : WP n p) (hs : ∀ s ∈ b, WS s) (h : HP) : F_farthest [vec n p, boxD b] h = .ok (.int (sg n fun i => farS p b i * farS p b i)) h := by
  have pr : ∀ z : Int, pure_ h (.int z) h = .ok (.int z) h := fun z => pure_clean h (clean_int z)
  have bf := box_fun hb
  have lc : C_farthest_1 false [some (vec n p), some (boxD b), none, none, none] h = _ :=
    mLc_ty (h1 := h) (List.range n) (fun i => .tup [.int (p i), sideD (sd b i)]) (fun i => .int (farS p b i * farS p b i)) (by simp [vec, boxD, bf, zip_vec]) (by simp; omega)
      (fun i hi h' => ⟨[some (vec n p), some (boxD b), some (.int (p i)), some (.int (sd b i).1), some (.int (sd b i).2)], by simp [sideD], by
        have hi' := List.mem_range.mp hi
        have c : CPowW (farS p b i) 2 := powW (far_w hb hp hs i hi') (by decide)
        have e : (if (sd b i).2 - p i > p i - (sd b i).1 then (sd b i).2 - p i else p i - (sd b i).1) = farS p b i := rfl
        simp only [gt_iff_lt] at e
        simp [e, c, pow2]⟩) fun i _ => clean_int _
  have k := ints_vec n fun i => farS p b i * farS p b i
  simp [F_farthest, lc, k, sg, pr]
theorem F_betweenW (hn : n ≤ 10) (ha : a.length = n) (hb : b.length = n) (hr : ∀ s ∈ a, WS s) (hs : ∀ s ∈ b, WS s) (h : HP) : F_between [boxD a, boxD b] h = .ok (.int (betQ n a b)) h := by
  have pr : ∀ z : Int, pure_ h (.int z) h = .ok (.int z) h := fun z => pure_clean h (clean_int z)
  have af := box_fun ha
  have bf := box_fun hb
  have lc : C_between_1 false [some (boxD a), some (boxD b), none, none] h = _ :=
    mLc_ty (h1 := h) (List.range n) (fun i => .tup [sideD (sd a i), sideD (sd b i)]) (fun i => .int (betS a b i * betS a b i)) (by simp [boxD, af, bf, zip_vec]) (by simp; omega)
      (fun i hi h' => ⟨[some (boxD a), some (boxD b), some (sideD (sd a i)), some (sideD (sd b i))], by simp, by
        have hi' := List.mem_range.mp hi
        have g : ∀ h, F_gap [sideD (sd a i), sideD (sd b i)] h = .ok (.int (betS a b i)) h := fun h => F_gap' (sd a i) (sd b i) h
        have c : CPowW (betS a b i) 2 := powW (bet_w ha hb hr hs i hi') (by decide)
        simp [g, c, pow2]⟩) fun i _ => clean_int _
  have k := ints_vec n fun i => betS a b i * betS a b i
  simp [F_between, lc, k, sg, pr, betQ]
def grtQ (n : Nat) (a b : List (Int × Int)) : Int := sg n fun i => grtS a b i * grtS a b i
theorem F_greatestW (hn : n ≤ 10) (ha : a.length = n) (hb : b.length = n) (hr : ∀ s ∈ a, WS s) (hs : ∀ s ∈ b, WS s) (h : HP) : F_greatest_from [boxD a, boxD b] h = .ok (.int (grtQ n a b)) h := by
  have pr : ∀ z : Int, pure_ h (.int z) h = .ok (.int z) h := fun z => pure_clean h (clean_int z)
  have af := box_fun ha
  have bf := box_fun hb
  have lc : C_greatest_from_1 false [some (boxD a), some (boxD b), none, none, none] h = _ :=
    mLc_ty (h1 := h) (List.range n) (fun i => .tup [sideD (sd a i), sideD (sd b i)]) (fun i => .int (grtS a b i * grtS a b i)) (by simp [boxD, af, bf, zip_vec]) (by simp; omega)
      (fun i hi h' => ⟨[some (boxD a), some (boxD b), some (sideD (sd b i)), some (.int (sd a i).1), some (.int (sd a i).2)], by simp [sideD], by
        have hi' := List.mem_range.mp hi
        have g1 : ∀ h, F_gap [.tup [.int (sd a i).1, .int (sd a i).1], sideD (sd b i)] h = .ok (.int (gapS ((sd a i).1, (sd a i).1) (sd b i))) h := fun h => F_gap' ((sd a i).1, (sd a i).1) (sd b i) h
        have g2 : ∀ h, F_gap [.tup [.int (sd a i).2, .int (sd a i).2], sideD (sd b i)] h = .ok (.int (gapS ((sd a i).2, (sd a i).2) (sd b i))) h := fun h => F_gap' ((sd a i).2, (sd a i).2) (sd b i) h
        have c : CPowW (grtS a b i) 2 := powW (grt_w ha hb hr hs i hi') (by decide)
        have e : (if gapS ((sd a i).2, (sd a i).2) (sd b i) > gapS ((sd a i).1, (sd a i).1) (sd b i) then gapS ((sd a i).2, (sd a i).2) (sd b i) else gapS ((sd a i).1, (sd a i).1) (sd b i)) = grtS a b i := rfl
        simp only [gt_iff_lt] at e
        simp [g1, g2, e, c, pow2]⟩) fun i _ => clean_int _
  have k := ints_vec n fun i => grtS a b i * grtS a b i
  simp [F_greatest_from, lc, k, sg, pr, grtQ]
theorem betQ_w (hn : n ≤ 10) (ha : a.length = n) (hb : b.length = n) (hr : ∀ s ∈ a, WS s) (hs : ∀ s ∈ b, WS s) : 0 ≤ betQ n a b ∧ sz (betQ n a b) ≤ 1100 := by
  have := sg_sq (bet_w ha hb hr hs)
  exact ⟨this.1, by unfold betQ; omega⟩
theorem grtQ_w (hn : n ≤ 10) (ha : a.length = n) (hb : b.length = n) (hr : ∀ s ∈ a, WS s) (hs : ∀ s ∈ b, WS s) : 0 ≤ grtQ n a b ∧ sz (grtQ n a b) ≤ 1100 := by
  have := sg_sq (grt_w ha hb hr hs)
  exact ⟨this.1, by unfold grtQ; omega⟩
def nearQ (n : Nat) (p : Nat → Int) (b : List (Int × Int)) : Int := sg n fun i => nearS p b i * nearS p b i
def farQ (n : Nat) (p : Nat → Int) (b : List (Int × Int)) : Int := sg n fun i => farS p b i * farS p b i
theorem nearQ_w (hn : n ≤ 10) (hb : b.length = n) (hp : WP n p) (hs : ∀ s ∈ b, WS s) : 0 ≤ nearQ n p b ∧ sz (nearQ n p b) ≤ 1100 := by
  have := sg_sq (near_w hb hp hs)
  exact ⟨this.1, by unfold nearQ; omega⟩
theorem farQ_w (hn : n ≤ 10) (hb : b.length = n) (hp : WP n p) (hs : ∀ s ∈ b, WS s) : 0 ≤ farQ n p b ∧ sz (farQ n p b) ≤ 1100 := by
  have := sg_sq (far_w hb hp hs)
  exact ⟨this.1, by unfold farQ; omega⟩
theorem F_distancesW (hn : n ≤ 10) (hb : b.length = n) (hp : WP n p) (hs : ∀ s ∈ b, WS s) (h : HP) :
    F_distances [vec n p, boxD b] h = .ok (.tup [.int (rd (nearQ n p b)), .int (ru (farQ n p b))]) h := by
  have pr : ∀ y z : Int, pure_ h (.tup [.int y, .int z]) h = .ok (.tup [.int y, .int z]) h := fun y z => pure_clean h (clean_tup (by simp [clean_int]))
  have f1 : ∀ h, F_nearest [vec n p, boxD b] h = .ok (.int (nearQ n p b)) h := fun h => F_nearestW hn hb hp hs h
  have f2 : ∀ h, F_farthest [vec n p, boxD b] h = .ok (.int (farQ n p b)) h := fun h => F_farthestW hn hb hp hs h
  obtain ⟨a1, a2⟩ := nearQ_w hn hb hp hs
  obtain ⟨b1, b2⟩ := farQ_w hn hb hp hs
  have f3 := fun h => F_root_down' a1 (by omega) h
  have f4 := fun h => F_root_up' b1 (by omega) h
  simp [F_distances, f1, f2, f3, f4, pr]
/-! dot, a piece -/
theorem dt_lin : ∀ (n : Nat) (p q : Nat → Int) (u v : Int), u * u * dt n p p + 2 * u * v * dt n p q + v * v * dt n q q = dt n (fun i => u * p i + v * q i) (fun i => u * p i + v * q i)
  | 0, p, q, u, v => by simp [dt, sg_zero]
  | n + 1, p, q, u, v => by
    have ih := dt_lin n p q u v
    unfold dt at ih ⊢
    rw [sg_succ, sg_succ, sg_succ, sg_succ, ← ih]
    grind
theorem cauchy (n : Nat) (p q : Nat → Int) : dt n p q * dt n p q ≤ dt n p p * dt n q q := by
  have lin := fun u v => (dt_lin n p q u v).symm ▸ dt_self n (fun i => u * p i + v * q i)
  have hW := dt_self n q
  have hH := dt_self n p
  generalize dt n p q = L at *
  generalize dt n p p = H at *
  generalize dt n q q = V at *
  by_cases c : V = 0
  · subst c
    have := lin 1 (-((H + 1) * L))
    have l0 : L = 0 := by
      apply Decidable.byContradiction
      intro z
      have sq : 1 ≤ L * L := by
        by_cases z2 : 0 < L
        · have := Int.mul_le_mul (show 1 ≤ L by omega) (show 1 ≤ L by omega) (by omega) (by omega)
          omega
        · have := Int.mul_le_mul (show 1 ≤ -L by omega) (show 1 ≤ -L by omega) (by omega) (by omega)
          rw [Int.neg_mul_neg] at this
          omega
      have e : 1 * 1 * H + 2 * 1 * -((H + 1) * L) * L + -((H + 1) * L) * -((H + 1) * L) * 0 = H - 2 * ((H + 1) * (L * L)) := by grind
      rw [e] at this
      have := Int.mul_le_mul_of_nonneg_left sq (show 0 ≤ H + 1 by omega)
      omega
    subst l0
    simp
  · have := lin V (-L)
    have e : V * V * H + 2 * V * -L * L + -L * -L * V = (H * V - L * L) * V := by grind
    rw [e] at this
    have := Int.le_of_mul_le_mul_right (a := V) (b := 0) (c := H * V - L * L) (by rw [Int.zero_mul]; exact this) (by omega)
    omega
def Sz (k n : Nat) (p : Nat → Int) : Prop := ∀ i < n, sz (p i) ≤ k
theorem F_dotW (hn : n ≤ 10) {k : Nat} (hk : k ≤ 10000) {q : Nat → Int} (hp : Sz k n p) (hq : Sz k n q) (h : HP) : F_dot [vec n p, vec n q] h = .ok (.int (dt n p q)) h := by
  have pr : ∀ z : Int, pure_ h (.int z) h = .ok (.int z) h := fun z => pure_clean h (clean_int z)
  have lc : C_dot_1 false [some (vec n p), some (vec n q), none, none] h = _ :=
    mLc_ty (h1 := h) (List.range n) (fun i => .tup [.int (p i), .int (q i)]) (fun i => .int (p i * q i)) (by simp [vec, zip_vec]) (by simp; omega)
      (fun i hi h' => ⟨[some (vec n p), some (vec n q), some (.int (p i)), some (.int (q i))], by simp, by
        have hi' := List.mem_range.mp hi
        have m : CMulE (p i) (q i) := mulX k k (hp i hi') (hq i hi') (by omega)
        simp [m]⟩) fun i _ => clean_int _
  have k := ints_vec n fun i => p i * q i
  simp [F_dot, lc, k, sg, pr, dt]
theorem sub_w {q : Nat → Int} (hp : WP n p) (hq : WP n q) : Sz 501 n (sub p q) := fun i hi => by
  have h1 := hp i hi
  have h2 := hq i hi
  have := sz_sub (p i) (q i)
  unfold W at *
  unfold sub
  omega
theorem dt_w (hn : n ≤ 10) {q : Nat → Int} (hp : Sz 501 n p) (hq : Sz 501 n q) : sz (dt n p q) ≤ 1100 := by
  have := sg_dot hp hq
  unfold dt
  omega
theorem F_pieceW (hn : n ≤ 10) {x a t : Nat → Int} (h1 : Sz 501 n (sub x a)) (h2 : Sz 501 n (sub t a)) (h3 : Sz 501 n (sub x t)) (h : HP) :
    F_from_piece [vec n x, vec n a, vec n t] h = .ok (.tup [.int (pc2 n x a t).1, .int (pc2 n x a t).2]) h := by
  have pr : ∀ y z : Int, pure_ h (.tup [.int y, .int z]) h = .ok (.tup [.int y, .int z]) h := fun y z => pure_clean h (clean_tup (by simp [clean_int]))
  have e1 : ∀ h, F__minus [vec n t, vec n a] h = .ok (vec n (sub t a)) h := fun h => F_minus' hn t a h
  have e2 : ∀ h, F__minus [vec n x, vec n a] h = .ok (vec n (sub x a)) h := fun h => F_minus' hn x a h
  have e3 : ∀ h, F__minus [vec n x, vec n t] h = .ok (vec n (sub x t)) h := fun h => F_minus' hn x t h
  have d1 : ∀ h, F_dot [vec n (sub t a), vec n (sub x a)] h = .ok (.int (dt n (sub x a) (sub t a))) h := fun h => by rw [F_dotW hn (by omega) h2 h1 h, dt_comm]
  have d2 : ∀ h, F_dot [vec n (sub t a), vec n (sub t a)] h = .ok (.int (dt n (sub t a) (sub t a))) h := fun h => F_dotW hn (by omega) h2 h2 h
  have d3 : ∀ h, F_dot [vec n (sub x a), vec n (sub x a)] h = .ok (.int (dt n (sub x a) (sub x a))) h := fun h => F_dotW hn (by omega) h1 h1 h
  have d4 : ∀ h, F_dot [vec n (sub x t), vec n (sub x t)] h = .ok (.int (dt n (sub x t) (sub x t))) h := fun h => F_dotW hn (by omega) h3 h3 h
  have b2 := dt_w hn h2 h2
  have m1 : CMulE (dt n (sub x a) (sub x a)) (dt n (sub t a) (sub t a)) := mulX 1100 1100 (dt_w hn h1 h1) b2 (by decide)
  have m2 : CMulE (dt n (sub x a) (sub t a)) (dt n (sub x a) (sub t a)) := mulX 1100 1100 (dt_w hn h1 h2) (dt_w hn h1 h2) (by decide)
  have b : Nat.log2 (dt n (sub t a) (sub t a)).natAbs < 9000 := by
    have : sz (dt n (sub t a) (sub t a)) ≤ 1100 := b2
    unfold sz at this
    omega
  have qu : ∀ (y : Int) h, 0 < dt n (sub t a) (sub t a) → F_quotient_up [.int y, .int (dt n (sub t a) (sub t a))] h = .ok (.int (-(-y / dt n (sub t a) (sub t a)))) h := fun y h c => by
    have pi : ∀ z : Int, pure_ h (.int z) h = .ok (.int z) h := fun z => pure_clean h (clean_int z)
    simp [F_quotient_up, c, b, pi]
  unfold pc2 pc1
  by_cases c1 : dt n (sub x a) (sub t a) ≤ 0
  · simp [F_from_piece, e1, e2, d1, d2, d3, c1, pr]
  · by_cases c2 : dt n (sub t a) (sub t a) ≤ dt n (sub x a) (sub t a)
    · simp [F_from_piece, e1, e2, d1, d2, c1, c2, e3, d4, pr]
    · have c3 : 0 < dt n (sub t a) (sub t a) := by omega
      simp [F_from_piece, e1, e2, d1, d2, d3, c1, c2, m1, m2, c3, b, qu, pr]
theorem pc1_w (hn : n ≤ 10) {x a t : Nat → Int} (h1 : Sz 501 n (sub x a)) (h2 : Sz 501 n (sub t a)) (h3 : Sz 501 n (sub x t)) : 0 ≤ (pc1 n x a t).1 ∧ sz (pc1 n x a t).1 ≤ 2300 := by
  have W1 := dt_self n (sub x a)
  have W2 := dt_self n (sub t a)
  have W3 := dt_self n (sub x t)
  have q1 := dt_w hn h1 h1
  have q2 := dt_w hn h2 h2
  have q3 := dt_w hn h1 h2
  have q4 := dt_w hn h3 h3
  unfold pc1
  split
  · exact ⟨W1, by show sz (dt n (sub x a) (sub x a)) ≤ 2300; omega⟩
  · split
    · exact ⟨W3, by show sz (dt n (sub x t) (sub x t)) ≤ 2300; omega⟩
    · rename_i c1 c2
      have r1 := sz_mul (dt n (sub x a) (sub x a)) (dt n (sub t a) (sub t a))
      have r2 := sz_mul (dt n (sub x a) (sub t a)) (dt n (sub x a) (sub t a))
      have r3 := sz_sub (dt n (sub x a) (sub x a) * dt n (sub t a) (sub t a)) (dt n (sub x a) (sub t a) * dt n (sub x a) (sub t a))
      refine ⟨?_, by show sz (_ - _) ≤ 2300; omega⟩
      show 0 ≤ dt n (sub x a) (sub x a) * dt n (sub t a) (sub t a) - dt n (sub x a) (sub t a) * dt n (sub x a) (sub t a)
      have := cauchy n (sub x a) (sub t a)
      omega
end
end Lib
namespace Lib
open PySem PySem.Spec PyProof.Rows L2 Ev
/-! spans: their values -/
def sdA (p : Nat → Int) (b : List (Int × Int)) (i : Nat) : Int := p i * (sd b i).1
def sdB (p : Nat → Int) (b : List (Int × Int)) (i : Nat) : Int := p i * (sd b i).2
def sdLo (p : Nat → Int) (b : List (Int × Int)) (i : Nat) : Int := minL [sdA p b i, sdB p b i]
def sdHi (p : Nat → Int) (b : List (Int × Int)) (i : Nat) : Int := maxL [sdA p b i, sdB p b i]
section
variable {n : Nat} {p : Nat → Int} {b : List (Int × Int)}
theorem F_side_spanW (hn : n ≤ 10) (hb : b.length = n) (hp : WP n p) (hs : ∀ s ∈ b, WS s) (h : HP) : F__side_span [vec n p, boxD b] h = .ok (.tup [.int (sg n (sdLo p b)), .int (sg n (sdHi p b))]) h := by
  have pr : ∀ y z : Int, pure_ h (.tup [.int y, .int z]) h = .ok (.tup [.int y, .int z]) h := fun y z => pure_clean h (clean_tup (by simp [clean_int]))
  have bf := box_fun hb
  have c1 : C__side_span_1 false [some (vec n p), some (boxD b), none, none, none, none, none] h = _ :=
    mLc_ty (h1 := h) (List.range n) (fun i => .tup [.int (p i), sideD (sd b i)]) (fun i => .tup [.int (sdA p b i), .int (sdB p b i)]) (by simp [vec, boxD, bf, zip_vec]) (by simp; omega)
      (fun i hi h' => ⟨[some (vec n p), some (boxD b), none, some (.int (p i)), some (.int (sd b i).1), some (.int (sd b i).2), none], by simp [sideD], by
        have hi' := List.mem_range.mp hi
        obtain ⟨h2, h3⟩ := sd_w hs (show i < b.length by omega)
        have m1 : CMulE (p i) (sd b i).1 := mulX 500 500 (hp i hi') h2 (by decide)
        have m2 : CMulE (p i) (sd b i).2 := mulX 500 500 (hp i hi') h3 (by decide)
        simp [m1, m2, sdA, sdB]⟩) fun i _ => clean_tup (by simp [clean_int])
  obtain ⟨xs, ex⟩ : ∃ xs, xs = (List.range n).map fun i => D.tup [.int (sdA p b i), .int (sdB p b i)] := ⟨_, rfl⟩
  rw [← ex] at c1
  have c2 : C__side_span_2 false [some (vec n p), some (boxD b), some (.lst xs), none, none, none, none] h = _ :=
    mLc_ty (h1 := h) (List.range n) (fun i => D.tup [.int (sdA p b i), .int (sdB p b i)]) (fun i => .int (sdHi p b i)) (by simp [ex]) (by simp; omega)
      (fun i hi h' => ⟨[some (vec n p), some (boxD b), some (.lst xs), none, none, none, some (D.tup [.int (sdA p b i), .int (sdB p b i)])], by simp, by simp [sdHi]⟩) fun i _ => clean_int _
  have c3 : C__side_span_3 false [some (vec n p), some (boxD b), some (.lst xs), none, none, none, none] h = _ :=
    mLc_ty (h1 := h) (List.range n) (fun i => D.tup [.int (sdA p b i), .int (sdB p b i)]) (fun i => .int (sdLo p b i)) (by simp [ex]) (by simp; omega)
      (fun i hi h' => ⟨[some (vec n p), some (boxD b), some (.lst xs), none, none, none, some (D.tup [.int (sdA p b i), .int (sdB p b i)])], by simp, by simp [sdLo]⟩) fun i _ => clean_int _
  have k1 := ints_vec n (sdLo p b)
  have k2 := ints_vec n (sdHi p b)
  simp [F__side_span, c1, c2, c3, k1, k2, sg, pr]
def midF (b : List (Int × Int)) (i : Nat) : Int := midS (sd b i)
theorem mid_vec (hb : b.length = n) : (D.tup ((midOf b).map D.int)) = vec n (midF b) := by
  unfold vec
  congr 1
  apply List.ext_getElem
  · simp [midOf, hb]
  · intro i h1 h2
    have hi : i < b.length := by simpa [midOf] using h1
    simp [midOf, midF, midS, sd_get hi]
theorem mid_w (hb : b.length = n) (hs : ∀ s ∈ b, WS s) : Sz 501 n (midF b) := fun i hi => by
  obtain ⟨h2, h3⟩ := sd_w hs (show i < b.length by omega)
  unfold midF midS
  have := sz_div (i := (sd b i).1 + (sd b i).2) (j := 2) (by omega)
  have := sz_add (sd b i).1 (sd b i).2
  unfold W at *
  omega
theorem hf_w {s : Int × Int} (h : WS s) : sz (hf s) ≤ 503 := by
  obtain ⟨h2, h3⟩ := h
  unfold hf
  have := sz_div (i := s.2 - s.1 + 1) (j := 2) (by omega)
  have := sz_add (s.2 - s.1) 1
  have := sz_sub s.2 s.1
  have := lit1
  unfold W at *
  omega
theorem sq_w : ∀ {b : List (Int × Int)}, (∀ s ∈ b, WS s) → 0 ≤ sq b ∧ sz (sq b) ≤ 1007 + b.length
  | [], _ => by
    show (0 : Int) ≤ 0 ∧ sz 0 ≤ 1007
    rw [sz0]
    omega
  | s :: b, h => by
    have h1 := hq_nn s
    have h2 := hf_w (h s (List.mem_cons_self ..))
    have h3 := sq_w (b := b) fun x hx => h x (List.mem_cons_of_mem _ hx)
    have e : sq (s :: b) = hq s + sq b := by simp [sq]
    rw [e]
    have := sz_add (hq s) (sq b)
    have : sz (hq s) ≤ 1007 := by
      have := sz_mul (hf s) (hf s)
      unfold hq
      omega
    simp only [List.length_cons]
    omega
def rad (b : List (Int × Int)) : Int := ru (sq b)
theorem F_radiusW {c : Int × Int} (hb : b.length ≤ 100) (hs : ∀ s ∈ b, WS s) (h : HP) : F_radius [boxD (b ++ [c])] h = .ok (.int (rad b)) h := by
  have p : ∀ z : Int, pure_ h (.int z) h = .ok (.int z) h := fun z => pure_clean h (clean_int z)
  have ci := init_box b c
  have bd := sq_w hs
  have ft := F_root_up' bd.1 (by omega) h
  have lc : C_radius_1 false [some (boxD (b ++ [c])), none] h = _ :=
    mLc_ty (h1 := h) b sideD (fun s => .int (hq s)) (by simp only [boxD]; simp [ci, -List.map_append]) (by omega)
      (fun s hs' h' => by
        refine ⟨[some (boxD (b ++ [c])), some (sideD s)], by simp, ?_⟩
        have f := F_half s h'
        have cp : CPowW (hf s) 2 := powW (hf_w (hs s hs')) (by decide)
        have e : hf s ^ 2 = hq s := pow2 _
        have e2 : (s.2 - s.1 + 1) / 2 = hf s := rfl
        rw [e2] at f
        simp [f, cp, e]) fun s _ => clean_int _
  have k := intsD_map (b.map hq)
  simp only [List.map_map] at k
  have e : D.int ∘ hq = fun s => D.int (hq s) := rfl
  rw [e] at k
  have e3 : (b.map hq).sum = sq b := rfl
  generalize b.map (fun s => D.int (hq s)) = xs at lc k
  simp [F_radius, lc, k, e3, ft, p, rad]
def pieceS (n : Nat) (a t : Nat → Int) (b : List (Int × Int)) : Int × Int := (rd (pc2 n (midF b) a t).1 - rad b, ru (pc2 n (midF b) a t).2 + rad b)
theorem Sz.mono {j k : Nat} {p : Nat → Int} (h : Sz j n p) (l : j ≤ k) : Sz k n p := fun i hi => Nat.le_trans (h i hi) l
/-- a box's numbers of at most 480 bits, points as well -/
def V (x : Int) : Prop := sz x ≤ 480
def VS (s : Int × Int) : Prop := V s.1 ∧ V s.2
def VP (n : Nat) (p : Nat → Int) : Prop := ∀ i < n, V (p i)
theorem VS.w {s : Int × Int} (h : VS s) : WS s := ⟨Nat.le_trans h.1 (by decide), Nat.le_trans h.2 (by decide)⟩
theorem VP.w (h : VP n p) : WP n p := fun i hi => Nat.le_trans (h i hi) (by decide)
theorem mid_v (hb : b.length = n) (hs : ∀ s ∈ b, VS s) : WP n (midF b) := fun i hi => by
  have hi' : i < b.length := by omega
  obtain ⟨h2, h3⟩ : VS (sd b i) := by rw [sd_get hi']; exact hs _ (List.getElem_mem hi')
  unfold midF midS W
  have := sz_div (i := (sd b i).1 + (sd b i).2) (j := 2) (by omega)
  have := sz_add (sd b i).1 (sd b i).2
  unfold V at *
  omega
theorem pc2_w (hn : n ≤ 10) {x a t : Nat → Int} (h1 : Sz 501 n (sub x a)) (h2 : Sz 501 n (sub t a)) (h3 : Sz 501 n (sub x t)) : 0 ≤ (pc2 n x a t).1 ∧ sz (pc2 n x a t).1 ≤ 2300 ∧ 0 ≤ (pc2 n x a t).2 ∧ sz (pc2 n x a t).2 ≤ 2300 := by
  obtain ⟨a1, a2⟩ := pc1_w hn h1 h2 h3
  have W := pc1_pos n x a t
  have d := div_facts (pc1 n x a t).1 (pc1 n x a t).2 W
  have s1 := sz_div (i := (pc1 n x a t).1) W
  have s2 := sz_div (i := -(pc1 n x a t).1) W
  have s3 := sz_neg (pc1 n x a t).1
  have s4 := sz_neg (-(pc1 n x a t).1 / (pc1 n x a t).2)
  unfold pc2
  simp only
  refine ⟨Int.ediv_nonneg a1 (by omega), by omega, ?_, by omega⟩
  have : -(pc1 n x a t).1 / (pc1 n x a t).2 ≤ 0 := by
    have := Int.ediv_le_ediv W (show -(pc1 n x a t).1 ≤ 0 by omega)
    rw [Int.zero_ediv] at this
    exact this
  omega
theorem F_piece_spanW (hn : n ≤ 10) {a t : Nat → Int} {c : Int × Int} (hb : b.length = n) (ha : VP n a) (ht : VP n t) (hs : ∀ s ∈ b, VS s) (h : HP) :
    F__piece_span [vec n a, vec n t, boxD (b ++ [c])] h = .ok (.tup [.int (pieceS n a t b).1, .int (pieceS n a t b).2]) h := by
  have pr : ∀ y z : Int, pure_ h (.tup [.int y, .int z]) h = .ok (.tup [.int y, .int z]) h := fun y z => pure_clean h (clean_tup (by simp [clean_int]))
  have ci := init_box b c
  have hw : ∀ s ∈ b, WS s := fun s h => (hs s h).w
  have f1 : ∀ h, F_middle [D.tup (b.map sideD)] h = .ok (vec n (midF b)) h := fun h => by have := F_mid b (by omega) h; rw [mid_vec hb] at this; exact this
  have mw := mid_v hb hs
  have b1 := sub_w mw ha.w
  have b2 := sub_w ht.w ha.w
  have b3 := sub_w mw ht.w
  have f2 := fun h => F_pieceW hn b1 b2 b3 h
  have f3 : ∀ h, F_radius [D.tup ((b ++ [c]).map sideD)] h = .ok (.int (rad b)) h := fun h => F_radiusW (by omega) hw h
  obtain ⟨p1, p2, p3, p4⟩ := pc2_w hn b1 b2 b3
  have f4 := fun h => F_root_down' p1 (by omega) h
  have f5 := fun h => F_root_up' p3 (by omega) h
  unfold pieceS
  unfold boxD
  generalize b.map sideD = ys at *
  generalize (b ++ [c]).map sideD = xs at *
  simp [F__piece_span, ci, f1, f2, f3, f4, f5, pr]
def minQ (n : Nat) (b : List (Int × Int)) (bs : List (List (Int × Int))) : Int := minL (bs.map fun o => betQ n b o)
def grQ (n : Nat) (b : List (Int × Int)) (bs : List (List (Int × Int))) : Int := minL (bs.map fun o => grtQ n b o)
/-- boxes of a kind -/
def BsOk (n : Nat) (bs : List (List (Int × Int))) : Prop := 0 < bs.length ∧ bs.length ≤ 1000 ∧ ∀ b ∈ bs, b.length = n ∧ ∀ s ∈ b, VS s
theorem min_w {α : Type} {f : α → Int} {k : Nat} {xs : List α} (h0 : 0 < xs.length) (h : ∀ x ∈ xs, 0 ≤ f x ∧ sz (f x) ≤ k) : 0 ≤ minL (xs.map f) ∧ sz (minL (xs.map f)) ≤ k := by
  obtain ⟨m, _⟩ := minL_mem (ns := xs.map f) (by intro z; rw [List.map_eq_nil_iff] at z; subst z; simp at h0)
  obtain ⟨x, hx, e⟩ := List.mem_map.mp m
  rw [← e]
  exact h x hx
theorem F_boxes_spanW (hn : n ≤ 10) {bs : List (List (Int × Int))} (hb : b.length = n) (hbs : BsOk n bs) (hs : ∀ s ∈ b, WS s) (h : HP) :
    F__boxes_span [boxesD bs, boxD b] h = .ok (.tup [.int (rd (minQ n b bs)), .int (ru (grQ n b bs))]) h := by
  have pr : ∀ y z : Int, pure_ h (.tup [.int y, .int z]) h = .ok (.tup [.int y, .int z]) h := fun y z => pure_clean h (clean_tup (by simp [clean_int]))
  obtain ⟨l0, l1, ho⟩ := hbs
  have ow : ∀ o ∈ bs, o.length = n ∧ ∀ s ∈ o, WS s := fun o h => ⟨(ho o h).1, fun s hs => ((ho o h).2 s hs).w⟩
  have c1 : ∀ z2 z3, C__boxes_span_1 false [some (boxesD bs), some (boxD b), z2, z3, none] h = _ := fun z2 z3 =>
    mLc_ty (h1 := h) bs boxD (fun o => .int (betQ n b o)) (by simp [boxesD]) (by omega)
      (fun o hO h' => ⟨[some (boxesD bs), some (boxD b), z2, z3, some (boxD o)], by simp, by
        have f := F_betweenW hn hb (ow o hO).1 hs (ow o hO).2 h'
        simp [f]⟩) fun i _ => clean_int _
  have c2 : ∀ z2 z3, C__boxes_span_2 false [some (boxesD bs), some (boxD b), z2, z3, none] h = _ := fun z2 z3 =>
    mLc_ty (h1 := h) bs boxD (fun o => .int (grtQ n b o)) (by simp [boxesD]) (by omega)
      (fun o hO h' => ⟨[some (boxesD bs), some (boxD b), z2, z3, some (boxD o)], by simp, by
        have f := F_greatestW hn hb (ow o hO).1 hs (ow o hO).2 h'
        simp [f]⟩) fun i _ => clean_int _
  have k1 := intsD_map (bs.map fun o => betQ n b o)
  have k2 := intsD_map (bs.map fun o => grtQ n b o)
  simp only [List.map_map] at k1 k2
  have e1 : (D.int ∘ fun o => betQ n b o) = fun o => D.int (betQ n b o) := rfl
  have e2 : (D.int ∘ fun o => grtQ n b o) = fun o => D.int (grtQ n b o) := rfl
  rw [e1] at k1
  rw [e2] at k2
  obtain ⟨q1, q2⟩ := min_w l0 fun o hO => betQ_w hn hb (ow o hO).1 hs (ow o hO).2
  obtain ⟨q3, q4⟩ := min_w l0 fun o hO => grtQ_w hn hb (ow o hO).1 hs (ow o hO).2
  have f3 := fun h => F_root_down' q1 (by omega) h
  have f4 := fun h => F_root_up' q3 (by omega) h
  have t1 : 0 < (bs.map fun o => betQ n b o).length := by simpa using l0
  have t2 : 0 < (bs.map fun o => grtQ n b o).length := by simpa using l0
  unfold minQ grQ
  generalize (bs.map fun o => D.int (betQ n b o)) = u1 at *
  generalize (bs.map fun o => D.int (grtQ n b o)) = u2 at *
  generalize (bs.map fun o => betQ n b o) = u3 at *
  generalize (bs.map fun o => grtQ n b o) = u4 at *
  simp [F__boxes_span, c1, c2, k1, k2, t1, t2, f3, f4, pr]
/-- spans of kinds -/
def spanK (n : Nat) (K : Kd) (b : List (Int × Int)) (c : Int × Int) : Int × Int := match K with
  | .range p => (rd (nearQ n p b), ru (farQ n p b))
  | .clocked p => (rd (nearQ n p b) + c.1, ru (farQ n p b) + c.2)
  | .differ p q => (rd (nearQ n p b) - ru (farQ n q b), ru (farQ n p b) - rd (nearQ n q b))
  | .piece a t => pieceS n a t b
  | .side p => (sg n (sdLo p b), sg n (sdHi p b))
  | .boxes bs => (rd (minQ n b bs), ru (grQ n b bs))
/-- kinds with numbers of a size -/
def KdV (n : Nat) : Kd → Prop
  | .range p => VP n p
  | .clocked p => VP n p
  | .differ p q => VP n p ∧ VP n q
  | .piece p q => VP n p ∧ VP n q
  | .side p => VP n p
  | .boxes bs => BsOk n bs
theorem F_spanW (hn : n ≤ 10) {K : Kd} (hK : KdV n K) {c : Int × Int} (hb : b.length = n) (hs : ∀ s ∈ b, VS s) (h : HP) :
    F_span [kdD n K, boxD (b ++ [c])] h = .ok (.tup [.int (spanK n K b c).1, .int (spanK n K b c).2]) h := by
  have pr : ∀ y z : Int, pure_ h (.tup [.int y, .int z]) h = .ok (.tup [.int y, .int z]) h := fun y z => pure_clean h (clean_tup (by simp [clean_int]))
  have hw : ∀ s ∈ b, WS s := fun s h => (hs s h).w
  have ci := init_box b c
  have la := last_box b c
  cases K with
  | range p =>
    have f : ∀ h, F_distances [vec n p, D.tup (b.map sideD)] h = _ := fun h => F_distancesW hn hb hK.w hw h
    unfold boxD
    generalize b.map sideD = ys at *
    generalize (b ++ [c]).map sideD = xs at *
    simp [F_span, kdD, ci, la, sideD, f, spanK, pr]
  | clocked p =>
    have f : ∀ h, F_distances [vec n p, D.tup (b.map sideD)] h = _ := fun h => F_distancesW hn hb hK.w hw h
    unfold boxD
    generalize b.map sideD = ys at *
    generalize (b ++ [c]).map sideD = xs at *
    simp [F_span, kdD, ci, la, sideD, f, spanK, pr]
  | differ p q =>
    have f : ∀ h, F_distances [vec n p, D.tup (b.map sideD)] h = _ := fun h => F_distancesW hn hb hK.1.w hw h
    have f2 : ∀ h, F_distances [vec n q, D.tup (b.map sideD)] h = _ := fun h => F_distancesW hn hb hK.2.w hw h
    unfold boxD
    generalize b.map sideD = ys at *
    generalize (b ++ [c]).map sideD = xs at *
    simp [F_span, kdD, ci, la, sideD, f, f2, spanK, pr]
  | piece p q =>
    have f : ∀ h, F__piece_span [vec n p, vec n q, D.tup ((b ++ [c]).map sideD)] h = _ := fun h => F_piece_spanW hn hb hK.1 hK.2 hs h
    unfold boxD
    generalize b.map sideD = ys at *
    generalize (b ++ [c]).map sideD = xs at *
    simp [F_span, kdD, ci, la, sideD, f, spanK, pr]
  | side p =>
    have f : ∀ h, F__side_span [vec n p, D.tup (b.map sideD)] h = _ := fun h => F_side_spanW hn hb hK.w hw h
    unfold boxD
    generalize b.map sideD = ys at *
    generalize (b ++ [c]).map sideD = xs at *
    simp [F_span, kdD, ci, la, sideD, f, spanK, pr]
  | boxes bs =>
    have f : ∀ h, F__boxes_span [boxesD bs, D.tup (b.map sideD)] h = _ := fun h => F_boxes_spanW hn hb hK hw h
    unfold boxD
    generalize b.map sideD = ys at *
    generalize (b ++ [c]).map sideD = xs at *
    simp [F_span, kdD, ci, la, sideD, f, spanK, pr]
end
end Lib
namespace Lib
open PySem PySem.Spec PyProof.Rows L2 Ev
/-! roots grow -/
theorem rd_lt {x y : Int} (hx : 0 ≤ x) (hy : 0 ≤ y) (h : x * x < y * y) : x < y := by
  apply Decidable.byContradiction
  intro c
  have := sq_le_sq hy (show y ≤ x by omega)
  omega
theorem rd_max {n r : Int} (hn : 0 ≤ n) (h : r * r ≤ n) : r ≤ rd n := by
  obtain ⟨h0, h1, h2⟩ := rd_spec hn
  by_cases c : 0 ≤ r
  · have := rd_lt c (show 0 ≤ rd n + 1 by omega) (by omega)
    omega
  · omega
theorem rd_mono {a b : Int} (ha : 0 ≤ a) (h : a ≤ b) : rd a ≤ rd b := rd_max (by omega) (by have := (rd_spec ha).2.1; omega)
theorem ru_min {n r : Int} (hn : 0 ≤ n) (hr : 0 ≤ r) (h : n ≤ r * r) : ru n ≤ r := by
  obtain ⟨h0, h1, h2⟩ := ru_spec hn
  by_cases c : 0 < ru n
  · have := rd_lt (show 0 ≤ ru n - 1 by omega) hr (by have := h2 c; omega)
    omega
  · omega
theorem ru_mono {a b : Int} (ha : 0 ≤ a) (h : a ≤ b) : ru a ≤ ru b := ru_min ha (ru_spec (show 0 ≤ b by omega)).1 (by have := (ru_spec (show 0 ≤ b by omega)).2.1; omega)
theorem rd_le_ru {n : Int} (hn : 0 ≤ n) : rd n ≤ ru n := by unfold ru; split <;> omega
/-! triangles -/
def adv (u v : Nat → Int) : Nat → Int := fun i => u i + v i
theorem dt_add (n : Nat) (u v : Nat → Int) : dt n (adv u v) (adv u v) = dt n u u + 2 * dt n u v + dt n v v := by
  have := dt_lin n u v 1 1
  have e : (fun i => 1 * u i + 1 * v i) = adv u v := by funext i; simp [adv]
  rw [e] at this
  rw [← this]
  omega
theorem dt_le {n : Nat} {u v : Nat → Int} {α β : Int} (ha : 0 ≤ α) (hb : 0 ≤ β) (h1 : dt n u u ≤ α * α) (h2 : dt n v v ≤ β * β) : dt n u v ≤ α * β := by
  have c := cauchy n u v
  have m : dt n u u * dt n v v ≤ α * α * (β * β) := Int.mul_le_mul h1 h2 (dt_self n v) (Int.mul_nonneg ha ha)
  have e : α * α * (β * β) = α * β * (α * β) := by grind
  apply Decidable.byContradiction
  intro z
  have q := Int.mul_nonneg ha hb
  have := sq_le_sq (x := α * β + 1) (y := dt n u v) (by omega) (by omega)
  have e2 : (α * β + 1) * (α * β + 1) = α * β * (α * β) + 2 * (α * β) + 1 := by grind
  omega
theorem tri {n : Nat} {u v : Nat → Int} {α β : Int} (ha : 0 ≤ α) (hb : 0 ≤ β) (h1 : dt n u u ≤ α * α) (h2 : dt n v v ≤ β * β) : dt n (adv u v) (adv u v) ≤ (α + β) * (α + β) := by
  have := dt_le ha hb h1 h2
  rw [dt_add]
  have e : (α + β) * (α + β) = α * α + 2 * (α * β) + β * β := by grind
  omega
theorem tri_lt {n : Nat} {u v : Nat → Int} {α β : Int} (ha : 0 ≤ α) (hb : 0 ≤ β) (h1 : dt n u u < α * α) (h2 : dt n v v ≤ β * β) : dt n (adv u v) (adv u v) < (α + β) * (α + β) := by
  have := dt_le ha hb (Int.le_of_lt h1) h2
  rw [dt_add]
  have e : (α + β) * (α + β) = α * α + 2 * (α * β) + β * β := by grind
  omega
theorem dt_scale (n : Nat) (u : Nat → Int) (P : Int) : dt n (fun i => P * u i) (fun i => P * u i) = P * P * dt n u u := by
  have := dt_lin n u u P 0
  have e : (fun i => P * u i + 0 * u i) = fun i => P * u i := by funext i; simp
  rw [e] at this
  rw [← this]
  simp
theorem dt_congr {n : Nat} {u v u' v' : Nat → Int} (h1 : ∀ i < n, u i = u' i) (h2 : ∀ i < n, v i = v' i) : dt n u v = dt n u' v' := sg_congr fun i hi => by rw [h1 i hi, h2 i hi]
/-! a place of the piece -/
/-- the way from a place of the piece, times P -/
def pv (x a t : Nat → Int) (P q : Int) : Nat → Int := fun i => P * sub x a i + -q * sub t a i
theorem pv_dt (n : Nat) (x a t : Nat → Int) (P q : Int) : dt n (pv x a t P q) (pv x a t P q) = q * q * dt n (sub t a) (sub t a) - 2 * q * P * dt n (sub x a) (sub t a) + P * P * dt n (sub x a) (sub x a) := by
  have := dt_lin n (sub x a) (sub t a) P (-q)
  unfold pv
  rw [← this]
  grind
theorem near0 {n : Nat} {x a t : Nat → Int} {P q : Int} (h0 : 0 ≤ q) (h1 : q ≤ P) : (pc1 n x a t).1 * (P * P) ≤ dt n (pv x a t P q) (pv x a t P q) * (pc1 n x a t).2 := by
  rw [pv_dt]
  by_cases c1 : (pc1 n x a t).2 = 1
  · have := piece_near (n := n) (x := x) (a := a) (t := t) (A := (pc1 n x a t).1) (P := P) (q := q) (by rw [c1]; omega) h0 h1
    rw [c1]
    rw [← Int.mul_assoc]
    omega
  · unfold pc1 at c1 ⊢
    split at c1
    · exact absurd rfl c1
    · rename_i a1
      split at c1
      · exact absurd rfl c1
      · rename_i a2
        rw [if_neg a1, if_neg a2]
        simp only
        have k2 := sq_nn (q * dt n (sub t a) (sub t a) - P * dt n (sub x a) (sub t a))
        have e : (q * q * dt n (sub t a) (sub t a) - 2 * q * P * dt n (sub x a) (sub t a) + P * P * dt n (sub x a) (sub x a)) * dt n (sub t a) (sub t a) - (dt n (sub x a) (sub x a) * dt n (sub t a) (sub t a) - dt n (sub x a) (sub t a) * dt n (sub x a) (sub t a)) * (P * P) = (q * dt n (sub t a) (sub t a) - P * dt n (sub x a) (sub t a)) * (q * dt n (sub t a) (sub t a) - P * dt n (sub x a) (sub t a)) := by grind
        omega
theorem near_ex (n : Nat) (x a t : Nat → Int) : ∃ P q : Int, 0 < P ∧ 0 ≤ q ∧ q ≤ P ∧ dt n (pv x a t P q) (pv x a t P q) * (pc1 n x a t).2 = (pc1 n x a t).1 * (P * P) := by
  have hd := dt_diff n x a t
  have hT := dt_self n (sub t a)
  unfold pc1
  split
  · refine ⟨1, 0, by decide, by decide, by decide, ?_⟩
    rw [pv_dt]
    simp
  · rename_i a1
    split
    · refine ⟨1, 1, by decide, by decide, by decide, ?_⟩
      rw [pv_dt]
      simp only [Int.mul_one, Int.one_mul]
      omega
    · rename_i a2
      refine ⟨dt n (sub t a) (sub t a), dt n (sub x a) (sub t a), by omega, by omega, by omega, ?_⟩
      rw [pv_dt]
      simp only
      generalize dt n (sub t a) (sub t a) = T at *
      generalize dt n (sub x a) (sub t a) = L at *
      generalize dt n (sub x a) (sub x a) = H at *
      grind
/-- the roots of the distance from a piece change by at most the distance of the points -/
theorem piece_lip {n : Nat} {m x a t : Nat → Int} {R : Int} (hR : 0 ≤ R) (h : dt n (sub m x) (sub m x) ≤ R * R) :
    rd (pc2 n m a t).1 ≤ rd (pc2 n x a t).1 + R ∧ ru (pc2 n m a t).2 ≤ ru (pc2 n x a t).2 + R := by
  have pvs : ∀ P q : Int, pv m a t P q = adv (pv x a t P q) (fun i => P * sub m x i) := fun P q => by
    funext i
    unfold pv adv sub
    grind
  have s0 : ∀ y, 0 ≤ (pc1 n y a t).1 := fun y => by
    have W1 := dt_self n (sub y a)
    have W3 := dt_self n (sub y t)
    unfold pc1
    split
    · exact W1
    · split
      · exact W3
      · have := cauchy n (sub y a) (sub t a)
        show 0 ≤ _ - _
        omega
  have Wm := pc1_pos n m a t
  have Wx := pc1_pos n x a t
  have dm := div_facts (pc1 n m a t).1 (pc1 n m a t).2 Wm
  have dx := div_facts (pc1 n x a t).1 (pc1 n x a t).2 Wx
  have nn : ∀ y, 0 ≤ (pc2 n y a t).1 ∧ 0 ≤ (pc2 n y a t).2 := fun y => by
    have W := pc1_pos n y a t
    have := s0 y
    unfold pc2
    simp only
    refine ⟨Int.ediv_nonneg this (by omega), ?_⟩
    have := Int.ediv_le_ediv W (show -(pc1 n y a t).1 ≤ 0 by omega)
    rw [Int.zero_ediv] at this
    omega
  constructor
  · -- from below: a nearest place for x
    obtain ⟨A0, A1, A2⟩ := rd_spec (nn m).1
    obtain ⟨B0, B1, B2⟩ := rd_spec (nn x).1
    apply Decidable.byContradiction
    intro z
    obtain ⟨P, q, hP, h0, h1, e⟩ := near_ex n x a t
    have k1 := near0 (n := n) (x := m) (a := a) (t := t) h0 h1
    have PP : 0 < P * P := Int.mul_pos hP hP
    -- S_x < (B+1)^2 W_x
    have sx : (pc1 n x a t).1 < (rd (pc2 n x a t).1 + 1) * (rd (pc2 n x a t).1 + 1) * (pc1 n x a t).2 := by
      have : (pc1 n x a t).1 / (pc1 n x a t).2 + 1 ≤ (rd (pc2 n x a t).1 + 1) * (rd (pc2 n x a t).1 + 1) := B2
      have := Int.mul_le_mul_of_nonneg_right this (show 0 ≤ (pc1 n x a t).2 by omega)
      omega
    have sm : rd (pc2 n m a t).1 * rd (pc2 n m a t).1 * (pc1 n m a t).2 ≤ (pc1 n m a t).1 := by
      have : rd (pc2 n m a t).1 * rd (pc2 n m a t).1 ≤ (pc1 n m a t).1 / (pc1 n m a t).2 := A1
      have := Int.mul_le_mul_of_nonneg_right this (show 0 ≤ (pc1 n m a t).2 by omega)
      omega
    generalize rd (pc2 n m a t).1 = A at *
    generalize rd (pc2 n x a t).1 = B at *
    have ux : dt n (pv x a t P q) (pv x a t P q) < (P * (B + 1)) * (P * (B + 1)) := by
      have := Int.mul_lt_mul_of_pos_right sx PP
      rw [← e] at this
      have e2 : (B + 1) * (B + 1) * (pc1 n x a t).2 * (P * P) = (P * (B + 1)) * (P * (B + 1)) * (pc1 n x a t).2 := by grind
      rw [e2] at this
      exact Int.lt_of_mul_lt_mul_right this (by omega)
    have vx : dt n (fun i => P * sub m x i) (fun i => P * sub m x i) ≤ (P * R) * (P * R) := by
      rw [dt_scale]
      have := Int.mul_le_mul_of_nonneg_left h (show 0 ≤ P * P by omega)
      have e2 : P * P * (R * R) = P * R * (P * R) := by grind
      omega
    have tr := tri_lt (Int.mul_nonneg (show 0 ≤ P by omega) (show 0 ≤ B + 1 by omega)) (Int.mul_nonneg (show 0 ≤ P by omega) hR) ux vx
    rw [← pvs] at tr
    have um : A * A * (P * P) ≤ dt n (pv m a t P q) (pv m a t P q) := by
      have := Int.mul_le_mul_of_nonneg_right sm (show 0 ≤ P * P by omega)
      have e2 : A * A * (pc1 n m a t).2 * (P * P) = A * A * (P * P) * (pc1 n m a t).2 := by grind
      rw [e2] at this
      exact Int.le_of_mul_le_mul_right (Int.le_trans this k1) Wm
    have e3 : (P * (B + 1) + P * R) * (P * (B + 1) + P * R) = (B + 1 + R) * (B + 1 + R) * (P * P) := by grind
    rw [e3] at tr
    have := sq_le_sq (x := B + 1 + R) (y := A) (by omega) (by omega)
    have := Int.mul_le_mul_of_nonneg_right this (show 0 ≤ P * P by omega)
    omega
  · obtain ⟨C0, C1, C2⟩ := ru_spec (nn x).2
    obtain ⟨E0, E1, E2⟩ := ru_spec (nn m).2
    apply Decidable.byContradiction
    intro z
    obtain ⟨P, q, hP, h0, h1, e⟩ := near_ex n x a t
    have k1 := near0 (n := n) (x := m) (a := a) (t := t) h0 h1
    have PP : 0 < P * P := Int.mul_pos hP hP
    have E2 := E2 (by omega)
    have sx : (pc1 n x a t).1 ≤ ru (pc2 n x a t).2 * ru (pc2 n x a t).2 * (pc1 n x a t).2 := by
      have : -(-(pc1 n x a t).1 / (pc1 n x a t).2) ≤ ru (pc2 n x a t).2 * ru (pc2 n x a t).2 := C1
      have := Int.mul_le_mul_of_nonneg_right this (show 0 ≤ (pc1 n x a t).2 by omega)
      omega
    have sm : (ru (pc2 n m a t).2 - 1) * (ru (pc2 n m a t).2 - 1) * (pc1 n m a t).2 < (pc1 n m a t).1 := by
      have : (ru (pc2 n m a t).2 - 1) * (ru (pc2 n m a t).2 - 1) ≤ -(-(pc1 n m a t).1 / (pc1 n m a t).2) - 1 := by
        have : (ru (pc2 n m a t).2 - 1) * (ru (pc2 n m a t).2 - 1) < -(-(pc1 n m a t).1 / (pc1 n m a t).2) := E2
        omega
      have := Int.mul_le_mul_of_nonneg_right this (show 0 ≤ (pc1 n m a t).2 by omega)
      omega
    generalize ru (pc2 n m a t).2 = E at *
    generalize ru (pc2 n x a t).2 = C at *
    have ux : dt n (pv x a t P q) (pv x a t P q) ≤ (P * C) * (P * C) := by
      have := Int.mul_le_mul_of_nonneg_right sx (show 0 ≤ P * P by omega)
      rw [← e] at this
      have e2 : C * C * (pc1 n x a t).2 * (P * P) = (P * C) * (P * C) * (pc1 n x a t).2 := by grind
      rw [e2] at this
      exact Int.le_of_mul_le_mul_right this Wx
    have vx : dt n (fun i => P * sub m x i) (fun i => P * sub m x i) ≤ (P * R) * (P * R) := by
      rw [dt_scale]
      have := Int.mul_le_mul_of_nonneg_left h (show 0 ≤ P * P by omega)
      have e2 : P * P * (R * R) = P * R * (P * R) := by grind
      omega
    have tr := tri (Int.mul_nonneg (show 0 ≤ P by omega) C0) (Int.mul_nonneg (show 0 ≤ P by omega) hR) ux vx
    rw [← pvs] at tr
    have um : (E - 1) * (E - 1) * (P * P) < dt n (pv m a t P q) (pv m a t P q) := by
      have := Int.mul_lt_mul_of_pos_right sm PP
      have e2 : (E - 1) * (E - 1) * (pc1 n m a t).2 * (P * P) = (E - 1) * (E - 1) * (P * P) * (pc1 n m a t).2 := by grind
      rw [e2] at this
      exact Int.lt_of_mul_lt_mul_right (Int.lt_of_lt_of_le this k1) (by omega)
    have e3 : (P * C + P * R) * (P * C + P * R) = (C + R) * (C + R) * (P * P) := by grind
    rw [e3] at tr
    have := sq_le_sq (x := C + R) (y := E - 1) (by omega) (by omega)
    have := Int.mul_le_mul_of_nonneg_right this (show 0 ≤ P * P by omega)
    omega
end Lib
namespace Lib
open PySem PySem.Spec PyProof.Rows L2 Ev
/-! loops, turn by turn -/
section
variable {asg : TF} {body : SM} {d : D} {ds : List D} {env e e' : EN} {h h' : HP}
theorem for_nil : forE asg body [] [] env h = .nx env h := by
  unfold forE
  rw [if_pos (by simp)]
theorem for_nx (ha : asg d env h = some e) (hb : body e h = .nx e' h') : forE asg body [] (d :: ds) env h = forE asg body [] ds e' h' := by
  conv => lhs; unfold forE
  rw [if_pos (by simp), ha]
  simp only [hb]
theorem for_ct (ha : asg d env h = some e) (hb : body e h = .ct e' h') : forE asg body [] (d :: ds) env h = forE asg body [] ds e' h' := by
  conv => lhs; unfold forE
  rw [if_pos (by simp), ha]
  simp only [hb]
theorem for_rt {r : D} (ha : asg d env h = some e) (hb : body e h = .rt r h') : forE asg body [] (d :: ds) env h = .rt r h' := by
  conv => lhs; unfold forE
  rw [if_pos (by simp), ha]
  simp only [hb]
theorem for_bk (ha : asg d env h = some e) (hb : body e h = .bk e' h') : forE asg body [] (d :: ds) env h = .nx e' h' := by
  conv => lhs; unfold forE
  rw [if_pos (by simp), ha]
  simp only [hb]
/-- a loop that returns r at the first item that fails -/
theorem for_all {α : Type} {r : D} (f : α → D) (P : α → Bool) (I : EN → HP → Prop) : ∀ (xs : List α), (∀ x ∈ xs, ∀ env h, I env h → ∃ e, asg (f x) env h = some e ∧
      ((P x = true ∧ ∃ env' h', (body e h = .nx env' h' ∨ body e h = .ct env' h') ∧ I env' h') ∨ (P x = false ∧ ∃ env' h', body e h = .rt r h' ∧ I env' h'))) → ∀ (env : EN) (h : HP), I env h →
    (xs.all P = true ∧ ∃ env' h', forE asg body [] (xs.map f) env h = .nx env' h' ∧ I env' h') ∨ (xs.all P = false ∧ ∃ env' h', forE asg body [] (xs.map f) env h = .rt r h' ∧ I env' h')
  | [], _, env, h, i => .inl ⟨rfl, env, h, for_nil, i⟩
  | x :: xs, H, env, h, i => by
    obtain ⟨e, e1, k⟩ := H x List.mem_cons_self env h i
    rw [List.map_cons, List.all_cons]
    rcases k with ⟨p, env', h', b | b, i'⟩ | ⟨p, env', h', b, i'⟩
    · rw [p, for_nx e1 b, Bool.true_and]
      exact for_all f P I xs (fun y hy => H y (List.mem_cons_of_mem _ hy)) env' h' i'
    · rw [p, for_ct e1 b, Bool.true_and]
      exact for_all f P I xs (fun y hy => H y (List.mem_cons_of_mem _ hy)) env' h' i'
    · rw [p, for_rt e1 b, Bool.false_and]
      exact .inr ⟨rfl, env', h', rfl, i'⟩
end
/-! spans of parts -/
def InS (s o : Int × Int) : Prop := o.1 ≤ s.1 ∧ s.1 ≤ s.2 ∧ s.2 ≤ o.2
structure InB (n : Nat) (b o : List (Int × Int)) : Prop where
  lb : b.length = n
  lo : o.length = n
  at_ : ∀ i < n, InS (sd b i) (sd o i)
theorem sg_mono {f g : Nat → Int} : ∀ {n : Nat}, (∀ i < n, f i ≤ g i) → sg n f ≤ sg n g
  | 0, _ => by simp [sg_zero]
  | n + 1, h => by
    have h1 := sg_mono (n := n) fun i hi => h i (by omega)
    have h2 := h n (by omega)
    rw [sg_succ, sg_succ]
    omega
theorem sq_abs {x y : Int} (h1 : -y ≤ x) (h2 : x ≤ y) : x * x ≤ y * y := by
  by_cases c : 0 ≤ x
  · exact sq_le_sq c h2
  · have := sq_le_sq (x := -x) (y := y) (by omega) (by omega)
    rw [Int.neg_mul_neg] at this
    exact this
theorem min_mono {α : Type} {f g : α → Int} {xs : List α} (h0 : 0 < xs.length) (h : ∀ x ∈ xs, f x ≤ g x) : minL (xs.map f) ≤ minL (xs.map g) := by
  have ne : ∀ f : α → Int, xs.map f ≠ [] := fun f z => by rw [List.map_eq_nil_iff] at z; subst z; simp at h0
  obtain ⟨x, hx, e⟩ := List.mem_map.mp (minL_mem (ne g)).1
  rw [← e]
  exact Int.le_trans ((minL_mem (ne f)).2 _ (List.mem_map.mpr ⟨x, hx, rfl⟩)) (h x hx)
theorem min_le {α : Type} {f : α → Int} {xs : List α} {x : α} (h : x ∈ xs) : minL (xs.map f) ≤ f x :=
  (minL_mem (ns := xs.map f) (fun z => by rw [List.map_eq_nil_iff] at z; subst z; cases h)).2 _ (List.mem_map.mpr ⟨x, h, rfl⟩)
theorem min_ex {α : Type} {f : α → Int} {xs : List α} (h0 : 0 < xs.length) : ∃ x ∈ xs, minL (xs.map f) = f x := by
  obtain ⟨x, hx, e⟩ := List.mem_map.mp (minL_mem (ns := xs.map f) (fun z => by rw [List.map_eq_nil_iff] at z; subst z; simp at h0)).1
  exact ⟨x, hx, e.symm⟩
theorem min2 (x y : Int) : minL [x, y] ≤ x ∧ minL [x, y] ≤ y ∧ (minL [x, y] = x ∨ minL [x, y] = y) := by
  have := minL_mem (ns := [x, y]) (by simp)
  simpa [and_assoc, and_comm, and_left_comm] using this
theorem max2 (x y : Int) : x ≤ maxL [x, y] ∧ y ≤ maxL [x, y] ∧ (maxL [x, y] = x ∨ maxL [x, y] = y) := by
  have := maxL_mem (ns := [x, y]) (by simp)
  simpa [and_assoc, and_comm, and_left_comm] using this
theorem sdLo_le {p : Nat → Int} {b : List (Int × Int)} {i : Nat} {x : Int} (h1 : (sd b i).1 ≤ x) (h2 : x ≤ (sd b i).2) : sdLo p b i ≤ p i * x ∧ p i * x ≤ sdHi p b i := by
  obtain ⟨a1, a2, _⟩ := min2 (sdA p b i) (sdB p b i)
  obtain ⟨b1, b2, _⟩ := max2 (sdA p b i) (sdB p b i)
  unfold sdLo sdHi
  unfold sdA sdB at *
  by_cases c : 0 ≤ p i
  · have k1 := Int.mul_le_mul_of_nonneg_left h1 c
    have k2 := Int.mul_le_mul_of_nonneg_left h2 c
    omega
  · have k1 := Int.mul_le_mul_of_nonneg_left h1 (show 0 ≤ -p i by omega)
    have k2 := Int.mul_le_mul_of_nonneg_left h2 (show 0 ≤ -p i by omega)
    rw [Int.neg_mul, Int.neg_mul] at k1 k2
    omega
section
variable {n : Nat} {p : Nat → Int} {b o : List (Int × Int)}
theorem near_mono (h : InB n b o) : nearQ n p o ≤ nearQ n p b := sg_mono fun i hi => sq_le_sq (gap_nn _ _) (by
  obtain ⟨h1, h2, h3⟩ := h.at_ i hi
  unfold nearS
  exact gap_le (gap_nn _ _) (by have := le_gap1 (p i, p i) (sd b i); simp only at this ⊢; omega) (by have := le_gap2 (p i, p i) (sd b i); simp only at this ⊢; omega))
theorem far_mono (h : InB n b o) : farQ n p b ≤ farQ n p o := sg_mono fun i hi => by
  obtain ⟨h1, h2, h3⟩ := h.at_ i hi
  have k1 := le_mx1 (p i - (sd b i).1) ((sd b i).2 - p i)
  have k2 := le_mx2 (p i - (sd b i).1) ((sd b i).2 - p i)
  have l1 := le_mx1 (p i - (sd o i).1) ((sd o i).2 - p i)
  have l2 := le_mx2 (p i - (sd o i).1) ((sd o i).2 - p i)
  unfold farS
  exact sq_le_sq (by omega) (mx_le (by omega) (by omega))
theorem bet_mono {c : List (Int × Int)} (h : InB n b o) : betQ n o c ≤ betQ n b c := sg_mono fun i hi => sq_le_sq (gap_nn _ _) (by
  obtain ⟨h1, h2, h3⟩ := h.at_ i hi
  unfold betS
  exact gap_le (gap_nn _ _) (by have := le_gap1 (sd b i) (sd c i); omega) (by have := le_gap2 (sd b i) (sd c i); omega))
theorem grt_mono {c : List (Int × Int)} (h : InB n b o) : grtQ n b c ≤ grtQ n o c := sg_mono fun i hi => by
  obtain ⟨h1, h2, h3⟩ := h.at_ i hi
  have a1 := le_gap1 ((sd o i).1, (sd o i).1) (sd c i)
  have a2 := le_gap2 ((sd o i).2, (sd o i).2) (sd c i)
  have b1 := le_mx1 (gapS ((sd o i).1, (sd o i).1) (sd c i)) (gapS ((sd o i).2, (sd o i).2) (sd c i))
  have b2 := le_mx2 (gapS ((sd o i).1, (sd o i).1) (sd c i)) (gapS ((sd o i).2, (sd o i).2) (sd c i))
  have z := gap_nn ((sd o i).1, (sd o i).1) (sd c i)
  simp only at a1 a2
  unfold grtS
  refine sq_le_sq (Int.le_trans (gap_nn ((sd b i).1, (sd b i).1) (sd c i)) (le_mx1 _ _)) (mx_le (gap_le (by omega) ?_ ?_) (gap_le (by omega) ?_ ?_)) <;> simp only <;> omega
theorem sq_sg : ∀ {b : List (Int × Int)}, sq b = sg b.length fun i => hq (sd b i) := fun {b} => by
  unfold sq sg
  congr 1
  apply List.ext_getElem
  · simp
  · intro i h1 h2
    have hi : i < b.length := by simpa using h1
    simp [sd_get hi]
theorem mid_near {x : Nat → Int} (hb : b.length = n) (h : ∀ i < n, (sd b i).1 ≤ x i ∧ x i ≤ (sd b i).2) : dt n (sub (midF b) x) (sub (midF b) x) ≤ rad b * rad b := by
  have h0 : 0 ≤ sq b := by
    rw [sq_sg]
    exact sg_nn fun i _ => hq_nn _
  have h1 : dt n (sub (midF b) x) (sub (midF b) x) ≤ sq b := by
    rw [sq_sg, hb]
    refine sg_mono fun i hi => ?_
    obtain ⟨k1, k2⟩ := h i hi
    exact sq_abs (by unfold hf sub midF midS; omega) (by unfold hf sub midF midS; omega)
  exact Int.le_trans h1 (ru_spec h0).2.1
theorem rad_nn : 0 ≤ rad b := (ru_spec (by rw [sq_sg]; exact sg_nn fun i _ => hq_nn _)).1
/-- a place of the box, for a piece -/
theorem piece_in {a t x : Nat → Int} (hb : b.length = n) (h : ∀ i < n, (sd b i).1 ≤ x i ∧ x i ≤ (sd b i).2) : (pieceS n a t b).1 ≤ rd (pc2 n x a t).1 ∧ ru (pc2 n x a t).2 ≤ (pieceS n a t b).2 := by
  have m := mid_near hb h
  have m2 : dt n (sub x (midF b)) (sub x (midF b)) ≤ rad b * rad b := by
    have : dt n (sub x (midF b)) (sub x (midF b)) = dt n (sub (midF b) x) (sub (midF b) x) := by
      unfold dt
      refine sg_congr fun i _ => ?_
      unfold sub
      grind
    omega
  have l1 := piece_lip (a := a) (t := t) rad_nn m
  have l2 := piece_lip (a := a) (t := t) rad_nn m2
  unfold pieceS
  simp only
  omega
theorem single_mid {x : Nat → Int} (hb : b.length = n) (h : ∀ i < n, (sd b i).1 = (sd b i).2) : midF b = (fun i => midF b i) ∧ (∀ i < n, midF b i = (sd b i).1) ∧ rad b = 0 := by
  refine ⟨rfl, fun i hi => ?_, ?_⟩
  · have := h i hi
    unfold midF midS
    omega
  · have : sq b = 0 := by
      rw [sq_sg, hb]
      have : sg n (fun i => hq (sd b i)) = sg n fun _ => 0 := sg_congr fun i hi => by
        have := h i hi
        have e : hf (sd b i) = 0 := by unfold hf; omega
        unfold hq
        rw [e]
        rfl
      rw [this]
      have := sg_bd (f := fun _ => 0) (B := 0) (n := n) fun i _ => by omega
      omega
    unfold rad
    rw [this]
    have := ru_min (n := 0) (r := 0) (by omega) (by omega) (by omega)
    have := (ru_spec (n := 0) (by omega)).1
    omega
theorem span_mono {K : Kd} {c d : Int × Int} (h : InB n b o) (hc : InS c d) (hK : match K with | .piece _ _ => ∀ i < n, (sd b i).1 = (sd b i).2 | .boxes bs => 0 < bs.length | _ => True) :
    (spanK n K o d).1 ≤ (spanK n K b c).1 ∧ (spanK n K b c).2 ≤ (spanK n K o d).2 := by
  obtain ⟨c1, c2, c3⟩ := hc
  have nn1 : ∀ p b, 0 ≤ nearQ n p b := fun p b => sg_nn fun i _ => sq_nn _
  have nn2 : ∀ p b, 0 ≤ farQ n p b := fun p b => sg_nn fun i _ => sq_nn _
  have r1 : ∀ p, rd (nearQ n p o) ≤ rd (nearQ n p b) := fun p => rd_mono (nn1 _ _) (near_mono h)
  have r2 : ∀ p, ru (farQ n p b) ≤ ru (farQ n p o) := fun p => ru_mono (nn2 _ _) (far_mono h)
  cases K with
  | range p => exact ⟨r1 p, r2 p⟩
  | clocked p =>
    have := r1 p
    have := r2 p
    unfold spanK
    simp only
    omega
  | differ p q =>
    have := r1 p
    have := r2 p
    have := r1 q
    have := r2 q
    unfold spanK
    simp only
    omega
  | side p =>
    refine ⟨sg_mono fun i hi => ?_, sg_mono fun i hi => ?_⟩
    · obtain ⟨k1, k2, k3⟩ := h.at_ i hi
      have a := (sdLo_le (p := p) (b := o) (i := i) (x := (sd b i).1) k1 (by omega)).1
      have a2 := (sdLo_le (p := p) (b := o) (i := i) (x := (sd b i).2) (by omega) k3).1
      have e : sdLo p b i = p i * (sd b i).1 ∨ sdLo p b i = p i * (sd b i).2 := (min2 (sdA p b i) (sdB p b i)).2.2
      omega
    · obtain ⟨k1, k2, k3⟩ := h.at_ i hi
      have a := (sdLo_le (p := p) (b := o) (i := i) (x := (sd b i).1) k1 (by omega)).2
      have a2 := (sdLo_le (p := p) (b := o) (i := i) (x := (sd b i).2) (by omega) k3).2
      have e : sdHi p b i = p i * (sd b i).1 ∨ sdHi p b i = p i * (sd b i).2 := (max2 (sdA p b i) (sdB p b i)).2.2
      omega
  | piece a t =>
    obtain ⟨_, s1, s2⟩ := single_mid (x := a) h.lb hK
    have := piece_in (a := a) (t := t) (x := midF b) h.lo fun i hi => by
      rw [s1 i hi]
      obtain ⟨k1, k2, k3⟩ := h.at_ i hi
      omega
    unfold spanK
    simp only
    have e : pieceS n a t b = (rd (pc2 n (midF b) a t).1, ru (pc2 n (midF b) a t).2) := by
      unfold pieceS
      rw [s2]
      simp
    rw [e]
    exact this
  | boxes bs =>
    refine ⟨rd_mono ?_ (min_mono hK fun x _ => bet_mono h), ru_mono ?_ (min_mono hK fun x _ => grt_mono h)⟩
    · obtain ⟨x, _, e⟩ := min_ex (f := fun c => betQ n o c) hK
      unfold minQ
      rw [e]
      exact sg_nn fun i _ => sq_nn _
    · obtain ⟨x, _, e⟩ := min_ex (f := fun c => grtQ n b c) hK
      unfold grQ
      rw [e]
      exact sg_nn fun i _ => sq_nn _
end
theorem mkKd_v {ns : List Int} {k n : Nat} (hn : n ≤ 10) : KdV n (mkKd ns k n) := by
  have ok := mkKd_ok ns k n
  have pv : ∀ {p : Nat → Int}, PtOk p → VP n p := fun {p} h i _ => by
    have := h i
    have := sz64 (i := p i) (by omega)
    unfold V
    omega
  generalize mkKd ns k n = K at *
  cases K with
  | range p => exact pv ok
  | clocked p => exact pv ok
  | differ p q => exact ⟨pv ok.1, pv ok.2⟩
  | piece p q => exact ⟨pv ok.1, pv ok.2⟩
  | side p =>
    exact fun i _ => by
      have : (p i).natAbs ≤ 1000 := ok.1 i
      have := sz64 (i := p i) (by omega)
      unfold V
      omega
  | boxes bs =>
    obtain ⟨h1, h2, h3⟩ := ok
    refine ⟨h1, by omega, fun b hb => ⟨(h3 b hb).1, fun s hs => ?_⟩⟩
    obtain ⟨k1, k2, k3⟩ := (h3 b hb).2 s hs
    have := sz64 (i := s.1) (by omega)
    have := sz64 (i := s.2) (by omega)
    unfold VS V
    omega
theorem mkSide_v (ns : List Int) (k i : Nat) : VS (mkSide ns k i) ∧ (mkSide ns k i).1 ≤ (mkSide ns k i).2 := by
  have h1 := near_bd (num ns (k + 2 * i))
  have h2 := len7_bd (num ns (k + 2 * i + 1))
  have := sz64 (i := (mkSide ns k i).1) (by unfold mkSide; simp only; omega)
  have := sz64 (i := (mkSide ns k i).2) (by unfold mkSide; simp only; omega)
  refine ⟨⟨by unfold V; omega, by unfold V; omega⟩, ?_⟩
  unfold mkSide
  simp only
  omega
theorem mkBox_v (ns : List Int) (k n : Nat) : ∀ s ∈ mkBox ns k n, VS s ∧ s.1 ≤ s.2 := fun s hs => by
  obtain ⟨i, _, rfl⟩ := List.mem_map.mp hs
  exact mkSide_v ns k i
end Lib
namespace Lib
open PySem PySem.Spec PyProof.Rows L2 Ev
/-! the laws' own distances, wide -/
def lvec (n : Nat) (p : Nat → Int) : D := .lst ((List.range n).map fun i => .int (p i))
def VL (d : D) (n : Nat) (p : Nat → Int) : Prop := d = vec n p ∨ d = lvec n p
theorem clean_lvec (n : Nat) (p : Nat → Int) : clean (lvec n p) := clean_lst fun d hd => by
  obtain ⟨i, _, rfl⟩ := List.mem_map.mp hd
  exact clean_int _
section
variable {n : Nat} {p q : Nat → Int} {a b : List (Int × Int)}
theorem F_law_dotW (hn : n ≤ 10) {k : Nat} (hk : k ≤ 10000) {x y : D} (hx : VL x n p) (hy : VL y n q) (hp : Sz k n p) (hq : Sz k n q) (h : HP) : F__law_dot [x, y] h = .ok (.int (dt n p q)) h := by
  have pr : ∀ z : Int, pure_ h (.int z) h = .ok (.int z) h := fun z => pure_clean h (clean_int z)
  have rg : Rg (n : Int) := rg_nat (by omega)
  have lc : C__law_dot_1 false [some x, some y, none] h = _ :=
    mLc_ty (h1 := h) (List.range n) (fun i => .int (i : Nat)) (fun i => .int (p i * q i)) (by rcases hx with rfl | rfl <;> simp [vec, lvec, rg, rngD_eq]) (by simp; omega)
      (fun i hi h' => ⟨[some x, some y, some (.int (i : Nat))], by simp, by
        have hi' := List.mem_range.mp hi
        have m : CMulE (p i) (q i) := mulX k k (hp i hi') (hq i hi') (by omega)
        have a1 := at_vec (p := p) hi'
        have a2 := at_vec (p := q) hi'
        rcases hx with rfl | rfl <;> rcases hy with rfl | rfl <;> simp [vec, lvec, a1, a2, m]⟩) fun i _ => clean_int _
  have k := ints_vec n fun i => p i * q i
  simp [F__law_dot, lc, k, sg, pr, dt]
theorem F_law_pieceW (hn : n ≤ 10) {x a t : Nat → Int} (h1 : Sz 501 n (sub x a)) (h2 : Sz 501 n (sub t a)) (h3 : Sz 501 n (sub x t)) (h : HP) :
    F__law_from_piece [vec n x, vec n a, vec n t] h = .ok (.tup [.int (pc1 n x a t).1, .int (pc1 n x a t).2]) h := by
  have pr : ∀ y z : Int, pure_ h (.tup [.int y, .int z]) h = .ok (.tup [.int y, .int z]) h := fun y z => pure_clean h (clean_tup (by simp [clean_int]))
  have e1 : ∀ h, F__law_minus [vec n t, vec n a] h = .ok (vec n (sub t a)) h := fun h => F_law_minus' hn t a h
  have e2 : ∀ h, F__law_minus [vec n x, vec n a] h = .ok (vec n (sub x a)) h := fun h => F_law_minus' hn x a h
  have e3 : ∀ h, F__law_minus [vec n x, vec n t] h = .ok (vec n (sub x t)) h := fun h => F_law_minus' hn x t h
  have d1 : ∀ h, F__law_dot [vec n (sub x a), vec n (sub t a)] h = .ok (.int (dt n (sub x a) (sub t a))) h := fun h => F_law_dotW hn (by omega) (.inl rfl) (.inl rfl) h1 h2 h
  have d2 : ∀ h, F__law_dot [vec n (sub t a), vec n (sub t a)] h = .ok (.int (dt n (sub t a) (sub t a))) h := fun h => F_law_dotW hn (by omega) (.inl rfl) (.inl rfl) h2 h2 h
  have d3 : ∀ h, F__law_dot [vec n (sub x a), vec n (sub x a)] h = .ok (.int (dt n (sub x a) (sub x a))) h := fun h => F_law_dotW hn (by omega) (.inl rfl) (.inl rfl) h1 h1 h
  have d4 : ∀ h, F__law_dot [vec n (sub x t), vec n (sub x t)] h = .ok (.int (dt n (sub x t) (sub x t))) h := fun h => F_law_dotW hn (by omega) (.inl rfl) (.inl rfl) h3 h3 h
  have m1 : CMulE (dt n (sub x a) (sub x a)) (dt n (sub t a) (sub t a)) := mulX 1100 1100 (dt_w hn h1 h1) (dt_w hn h2 h2) (by decide)
  have m2 : CMulE (dt n (sub x a) (sub t a)) (dt n (sub x a) (sub t a)) := mulX 1100 1100 (dt_w hn h1 h2) (dt_w hn h1 h2) (by decide)
  unfold pc1
  by_cases c1 : dt n (sub x a) (sub t a) ≤ 0
  · simp [F__law_from_piece, e1, e2, d1, d2, d3, c1, pr]
  · by_cases c2 : dt n (sub t a) (sub t a) ≤ dt n (sub x a) (sub t a)
    · simp [F__law_from_piece, e1, e2, d1, d2, c1, c2, e3, d4, pr]
    · simp [F__law_from_piece, e1, e2, d1, d2, d3, c1, c2, m1, m2, pr]
theorem F_law_squareW (hn : n ≤ 10) {x y : D} (hx : VL x n p) (hy : VL y n q) (hp : WP n p) (hq : WP n q) (h : HP) : F__law_square [x, y] h = .ok (.int (dt n (sub p q) (sub p q))) h := by
  have pr : ∀ z : Int, pure_ h (.int z) h = .ok (.int z) h := fun z => pure_clean h (clean_int z)
  have rg : Rg (n : Int) := rg_nat (by omega)
  have sw := sub_w hp hq
  have lc : C__law_square_1 false [some x, some y, none] h = _ :=
    mLc_ty (h1 := h) (List.range n) (fun i => .int (i : Nat)) (fun i => .int (sub p q i * sub p q i)) (by rcases hx with rfl | rfl <;> simp [vec, lvec, rg, rngD_eq]) (by simp; omega)
      (fun i hi h' => ⟨[some x, some y, some (.int (i : Nat))], by simp, by
        have hi' := List.mem_range.mp hi
        have m : CMulE (p i - q i) (p i - q i) := mulX 501 501 (sw i hi') (sw i hi') (by omega)
        have a1 := at_vec (p := p) hi'
        have a2 := at_vec (p := q) hi'
        rcases hx with rfl | rfl <;> rcases hy with rfl | rfl <;> simp [vec, lvec, a1, a2, m, sub]⟩) fun i _ => clean_int _
  have k := ints_vec n fun i => sub p q i * sub p q i
  simp [F__law_square, lc, k, sg, pr, dt]
theorem gap3' (s1 s2 o1 o2 : Int) : (if 0 > (if s1 - o2 > o1 - s2 then s1 - o2 else o1 - s2) then 0 else (if s1 - o2 > o1 - s2 then s1 - o2 else o1 - s2)) = gapS (s1, s2) (o1, o2) := gap3 (s1, s2) (o1, o2)
theorem fb_turn {i : Nat} (hi : i < n) {x : D} (hx : VL x n p) (hb : b.length = n) (hp : WP n p) (hs : ∀ s ∈ b, WS s) (c : Int) (z1 z2 z6 : Option D) (h : HP) :
    ∃ y6, B__law_from_boxes_1 [some x, z1, z2, some (boxD b), some (.int c), some (.int i), z6] h = .nx [some x, z1, z2, some (boxD b), some (.int (c + nearS p b i * nearS p b i)), some (.int i), y6] h := by
  have a1 := at_box (b := b) (i := i) (by omega)
  rw [← sd_get (by omega)] at a1
  have a2 := at_vec (p := p) hi
  have nw := near_w hb hp hs i hi
  have m : CMulE (nearS p b i) (nearS p b i) := mulX 501 501 nw nw (by decide)
  have g := gap3' (p i) (p i) (sd b i).1 (sd b i).2
  have e : gapS (p i, p i) ((sd b i).1, (sd b i).2) = nearS p b i := rfl
  rw [e] at g
  simp only [gt_iff_lt] at g
  refine ⟨some (.int (nearS p b i)), ?_⟩
  rcases hx with rfl | rfl <;> simp [vec, lvec, boxD, a1, a2, sideD, g, m]
theorem F_law_from_boxesW (hn : n ≤ 10) {x : D} (hx : VL x n p) (hp : WP n p) {bs : List (List (Int × Int))} (l0 : 0 < bs.length) (l1 : bs.length ≤ 1000) (hbs : ∀ b ∈ bs, b.length = n ∧ ∀ s ∈ b, WS s) (h : HP) :
    F__law_from_boxes [x, boxesD bs] h = .ok (.int (minL (bs.map (nearQ n p)))) h := by
  have rg : Rg (n : Int) := rg_nat (by omega)
  have lx : ∀ h, bLen [x] h = .ok (.int n) h := fun h => by rcases hx with rfl | rfl <;> simp [vec, lvec]
  have turn : ∀ b ∈ bs, ∀ (z4 z5 z6 : Option D) (acc : List D), acc.length ≤ 1000 → ∃ y4 y5 y6, B__law_from_boxes_2 [some x, some (boxesD bs), some (.ref h.length), some (boxD b), z4, z5, z6] (h ++ [.lst acc]) =
      .nx [some x, some (boxesD bs), some (.ref h.length), some (boxD b), y4, y5, y6] (h ++ [.lst (acc ++ [.int (nearQ n p b)])]) := by
    intro b hb z4 z5 z6 acc ha
    obtain ⟨lb, hs⟩ := hbs b hb
    obtain ⟨_, h1, e, ⟨x5, x6, rfl⟩, hh⟩ := for_rng (asg := gNm 5) (body := B__law_from_boxes_1) (n := n)
      (fun i env h' => (∃ x5 x6, env = [some x, some (boxesD bs), some (.ref h.length), some (boxD b), some (.int (sg i fun i => nearS p b i * nearS p b i)), x5, x6]) ∧ h' = h ++ [.lst acc])
      (fun i env h' hi hI => by
        obtain ⟨⟨x5, x6, rfl⟩, rfl⟩ := hI
        obtain ⟨y6, e⟩ := fb_turn hi hx lb hp hs (sg i fun i => nearS p b i * nearS p b i) (some (boxesD bs)) (some (.ref h.length)) x6 (h ++ [.lst acc])
        rw [← sg_succ i fun i => nearS p b i * nearS p b i] at e
        exact ⟨_, rfl, _, _, .inl e, ⟨_, _, rfl⟩, rfl⟩)
      (env := [some x, some (boxesD bs), some (.ref h.length), some (boxD b), some (.int 0), z5, z6]) (h := h ++ [.lst acc]) ⟨⟨z5, z6, by simp [sg_zero]⟩, rfl⟩
    rw [hh] at e
    have ap := fun y => appL_last (y := y) (ds := acc) h (by rw [sizeLine_eq]; omega)
    have er : (sg n fun i => nearS p b i * nearS p b i) = nearQ n p b := rfl
    rw [er] at e
    refine ⟨some (.int (nearQ n p b)), x5, x6, ?_⟩
    rcases hx with rfl | rfl
    · unfold vec at *
      simp [rg, e, ap]
    · unfold lvec at *
      simp [rg, e, ap]
  obtain ⟨_, h1, e, ⟨x3, x4, x5, x6, rfl⟩, rfl⟩ := for_ty (asg := gNm 3) (body := B__law_from_boxes_2) (gd := [])
    (fun i env h' => (∃ x3 x4 x5 x6, env = [some x, some (boxesD bs), some (.ref h.length), x3, x4, x5, x6]) ∧ h' = h ++ [.lst ((bs.take i).map fun b => .int (nearQ n p b))]) bs boxD (fun _ _ _ _ => by simp)
    (fun i env h' hi hI => by
      obtain ⟨⟨x3, x4, x5, x6, rfl⟩, rfl⟩ := hI
      obtain ⟨y4, y5, y6, e⟩ := turn bs[i] (List.getElem_mem hi) x4 x5 x6 ((bs.take i).map fun b => .int (nearQ n p b)) (by simp; omega)
      refine ⟨_, rfl, _, _, .inl e, ⟨_, _, _, _, rfl⟩, ?_⟩
      rw [midE i bs hi, List.map_append]
      rfl)
    (env := [some x, some (boxesD bs), some (.ref h.length), none, none, none, none]) (h := h ++ [.lst []]) ⟨⟨none, none, none, none, rfl⟩, by simp⟩
  rw [List.take_length] at e
  have k := intsD_map (bs.map (nearQ n p))
  rw [List.map_map] at k
  have e3 : (D.int ∘ nearQ n p) = fun b => D.int (nearQ n p b) := rfl
  rw [e3] at k
  have pj : ∀ (z : Int) x, pure_ h (.int z) (h ++ x) = .ok (.int z) h := fun z x => pure_cleanJ h x (clean_int z)
  have t1 : 0 < (bs.map (nearQ n p)).length := by simpa using l0
  unfold boxesD at *
  generalize (bs.map fun b => D.int (nearQ n p b)) = us at *
  generalize bs.map (nearQ n p) = vs at *
  simp [F__law_from_boxes, e, k, t1, pj]
end
end Lib
namespace Lib
open PySem PySem.Spec PyProof.Rows L2 Ev
/-! a place of a box, and the value of a kind there -/
section
variable {n : Nat} {p x : Nat → Int} {b o : List (Int × Int)}
def Pl (n : Nat) (b : List (Int × Int)) (x : Nat → Int) : Prop := ∀ i < n, (sd b i).1 ≤ x i ∧ x i ≤ (sd b i).2
theorem near_pl (h : Pl n b x) : nearQ n p b ≤ dt n (sub x p) (sub x p) := sg_mono fun i hi => by
  obtain ⟨h1, h2⟩ := h i hi
  unfold nearS sub
  by_cases c : p i ≤ x i
  · exact sq_le_sq (gap_nn _ _) (gap_le (by omega) (by simp only; omega) (by simp only; omega))
  · have := sq_le_sq (gap_nn (p i, p i) (sd b i)) (gap_le (s := (p i, p i)) (o := sd b i) (c := p i - x i) (by omega) (by simp only; omega) (by simp only; omega))
    have e : (x i - p i) * (x i - p i) = (p i - x i) * (p i - x i) := by grind
    omega
theorem far_pl (h : Pl n b x) : dt n (sub x p) (sub x p) ≤ farQ n p b := sg_mono fun i hi => by
  obtain ⟨h1, h2⟩ := h i hi
  have k1 := le_mx1 (p i - (sd b i).1) ((sd b i).2 - p i)
  have k2 := le_mx2 (p i - (sd b i).1) ((sd b i).2 - p i)
  unfold farS sub
  exact sq_abs (by omega) (by omega)
theorem bet_pl (h : Pl n b x) : betQ n b o ≤ nearQ n x o := sg_mono fun i hi => by
  obtain ⟨h1, h2⟩ := h i hi
  have k1 := le_gap1 (x i, x i) (sd o i)
  have k2 := le_gap2 (x i, x i) (sd o i)
  simp only at k1 k2
  unfold betS nearS
  exact sq_le_sq (gap_nn _ _) (gap_le (gap_nn _ _) (by omega) (by omega))
theorem grt_pl (h : Pl n b x) : nearQ n x o ≤ grtQ n b o := sg_mono fun i hi => by
  obtain ⟨h1, h2⟩ := h i hi
  have a1 := le_gap1 ((sd b i).1, (sd b i).1) (sd o i)
  have a2 := le_gap2 ((sd b i).2, (sd b i).2) (sd o i)
  have b1 := le_mx1 (gapS ((sd b i).1, (sd b i).1) (sd o i)) (gapS ((sd b i).2, (sd b i).2) (sd o i))
  have b2 := le_mx2 (gapS ((sd b i).1, (sd b i).1) (sd o i)) (gapS ((sd b i).2, (sd b i).2) (sd o i))
  have z := gap_nn ((sd b i).1, (sd b i).1) (sd o i)
  simp only at a1 a2
  unfold nearS grtS
  exact sq_le_sq (gap_nn _ _) (gap_le (by omega) (by simp only; omega) (by simp only; omega))
end
theorem dal_math {a e S O : Int} (ha : 0 ≤ a) (he : 0 ≤ e) (hS : a * a ≤ S) (hO0 : 0 ≤ O) (hO : O ≤ e * e) (hc : ¬ (a - e ≤ 0 ∧ O ≤ (a - e) * (a - e))) :
    (2 * (a - e) = 0 → 0 ≤ S - (a - e) * (a - e) - O) ∧ (0 < 2 * (a - e) → 0 ≤ S - (a - e) * (a - e) - O ∧ 2 * (a - e) * (2 * (a - e)) * O ≤ (S - (a - e) * (a - e) - O) * (S - (a - e) * (a - e) - O)) ∧
      (2 * (a - e) < 0 → 0 ≤ S - (a - e) * (a - e) - O ∨ (S - (a - e) * (a - e) - O) * (S - (a - e) * (a - e) - O) ≤ 2 * (a - e) * (2 * (a - e)) * O) := by
  refine ⟨fun z => ?_, fun z => ?_, fun z => ?_⟩
  · have : a = e := by omega
    subst this
    simp
    omega
  · obtain ⟨B, hB⟩ : ∃ B, a - e = B := ⟨_, rfl⟩
    rw [hB] at z ⊢
    have ea : a = B + e := by omega
    have e1 : a * a = B * B + 2 * (B * e) + e * e := by rw [ea]; grind
    have t0 : 0 ≤ B * e := Int.mul_nonneg (by omega) he
    have l1 : 2 * (B * e) ≤ S - B * B - O := by omega
    refine ⟨by omega, ?_⟩
    have l2 := sq_le_sq (x := 2 * (B * e)) (by omega) l1
    have l3 : B * B * O ≤ B * B * (e * e) := Int.mul_le_mul_of_nonneg_left hO (sq_nn B)
    have e2 : 2 * (B * e) * (2 * (B * e)) = 4 * (B * B * (e * e)) := by grind
    have e3 : 2 * B * (2 * B) * O = 4 * (B * B * O) := by grind
    omega
  · by_cases N0 : 0 ≤ S - (a - e) * (a - e) - O
    · exact .inl N0
    refine .inr ?_
    obtain ⟨β, hB⟩ : ∃ β, e - a = β := ⟨_, rfl⟩
    have b0 : 0 < β := by omega
    have e0 : (a - e) * (a - e) = β * β := by rw [← hB]; grind
    have e00 : 2 * (a - e) * (2 * (a - e)) * O = 4 * (β * β * O) := by rw [← hB]; grind
    rw [e0] at N0 hc ⊢
    rw [e00]
    have ee : e = a + β := by omega
    have e1 : e * e = a * a + 2 * (a * β) + β * β := by rw [ee]; grind
    have ob : β * β < O := by
      by_cases y : O ≤ β * β
      · exact absurd ⟨by omega, y⟩ hc
      · omega
    have l1 := sq_le_sq (x := O + β * β - S) (y := O + β * β - a * a) (by omega) (by omega)
    have e2 : (S - β * β - O) * (S - β * β - O) = (O + β * β - S) * (O + β * β - S) := by grind
    have e3 : (O + β * β - a * a) * (O + β * β - a * a) = (O - β * β - a * a) * (O - β * β - a * a) + 4 * (β * β * O) - 2 * (a * β) * (2 * (a * β)) := by grind
    have ab : 0 ≤ a * β := Int.mul_nonneg ha (by omega)
    have lo : -(2 * (a * β)) ≤ O - β * β - a * a := by
      by_cases y : β ≤ a
      · have := Int.mul_le_mul_of_nonneg_right y (show 0 ≤ β by omega)
        omega
      · have := Int.mul_le_mul_of_nonneg_left (show a ≤ β by omega) ha
        omega
    have l2 := sq_abs (x := O - β * β - a * a) (y := 2 * (a * β)) lo (by omega)
    omega
end Lib
namespace Lib
open PySem PySem.Spec PyProof.Rows L2 Ev
/-! names -/
abbrev goodS : Str := "abcdefghijklmnopqrstuvwxyz0123456789_-"
def inG (c : Nat) : Bool := !(Builtin.Str.occurrences goodS ⟨#[c]⟩ 0 goodS.length 1).isEmpty
theorem in_good (c : Nat) (h : HP) : fIn false (.str ⟨#[c]⟩) (.str goodS) h = .ok (.bl (inG c)) h := rfl
def inAll (z : Str) : Bool := (z.cps.toList.map inG).all id
def isn (z : Str) : Bool := (decide (1 ≤ z.length) && decide (z.length ≤ 64)) && inAll z
theorem F_name (z : Str) (hz : z.length ≤ 1000) (h : HP) : F_is_name [.str z] h = .ok (.bl (isn z)) h := by
  have p : ∀ b : Bool, pure_ h (.bl b) h = .ok (.bl b) h := fun b => pure_clean h (clean_bl b)
  have lz : z.cps.toList.length = z.length := by simp [Str.length]
  have zl : z.length ≤ sizeLine := by rw [sizeLine_eq]; omega
  have lc : C_is_name_1 false [some (.str z), none] h = _ :=
    mLc_ty (h1 := h) z.cps.toList (fun c => .str ⟨#[c]⟩) (fun c => .bl (inG c)) (by simp) (by omega)
      (fun c _ h' => ⟨[some (.str z), some (.str ⟨#[c]⟩)], by simp, by simp [-fIn, in_good]⟩) fun c _ => clean_bl _
  have k := blsD_map (z.cps.toList.map inG)
  simp only [List.map_map] at k
  have e : D.bl ∘ inG = fun c => D.bl (inG c) := rfl
  rw [e] at k
  have e2 : (z.cps.toList.map inG).all id = inAll z := rfl
  generalize z.cps.toList.map (fun c => D.bl (inG c)) = xs at *
  generalize z.cps.toList.map inG = ys at *
  unfold isn
  by_cases c1 : 1 ≤ z.length
  · have c1i : (1 : Int) ≤ (z.length : Int) := by omega
    by_cases c2 : z.length ≤ 64
    · have c2i : (z.length : Int) ≤ 64 := by omega
      simp [F_is_name, zl, c1, c2, c1i, c2i, lc, k, e2, p]
    · have c2i : ¬ (z.length : Int) ≤ 64 := by omega
      simp [F_is_name, zl, c1, c2, p, c1i, c2i]
  · have c1i : ¬ (1 : Int) ≤ (z.length : Int) := by omega
    simp [F_is_name, zl, c1, c1i, p]
/-! kinds that hold -/
def In12 (x : Int) : Prop := -1000000000000 ≤ x ∧ x ≤ 1000000000000
def SideOk (s : Int × Int) : Prop := -1000000000000 ≤ s.1 ∧ s.1 ≤ s.2 ∧ s.2 ≤ 1000000000000
def KdH (n : Nat) : Kd → Prop
  | .range p => ∀ i < n, In12 (p i)
  | .clocked p => ∀ i < n, In12 (p i)
  | .differ p q => (∀ i < n, In12 (p i)) ∧ ∀ i < n, In12 (q i)
  | .piece p q => (∀ i < n, In12 (p i)) ∧ ∀ i < n, In12 (q i)
  | .side p => (∀ i < n, -1000 ≤ p i ∧ p i ≤ 1000) ∧ ∃ i < n, p i ≠ 0
  | .boxes bs => 1 ≤ bs.length ∧ bs.length ≤ 16 ∧ ∀ b ∈ bs, b.length ≤ 1000 ∧ ∀ s ∈ b, SideOk s
section
variable {n : Nat}
theorem F_allwV (hn : n ≤ 10) {p : Nat → Int} {lo hi : Int} (hp : ∀ i < n, lo ≤ p i ∧ p i ≤ hi) (h : HP) : F_all_within [vec n p, .int lo, .int hi] h = .ok (.bl true) h := by
  have e : vec n p = .tup (((List.range n).map p).map D.int) := by simp [vec]
  rw [e]
  exact F_allwT (by simp; omega) (fun x hx => by
    obtain ⟨i, hi, rfl⟩ := List.mem_map.mp hx
    exact hp i (List.mem_range.mp hi)) h
theorem alltrue (k : Nat) : ((List.replicate k true).all id) = true := by
  rw [List.all_eq_true]
  intro x hx
  exact (List.mem_replicate.mp hx).2
theorem map_true {α : Type} (xs : List α) : xs.map (fun _ => D.bl true) = (List.replicate xs.length true).map D.bl := by
  rw [List.map_replicate]
  exact List.map_const' ..
theorem F_sides_within' {b : List (Int × Int)} (hb : b.length ≤ 1000) (hs : ∀ s ∈ b, SideOk s) (h : HP) : F_sides_within [boxD b, .int 1000000000000] h = .ok (.bl true) h := by
  have p := pure_clean h (clean_bl true)
  have lc : C_sides_within_1 false [some (boxD b), some (.int 1000000000000), none, none] h = _ :=
    mLc_ty (h1 := h) b sideD (fun _ => .bl true) (by simp [boxD]) (by omega)
      (fun s hS h' => ⟨[some (boxD b), some (.int 1000000000000), some (.int s.1), some (.int s.2)], by simp [sideD], by
        obtain ⟨h1, h2, h3⟩ := hs s hS
        simp [h1, h2, h3]⟩) fun s _ => clean_bl _
  rw [map_true] at lc
  have k := blsD_map (List.replicate b.length true)
  have e := alltrue b.length
  generalize (List.replicate b.length true).map D.bl = ys at *
  generalize List.replicate b.length true = zs at *
  simp [F_sides_within, lc, k, e, p]
theorem F_boxes_hold' {bs : List (List (Int × Int))} (h0 : 1 ≤ bs.length) (h1 : bs.length ≤ 16) (hs : ∀ b ∈ bs, b.length ≤ 1000 ∧ ∀ s ∈ b, SideOk s) (h : HP) : F__boxes_hold [boxesD bs] h = .ok (.bl true) h := by
  have p := pure_clean h (clean_bl true)
  have lc : C__boxes_hold_1 false [some (boxesD bs), none] h = _ :=
    mLc_ty (h1 := h) bs boxD (fun _ => .bl true) (by simp [boxesD]) (by omega)
      (fun b hB h' => ⟨[some (boxesD bs), some (boxD b)], by simp, by
        have := F_sides_within' (hs b hB).1 (hs b hB).2 h'
        simp [this]⟩) fun s _ => clean_bl _
  rw [map_true] at lc
  have k := blsD_map (List.replicate bs.length true)
  have e := alltrue bs.length
  have i1 : (1 : Int) ≤ (bs.length : Int) := by omega
  have i2 : (bs.length : Int) ≤ 16 := by omega
  have l : (bs.map boxD).length = bs.length := by simp
  unfold boxesD at *
  generalize (List.replicate bs.length true).map D.bl = ys at *
  generalize List.replicate bs.length true = zs at *
  generalize bs.map boxD = us at *
  simp [F__boxes_hold, l, i1, i2, lc, k, e, p]
theorem F_direction' (hn : n ≤ 10) {p : Nat → Int} (hp : ∀ i < n, -1000 ≤ p i ∧ p i ≤ 1000) (h0 : ∃ i < n, p i ≠ 0) (h : HP) : F__direction_holds [vec n p] h = .ok (.bl true) h := by
  have pr := pure_clean h (clean_bl true)
  have a : ∀ h, F_all_within [vec n p, .int (-1000), .int 1000] h = .ok (.bl true) h := fun h => F_allwV hn hp h
  have lc : C__direction_holds_1 false [some (vec n p), none] h = _ :=
    mLc_ty (h1 := h) (List.range n) (fun i => .int (p i)) (fun i => .bl (decide (p i ≠ 0))) (by simp [vec]) (by simp; omega)
      (fun i hi h' => ⟨[some (vec n p), some (.int (p i))], by simp, by
        simp [sh_int, PyData.eqv]
        by_cases q : p i = 0 <;> simp [q]⟩) fun s _ => clean_bl _
  have e : (List.range n).map (fun i => D.bl (decide (p i ≠ 0))) = ((List.range n).map fun i => decide (p i ≠ 0)).map D.bl := by simp
  rw [e] at lc
  have k := blsD_map ((List.range n).map fun i => decide (p i ≠ 0))
  have e2 : ((List.range n).map fun i => decide (p i ≠ 0)).any id = true := by
    rw [List.any_eq_true]
    obtain ⟨i, hi, q⟩ := h0
    exact ⟨true, List.mem_map.mpr ⟨i, List.mem_range.mpr hi, by simp [q]⟩, rfl⟩
  generalize ((List.range n).map fun i => decide (p i ≠ 0)).map D.bl = ys at *
  generalize ((List.range n).map fun i => decide (p i ≠ 0)) = zs at *
  simp [F__direction_holds, a, lc, k, e2, pr]
@[simp] theorem eqd_range_range : eqD (.str "range") (.str "range") = true := by unfold eqD; decide +kernel
@[simp] theorem eqd_range_clocked : eqD (.str "range") (.str "clocked") = false := by unfold eqD; decide +kernel
@[simp] theorem eqd_range_differ : eqD (.str "range") (.str "differ") = false := by unfold eqD; decide +kernel
@[simp] theorem eqd_range_piece : eqD (.str "range") (.str "piece") = false := by unfold eqD; decide +kernel
@[simp] theorem eqd_range_side : eqD (.str "range") (.str "side") = false := by unfold eqD; decide +kernel
@[simp] theorem eqd_range_boxes : eqD (.str "range") (.str "boxes") = false := by unfold eqD; decide +kernel
@[simp] theorem eqd_clocked_range : eqD (.str "clocked") (.str "range") = false := by unfold eqD; decide +kernel
@[simp] theorem eqd_clocked_clocked : eqD (.str "clocked") (.str "clocked") = true := by unfold eqD; decide +kernel
@[simp] theorem eqd_clocked_differ : eqD (.str "clocked") (.str "differ") = false := by unfold eqD; decide +kernel
@[simp] theorem eqd_clocked_piece : eqD (.str "clocked") (.str "piece") = false := by unfold eqD; decide +kernel
@[simp] theorem eqd_clocked_side : eqD (.str "clocked") (.str "side") = false := by unfold eqD; decide +kernel
@[simp] theorem eqd_clocked_boxes : eqD (.str "clocked") (.str "boxes") = false := by unfold eqD; decide +kernel
@[simp] theorem eqd_differ_range : eqD (.str "differ") (.str "range") = false := by unfold eqD; decide +kernel
@[simp] theorem eqd_differ_clocked : eqD (.str "differ") (.str "clocked") = false := by unfold eqD; decide +kernel
@[simp] theorem eqd_differ_differ : eqD (.str "differ") (.str "differ") = true := by unfold eqD; decide +kernel
@[simp] theorem eqd_differ_piece : eqD (.str "differ") (.str "piece") = false := by unfold eqD; decide +kernel
@[simp] theorem eqd_differ_side : eqD (.str "differ") (.str "side") = false := by unfold eqD; decide +kernel
@[simp] theorem eqd_differ_boxes : eqD (.str "differ") (.str "boxes") = false := by unfold eqD; decide +kernel
@[simp] theorem eqd_piece_range : eqD (.str "piece") (.str "range") = false := by unfold eqD; decide +kernel
@[simp] theorem eqd_piece_clocked : eqD (.str "piece") (.str "clocked") = false := by unfold eqD; decide +kernel
@[simp] theorem eqd_piece_differ : eqD (.str "piece") (.str "differ") = false := by unfold eqD; decide +kernel
@[simp] theorem eqd_piece_piece : eqD (.str "piece") (.str "piece") = true := by unfold eqD; decide +kernel
@[simp] theorem eqd_piece_side : eqD (.str "piece") (.str "side") = false := by unfold eqD; decide +kernel
@[simp] theorem eqd_piece_boxes : eqD (.str "piece") (.str "boxes") = false := by unfold eqD; decide +kernel
@[simp] theorem eqd_side_range : eqD (.str "side") (.str "range") = false := by unfold eqD; decide +kernel
@[simp] theorem eqd_side_clocked : eqD (.str "side") (.str "clocked") = false := by unfold eqD; decide +kernel
@[simp] theorem eqd_side_differ : eqD (.str "side") (.str "differ") = false := by unfold eqD; decide +kernel
@[simp] theorem eqd_side_piece : eqD (.str "side") (.str "piece") = false := by unfold eqD; decide +kernel
@[simp] theorem eqd_side_side : eqD (.str "side") (.str "side") = true := by unfold eqD; decide +kernel
@[simp] theorem eqd_side_boxes : eqD (.str "side") (.str "boxes") = false := by unfold eqD; decide +kernel
@[simp] theorem eqd_boxes_range : eqD (.str "boxes") (.str "range") = false := by unfold eqD; decide +kernel
@[simp] theorem eqd_boxes_clocked : eqD (.str "boxes") (.str "clocked") = false := by unfold eqD; decide +kernel
@[simp] theorem eqd_boxes_differ : eqD (.str "boxes") (.str "differ") = false := by unfold eqD; decide +kernel
@[simp] theorem eqd_boxes_piece : eqD (.str "boxes") (.str "piece") = false := by unfold eqD; decide +kernel
@[simp] theorem eqd_boxes_side : eqD (.str "boxes") (.str "side") = false := by unfold eqD; decide +kernel
@[simp] theorem eqd_boxes_boxes : eqD (.str "boxes") (.str "boxes") = true := by unfold eqD; decide +kernel
theorem cut1_2 (a b : D) : Ev.cutD [a, b] (some 1) none = [b] := cut_from (i := 1) (by simp)
theorem cut1_3 (a b c : D) : Ev.cutD [a, b, c] (some 1) none = [b, c] := cut_from (i := 1) (by simp)
theorem F_kind_holds' (hn : n ≤ 10) {K : Kd} (hK : KdH n K) (h : HP) : F__kind_holds [kdD n K] h = .ok (.bl true) h := by
  have pr := pure_clean h (clean_bl true)
  have pt : ∀ {p : Nat → Int}, (∀ i < n, In12 (p i)) → ∀ h, F_all_within [vec n p, .int (-1000000000000), .int 1000000000000] h = .ok (.bl true) h := fun hp h => F_allwV hn hp h
  cases K with
  | range p =>
    have lc : C__kind_holds_1 false [some (.tup [.str "range", vec n p]), none] h = _ :=
      mLc_ty (h1 := h) [p] (vec n) (fun _ => .bl true) (by simp [cut1_2]) (by simp)
        (fun q hq h' => ⟨[some (.tup [.str "range", vec n p]), some (vec n q)], by simp, by
          simp only [List.mem_singleton] at hq
          subst hq
          simp [pt hK]⟩) fun s _ => clean_bl _
    simp only [kdD]
    simp [F__kind_holds, lc, pr]
  | clocked p =>
    have lc : C__kind_holds_1 false [some (.tup [.str "clocked", vec n p]), none] h = _ :=
      mLc_ty (h1 := h) [p] (vec n) (fun _ => .bl true) (by simp [cut1_2]) (by simp)
        (fun q hq h' => ⟨[some (.tup [.str "clocked", vec n p]), some (vec n q)], by simp, by
          simp only [List.mem_singleton] at hq
          subst hq
          simp [pt hK]⟩) fun s _ => clean_bl _
    simp only [kdD]
    simp [F__kind_holds, lc, pr]
  | differ p t =>
    have lc : C__kind_holds_1 false [some (.tup [.str "differ", vec n p, vec n t]), none] h = _ :=
      mLc_ty (h1 := h) [p, t] (vec n) (fun _ => .bl true) (by simp [cut1_3]) (by simp)
        (fun q hq h' => ⟨[some (.tup [.str "differ", vec n p, vec n t]), some (vec n q)], by simp, by
          simp only [List.mem_cons, List.not_mem_nil, or_false] at hq
          rcases hq with rfl | rfl
          · simp [pt hK.1]
          · simp [pt hK.2]⟩) fun s _ => clean_bl _
    simp only [kdD]
    simp [F__kind_holds, lc, pr]
  | piece p t =>
    have lc : C__kind_holds_1 false [some (.tup [.str "piece", vec n p, vec n t]), none] h = _ :=
      mLc_ty (h1 := h) [p, t] (vec n) (fun _ => .bl true) (by simp [cut1_3]) (by simp)
        (fun q hq h' => ⟨[some (.tup [.str "piece", vec n p, vec n t]), some (vec n q)], by simp, by
          simp only [List.mem_cons, List.not_mem_nil, or_false] at hq
          rcases hq with rfl | rfl
          · simp [pt hK.1]
          · simp [pt hK.2]⟩) fun s _ => clean_bl _
    simp only [kdD]
    simp [F__kind_holds, lc, pr]
  | side p =>
    have d := fun h => F_direction' hn hK.1 hK.2 h
    simp only [kdD]
    simp [F__kind_holds, d, pr]
  | boxes bs =>
    have d := fun h => F_boxes_hold' hK.1 hK.2.1 hK.2.2 h
    simp only [kdD]
    simp [F__kind_holds, d, pr]
end
end Lib
namespace Lib
open PySem PySem.Spec PyProof.Rows L2 Ev
/-! readings -/
structure RdV where
  src : Str
  mo : Int
  kd : Kd
  lo : Int
  hi : Int
  la : Int
  ne : Int
@[simp] def rdF (n : Nat) (R : RdV) : List (Str × D) := [("source", .str R.src), ("moment", .int R.mo), ("kind", kdD n R.kd), ("low", .int R.lo), ("high", .int R.hi), ("late", .int R.la), ("near", .int R.ne)]
def rdD (n : Nat) (R : RdV) : D := .ins 1 (rdF n R)
@[simp] theorem asI_rd (n : Nat) (R : RdV) (h : HP) : asI h (rdD n R) = some (1, rdF n R) := rfl
theorem clean_rd (n : Nat) (R : RdV) : clean (rdD n R) := clean_ins (by simp [clean_int, clean_str, clean_kd])
def In15 (x : Int) : Prop := -1000000000000000 ≤ x ∧ x ≤ 1000000000000000
structure RdOk (n : Nat) (R : RdV) : Prop where
  ln : R.src.length ≤ 1000
  nm : isn R.src = true
  mo : In12 R.mo
  kd : KdH n R.kd
  lh : -1000000000000000 ≤ R.lo ∧ R.lo ≤ R.hi ∧ R.hi ≤ 1000000000000000
  la : 0 ≤ R.la ∧ R.la ≤ 1000000000000
  ne : 0 ≤ R.ne ∧ R.ne ≤ 1000000000000
theorem F_read_init {n : Nat} (hn : n ≤ 10) {R : RdV} (k : RdOk n R) (h : HP) : F_Reading__init__ [.ref h.length, .str R.src, .int R.mo, kdD n R.kd, .int R.lo, .int R.hi, .int R.la, .int R.ne] (h ++ [.ins 1 []]) = .ok .non (h ++ [.ins 1 (rdF n R)]) := by
  have a : ∀ h, F_all_within [.tup [.int R.la, .int R.ne], .int 0, .int 1000000000000] h = .ok (.bl true) h := fun h => F_allwT (xs := [R.la, R.ne]) (by simp) (by simp [k.la, k.ne]) h
  have nm := fun h => F_name R.src k.ln h
  rw [k.nm] at nm
  have kh := fun h => F_kind_holds' hn k.kd h
  obtain ⟨m1, m2⟩ := k.mo
  obtain ⟨l1, l2, l3⟩ := k.lh
  generalize hK : kdD n R.kd = kk at *
  simp [F_Reading__init__, nm, m1, m2, kh, l1, l2, l3, a, hK]
theorem mk_read {n : Nat} (hn : n ≤ 10) {R : RdV} (k : RdOk n R) (h : HP) : mkR h (F_Reading__init__ [.ref h.length, .str R.src, .int R.mo, kdD n R.kd, .int R.lo, .int R.hi, .int R.la, .int R.ne] (h ++ [.ins 1 []])) = .ok (rdD n R) h := by
  rw [F_read_init hn k h]
  exact pure_ins (by simp [clean_int, clean_str, clean_kd])
theorem near12 (c : Int) : In12 (near c) := near_bd c
theorem plainS_ok (c : Int) : SideOk (plainS c) := by
  have h1 := near_bd (c / 14)
  have h2 := len7_bd c
  unfold plainS SideOk
  simp only
  split <;> omega
theorem mkKd_h {ns : List Int} {k n : Nat} (h0 : 0 < n) (hn : n ≤ 10) : KdH n (mkKd ns k n) := by
  have pp : ∀ k, ∀ i < n, In12 (pnt ns k i) := fun k i _ => near12 _
  unfold mkKd
  split
  · exact pp _
  · split
    · exact pp _
    · split
      · exact ⟨pp _, pp _⟩
      · split
        · exact ⟨pp _, pp _⟩
        · split
          · refine ⟨fun i _ => slope_bd _ _, 0, h0, ?_⟩
            unfold slope
            rw [if_pos rfl]
            omega
          · have pb : ∀ k, (plainB ns k n).length ≤ 1000 ∧ ∀ s ∈ plainB ns k n, SideOk s := fun k => ⟨by simp [plainB]; omega, fun s hs => by
              obtain ⟨i, _, rfl⟩ := List.mem_map.mp hs
              exact plainS_ok _⟩
            split
            · refine ⟨by simp, by simp, fun b hb => ?_⟩
              simp only [List.mem_cons, List.not_mem_nil, or_false] at hb
              rcases hb with rfl | rfl <;> exact pb _
            · refine ⟨by simp, by simp, fun b hb => ?_⟩
              simp only [List.mem_cons, List.not_mem_nil, or_false] at hb
              subst hb
              exact pb _
theorem isn_a : isn "a" = true := by decide +kernel
theorem isn_b : isn "b" = true := by decide +kernel
end Lib
namespace Lib
open PySem PySem.Spec PyProof.Rows L2 Ev
/-! a loop that returns at its first item of a kind -/
theorem for_first {α : Type} {asg : TF} {body : SM} (f : α → D) (I : EN → HP → Prop) (Q : D → HP → Prop) (x : α) (ys : List α) (Hx : ∀ env h, I env h → ∃ e, asg (f x) env h = some e ∧ ∃ r h', body e h = .rt r h' ∧ Q r h') :
    ∀ (xs : List α), (∀ y ∈ xs, ∀ env h, I env h → ∃ e, asg (f y) env h = some e ∧ ∃ env' h', body e h = .nx env' h' ∧ I env' h') → ∀ (env : EN) (h : HP), I env h → ∃ r h', forE asg body [] ((xs ++ x :: ys).map f) env h = .rt r h' ∧ Q r h'
  | [], _, env, h, i => by
    obtain ⟨e, e1, r, h', b, q⟩ := Hx env h i
    exact ⟨r, h', by rw [List.nil_append, List.map_cons, for_rt e1 b], q⟩
  | z :: zs, H, env, h, i => by
    obtain ⟨e, e1, env', h', b, i'⟩ := H z List.mem_cons_self env h i
    obtain ⟨r, h2, e2, q⟩ := for_first f I Q x ys Hx zs (fun y hy => H y (List.mem_cons_of_mem _ hy)) env' h' i'
    exact ⟨r, h2, by rw [List.cons_append, List.map_cons, for_nx e1 b, e2], q⟩
/-! what a reading is carried by -/
def absI (x : Int) : Int := if x < 0 then -x else x
theorem absI_nn (x : Int) : 0 ≤ absI x := by unfold absI; split <;> omega
theorem rch_sz {S : SetV} (k : S.ok) {t : Int} (h0 : 0 ≤ t) (ht : t < 18446744073709551616) : 0 ≤ rchS S t ∧ sz (rchS S t) ≤ 140 ∧ 0 ≤ slpS S t ∧ sz (slpS S t) ≤ 140 := by
  have big : ∀ {a : Int}, 0 ≤ a → a ≤ 1000000000000 → 0 ≤ qup (a * t) S.p ∧ (qup (a * t) S.p).natAbs ≤ 1000000000000 * 18446744073709551616 + 1 := fun {a} a0 a1 => by
    have m0 : 0 ≤ a * t := Int.mul_nonneg a0 h0
    have m1 : a * t ≤ 1000000000000 * 18446744073709551616 := Int.mul_le_mul a1 (by omega) h0 (by omega)
    have p1 := k.2.2.2.2.2.2.1
    have u := qup_lt (n := a * t) (show 0 < S.p by omega)
    have v := qup_ge (n := a * t) (show 0 < S.p by omega)
    generalize qup (a * t) S.p = q at *
    have q0 : 0 ≤ q := by
      by_cases z : 0 ≤ q
      · exact z
      · have : S.p * q < 0 := Int.mul_neg_of_pos_of_neg (by omega) (by omega)
        omega
    have l : q - 1 ≤ S.p * (q - 1) ∨ q = 0 := by
      by_cases z : q = 0
      · exact .inr z
      · left
        have := Int.mul_le_mul_of_nonneg_right p1 (show 0 ≤ q - 1 by omega)
        omega
    omega
  obtain ⟨r0, r1⟩ := big k.2.2.1 k.2.2.2.1
  obtain ⟨s0, s1⟩ := big k.2.2.2.2.1 k.2.2.2.2.2.1
  exact ⟨r0, sz_small (n := 140) (by omega) (Nat.lt_of_le_of_lt r1 (by decide)), s0, sz_small (n := 140) (by omega) (Nat.lt_of_le_of_lt s1 (by decide))⟩
theorem rate_sz {n : Nat} (hn : n ≤ 10) {K : Kd} (hK : KdOk n K) : 0 ≤ rateK n K ∧ sz (rateK n K) ≤ 140 := by
  cases K with
  | side p =>
    have b : Bd n p := fun i _ => by have := hK.1 i; omega
    have d := dot_bd hn b b
    have z := dt_self n p
    have s := sz140 (x := dt n p p) (by unfold dt; omega)
    have r := sz_ru z
    exact ⟨(ru_spec z).1, by show sz (ru (dt n p p)) ≤ 140; omega⟩
  | differ p q => exact ⟨by show (0 : Int) ≤ 2; omega, by show sz 2 ≤ 140; rw [lit2]; omega⟩
  | _ => exact ⟨by show (0 : Int) ≤ 1; omega, by show sz 1 ≤ 140; rw [lit1]; omega⟩
def carK (S : SetV) (n : Nat) (K : Kd) (ne t : Int) : Int := movedK K * ne + rateK n K * rchS S t + clockK K * slpS S t
theorem F_carried' {S : SetV} (k : S.ok) {n : Nat} (hn : n ≤ 10) {R : RdV} (hK : KdOk n R.kd) (la : 0 ≤ R.la ∧ R.la ≤ 1000000000000) (ne : 0 ≤ R.ne ∧ R.ne ≤ 1000000000000) {m : Int} (hm : absI (m - R.mo) ≤ 1000000000000000) (h : HP) :
    F_carried [setD S, rdD n R, .int m] h = .ok (.int (carK S n R.kd R.ne (R.la + absI (m - R.mo)))) h := by
  have a0 := absI_nn (m - R.mo)
  have ht : (R.la + absI (m - R.mo)).natAbs < 18446744073709551616 := by omega
  obtain ⟨r0, r1, s0, s1⟩ := rch_sz k (t := R.la + absI (m - R.mo)) (by omega) (by omega)
  obtain ⟨q0, q1⟩ := rate_sz hn hK
  have fr := fun h => F_rate' hn hK h
  have fc := fun h => F_clock_rate' n R.kd h
  have fm := fun h => F_moved' n R.kd h
  have f1 := fun h => F_reach' k ht h
  have f2 := fun h => F_slip' k ht h
  have pr : ∀ z : Int, pure_ h (.int z) h = .ok (.int z) h := fun z => pure_clean h (clean_int z)
  have m1 : CMulE (rateK n R.kd) (rchS S (R.la + absI (m - R.mo))) := mulX 140 140 q1 r1 (by decide)
  have c1 : sz (clockK R.kd) ≤ 64 := by unfold clockK; split <;> decide
  have v1 : sz (movedK R.kd) ≤ 64 := by unfold movedK; split <;> decide
  have m2 : CMulE (clockK R.kd) (slpS S (R.la + absI (m - R.mo))) := mulX 64 140 c1 s1 (by decide)
  have m3 : CMulE (movedK R.kd) R.ne := mulX 64 64 v1 (sz64 (by omega)) (by decide)
  have ea : (if m - R.mo < 0 then -(m - R.mo) else m - R.mo) = absI (m - R.mo) := rfl
  unfold carK
  generalize rateK n R.kd = rr at *
  generalize clockK R.kd = cc at *
  generalize movedK R.kd = vv at *
  simp [F_carried, List.lookup, ea, fr, fc, fm, f1, f2, m1, m2, m3, pr]
theorem carK_nn {S : SetV} (k : S.ok) {n : Nat} (hn : n ≤ 10) {K : Kd} (hK : KdOk n K) {ne t : Int} (h0 : 0 ≤ t) (h1 : t < 18446744073709551616) (h2 : 0 ≤ ne) : 0 ≤ carK S n K ne t := by
  obtain ⟨r0, r1, s0, s1⟩ := rch_sz k h0 h1
  obtain ⟨q0, q1⟩ := rate_sz hn hK
  have c1 : 0 ≤ clockK K := by unfold clockK; split <;> decide
  have v1 : 0 ≤ movedK K := by unfold movedK; split <;> decide
  have := Int.mul_nonneg q0 r0
  have := Int.mul_nonneg c1 s0
  have := Int.mul_nonneg v1 h2
  unfold carK
  omega
def excB (sp : Int × Int) (lo hi c : Int) : Bool := decide (sp.2 < lo - c) || decide (hi + c < sp.1)
theorem F_excludes' {S : SetV} (k : S.ok) {n : Nat} (hn : n ≤ 10) {R : RdV} (hK : KdOk n R.kd) (kv : KdV n R.kd) (la : 0 ≤ R.la ∧ R.la ≤ 1000000000000) (ne : 0 ≤ R.ne ∧ R.ne ≤ 1000000000000) {m : Int} (hm : absI (m - R.mo) ≤ 1000000000000000)
    {b : List (Int × Int)} {c : Int × Int} (hb : b.length = n) (hs : ∀ s ∈ b, VS s) (h : HP) :
    F_excludes [setD S, rdD n R, .int m, boxD (b ++ [c])] h = .ok (.bl (excB (spanK n R.kd b c) R.lo R.hi (carK S n R.kd R.ne (R.la + absI (m - R.mo))))) h := by
  have fc := fun h => F_carried' k hn hK la ne hm h
  have fs := fun h => F_spanW hn kv (c := c) hb hs h
  have pr : ∀ z : Bool, pure_ h (.bl z) h = .ok (.bl z) h := fun z => pure_clean h (clean_bl z)
  have pt : ∀ (x y : Int) h, pure_ h (.tup [.int x, .int y]) h = .ok (.tup [.int x, .int y]) h := fun x y h => pure_clean h (clean_tup (by simp [clean_int]))
  generalize carK S n R.kd R.ne (R.la + absI (m - R.mo)) = C at *
  generalize spanK n R.kd b c = sp at *
  obtain ⟨s1, s2⟩ := sp
  unfold excB
  by_cases c1 : s2 < R.lo - C
  · simp [F_excludes, F_allowed, F_misses, List.lookup, fc, fs, pt, c1, pr]
  · simp [F_excludes, F_allowed, F_misses, List.lookup, fc, fs, pt, c1, pr]
end Lib
namespace Lib
open PySem PySem.Spec PyProof.Rows L2 Ev
/-! a value near a place of a box -/
section
variable {n : Nat} {p q w x : Nat → Int} {b o : List (Int × Int)}
theorem sq_cmp {a X : Int} (hX : 0 ≤ X) (h : a * a ≤ X * X) : a ≤ X := by
  apply Decidable.byContradiction
  intro c
  have := rd_lt (x := X) (y := a)
  have h2 : X * X < a * a := by
    have h1 := Int.mul_le_mul (show X + 1 ≤ a by omega) (show X + 1 ≤ a by omega) (by omega) (by omega)
    have e : (X + 1) * (X + 1) = X * X + 2 * X + 1 := by grind
    omega
  omega
theorem dt_swap (n : Nat) (u v : Nat → Int) : dt n (sub u v) (sub u v) = dt n (sub v u) (sub v u) := sg_congr fun i _ => by
  unfold sub
  grind
theorem dt_path {u v z : Nat → Int} {α β : Int} (ha : 0 ≤ α) (hb : 0 ≤ β) (h1 : dt n (sub u v) (sub u v) ≤ α * α) (h2 : dt n (sub v z) (sub v z) ≤ β * β) : dt n (sub u z) (sub u z) ≤ (α + β) * (α + β) := by
  have t := tri ha hb h1 h2
  have e : dt n (sub u z) (sub u z) = dt n (adv (sub u v) (sub v z)) (adv (sub u v) (sub v z)) := dt_congr (fun i _ => by show u i - z i = (u i - v i) + (v i - z i); omega) (fun i _ => by show u i - z i = (u i - v i) + (v i - z i); omega)
  omega
def vq (n : Nat) (w p : Nat → Int) : Int := dt n (sub w p) (sub w p)
theorem range_lip {R : Int} (hR : 0 ≤ R) (hx : Pl n b x) (h : dt n (sub w x) (sub w x) ≤ R * R) : rd (vq n w p) ≤ ru (farQ n p b) + R ∧ rd (nearQ n p b) ≤ ru (vq n w p) + R := by
  have f0 : 0 ≤ farQ n p b := sg_nn fun i _ => sq_nn _
  have n0 : 0 ≤ nearQ n p b := sg_nn fun i _ => sq_nn _
  have v0 : 0 ≤ vq n w p := dt_self n _
  have fs := ru_spec f0
  have ns := rd_spec n0
  have vs := rd_spec v0
  have vu := ru_spec v0
  constructor
  · have a := dt_path (u := w) (v := x) (z := p) hR fs.1 h (Int.le_trans (far_pl hx) fs.2.1)
    have : rd (vq n w p) ≤ R + ru (farQ n p b) := sq_cmp (by omega) (by unfold vq at *; omega)
    omega
  · rw [dt_swap] at h
    have a := dt_path (u := x) (v := w) (z := p) hR vu.1 h (by unfold vq at *; omega)
    have m := near_pl (p := p) hx
    have : rd (nearQ n p b) ≤ R + ru (vq n w p) := sq_cmp (by omega) (by omega)
    omega
theorem nearQ_lip {R γ : Int} (hR : 0 ≤ R) (hg : 0 ≤ γ) (h : dt n (sub w x) (sub w x) ≤ R * R) (hx : nearQ n x o ≤ γ * γ) : nearQ n w o ≤ (γ + R) * (γ + R) := by
  have e1 : dt n (fun i => nearS x o i) (fun i => nearS x o i) = nearQ n x o := rfl
  have e2 : dt n (fun i => absI (sub w x i)) (fun i => absI (sub w x i)) = dt n (sub w x) (sub w x) := sg_congr fun i _ => by
    show absI (sub w x i) * absI (sub w x i) = sub w x i * sub w x i
    unfold absI
    split
    · exact Int.neg_mul_neg _ _
    · rfl
  have t := tri (n := n) (u := fun i => nearS x o i) (v := fun i => absI (sub w x i)) hg hR (by omega) (by omega)
  refine Int.le_trans (sg_mono fun i _ => ?_) t
  have g0 := gap_nn (w i, w i) (sd o i)
  have k1 := le_gap1 (x i, x i) (sd o i)
  have k2 := le_gap2 (x i, x i) (sd o i)
  have k0 := gap_nn (x i, x i) (sd o i)
  simp only at k1 k2
  have ab : sub w x i ≤ absI (sub w x i) ∧ -(sub w x i) ≤ absI (sub w x i) ∧ 0 ≤ absI (sub w x i) := by unfold absI; split <;> omega
  show gapS (w i, w i) (sd o i) * gapS (w i, w i) (sd o i) ≤ (gapS (x i, x i) (sd o i) + absI (sub w x i)) * (gapS (x i, x i) (sd o i) + absI (sub w x i))
  have sb : sub w x i = w i - x i := rfl
  exact sq_le_sq g0 (gap_le (by omega) (by simp only; omega) (by simp only; omega))
/-- what the law works out of a kind at a place -/
def lawV (n : Nat) (K : Kd) (w : Nat → Int) (c : Int) : Int × Int := match K with
  | .range p => (rd (vq n w p), ru (vq n w p))
  | .clocked p => (rd (vq n w p) + c, ru (vq n w p) + c)
  | .differ p q => (rd (vq n w p) - ru (vq n w q), ru (vq n w p) - rd (vq n w q))
  | .side p => (dt n p w, dt n p w)
  | .piece a t => (rd (pc2 n w a t).1, ru (pc2 n w a t).2)
  | .boxes bs => (rd (minL (bs.map (nearQ n w))), ru (minL (bs.map (nearQ n w))))
/-- by how much it is off -/
def offV (n : Nat) (K : Kd) (R s : Int) : Int := match K with
  | .range _ => R
  | .clocked _ => R + s
  | .differ _ _ => 2 * R
  | .side p => ru (dt n p p) * R
  | .piece _ _ => R
  | .boxes _ => R
theorem pc2_le {a t : Nat → Int} : (pc2 n w a t).1 ≤ (pc2 n w a t).2 := by
  have p := pc1_pos n w a t
  have d := div_facts (pc1 n w a t).1 (pc1 n w a t).2 p
  have e1 : (pc2 n w a t).1 = (pc1 n w a t).1 / (pc1 n w a t).2 := rfl
  have e2 : (pc2 n w a t).2 = -(-(pc1 n w a t).1 / (pc1 n w a t).2) := rfl
  rw [e1, e2]
  exact Int.le_of_mul_le_mul_right (show (pc1 n w a t).1 / (pc1 n w a t).2 * (pc1 n w a t).2 ≤ -(-(pc1 n w a t).1 / (pc1 n w a t).2) * (pc1 n w a t).2 by omega) p
theorem lawV_lip {K : Kd} {c e : Int × Int} {cl R s : Int} (hR : 0 ≤ R) (hb : b.length = n) (hx : Pl n b x) (h : dt n (sub w x) (sub w x) ≤ R * R) (hc : c.1 - s ≤ cl ∧ cl ≤ c.2 + s) (hK : match K with | .boxes bs => 0 < bs.length | .piece a t => 0 ≤ (pc2 n x a t).1 ∧ 0 ≤ (pc2 n w a t).1 | _ => True) :
    (lawV n K w cl).1 - offV n K R s ≤ (spanK n K b c).2 ∧ (spanK n K b c).1 ≤ (lawV n K w cl).2 + offV n K R s := by
  cases K with
  | range p =>
    have := range_lip (p := p) hR hx h
    unfold lawV offV spanK
    simp only
    omega
  | clocked p =>
    have := range_lip (p := p) hR hx h
    unfold lawV offV spanK
    simp only
    omega
  | differ p q =>
    have := range_lip (p := p) hR hx h
    have := range_lip (p := q) hR hx h
    unfold lawV offV spanK
    simp only
    omega
  | side p =>
    have z := dt_self n p
    have rs := ru_spec z
    have a1 := dt_le (n := n) (u := p) (v := sub w x) rs.1 hR rs.2.1 h
    have a2 := dt_le (n := n) (u := p) (v := sub x w) rs.1 hR rs.2.1 (by rw [dt_swap]; exact h)
    have e1 : dt n p (sub w x) = dt n p w - dt n p x := by
      have : ∀ m, dt m p (sub w x) = dt m p w - dt m p x := fun m => by
        induction m with
        | zero => simp [dt, sg_zero]
        | succ m ih =>
          unfold dt at *
          rw [sg_succ, sg_succ, sg_succ, ih]
          unfold sub
          grind
      exact this n
    have e2 : dt n p (sub x w) = dt n p x - dt n p w := by
      have : ∀ m, dt m p (sub x w) = dt m p x - dt m p w := fun m => by
        induction m with
        | zero => simp [dt, sg_zero]
        | succ m ih =>
          unfold dt at *
          rw [sg_succ, sg_succ, sg_succ, ih]
          unfold sub
          grind
      exact this n
    have l1 : sg n (sdLo p b) ≤ dt n p x := sg_mono fun i hi => (sdLo_le (hx i hi).1 (hx i hi).2).1
    have l2 : dt n p x ≤ sg n (sdHi p b) := sg_mono fun i hi => (sdLo_le (hx i hi).1 (hx i hi).2).2
    unfold lawV offV spanK
    simp only
    omega
  | piece a t =>
    have i1 := piece_in (a := a) (t := t) hb hx
    have l1 := piece_lip (a := a) (t := t) hR h
    have l2 := piece_lip (m := x) (x := w) (a := a) (t := t) hR (by rw [dt_swap]; exact h)
    have q1 := pc2_le (n := n) (w := x) (a := a) (t := t)
    have q3 := pc2_le (n := n) (w := w) (a := a) (t := t)
    obtain ⟨q2, q4⟩ := hK
    have r1 := rd_le_ru (n := (pc2 n x a t).2) (by omega)
    have r2 := rd_mono q2 q1
    have r3 := rd_le_ru (n := (pc2 n w a t).2) (by omega)
    have r4 := rd_mono q4 q3
    have e : spanK n (.piece a t) b c = pieceS n a t b := rfl
    rw [e]
    unfold lawV offV
    simp only
    omega
  | boxes bs =>
    have nn : ∀ w o, 0 ≤ nearQ n w o := fun w o => sg_nn fun i _ => sq_nn _
    obtain ⟨o1, m1, e1⟩ := min_ex (f := fun o => grtQ n b o) hK
    obtain ⟨o2, m2, e2⟩ := min_ex (f := nearQ n w) hK
    have g0 : 0 ≤ grtQ n b o1 := sg_nn fun i _ => sq_nn _
    have gs := ru_spec g0
    have a1 := nearQ_lip (o := o1) hR gs.1 h (Int.le_trans (grt_pl hx) gs.2.1)
    have b1 := min_le (f := nearQ n w) m1
    have M0 : 0 ≤ minL (bs.map (nearQ n w)) := by rw [e2]; exact nn _ _
    have ms := rd_spec M0
    have mu := ru_spec M0
    have c1 : rd (minL (bs.map (nearQ n w))) ≤ ru (grtQ n b o1) + R := sq_cmp (by omega) (by omega)
    have a2 := nearQ_lip (w := x) (x := w) (o := o2) hR mu.1 (by rw [dt_swap]; exact h) (by rw [← e2]; exact mu.2.1)
    have b2 := min_le (f := fun o => betQ n b o) m2
    have b3 := bet_pl (o := o2) hx
    have Q0 : 0 ≤ minQ n b bs := by
      obtain ⟨o3, m3, e3⟩ := min_ex (f := fun o => betQ n b o) hK
      unfold minQ
      rw [e3]
      exact sg_nn fun i _ => sq_nn _
    have qs := rd_spec Q0
    have c2 : rd (minQ n b bs) ≤ ru (minL (bs.map (nearQ n w))) + R := sq_cmp (by omega) (by unfold minQ at *; omega)
    have e : grQ n b bs = grtQ n b o1 := e1
    unfold lawV offV spanK
    simp only
    rw [e]
    omega
end
end Lib
namespace Lib
open PySem PySem.Spec PyProof.Rows L2 Ev
theorem eqvI (a b : Int) : PyData.eqv (.int a) (.int b) = (a == b) := by simp [PyData.eqv]
theorem seq_nx {a b : SM} {e e' : EN} {h h' : HP} (ha : a e h = .nx e' h') : (sSeq a b) e h = b e' h' := by simp [sSeq, ha]
/-! the script's rows -/
def rC0 (ns : List Int) (k : Nat) : Int := if ns.length = 0 then 0 else ns.getD (k % ns.length) 0
def rC1 (ns : List Int) (k : Nat) : Int := if rC0 ns k < 0 then 1 - 2 * rC0 ns k else rC0 ns k
def rC2 (ns : List Int) (k : Nat) : Int := if ns.length ≤ k ∨ rC1 ns k < 1000000000 then ((((rC1 ns k + 131 * k + 7) * 48271 + (k : Int) * k * 69621) % 1000000007) + 17 * k + 3) * 2862933555777941757 % 18446744073709551557 else rC1 ns k
theorem rC0_sz {ns : List Int} (hn : Okn ns) (k : Nat) : sz (rC0 ns k) ≤ 1048576 := by
  unfold rC0
  split
  · rw [sz0]; omega
  · rename_i c
    have hk : k % ns.length < ns.length := Nat.mod_lt _ (by omega)
    rw [List.getD_eq_getElem?_getD, List.getElem?_eq_getElem hk]
    exact hn.2 _ (List.getElem_mem hk)
theorem rC1_sz {ns : List Int} (hn : Okn ns) (k : Nat) : sz (rC1 ns k) ≤ 1048580 := by
  have h0 := rC0_sz hn k
  unfold rC1
  split
  · have h1 := sz_mul 2 (rC0 ns k)
    have h2 := sz_sub 1 (2 * rC0 ns k)
    rw [lit2] at h1
    rw [lit1] at h2
    omega
  · omega
theorem rC1_nn (ns : List Int) (k : Nat) : 0 ≤ rC1 ns k := by unfold rC1; split <;> omega
theorem rC2_ok {ns : List Int} (hn : Okn ns) (k : Nat) : 0 ≤ rC2 ns k ∧ sz (rC2 ns k) ≤ 1048580 := by
  unfold rC2
  split
  · have h1 := Int.emod_nonneg (((rC1 ns k + 131 * k + 7) * 48271 + (k : Int) * k * 69621) % 1000000007 + 17 * k + 3) (show (18446744073709551557 : Int) ≠ 0 by decide)
    refine ⟨Int.emod_nonneg _ (by decide), ?_⟩
    have a := Int.emod_lt_of_pos ((((rC1 ns k + 131 * k + 7) * 48271 + (k : Int) * k * 69621) % 1000000007 + 17 * k + 3) * 2862933555777941757) (show (0 : Int) < 18446744073709551557 by decide)
    have b := Int.emod_nonneg ((((rC1 ns k + 131 * k + 7) * 48271 + (k : Int) * k * 69621) % 1000000007 + 17 * k + 3) * 2862933555777941757) (show (18446744073709551557 : Int) ≠ 0 by decide)
    have := sz64 (i := (((rC1 ns k + 131 * k + 7) * 48271 + (k : Int) * k * 69621) % 1000000007 + 17 * k + 3) * 2862933555777941757 % 18446744073709551557) (by omega)
    omega
  · exact ⟨rC1_nn _ _, rC1_sz hn k⟩
theorem row_turn {ns : List Int} (hn : Okn ns) {k : Nat} (hk : k ≤ 1000) (z1 z4 : Option D) (h : HP) (acc : List D) (ha : acc.length ≤ 1000) :
    ∃ y4, B__law_rows_1 [some (Sc ns), z1, some (.ref h.length), some (.int k), z4] (h ++ [.lst acc]) = .nx [some (Sc ns), z1, some (.ref h.length), some (.int k), y4] (h ++ [.lst (acc ++ [.int (rC2 ns k)])]) := by
  have ap := fun y => appL_last (y := y) (ds := acc) h (by rw [sizeLine_eq]; omega)
  have hz : ns.length ≤ sizeLine := by have := hn.1; rw [sizeLine_eq]; omega
  have c0 := rC0_sz hn k
  have c1 := rC1_sz hn k
  have n1 := rC1_nn ns k
  have ll : (ns.map D.int).length = ns.length := by simp
  have m1 : CMulE 2 (rC0 ns k) := mulX 64 1048576 (sz64 (by decide)) c0 (by decide)
  have m2 : CMulE 131 (k : Int) := mul64 (by decide) (by omega)
  have m3 : CMulE (k : Int) (k : Int) := mul64 (by omega) (by omega)
  have kk : (k : Int) * k ≤ 1000 * 1000 := Int.mul_le_mul (by omega) (by omega) (by omega) (by omega)
  have kk0 : 0 ≤ (k : Int) * k := Int.mul_nonneg (by omega) (by omega)
  have m4 : CMulE ((k : Int) * k) 69621 := mul64 (by omega) (by decide)
  have s1 := sz_add (rC1 ns k) (131 * (k : Int))
  have s2 := sz_add (rC1 ns k + 131 * (k : Int)) 7
  have s3 := sz64 (i := 131 * (k : Int)) (by omega)
  have s4 := sz64 (i := 7) (by decide)
  have m5 : CMulE (rC1 ns k + 131 * (k : Int) + 7) 48271 := mulX 1048590 64 (by omega) (sz64 (by decide)) (by decide)
  have m6 : CMulE 17 (k : Int) := mul64 (by decide) (by omega)
  have e1 := Int.emod_lt_of_pos ((rC1 ns k + 131 * k + 7) * 48271 + (k : Int) * k * 69621) (show (0 : Int) < 1000000007 by decide)
  have e2 := Int.emod_nonneg ((rC1 ns k + 131 * k + 7) * 48271 + (k : Int) * k * 69621) (show (1000000007 : Int) ≠ 0 by decide)
  have m7 : CMulE (((rC1 ns k + 131 * k + 7) * 48271 + (k : Int) * k * 69621) % 1000000007 + 17 * k + 3) 2862933555777941757 := mul64 (by omega) (by decide)
  refine ⟨some (.int (rC2 ns k)), ?_⟩
  have c4 : ¬ rC1 ns k < 0 := by omega
  by_cases a0 : ns.length = 0
  · have e0 : rC0 ns k = 0 := by unfold rC0; rw [if_pos a0]
    have er1 : rC1 ns k = 0 := by unfold rC1; rw [e0]; rfl
    have er2 : rC2 ns k = ((((rC1 ns k + 131 * k + 7) * 48271 + (k : Int) * k * 69621) % 1000000007) + 17 * k + 3) * 2862933555777941757 % 18446744073709551557 := by unfold rC2; rw [if_pos (.inl (by omega))]
    rw [er2, er1]
    rw [er1] at m5 m7
    have nil : ns = [] := List.length_eq_zero_iff.mp a0
    subst nil
    simp [Sc] at *
    simp [lg, m2, m3, m4, m5, m6, m7, ap]
  · have pl : 0 < ns.length := by omega
    have pl2 : (0 : Int) < (ns.length : Int) := by omega
    have hk2 : k % ns.length < ns.length := Nat.mod_lt _ (by omega)
    have e0 : ns[k % ns.length] = rC0 ns k := by unfold rC0; rw [if_neg a0, List.getD_eq_getElem?_getD, List.getElem?_eq_getElem hk2]; rfl
    have lgn : Nat.log2 (ns.length : Int).natAbs < 9000 := lg (by have := hn.1; omega)
    have ix : atI (ns.map D.int) ((k : Int) % (ns.length : Int)) = some (.int (rC0 ns k)) := by
      have e : (k : Int) % (ns.length : Int) = ((k % ns.length : Nat) : Int) := by omega
      rw [e, at_int hk2, e0]
    have tail : ∀ x : Int, x = rC1 ns k → True := fun _ _ => trivial
    by_cases a1 : rC0 ns k < 0
    · have er1 : 1 - 2 * rC0 ns k = rC1 ns k := by unfold rC1; rw [if_pos a1]
      by_cases a2 : ns.length ≤ k
      · have er2 : rC2 ns k = ((((rC1 ns k + 131 * k + 7) * 48271 + (k : Int) * k * 69621) % 1000000007) + 17 * k + 3) * 2862933555777941757 % 18446744073709551557 := by unfold rC2; rw [if_pos (.inl a2)]
        rw [er2]
        unfold Sc
        generalize ns.map D.int = xs at *
        simp [ll, hz, pl, pl2, lgn, ix, a1, m1, er1, a2, lg, m2, m3, m4, m5, m6, m7, ap]
      · by_cases a3 : rC1 ns k < 1000000000
        · have er2 : rC2 ns k = ((((rC1 ns k + 131 * k + 7) * 48271 + (k : Int) * k * 69621) % 1000000007) + 17 * k + 3) * 2862933555777941757 % 18446744073709551557 := by unfold rC2; rw [if_pos (.inr a3)]
          rw [er2]
          unfold Sc
          generalize ns.map D.int = xs at *
          simp [ll, hz, pl, pl2, lgn, ix, a1, m1, er1, a2, a3, lg, m2, m3, m4, m5, m6, m7, ap]
        · have er2 : rC2 ns k = rC1 ns k := by unfold rC2; rw [if_neg (by omega)]
          rw [er2]
          unfold Sc
          generalize ns.map D.int = xs at *
          simp [ll, hz, pl, pl2, lgn, ix, a1, m1, er1, a2, a3, lg, ap]
    · have er1 : rC0 ns k = rC1 ns k := by unfold rC1; rw [if_neg a1]
      rw [er1] at ix
      by_cases a2 : ns.length ≤ k
      · have er2 : rC2 ns k = ((((rC1 ns k + 131 * k + 7) * 48271 + (k : Int) * k * 69621) % 1000000007) + 17 * k + 3) * 2862933555777941757 % 18446744073709551557 := by unfold rC2; rw [if_pos (.inl a2)]
        rw [er2]
        unfold Sc
        generalize ns.map D.int = xs at *
        simp [ll, hz, pl, pl2, lgn, ix, c4, a2, lg, m2, m3, m4, m5, m6, m7, ap]
      · by_cases a3 : rC1 ns k < 1000000000
        · have er2 : rC2 ns k = ((((rC1 ns k + 131 * k + 7) * 48271 + (k : Int) * k * 69621) % 1000000007) + 17 * k + 3) * 2862933555777941757 % 18446744073709551557 := by unfold rC2; rw [if_pos (.inr a3)]
          rw [er2]
          unfold Sc
          generalize ns.map D.int = xs at *
          simp [ll, hz, pl, pl2, lgn, ix, c4, a2, a3, lg, m2, m3, m4, m5, m6, m7, ap]
        · have er2 : rC2 ns k = rC1 ns k := by unfold rC2; rw [if_neg (by omega)]
          rw [er2]
          unfold Sc
          generalize ns.map D.int = xs at *
          simp [ll, hz, pl, pl2, lgn, ix, c4, a2, a3, lg, ap]
def rowsL (ns : List Int) (n : Nat) : D := .lst ((List.range n).map fun k => .int (rC2 ns k))
theorem F_rows {ns : List Int} (hn : Okn ns) {n : Nat} (hk : n ≤ 1000) (h : HP) : F__law_rows [Sc ns, .int n] h = .ok (rowsL ns n) h := by
  obtain ⟨_, h1, e, ⟨y3, y4, rfl⟩, rfl⟩ := for_rng (asg := gNm 3) (body := B__law_rows_1) (n := n)
    (fun i env h' => (∃ y3 y4, env = [some (Sc ns), some (.int n), some (.ref h.length), y3, y4]) ∧ h' = h ++ [.lst ((List.range i).map fun k => .int (rC2 ns k))])
    (fun i env h' hi hI => by
      obtain ⟨⟨y3, y4, rfl⟩, rfl⟩ := hI
      obtain ⟨w4, e⟩ := row_turn hn (k := i) (by omega) (some (.int n)) y4 h ((List.range i).map fun k => .int (rC2 ns k)) (by simp; omega)
      exact ⟨_, rfl, _, _, .inl e, ⟨_, _, rfl⟩, by simp [List.range_succ]⟩)
    (env := [some (Sc ns), some (.int n), some (.ref h.length), none, none]) (h := h ++ [.lst []]) ⟨⟨none, none, rfl⟩, by simp⟩
  have p := pure_ref (h := h) (x := [.lst ((List.range n).map fun k => .int (rC2 ns k))]) (n := h.length) (ds := (List.range n).map fun k => .int (rC2 ns k)) (Nat.le_refl _) (by simp) (fun d hd => by
    obtain ⟨i, _, rfl⟩ := List.mem_map.mp hd
    exact clean_int _)
  have rg : Rg (n : Int) := rg_nat (by omega)
  unfold rowsL
  generalize ((List.range n).map fun k => D.int (rC2 ns k)) = qs at *
  simp [F__law_rows, rg, e, p]
/-! digits -/
theorem F_digits {base : Int} (hb : 0 < base) (lb : base < 18446744073709551616) {n : Nat} (hn : n ≤ 1000) (row : Int) (h : HP) : ∃ ds : Nat → Int, F__law_digits [.int row, .int base, .int n] h = .ok (lvec n ds) h ∧ ∀ i, 0 ≤ ds i ∧ ds i < base := by
  have lgb : Nat.log2 base.natAbs < 9000 := lg (by omega)
  refine ⟨fun i => row / base ^ i % base, ?_, fun i => ⟨Int.emod_nonneg _ (by omega), Int.emod_lt_of_pos _ hb⟩⟩
  obtain ⟨_, h1, e, ⟨y4, rfl⟩, rfl⟩ := for_rng (asg := gNm 4) (body := B__law_digits_1) (n := n)
    (fun i env h' => (∃ y4, env = [some (.int (row / base ^ i)), some (.int base), some (.int n), some (.ref h.length), y4]) ∧ h' = h ++ [.lst ((List.range i).map fun k => .int (row / base ^ k % base))])
    (fun i env h' hi hI => by
      obtain ⟨⟨y4, rfl⟩, rfl⟩ := hI
      have e : row / base ^ (i + 1) = row / base ^ i / base := by
        rw [Int.pow_succ]
        exact (Int.ediv_ediv_of_nonneg (Int.pow_nonneg (by omega))).symm
      have al : ((List.range i).map fun k => D.int (row / base ^ k % base)).length < sizeLine := by rw [sizeLine_eq]; simp; omega
      have e2 : ((List.range (i + 1)).map fun k => D.int (row / base ^ k % base)) = ((List.range i).map fun k => D.int (row / base ^ k % base)) ++ [.int (row / base ^ i % base)] := by simp [List.range_succ]
      rw [e, e2]
      generalize ((List.range i).map fun k => D.int (row / base ^ k % base)) = acc at *
      generalize row / base ^ i = r at *
      have ap := fun y => appL_last (y := y) (ds := acc) h al
      exact ⟨_, rfl, _, _, .inl (by simp [hb, lgb, ap]; rfl), ⟨_, rfl⟩, rfl⟩)
    (env := [some (.int row), some (.int base), some (.int n), some (.ref h.length), none]) (h := h ++ [.lst []]) ⟨⟨none, by simp⟩, by simp⟩
  have p := pure_ref (h := h) (x := [.lst ((List.range n).map fun k => .int (row / base ^ k % base))]) (n := h.length) (ds := (List.range n).map fun k => .int (row / base ^ k % base)) (Nat.le_refl _) (by simp) (fun d hd => by
    obtain ⟨i, _, rfl⟩ := List.mem_map.mp hd
    exact clean_int _)
  have rg : Rg (n : Int) := rg_nat (by omega)
  unfold lvec
  generalize ((List.range n).map fun k => D.int (row / base ^ k % base)) = qs at *
  simp [F__law_digits, rg, e, p]
end Lib
namespace Lib
open PySem PySem.Spec PyProof.Rows L2 Ev
/-! the greatest of a list, 0 of none -/
def mm (ns : List Int) : Int := if 0 < ns.length then maxL ns else 0
theorem mm_ok {ns : List Int} {k : Nat} (h : ∀ x ∈ ns, 0 ≤ x ∧ sz x < k) (h0 : 0 < k) : 0 ≤ mm ns ∧ sz (mm ns) < k := by
  unfold mm
  split
  · rename_i c
    exact h _ (maxL_mem (List.length_pos_iff.mp c)).1
  · exact ⟨by omega, h0⟩
theorem mm_same {xs ys : List Int} (h : ∀ x, x ∈ xs ↔ x ∈ ys) : mm xs = mm ys := by
  unfold mm
  cases xs with
  | nil =>
    cases ys with
    | nil => rfl
    | cons y ys => exact absurd ((h y).mpr (by simp)) (by simp)
  | cons x xs =>
    cases ys with
    | nil => exact absurd ((h x).mp (by simp)) (by simp)
    | cons y ys =>
      simp only [List.length_cons, Nat.zero_lt_succ, if_true]
      obtain ⟨a1, a2⟩ := maxL_mem (ns := x :: xs) (by simp)
      obtain ⟨b1, b2⟩ := maxL_mem (ns := y :: ys) (by simp)
      exact Int.le_antisymm (b2 _ ((h _).mp a1)) (a2 _ ((h _).mpr b1))
/-! one turn of a while -/
theorem wh_go {c : M Bool} {b : SM} {n : Nat} {env e2 : EN} {h h1 h2 : HP} (hc : c env h = .ok true h1) (hb : b env h1 = .nx e2 h2) : whE c b (n + 1) env h = whE c b n e2 h2 := by
  rw [whE, hc]
  simp only [R.sbind, if_pos, hb]
theorem wh_end {c : M Bool} {b : SM} {n : Nat} {env : EN} {h h1 : HP} (hc : c env h = .ok false h1) : whE c b (n + 1) env h = .nx env h1 := by
  rw [whE, hc]
  simp only [R.sbind, if_neg Bool.false_ne_true]
theorem range_succ_map {α : Type} (n : Nat) (f : Nat → α) : (List.range (n + 1)).map f = f 0 :: (List.range n).map fun i => f (i + 1) := by
  rw [List.range_succ_eq_map, List.map_cons, List.map_map]
  rfl
theorem at_map {α : Type} (f : α → D) {xs : List α} {i : Nat} (hi : i < xs.length) : atI (xs.map f) (i : Int) = some (f xs[i]) := by
  have := hi
  simp [atI, ixN, hi]
theorem mLc_tyN {α : Type} {it : IM} {own : List Nat} {asg : TF} {elt : M D} {env : EN} {h h1 : HP} {gd : GdL} (xs : List α) (f G : α → D) (hi : it env h = .ok (xs.map f, gd) h1) (hg : ∀ x, Gd gd (h1 ++ x)) (hz : xs.length ≤ 16000000)
    (H : ∀ x ∈ xs, ∀ y : HP, ∃ e, asg (f x) (wipeE env own) (h1 ++ y) = some e ∧ elt e (h1 ++ y) = .ok (G x) (h1 ++ y)) (c : ∀ x ∈ xs, clean (G x)) :
    mLc false it own asg cYes elt env h = .ok (.lst (xs.map G)) h1 := by
  unfold mLc
  rw [hi]
  simp only [R.bind]
  rw [lcE_tyG asg cYes elt _ h1 gd hg f G (fun _ => true) xs [] (by have := sizeLine_eq; simp only [List.length_nil]; omega) fun x hx y => let ⟨e, e1, e2⟩ := H x hx y; ⟨e, e1, rfl, fun _ => e2⟩, List.filter_eq_self.mpr (fun _ _ => rfl)]
  simp only [List.nil_append, outL, if_neg Bool.false_ne_true]
  exact pure_list h1 (by
    intro d hd
    obtain ⟨x, hx, rfl⟩ := List.mem_map.mp hd
    exact c x hx)
/-! a loop that may return -/
theorem for_listE {asg : TF} {body : SM} (I : Nat → EN → HP → Prop) (Q : D → HP → Prop) : ∀ (items : List D) (k : Nat), (∀ i (hi : i < items.length) env h, I (k + i) env h → ∃ e, asg items[i] env h = some e ∧ ((∃ env' h', body e h = .nx env' h' ∧ I (k + i + 1) env' h') ∨ ∃ r h', body e h = .rt r h' ∧ Q r h')) →
    ∀ env h, I k env h → (∃ env' h', forE asg body [] items env h = .nx env' h' ∧ I (k + items.length) env' h') ∨ ∃ r h', forE asg body [] items env h = .rt r h' ∧ Q r h'
  | [], k, _, env, h, i => .inl ⟨env, h, by unfold forE; rw [if_pos (by simp [Gd])], i⟩
  | d :: ds, k, H, env, h, i => by
    obtain ⟨e, e1, e2⟩ := H 0 (by simp) env h i
    rcases e2 with ⟨env', h', b, i'⟩ | ⟨r, h', b, q⟩
    · rw [for_nx (by simpa using e1) b]
      have := for_listE I Q ds (k + 1) (fun i hi env h hI => by
        obtain ⟨e, e1, e2⟩ := H (i + 1) (by simp; omega) env h (by rw [show k + (i + 1) = k + 1 + i by omega]; exact hI)
        refine ⟨e, by simpa using e1, ?_⟩
        rw [show k + 1 + i + 1 = k + (i + 1) + 1 by omega]
        exact e2) env' h' i'
      rw [List.length_cons, show k + (ds.length + 1) = k + 1 + ds.length by omega]
      exact this
    · exact .inr ⟨r, h', for_rt (by simpa using e1) b, q⟩
theorem for_rngE {asg : TF} {body : SM} (I : Nat → EN → HP → Prop) (Q : D → HP → Prop) {n : Nat}
    (hs : ∀ i env h, i < n → I i env h → ∃ e, asg (.int (i : Nat)) env h = some e ∧ ((∃ env' h', body e h = .nx env' h' ∧ I (i + 1) env' h') ∨ ∃ r h', body e h = .rt r h' ∧ Q r h'))
    {env : EN} {h : HP} (h0 : I 0 env h) : (∃ env' h', forE asg body [] (rngD 0 n) env h = .nx env' h' ∧ I n env' h') ∨ ∃ r h', forE asg body [] (rngD 0 n) env h = .rt r h' ∧ Q r h' := by
  have := for_listE (asg := asg) (body := body) I Q (rngD 0 n) 0 (fun i hi env h hI => by
    rw [rngD_len] at hi
    rw [Nat.zero_add] at hI ⊢
    obtain ⟨e, e1, e2⟩ := hs i env h hi hI
    exact ⟨e, by rw [rng_get]; exact e1, e2⟩) env h h0
  rw [rngD_len, Nat.zero_add] at this
  exact this
theorem eqvAll_len : ∀ {xs ys : List PyData}, PyData.eqvAll xs ys = true → xs.length = ys.length
  | [], [], _ => rfl
  | [], _ :: _, h => by simp [PyData.eqvAll] at h
  | _ :: _, [], h => by simp [PyData.eqvAll] at h
  | x :: xs, y :: ys, h => by
    simp only [PyData.eqvAll, Bool.and_eq_true] at h
    simp [eqvAll_len h.2]
end Lib
namespace Pg
open PySem PySem.Spec PyProof.Rows L2 Ev
def topS (i : Nat) : Stmt := PySem.Challenge.pw_sureplace_k24_steps_of_blame.main.body.getD i (.Pass ⟨0, 0, 0, 0⟩)
theorem bt_all : bootBuiltins "all" = some (.builtin "all") := by decide +kernel
theorem bt_any : bootBuiltins "any" = some (.builtin "any") := by decide +kernel
theorem bt_bool : bootBuiltins "bool" = some (.type "bool") := by decide +kernel
theorem bt_int : bootBuiltins "int" = some (.type "int") := by decide +kernel
theorem bt_len : bootBuiltins "len" = some (.builtin "len") := by decide +kernel
theorem bt_list : bootBuiltins "list" = some (.type "list") := by decide +kernel
theorem bt_max : bootBuiltins "max" = some (.builtin "max") := by decide +kernel
theorem bt_tuple : bootBuiltins "tuple" = some (.type "tuple") := by decide +kernel
abbrev s__law_number : Stmt := topS 5
theorem sc__law_number : FnScope ["script", "k", "cell", "one", "two"] ["script", "k"] (defScope s__law_number) := ⟨rfl, rfl, rfl, by decide +kernel, rfl, by decide +kernel, by decide +kernel⟩
noncomputable abbrev F__law_number : FA := Lib.F__law_number
abbrev s__law_used : Stmt := topS 7
theorem sc__law_used : FnScope ["script", "k", "many", "names", "used", "at", "cell", "count", "start", "step", "j"] ["script", "k", "many"] (defScope s__law_used) := ⟨rfl, rfl, rfl, by decide +kernel, rfl, by decide +kernel, by decide +kernel⟩
noncomputable abbrev F__law_used : FA := Lib.F__law_used
abbrev s__law_honest : Stmt := topS 8
theorem sc__law_honest : FnScope ["cell"] ["cell"] (defScope s__law_honest) := ⟨rfl, rfl, rfl, by decide +kernel, rfl, by decide +kernel, by decide +kernel⟩
noncomputable abbrev F__law_honest : FA := Lib.F__law_honest
abbrev s__law_make : Stmt := topS 11
theorem sc__law_make : FnScope ["used", "honest", "path", "left", "start", "at", "k", "free", "name", "steps", "numbers", "more"] ["used", "honest", "path", "left", "start"] (defScope s__law_make) := ⟨rfl, rfl, rfl, by decide +kernel, rfl, by decide +kernel, by decide +kernel⟩
noncomputable abbrev B__law_make_1 : SM := (sIf (mB (mBin (fIn false) (mVar 8) (mVar 2))) (sAsg (mCst (.bl false)) (gNm 7)) sNil)
noncomputable abbrev B__law_make_2 : SM := (sIf (tmAnd (mB (mBin fLt (mVar 5) (mCst (.int 0)))) (mB (mBin fNotN (mBin fIx (mVar 0) (mVar 6)) (mCst .non)))) (sSeq (sAsg (mCst (.bl true)) (gNm 7))
  (sSeq (sFor (iAny (mBin fIx (mVar 0) (mVar 6))) (gNm 8) B__law_make_1)
  (sIf (mTru (mVar 7)) (sAsg (mVar 6) (gNm 5)) sNil))) sNil)
noncomputable abbrev B__law_make_3 (S_F : FA) : SM := (sIf (mB (mBin (fIn true) (mVar 8) (mVar 1))) (sSeq (sAsg (mFn 5 S_F (aCons (mVar 0) (aCons (mVar 1) (aCons (mBin fAdd (mVar 2) (mLst false (aCons (mVar 8) aNil))) (aCons (mBin fSub (mVar 3) (mCst (.int 1))) (aCons (mBin fAdd (mBin fAdd (mVar 4) (mCst (.int 1))) (mCall bLen (aCons (mVar 9) aNil))) aNil)))))) (gNm 11))
  (sSeq (sIf (mB (mBin fIsN (mVar 11) (mCst .non))) (sRet (mCst .non)) sNil)
  (sSeq (sExp (mBm tyL lAppend (mVar 10) (aCons (mBin fAdd (mBin fAdd (mVar 4) (mCst (.int 1))) (mCall bLen (aCons (mVar 9) aNil))) aNil)))
  (sAsg (mBin fAdd (mVar 9) (mVar 11)) (gNm 9))))) sNil)
noncomputable def G__law_make (S_F : FA) : FA := fnP 12 (sSeq (sAsg (mNeg (mCst (.int 1))) (gNm 5))
  (sSeq (sFor (iRange1 (aCons (mCall bLen (aCons (mVar 0) aNil)) aNil)) (gNm 6) B__law_make_2)
  (sSeq (sIf (mB (mBin fLt (mVar 5) (mCst (.int 0)))) (sRet (mCst .non)) sNil)
  (sSeq (sIf (mB (mBin fEq (mVar 3) (mCst (.int 0)))) (sRet (mLst false (aCons (mTup (aCons (mVar 5) (aCons (mTup aNil) aNil))) aNil))) sNil)
  (sSeq (sAsg (mLst false aNil) (gNm 9))
  (sSeq (sAsg (mLst true aNil) (gNm 10))
  (sSeq (sFor (iAny (mBin fIx (mVar 0) (mVar 5))) (gNm 8) (B__law_make_3 S_F))
  (sRet (mBin fAdd (mLst false (aCons (mTup (aCons (mVar 5) (aCons (mCall bTuple (aCons (mVar 10) aNil)) aNil))) aNil)) (mVar 9))))))))))
noncomputable def Fr__law_make : Nat → FA
  | 0 => fun _ _ => .stuck
  | k + 1 => G__law_make (Fr__law_make k)
noncomputable def F__law_make : FA := Fr__law_make 5
abbrev s__law_drawn : Stmt := topS 13
theorem sc__law_drawn : FnScope ["script", "k", "many", "steps", "count", "at", "cell", "following", "j"] ["script", "k", "many"] (defScope s__law_drawn) := ⟨rfl, rfl, rfl, by decide +kernel, rfl, by decide +kernel, by decide +kernel⟩
noncomputable abbrev F__law_drawn : FA := Lib.F__law_drawn
abbrev s__law_spoilt : Stmt := topS 12
theorem sc__law_spoilt : FnScope ["steps", "cell", "many", "kind", "rest", "at", "tree", "following"] ["steps", "cell", "many"] (defScope s__law_spoilt) := ⟨rfl, rfl, rfl, by decide +kernel, rfl, by decide +kernel, by decide +kernel⟩
noncomputable abbrev F__law_spoilt : FA := Lib.F__law_spoilt
abbrev s__law_step_right : Stmt := topS 9
theorem sc__law_step_right : FnScope ["used", "step", "left", "barred", "honest", "at", "many", "tree", "name", "count", "number"] ["used", "step", "left", "barred", "honest", "at", "many"] (defScope s__law_step_right) := ⟨rfl, rfl, rfl, by decide +kernel, rfl, by decide +kernel, by decide +kernel⟩
noncomputable abbrev B__law_step_right_1 : SM := (sIf (mB (mBin (fIn false) (mVar 8) (mVar 3))) (sRet (mCst (.bl false))) sNil)
noncomputable abbrev B__law_step_right_2 : SM := (sIf (mB (mBin (fIn true) (mVar 8) (mVar 4))) (sAsg (mBin fAdd (mVar 9) (mCst (.int 1))) (gNm 9)) sNil)
noncomputable abbrev B__law_step_right_3 : SM := (sIf (tmOr (mB (mBin fLe (mVar 10) (mVar 5))) (mB (mBin fGe (mVar 10) (mVar 6)))) (sRet (mCst (.bl false))) sNil)
noncomputable def F__law_step_right : FA := fnP 11 (sSeq (sAsg (mBin fIx (mVar 1) (mCst (.int 0))) (gNm 7))
  (sSeq (sIf (tmOr (mB (mBin fLt (mVar 7) (mCst (.int 0)))) (tmOr (mB (mBin fGe (mVar 7) (mCall bLen (aCons (mVar 0) aNil)))) (mB (mBin fIsN (mBin fIx (mVar 0) (mVar 7)) (mCst .non))))) (sRet (mCst (.bl false))) sNil)
  (sSeq (sFor (iAny (mBin fIx (mVar 0) (mVar 7))) (gNm 8) B__law_step_right_1)
  (sSeq (sIf (mB (mBin fEq (mVar 2) (mCst (.int 0)))) (sRet (mBin fEq (mCall bLen (aCons (mBin fIx (mVar 1) (mCst (.int 1))) aNil)) (mCst (.int 0)))) sNil)
  (sSeq (sAsg (mCst (.int 0)) (gNm 9))
  (sSeq (sFor (iAny (mBin fIx (mVar 0) (mVar 7))) (gNm 8) B__law_step_right_2)
  (sSeq (sIf (mB (mBin fNe (mCall bLen (aCons (mBin fIx (mVar 1) (mCst (.int 1))) aNil)) (mVar 9))) (sRet (mCst (.bl false))) sNil)
  (sSeq (sFor (iAny (mBin fIx (mVar 1) (mCst (.int 1)))) (gNm 10) B__law_step_right_3)
  (sRet (mCst (.bl true)))))))))))
abbrev s__law_right : Stmt := topS 10
theorem sc__law_right : FnScope ["used", "steps", "honest", "liars", "lefts", "barred", "at", "step", "place", "name", "number"] ["used", "steps", "honest", "liars"] (defScope s__law_right) := ⟨rfl, rfl, rfl, by decide +kernel, rfl, by decide +kernel, by decide +kernel⟩
noncomputable abbrev C__law_right_1 (live : Bool) : M D := mLc live (iAny (mVar 1)) [7] (gNm 7) cYes (mNeg (mCst (.int 1)))
noncomputable abbrev C__law_right_2 (live : Bool) : M D := mLc live (iAny (mVar 1)) [7] (gNm 7) cYes (mLst false aNil)
noncomputable abbrev B__law_right_1 : SM := (sIf (tmAnd (mB (mBin (fIn true) (mVar 9) (mVar 2))) (mB (mBin fGt (mBin fIx (mVar 4) (mVar 6)) (mCst (.int 0))))) (sSeq (sAsg (mBin fIx (mBin fIx (mVar 7) (mCst (.int 1))) (mVar 8)) (gNm 10))
  (sSeq (sSetIx (mCall bMax (aCons (mBin fIx (mVar 4) (mVar 10)) (aCons (mBin fSub (mBin fIx (mVar 4) (mVar 6)) (mCst (.int 1))) aNil))) (mVar 4) (mVar 10))
  (sSeq (sSetIx (mBin fAdd (mBin fAdd (mBin fIx (mVar 5) (mVar 10)) (mBin fIx (mVar 5) (mVar 6))) (mLst false (aCons (mVar 9) aNil))) (mVar 5) (mVar 10))
  (sAsg (mBin fAdd (mVar 8) (mCst (.int 1))) (gNm 8))))) sNil)
noncomputable abbrev B__law_right_2 : SM := (sSeq (sIf (mB (mBin fLt (mBin fIx (mVar 4) (mVar 6)) (mCst (.int 0)))) sCnt sNil)
  (sSeq (sAsg (mBin fIx (mVar 1) (mVar 6)) (gNm 7))
  (sSeq (sIf (tmNot (mTru (mFn 7 F__law_step_right (aCons (mVar 0) (aCons (mVar 7) (aCons (mBin fIx (mVar 4) (mVar 6)) (aCons (mBin fIx (mVar 5) (mVar 6)) (aCons (mVar 2) (aCons (mVar 6) (aCons (mCall bLen (aCons (mVar 1) aNil)) aNil)))))))))) (sRet (mCst (.bl false))) sNil)
  (sSeq (sAsg (mCst (.int 0)) (gNm 8))
  (sFor (iAny (mBin fIx (mVar 0) (mBin fIx (mVar 7) (mCst (.int 0))))) (gNm 9) B__law_right_1)))))
noncomputable def F__law_right : FA := fnP 11 (sSeq (sAsg (C__law_right_1 true) (gNm 4))
  (sSeq (sAsg (C__law_right_2 true) (gNm 5))
  (sSeq (sIf (mB (mBin fEq (mCall bLen (aCons (mVar 1) aNil)) (mCst (.int 0)))) (sRet (mCst (.bl false))) sNil)
  (sSeq (sSetIx (mVar 3) (mVar 4) (mCst (.int 0)))
  (sSeq (sFor (iRange1 (aCons (mCall bLen (aCons (mVar 1) aNil)) aNil)) (gNm 6) B__law_right_2)
  (sRet (mCst (.bl true))))))))
abbrev s__law_truth : Stmt := topS 6
theorem sc__law_truth : FnScope ["actual", "expected"] ["actual", "expected"] (defScope s__law_truth) := ⟨rfl, rfl, rfl, by decide +kernel, rfl, by decide +kernel, by decide +kernel⟩
noncomputable abbrev F__law_truth : FA := Lib.F__law_truth
abbrev s__next_steps_right : Stmt := topS 1
theorem sc__next_steps_right : FnScope ["number", "count", "suspects", "following", "left", "step"] ["number", "count", "suspects", "following", "left"] (defScope s__next_steps_right) := ⟨rfl, rfl, rfl, by decide +kernel, rfl, by decide +kernel, by decide +kernel⟩
noncomputable abbrev F__next_steps_right : FA := Lib.F__next_steps_right
abbrev s__lead : Stmt := topS 2
theorem sc__lead : FnScope ["marks", "step", "left", "barred", "known", "names", "further", "name"] ["marks", "step", "left", "barred"] (defScope s__lead) := ⟨rfl, rfl, rfl, by decide +kernel, rfl, by decide +kernel, by decide +kernel⟩
noncomputable abbrev C__lead_1 (live : Bool) : M D := mLc live (iAny (mVar 3)) [7] (gNm 7) (mB (mBin (fIn true) (mVar 7) (mVar 5))) (mVar 7)
noncomputable def F__lead : FA := fnR 8 (sSeq (sAsg (mDGet2 (mVar 0) (mVar 1) (mTup (aCons (mVar 2) (aCons (mTup aNil) aNil)))) (gTp 2 (gsCons (gNm 4) (gsCons (gNm 5) gsNil))))
  (sSeq (sAsg (mCall bTuple (aCons (C__lead_1 false) aNil)) (gNm 6))
  (sDPut (mTup (aCons (mCall bMax (aCons (mVar 2) (aCons (mVar 4) aNil))) (aCons (mBin fAdd (mVar 5) (mVar 6)) aNil))) (mVar 0) (mVar 1))))
abbrev s_blames_right : Stmt := topS 3
theorem sc_blames_right : FnScope ["used", "steps", "honest", "liars", "marks", "number", "left", "barred", "tree", "following", "sources", "suspects", "suspect", "step", "source"] ["used", "steps", "honest", "liars"] (defScope s_blames_right) := ⟨rfl, rfl, rfl, by decide +kernel, rfl, by decide +kernel, by decide +kernel⟩
noncomputable abbrev C_blames_right_1 (live : Bool) : M D := mLc live (iAny (mVar 10)) [14] (gNm 14) cYes (mBin (fIn false) (mVar 14) (mVar 7))
noncomputable abbrev C_blames_right_2 (live : Bool) : M D := mLc live (iAny (mVar 10)) [14] (gNm 14) (mB (mBin (fIn true) (mVar 14) (mVar 2))) (mVar 14)
noncomputable abbrev B_blames_right_1 : SM := (sExp (mFn 4 F__lead (aCons (mVar 4) (aCons (mVar 13) (aCons (mBin fSub (mVar 6) (mCst (.int 1))) (aCons (mBin fAdd (mVar 7) (mTup (aCons (mVar 12) aNil))) aNil))))))
noncomputable abbrev B_blames_right_2 : SM := (sSeq (sIf (mB (mBin (fDIn true) (mVar 5) (mVar 4))) sCnt sNil)
  (sSeq (sAsg (mDGet (mVar 4) (mVar 5)) (gTp 2 (gsCons (gNm 6) (gsCons (gNm 7) gsNil))))
  (sSeq (sAsg (mBin fIx (mVar 1) (mVar 5)) (gTp 2 (gsCons (gNm 8) (gsCons (gNm 9) gsNil))))
  (sSeq (sIf (tmOr (tmNot (mB (mCh2 fLe fLt (mCst (.int 0)) (mVar 8) (mCall bLen (aCons (mVar 0) aNil))))) (mB (mBin fIsN (mBin fIx (mVar 0) (mVar 8)) (mCst .non)))) (sRet (mCst (.bl false))) sNil)
  (sSeq (sAsg (mBin fIx (mVar 0) (mVar 8)) (gNm 10))
  (sSeq (sIf (mTru (mCall bAny (aCons (C_blames_right_1 false) aNil))) (sRet (mCst (.bl false))) sNil)
  (sSeq (sAsg (C_blames_right_2 false) (gNm 11))
  (sSeq (sIf (tmNot (mTru (mFn 5 F__next_steps_right (aCons (mVar 5) (aCons (mCall bLen (aCons (mVar 1) aNil)) (aCons (mVar 11) (aCons (mVar 9) (aCons (mVar 6) aNil)))))))) (sRet (mCst (.bl false))) sNil)
  (sFor (iZipS (aCons (mVar 11) (aCons (mVar 9) aNil))) (gTp 2 (gsCons (gNm 12) (gsCons (gNm 13) gsNil))) B_blames_right_1)))))))))
noncomputable def F_blames_right : FA := fnP 15 (sSeq (sIf (mB (mBin fEq (mCall bLen (aCons (mVar 1) aNil)) (mCst (.int 0)))) (sRet (mCst (.bl false))) sNil)
  (sSeq (sAsg (mDisp1 (mCst (.int 0)) (mTup (aCons (mVar 3) (aCons (mTup aNil) aNil)))) (gNm 4))
  (sSeq (sFor (iRange1 (aCons (mCall bLen (aCons (mVar 1) aNil)) aNil)) (gNm 5) B_blames_right_2)
  (sRet (mCst (.bl true))))))
abbrev s_law : Stmt := topS 14
theorem sc_law : FnScope ["script", "first", "many", "used", "honest", "liars", "made", "rows", "steps", "given", "expected"] ["script"] (defScope s_law) := ⟨rfl, rfl, rfl, by decide +kernel, rfl, by decide +kernel, by decide +kernel⟩
noncomputable abbrev B_law_1 : SM := (sSeq (sAsg (mCall (bList false) (aCons (mVar 3) aNil)) (gNm 9))
  (sSeq (sAsg (mFn 4 F__law_right (aCons (mVar 3) (aCons (mVar 8) (aCons (mVar 4) (aCons (mVar 5) aNil))))) (gNm 10))
  (sSeq (sIf (tmNot (mTru (mFn 2 F__law_truth (aCons (mCallN 2 2 gApp F_blames_right (aCons (mVar 9) (aCons (mCall bTuple (aCons (mVar 8) aNil)) aNil)) (aCons (mVar 4) (aCons (mVar 5) aNil))) (aCons (mVar 10) aNil))))) (sRet (mCst (.bl false))) sNil)
  (sIf (mB (mBin fNe (mVar 9) (mVar 3))) (sRet (mCst (.bl false))) sNil))))
noncomputable def T_law_2 : SM := (sSeq (sIf (mB (mBin fEq (mVar 4) (mTup aNil))) (sRet (mFn 2 F__law_truth (aCons (mCallN 2 1 (gPreD [.tup []]) F_blames_right (aCons (mVar 3) (aCons (mCall bTuple (aCons (mBin fIx (mVar 7) (mNeg (mCst (.int 1)))) aNil)) aNil)) (aCons (mVar 5) aNil)) (aCons (mFn 4 F__law_right (aCons (mVar 3) (aCons (mBin fIx (mVar 7) (mNeg (mCst (.int 1)))) (aCons (mTup aNil) (aCons (mVar 5) aNil))))) aNil)))) sNil)
  (sRet (mCst (.bl true))))
noncomputable def T_law_1 : SM := (sSeq (sAsg (mLst true (aCons (mFn 3 F__law_drawn (aCons (mVar 0) (aCons (mCst (.int 7)) (aCons (mVar 2) aNil)))) (aCons (mLst false aNil) aNil))) (gNm 7))
  (sSeq (sIf (mB (mBin fNotN (mVar 6) (mCst .non))) (sSeq (sExp (mBm tyL lAppend (mVar 7) (aCons (mVar 6) aNil)))
  (sSeq (sExp (mBm tyL lAppend (mVar 7) (aCons (mFn 3 F__law_spoilt (aCons (mVar 6) (aCons (mFn 2 F__law_number (aCons (mVar 0) (aCons (mCst (.int 13)) aNil))) (aCons (mVar 2) aNil)))) aNil)))
  (sExp (mBm tyL lAppend (mVar 7) (aCons (mBin fAdd (mFn 3 F__law_spoilt (aCons (mVar 6) (aCons (mFn 2 F__law_number (aCons (mVar 0) (aCons (mCst (.int 14)) aNil))) (aCons (mVar 2) aNil)))) (mLst false (aCons (mTup (aCons (mCst (.int 9)) (aCons (mTup (aCons (mCst (.int 0)) (aCons (mCst (.int 0)) aNil))) aNil))) aNil))) aNil))))) sNil)
  (sSeq (sFor (iAny (mVar 7)) (gNm 8) B_law_1)
  T_law_2)))
noncomputable def F_law : FA := fnP 11 (sSeq (sAsg (mFn 2 F__law_number (aCons (mVar 0) (aCons (mCst (.int 0)) aNil))) (gNm 1))
  (sSeq (sAsg (mBin fMod (mCall bInt (aCons (mVar 1) aNil)) (mCst (.int 6))) (gNm 2))
  (sSeq (sAsg (mFn 3 F__law_used (aCons (mVar 0) (aCons (mCst (.int 1)) (aCons (mVar 2) aNil)))) (gNm 3))
  (sSeq (sAsg (mFn 1 F__law_honest (aCons (mBin fDiv (mVar 1) (mCst (.int 6))) aNil)) (gNm 4))
  (sSeq (sAsg (mBin fMod (mCall bInt (aCons (mBin fDiv (mVar 1) (mCst (.int 30))) aNil)) (mCst (.int 4))) (gNm 5))
  (sSeq (sAsg (mFn 5 F__law_make (aCons (mVar 3) (aCons (mVar 4) (aCons (mLst false aNil) (aCons (mVar 5) (aCons (mCst (.int 0)) aNil)))))) (gNm 6))
  T_law_1))))))
noncomputable abbrev H_law_1 (T : SM) : SM := (sSeq (sAsg (mLst true (aCons (mFn 3 F__law_drawn (aCons (mVar 0) (aCons (mCst (.int 7)) (aCons (mVar 2) aNil)))) (aCons (mLst false aNil) aNil))) (gNm 7))
  (sSeq (sIf (mB (mBin fNotN (mVar 6) (mCst .non))) (sSeq (sExp (mBm tyL lAppend (mVar 7) (aCons (mVar 6) aNil)))
  (sSeq (sExp (mBm tyL lAppend (mVar 7) (aCons (mFn 3 F__law_spoilt (aCons (mVar 6) (aCons (mFn 2 F__law_number (aCons (mVar 0) (aCons (mCst (.int 13)) aNil))) (aCons (mVar 2) aNil)))) aNil)))
  (sExp (mBm tyL lAppend (mVar 7) (aCons (mBin fAdd (mFn 3 F__law_spoilt (aCons (mVar 6) (aCons (mFn 2 F__law_number (aCons (mVar 0) (aCons (mCst (.int 14)) aNil))) (aCons (mVar 2) aNil)))) (mLst false (aCons (mTup (aCons (mCst (.int 9)) (aCons (mTup (aCons (mCst (.int 0)) (aCons (mCst (.int 0)) aNil))) aNil))) aNil))) aNil))))) sNil)
  (sSeq (sFor (iAny (mVar 7)) (gNm 8) B_law_1)
  T)))
theorem T_law_1_eq : T_law_1 = H_law_1 T_law_2 := rfl
noncomputable abbrev H_law_0 (T : SM) : SM := (sSeq (sAsg (mFn 2 F__law_number (aCons (mVar 0) (aCons (mCst (.int 0)) aNil))) (gNm 1))
  (sSeq (sAsg (mBin fMod (mCall bInt (aCons (mVar 1) aNil)) (mCst (.int 6))) (gNm 2))
  (sSeq (sAsg (mFn 3 F__law_used (aCons (mVar 0) (aCons (mCst (.int 1)) (aCons (mVar 2) aNil)))) (gNm 3))
  (sSeq (sAsg (mFn 1 F__law_honest (aCons (mBin fDiv (mVar 1) (mCst (.int 6))) aNil)) (gNm 4))
  (sSeq (sAsg (mBin fMod (mCall bInt (aCons (mBin fDiv (mVar 1) (mCst (.int 30))) aNil)) (mCst (.int 4))) (gNm 5))
  (sSeq (sAsg (mFn 5 F__law_make (aCons (mVar 3) (aCons (mVar 4) (aCons (mLst false aNil) (aCons (mVar 5) (aCons (mCst (.int 0)) aNil)))))) (gNm 6))
  T))))))
theorem F_law_eq : F_law = fnP 11 (H_law_0 T_law_1) := rfl
section
variable {P : Program} {w : World} {K : PySem.W.Frag} {mg : Str → Option Value} {base : Heap}
theorem passE {X : Cx} {E : XK} : Passes CX0 X E := fun _ _ _ _ _ _ _ h => h.elim
abbrev gg (K : PySem.W.Frag) : G := ⟨K, fun _ => 0⟩
set_option maxHeartbeats 4000000 in
theorem ok__law_number {f : Addr} {fd : FuncData} (F : Fun K "_law_number" "_law_number" s__law_number f fd) (z_int : mg "int" = none) (z_len : mg "len" = none) : FnOk P w K mg base CX0 1 f fd ["script", "k"] (spF (gg K) 2 F__law_number) := by
  refine Fn0 F sc__law_number (fun hl h => fnP_ends (N := 5) hl h) fun cdv A outer s H E hr => ?_
  have nd := sc__law_number.nd
  exact (.cons (.set (i := 2) (.bin (ok_add rfl) (.bin ok_mul .int (.var (i := 1) rfl rfl (by first | exact Or.inl rfl | exact Or.inr (Or.inl rfl) | exact Or.inr (Or.inr rfl)) (by decide) (by decide))) .int) nd rfl (by first | exact Or.inl rfl | exact Or.inr rfl) rfl (Or.inl rfl))
  (.cons (.if_ (.cmp ok_lt (.var (i := 1) rfl rfl (by first | exact Or.inl rfl | exact Or.inr (Or.inl rfl) | exact Or.inr (Or.inr rfl)) (by decide) (by decide)) (.callB (cv_len rfl) z_len (.cons (.var (i := 0) rfl rfl (by first | exact Or.inl rfl | exact Or.inr (Or.inl rfl) | exact Or.inr (Or.inr rfl)) (by decide) (by decide)) .nil rfl) (by rfl) bt_len (by decide) (by decide) rfl rfl) rfl) (.one (.set (i := 2) (.callT cv_int z_int (.cons (.ix rfl (.var (i := 0) rfl rfl (by first | exact Or.inl rfl | exact Or.inr (Or.inl rfl) | exact Or.inr (Or.inr rfl)) (by decide) (by decide)) (.var (i := 1) rfl rfl (by first | exact Or.inl rfl | exact Or.inr (Or.inl rfl) | exact Or.inr (Or.inr rfl)) (by decide) (by decide)) (fun _ _ => rfl)) .nil rfl) (by rfl) bt_int (by decide) (by decide) rfl rfl) nd rfl (by first | exact Or.inl rfl | exact Or.inr rfl) rfl (Or.inl rfl))) .nil)
  (.cons (.if_ (.cmp ok_lt (.var (i := 2) rfl rfl (by first | exact Or.inl rfl | exact Or.inr (Or.inl rfl) | exact Or.inr (Or.inr rfl)) (by decide) (by decide)) .int rfl) (.one (.set (i := 2) (.bin ok_sub .int (.bin ok_mul .int (.var (i := 2) rfl rfl (by first | exact Or.inl rfl | exact Or.inr (Or.inl rfl) | exact Or.inr (Or.inr rfl)) (by decide) (by decide)))) nd rfl (by first | exact Or.inl rfl | exact Or.inr rfl) rfl (Or.inl rfl))) .nil)
  (.cons (.if_ (.cmp ok_lt (.var (i := 2) rfl rfl (by first | exact Or.inl rfl | exact Or.inr (Or.inl rfl) | exact Or.inr (Or.inr rfl)) (by decide) (by decide)) .int rfl) (.cons (.set (i := 3) (.bin ok_mod (.callT cv_int z_int (.cons (.bin (ok_add rfl) (.bin (ok_add rfl) (.bin ok_mul (.var (i := 2) rfl rfl (by first | exact Or.inl rfl | exact Or.inr (Or.inl rfl) | exact Or.inr (Or.inr rfl)) (by decide) (by decide)) .int) (.bin ok_mul (.var (i := 1) rfl rfl (by first | exact Or.inl rfl | exact Or.inr (Or.inl rfl) | exact Or.inr (Or.inr rfl)) (by decide) (by decide)) .int)) .int) .nil rfl) (by rfl) bt_int (by decide) (by decide) rfl rfl) .int) nd rfl (by first | exact Or.inl rfl | exact Or.inr rfl) rfl (Or.inl rfl))
  (.cons (.set (i := 4) (.bin ok_mod (.callT cv_int z_int (.cons (.bin (ok_add rfl) (.bin (ok_add rfl) (.bin ok_mul (.var (i := 3) rfl rfl (by first | exact Or.inl rfl | exact Or.inr (Or.inl rfl) | exact Or.inr (Or.inr rfl)) (by decide) (by decide)) .int) (.bin ok_mul (.var (i := 1) rfl rfl (by first | exact Or.inl rfl | exact Or.inr (Or.inl rfl) | exact Or.inr (Or.inr rfl)) (by decide) (by decide)) .int)) .int) .nil rfl) (by rfl) bt_int (by decide) (by decide) rfl rfl) .int) nd rfl (by first | exact Or.inl rfl | exact Or.inr rfl) rfl (Or.inl rfl))
  (.one (.set (i := 2) (.bin (ok_add rfl) (.bin ok_mul (.var (i := 3) rfl rfl (by first | exact Or.inl rfl | exact Or.inr (Or.inl rfl) | exact Or.inr (Or.inr rfl)) (by decide) (by decide)) .int) (.var (i := 4) rfl rfl (by first | exact Or.inl rfl | exact Or.inr (Or.inl rfl) | exact Or.inr (Or.inr rfl)) (by decide) (by decide))) nd rfl (by first | exact Or.inl rfl | exact Or.inr rfl) rfl (Or.inl rfl))))) .nil)
  (.one (.ret (.var (i := 2) rfl rfl (by first | exact Or.inl rfl | exact Or.inr (Or.inl rfl) | exact Or.inr (Or.inr rfl)) (by decide) (by decide))))))))
set_option maxHeartbeats 4000000 in
theorem ok__law_used {f : Addr} {fd : FuncData} (F : Fun K "_law_used" "_law_used" s__law_used f fd) {f__law_number : Addr} {fd__law_number : FuncData} (o__law_number : FnOk P w K mg base CX0 1 f__law_number fd__law_number ["script", "k"] (spF (gg K) 2 F__law_number)) (b__law_number : Binds K fd__law_number ["script", "k"] []) (m__law_number : mg "_law_number" = some (.ref f__law_number)) (k__law_number : PySem.W.keepIn K (.ref f__law_number) = true) (z_int : mg "int" = none) (z_range : mg "range" = none) (z_tuple : mg "tuple" = none) : FnOk P w K mg base CX0 2 f fd ["script", "k", "many"] (spF (gg K) 3 F__law_used) := by
  refine Fn0 F sc__law_used (fun hl h => fnP_ends (N := 11) hl h) fun cdv A outer s H E hr => ?_
  have nd := sc__law_used.nd
  exact (.cons (.set (i := 3) (.lst false (.cons .str (.cons .str (.cons .str (.cons .str .nil rfl) rfl) rfl) rfl)) nd rfl (by first | exact Or.inl rfl | exact Or.inr rfl) rfl (Or.inl rfl))
  (.cons (.set (i := 4) (.lst true .nil) nd rfl (by first | exact Or.inl rfl | exact Or.inr rfl) rfl (Or.inl rfl))
  (.cons (.for_ PassesOwn.never rfl (.range1 z_range (.cons (.var (i := 2) rfl rfl (by first | exact Or.inl rfl | exact Or.inr (Or.inl rfl) | exact Or.inr (Or.inr rfl)) (by decide) (by decide)) .nil rfl) (by rfl) (by rfl)) (.name nd rfl (by first | exact Or.inl rfl | exact Or.inr rfl) (by first | exact Or.inl rfl | exact Or.inr rfl)) (.cons (.set (i := 6) (.call o__law_number (hr.mono (by decide)) m__law_number k__law_number b__law_number passE (.cons (.var (i := 0) rfl rfl (by first | exact Or.inl rfl | exact Or.inr (Or.inl rfl) | exact Or.inr (Or.inr rfl)) (by decide) (by decide)) (.cons (.bin (ok_add rfl) (.var (i := 1) rfl rfl (by first | exact Or.inl rfl | exact Or.inr (Or.inl rfl) | exact Or.inr (Or.inr rfl)) (by decide) (by decide)) (.var (i := 5) rfl rfl (by first | exact Or.inl rfl | exact Or.inr (Or.inl rfl) | exact Or.inr (Or.inr rfl)) (by decide) (by decide))) .nil rfl) rfl) (by rfl) (by decide) rfl rfl) nd rfl (by first | exact Or.inl rfl | exact Or.inr rfl) rfl (Or.inl rfl))
  (.one (.if_ (.cmp (ok_eq rfl hr.units) (.bin ok_mod (.callT cv_int z_int (.cons (.var (i := 6) rfl rfl (by first | exact Or.inl rfl | exact Or.inr (Or.inl rfl) | exact Or.inr (Or.inr rfl)) (by decide) (by decide)) .nil rfl) (by rfl) bt_int (by decide) (by decide) rfl rfl) .int) .int rfl) (.one (.exp (.bm rfl PySem.F.plainAttrs_list PySem.F.slot_list_append PySem.F.type_list_append bm_append (.var (i := 4) rfl rfl (by first | exact Or.inl rfl | exact Or.inr (Or.inl rfl) | exact Or.inr (Or.inr rfl)) (by decide) (by decide)) (.cons .non .nil rfl) rfl rfl rfl rfl rfl) rfl)) (.cons (.set (i := 7) (.ix rfl (.lst false (.cons .int (.cons .int (.cons .int (.cons .int (.cons .int (.cons .int .nil rfl) rfl) rfl) rfl) rfl) rfl)) (.bin ok_mod (.callT cv_int z_int (.cons (.bin ok_div (.var (i := 6) rfl rfl (by first | exact Or.inl rfl | exact Or.inr (Or.inl rfl) | exact Or.inr (Or.inr rfl)) (by decide) (by decide)) .int) .nil rfl) (by rfl) bt_int (by decide) (by decide) rfl rfl) .int) (fun _ _ => rfl)) nd rfl (by first | exact Or.inl rfl | exact Or.inr rfl) rfl (Or.inl rfl))
  (.cons (.set (i := 8) (.bin ok_mod (.callT cv_int z_int (.cons (.bin ok_div (.var (i := 6) rfl rfl (by first | exact Or.inl rfl | exact Or.inr (Or.inl rfl) | exact Or.inr (Or.inr rfl)) (by decide) (by decide)) .int) .nil rfl) (by rfl) bt_int (by decide) (by decide) rfl rfl) .int) nd rfl (by first | exact Or.inl rfl | exact Or.inr rfl) rfl (Or.inl rfl))
  (.cons (.set (i := 9) (.bin (ok_add rfl) .int (.bin ok_mul .int (.callT cv_int z_int (.cons (.bin ok_mod (.callT cv_int z_int (.cons (.bin ok_div (.var (i := 6) rfl rfl (by first | exact Or.inl rfl | exact Or.inr (Or.inl rfl) | exact Or.inr (Or.inr rfl)) (by decide) (by decide)) .int) .nil rfl) (by rfl) bt_int (by decide) (by decide) rfl rfl) .int) .nil rfl) (by rfl) bt_int (by decide) (by decide) rfl rfl))) nd rfl (by first | exact Or.inl rfl | exact Or.inr rfl) rfl (Or.inl rfl))
  (.one (.exp (.bm rfl PySem.F.plainAttrs_list PySem.F.slot_list_append PySem.F.type_list_append bm_append (.var (i := 4) rfl rfl (by first | exact Or.inl rfl | exact Or.inr (Or.inl rfl) | exact Or.inr (Or.inr rfl)) (by decide) (by decide)) (.cons (.callT (cv_tuple rfl) z_tuple (.cons (.lc false rfl nd (LCV.mk' (own := [("j", 10)]) (is := [10]) (by kernel_rfl) (.range1 z_range (.cons (.var (i := 7) rfl rfl (by first | exact Or.inl rfl | exact Or.inr (Or.inl rfl) | exact Or.inr (Or.inr rfl)) (by decide) (by decide)) .nil rfl) (by rfl) (by rfl)) (fun _ _ _ _ _ => (.name nd rfl (by first | exact Or.inl rfl | exact Or.inr rfl) (by first | exact Or.inl rfl | exact Or.inr rfl))) (fun _ _ _ _ _ => .nil) (fun _ _ _ _ _ => (.ix rfl (.var (i := 3) rfl rfl (by first | exact Or.inl rfl | exact Or.inr (Or.inl rfl) | exact Or.inr (Or.inr rfl)) (by decide) (by decide)) (.bin ok_mod (.bin (ok_add rfl) (.var (i := 8) rfl rfl (by first | exact Or.inl rfl | exact Or.inr (Or.inl rfl) | exact Or.inr (Or.inr rfl)) (by decide) (by decide)) (.bin ok_mul (.var (i := 9) rfl rfl (by first | exact Or.inl rfl | exact Or.inr (Or.inl rfl) | exact Or.inr (Or.inr rfl)) (by decide) (by decide)) (.var (i := 10) rfl rfl (by first | exact Or.inl rfl | exact Or.inr (Or.inl rfl) | exact Or.inr (Or.inr rfl)) (by decide) (by decide)))) .int) (fun _ _ => rfl))) (by decide)) (fun _ => rfl)) .nil rfl) (by rfl) bt_tuple (by decide) (by decide) rfl rfl) .nil rfl) rfl rfl rfl rfl rfl) rfl)))))))) (fun _ => rfl))
  (.one (.ret (.var (i := 4) rfl rfl (by first | exact Or.inl rfl | exact Or.inr (Or.inl rfl) | exact Or.inr (Or.inr rfl)) (by decide) (by decide)))))))
set_option maxHeartbeats 4000000 in
theorem ok__law_honest {f : Addr} {fd : FuncData} (F : Fun K "_law_honest" "_law_honest" s__law_honest f fd) (z_int : mg "int" = none) : FnOk P w K mg base CX0 1 f fd ["cell"] (spF (gg K) 1 F__law_honest) := by
  refine Fn0 F sc__law_honest (fun hl h => fnP_ends (N := 1) hl h) fun cdv A outer s H E hr => ?_
  have nd := sc__law_honest.nd
  exact (.one (.ret (.ix rfl (.lst false (.cons (.tup .nil) (.cons (.tup .nil) (.cons (.tup (.cons .str .nil rfl)) (.cons (.tup (.cons .str (.cons .str .nil rfl) rfl)) (.cons (.tup (.cons .str .nil rfl)) .nil rfl) rfl) rfl) rfl) rfl)) (.bin ok_mod (.callT cv_int z_int (.cons (.var (i := 0) rfl rfl (by first | exact Or.inl rfl | exact Or.inr (Or.inl rfl) | exact Or.inr (Or.inr rfl)) (by decide) (by decide)) .nil rfl) (by rfl) bt_int (by decide) (by decide) rfl rfl) .int) (fun _ _ => rfl))))
set_option maxHeartbeats 4000000 in
theorem okr__law_make {f : Addr} {fd : FuncData} (F : Fun K "_law_make" "_law_make" s__law_make f fd) (z_len : mg "len" = none) (z_range : mg "range" = none) (z_tuple : mg "tuple" = none) (m_self : mg "_law_make" = some (.ref f)) (k_self : PySem.W.keepIn K (.ref f) = true) (b_self : Binds K fd ["used", "honest", "path", "left", "start"] []) : ∀ j, FnOk P w K mg base CX0 (0 + j) f fd ["used", "honest", "path", "left", "start"] (spF (gg K) 5 (Fr__law_make j))
  | 0 => fn_no rfl
  | j + 1 => by
    have o_self := okr__law_make F z_len z_range z_tuple m_self k_self b_self j
    refine Fn0 F sc__law_make (fun hl h => fnP_ends (N := 12) hl h) fun cdv A outer s H E hr => ?_
    have nd := sc__law_make.nd
    exact (.cons (.set (i := 5) (.neg .int) nd rfl (by first | exact Or.inl rfl | exact Or.inr rfl) rfl (Or.inl rfl))
  (.cons (.for_ PassesOwn.never rfl (.range1 z_range (.cons (.callB (cv_len rfl) z_len (.cons (.var (i := 0) rfl rfl (by first | exact Or.inl rfl | exact Or.inr (Or.inl rfl) | exact Or.inr (Or.inr rfl)) (by decide) (by decide)) .nil rfl) (by rfl) bt_len (by decide) (by decide) rfl rfl) .nil rfl) (by rfl) (by rfl)) (.name nd rfl (by first | exact Or.inl rfl | exact Or.inr rfl) (by first | exact Or.inl rfl | exact Or.inr rfl)) (.one (.if_ (WV.tv (.and_ (.cmp ok_lt (.var (i := 5) rfl rfl (by first | exact Or.inl rfl | exact Or.inr (Or.inl rfl) | exact Or.inr (Or.inr rfl)) (by decide) (by decide)) .int rfl) (.and1 (.cmp ok_notN (.ix rfl (.var (i := 0) rfl rfl (by first | exact Or.inl rfl | exact Or.inr (Or.inl rfl) | exact Or.inr (Or.inr rfl)) (by decide) (by decide)) (.var (i := 6) rfl rfl (by first | exact Or.inl rfl | exact Or.inr (Or.inl rfl) | exact Or.inr (Or.inr rfl)) (by decide) (by decide)) (fun _ _ => rfl)) .non rfl)))) (.cons (.set (i := 7) .bl nd rfl (by first | exact Or.inl rfl | exact Or.inr rfl) rfl (Or.inl rfl))
  (.cons (.for_ PassesOwn.never rfl (.any rfl (.ix rfl (.var (i := 0) rfl rfl (by first | exact Or.inl rfl | exact Or.inr (Or.inl rfl) | exact Or.inr (Or.inr rfl)) (by decide) (by decide)) (.var (i := 6) rfl rfl (by first | exact Or.inl rfl | exact Or.inr (Or.inl rfl) | exact Or.inr (Or.inr rfl)) (by decide) (by decide)) (fun _ _ => rfl))) (.name nd rfl (by first | exact Or.inl rfl | exact Or.inr rfl) (by first | exact Or.inl rfl | exact Or.inr rfl)) (.one (.if_ (.cmp (ok_in rfl) (.var (i := 8) rfl rfl (by first | exact Or.inl rfl | exact Or.inr (Or.inl rfl) | exact Or.inr (Or.inr rfl)) (by decide) (by decide)) (.var (i := 2) rfl rfl (by first | exact Or.inl rfl | exact Or.inr (Or.inl rfl) | exact Or.inr (Or.inr rfl)) (by decide) (by decide)) rfl) (.one (.set (i := 7) .bl nd rfl (by first | exact Or.inl rfl | exact Or.inr rfl) rfl (Or.inl rfl))) .nil)) (fun _ => rfl))
  (.one (.if_ (.tru rfl (.var (i := 7) rfl rfl (by first | exact Or.inl rfl | exact Or.inr (Or.inl rfl) | exact Or.inr (Or.inr rfl)) (by decide) (by decide)) (fun _ => rfl)) (.one (.set (i := 5) (.var (i := 6) rfl rfl (by first | exact Or.inl rfl | exact Or.inr (Or.inl rfl) | exact Or.inr (Or.inr rfl)) (by decide) (by decide)) nd rfl (by first | exact Or.inl rfl | exact Or.inr rfl) rfl (Or.inl rfl))) .nil)))) .nil)) (fun _ => rfl))
  (.cons (.if_ (.cmp ok_lt (.var (i := 5) rfl rfl (by first | exact Or.inl rfl | exact Or.inr (Or.inl rfl) | exact Or.inr (Or.inr rfl)) (by decide) (by decide)) .int rfl) (.one (.ret .non)) .nil)
  (.cons (.if_ (.cmp (ok_eq rfl hr.units) (.var (i := 3) rfl rfl (by first | exact Or.inl rfl | exact Or.inr (Or.inl rfl) | exact Or.inr (Or.inr rfl)) (by decide) (by decide)) .int rfl) (.one (.ret (.lst false (.cons (.tup (.cons (.var (i := 5) rfl rfl (by first | exact Or.inl rfl | exact Or.inr (Or.inl rfl) | exact Or.inr (Or.inr rfl)) (by decide) (by decide)) (.cons (.tup .nil) .nil rfl) rfl)) .nil rfl)))) .nil)
  (.cons (.set (i := 9) (.lst false .nil) nd rfl (by first | exact Or.inl rfl | exact Or.inr rfl) rfl (Or.inl rfl))
  (.cons (.set (i := 10) (.lst true .nil) nd rfl (by first | exact Or.inl rfl | exact Or.inr rfl) rfl (Or.inl rfl))
  (.cons (.for_ PassesOwn.never rfl (.any rfl (.ix rfl (.var (i := 0) rfl rfl (by first | exact Or.inl rfl | exact Or.inr (Or.inl rfl) | exact Or.inr (Or.inr rfl)) (by decide) (by decide)) (.var (i := 5) rfl rfl (by first | exact Or.inl rfl | exact Or.inr (Or.inl rfl) | exact Or.inr (Or.inr rfl)) (by decide) (by decide)) (fun _ _ => rfl))) (.name nd rfl (by first | exact Or.inl rfl | exact Or.inr rfl) (by first | exact Or.inl rfl | exact Or.inr rfl)) (.one (.if_ (.cmp (ok_notin rfl) (.var (i := 8) rfl rfl (by first | exact Or.inl rfl | exact Or.inr (Or.inl rfl) | exact Or.inr (Or.inr rfl)) (by decide) (by decide)) (.var (i := 1) rfl rfl (by first | exact Or.inl rfl | exact Or.inr (Or.inl rfl) | exact Or.inr (Or.inr rfl)) (by decide) (by decide)) rfl) (.cons (.set (i := 11) (.call o_self (hr.mono (by show _ ≤ 0 + j; omega)) m_self k_self b_self passE (.cons (.var (i := 0) rfl rfl (by first | exact Or.inl rfl | exact Or.inr (Or.inl rfl) | exact Or.inr (Or.inr rfl)) (by decide) (by decide)) (.cons (.var (i := 1) rfl rfl (by first | exact Or.inl rfl | exact Or.inr (Or.inl rfl) | exact Or.inr (Or.inr rfl)) (by decide) (by decide)) (.cons (.bin (ok_add rfl) (.var (i := 2) rfl rfl (by first | exact Or.inl rfl | exact Or.inr (Or.inl rfl) | exact Or.inr (Or.inr rfl)) (by decide) (by decide)) (.lst false (.cons (.var (i := 8) rfl rfl (by first | exact Or.inl rfl | exact Or.inr (Or.inl rfl) | exact Or.inr (Or.inr rfl)) (by decide) (by decide)) .nil rfl))) (.cons (.bin ok_sub (.var (i := 3) rfl rfl (by first | exact Or.inl rfl | exact Or.inr (Or.inl rfl) | exact Or.inr (Or.inr rfl)) (by decide) (by decide)) .int) (.cons (.bin (ok_add rfl) (.bin (ok_add rfl) (.var (i := 4) rfl rfl (by first | exact Or.inl rfl | exact Or.inr (Or.inl rfl) | exact Or.inr (Or.inr rfl)) (by decide) (by decide)) .int) (.callB (cv_len rfl) z_len (.cons (.var (i := 9) rfl rfl (by first | exact Or.inl rfl | exact Or.inr (Or.inl rfl) | exact Or.inr (Or.inr rfl)) (by decide) (by decide)) .nil rfl) (by rfl) bt_len (by decide) (by decide) rfl rfl)) .nil rfl) rfl) rfl) rfl) rfl) (by rfl) (by decide) rfl rfl) nd rfl (by first | exact Or.inl rfl | exact Or.inr rfl) rfl (Or.inl rfl))
  (.cons (.if_ (.cmp ok_isN (.var (i := 11) rfl rfl (by first | exact Or.inl rfl | exact Or.inr (Or.inl rfl) | exact Or.inr (Or.inr rfl)) (by decide) (by decide)) .non rfl) (.one (.ret .non)) .nil)
  (.cons (.exp (.bm rfl PySem.F.plainAttrs_list PySem.F.slot_list_append PySem.F.type_list_append bm_append (.var (i := 10) rfl rfl (by first | exact Or.inl rfl | exact Or.inr (Or.inl rfl) | exact Or.inr (Or.inr rfl)) (by decide) (by decide)) (.cons (.bin (ok_add rfl) (.bin (ok_add rfl) (.var (i := 4) rfl rfl (by first | exact Or.inl rfl | exact Or.inr (Or.inl rfl) | exact Or.inr (Or.inr rfl)) (by decide) (by decide)) .int) (.callB (cv_len rfl) z_len (.cons (.var (i := 9) rfl rfl (by first | exact Or.inl rfl | exact Or.inr (Or.inl rfl) | exact Or.inr (Or.inr rfl)) (by decide) (by decide)) .nil rfl) (by rfl) bt_len (by decide) (by decide) rfl rfl)) .nil rfl) rfl rfl rfl rfl rfl) rfl)
  (.one (.set (i := 9) (.bin (ok_add rfl) (.var (i := 9) rfl rfl (by first | exact Or.inl rfl | exact Or.inr (Or.inl rfl) | exact Or.inr (Or.inr rfl)) (by decide) (by decide)) (.var (i := 11) rfl rfl (by first | exact Or.inl rfl | exact Or.inr (Or.inl rfl) | exact Or.inr (Or.inr rfl)) (by decide) (by decide))) nd rfl (by first | exact Or.inl rfl | exact Or.inr rfl) rfl (Or.inl rfl)))))) .nil)) (fun _ => rfl))
  (.one (.ret (.bin (ok_add rfl) (.lst false (.cons (.tup (.cons (.var (i := 5) rfl rfl (by first | exact Or.inl rfl | exact Or.inr (Or.inl rfl) | exact Or.inr (Or.inr rfl)) (by decide) (by decide)) (.cons (.callT (cv_tuple rfl) z_tuple (.cons (.var (i := 10) rfl rfl (by first | exact Or.inl rfl | exact Or.inr (Or.inl rfl) | exact Or.inr (Or.inr rfl)) (by decide) (by decide)) .nil rfl) (by rfl) bt_tuple (by decide) (by decide) rfl rfl) .nil rfl) rfl)) .nil rfl)) (.var (i := 9) rfl rfl (by first | exact Or.inl rfl | exact Or.inr (Or.inl rfl) | exact Or.inr (Or.inr rfl)) (by decide) (by decide))))))))))))
theorem ok__law_make {f : Addr} {fd : FuncData} (F : Fun K "_law_make" "_law_make" s__law_make f fd) (z_len : mg "len" = none) (z_range : mg "range" = none) (z_tuple : mg "tuple" = none) (m_self : mg "_law_make" = some (.ref f)) (k_self : PySem.W.keepIn K (.ref f) = true) (b_self : Binds K fd ["used", "honest", "path", "left", "start"] []) : FnOk P w K mg base CX0 5 f fd ["used", "honest", "path", "left", "start"] (spF (gg K) 5 F__law_make) := okr__law_make F z_len z_range z_tuple m_self k_self b_self 5
set_option maxHeartbeats 4000000 in
theorem ok__law_drawn {f : Addr} {fd : FuncData} (F : Fun K "_law_drawn" "_law_drawn" s__law_drawn f fd) {f__law_number : Addr} {fd__law_number : FuncData} (o__law_number : FnOk P w K mg base CX0 1 f__law_number fd__law_number ["script", "k"] (spF (gg K) 2 F__law_number)) (b__law_number : Binds K fd__law_number ["script", "k"] []) (m__law_number : mg "_law_number" = some (.ref f__law_number)) (k__law_number : PySem.W.keepIn K (.ref f__law_number) = true) (z_int : mg "int" = none) (z_range : mg "range" = none) (z_tuple : mg "tuple" = none) : FnOk P w K mg base CX0 2 f fd ["script", "k", "many"] (spF (gg K) 3 F__law_drawn) := by
  refine Fn0 F sc__law_drawn (fun hl h => fnP_ends (N := 9) hl h) fun cdv A outer s H E hr => ?_
  have nd := sc__law_drawn.nd
  exact (.cons (.set (i := 3) (.lst true .nil) nd rfl (by first | exact Or.inl rfl | exact Or.inr rfl) rfl (Or.inl rfl))
  (.cons (.set (i := 4) (.bin (ok_add rfl) .int (.bin ok_mod (.callT cv_int z_int (.cons (.call o__law_number (hr.mono (by decide)) m__law_number k__law_number b__law_number passE (.cons (.var (i := 0) rfl rfl (by first | exact Or.inl rfl | exact Or.inr (Or.inl rfl) | exact Or.inr (Or.inr rfl)) (by decide) (by decide)) (.cons (.var (i := 1) rfl rfl (by first | exact Or.inl rfl | exact Or.inr (Or.inl rfl) | exact Or.inr (Or.inr rfl)) (by decide) (by decide)) .nil rfl) rfl) (by rfl) (by decide) rfl rfl) .nil rfl) (by rfl) bt_int (by decide) (by decide) rfl rfl) .int)) nd rfl (by first | exact Or.inl rfl | exact Or.inr rfl) rfl (Or.inl rfl))
  (.cons (.for_ PassesOwn.never rfl (.range1 z_range (.cons (.var (i := 4) rfl rfl (by first | exact Or.inl rfl | exact Or.inr (Or.inl rfl) | exact Or.inr (Or.inr rfl)) (by decide) (by decide)) .nil rfl) (by rfl) (by rfl)) (.name nd rfl (by first | exact Or.inl rfl | exact Or.inr rfl) (by first | exact Or.inl rfl | exact Or.inr rfl)) (.cons (.set (i := 6) (.call o__law_number (hr.mono (by decide)) m__law_number k__law_number b__law_number passE (.cons (.var (i := 0) rfl rfl (by first | exact Or.inl rfl | exact Or.inr (Or.inl rfl) | exact Or.inr (Or.inr rfl)) (by decide) (by decide)) (.cons (.bin (ok_add rfl) (.bin (ok_add rfl) (.var (i := 1) rfl rfl (by first | exact Or.inl rfl | exact Or.inr (Or.inl rfl) | exact Or.inr (Or.inr rfl)) (by decide) (by decide)) .int) (.var (i := 5) rfl rfl (by first | exact Or.inl rfl | exact Or.inr (Or.inl rfl) | exact Or.inr (Or.inr rfl)) (by decide) (by decide))) .nil rfl) rfl) (by rfl) (by decide) rfl rfl) nd rfl (by first | exact Or.inl rfl | exact Or.inr rfl) rfl (Or.inl rfl))
  (.cons (.setLc (i := 7) false rfl nd (LCV.mk' (own := [("j", 8)]) (is := [8]) (by kernel_rfl) (.range1 z_range (.cons (.bin ok_mod (.callT cv_int z_int (.cons (.bin ok_div (.var (i := 6) rfl rfl (by first | exact Or.inl rfl | exact Or.inr (Or.inl rfl) | exact Or.inr (Or.inr rfl)) (by decide) (by decide)) .int) .nil rfl) (by rfl) bt_int (by decide) (by decide) rfl rfl) .int) .nil rfl) (by rfl) (by rfl)) (fun _ _ _ _ _ => (.name nd rfl (by first | exact Or.inl rfl | exact Or.inr rfl) (by first | exact Or.inl rfl | exact Or.inr rfl))) (fun _ _ _ _ _ => .nil) (fun _ _ _ _ _ => (.bin (ok_add rfl) (.bin (ok_add rfl) (.var (i := 5) rfl rfl (by first | exact Or.inl rfl | exact Or.inr (Or.inl rfl) | exact Or.inr (Or.inr rfl)) (by decide) (by decide)) .int) (.bin ok_mod (.callT cv_int z_int (.cons (.bin ok_div (.var (i := 6) rfl rfl (by first | exact Or.inl rfl | exact Or.inr (Or.inl rfl) | exact Or.inr (Or.inr rfl)) (by decide) (by decide)) (.ix rfl (.lst false (.cons .int (.cons .int (.cons .int .nil rfl) rfl) rfl)) (.var (i := 8) rfl rfl (by first | exact Or.inl rfl | exact Or.inr (Or.inl rfl) | exact Or.inr (Or.inr rfl)) (by decide) (by decide)) (fun _ _ => rfl))) .nil rfl) (by rfl) bt_int (by decide) (by decide) rfl rfl) .int))) (by decide)) rfl rfl (sw_true rfl rfl rfl rfl) (fun _ => rfl))
  (.one (.exp (.bm rfl PySem.F.plainAttrs_list PySem.F.slot_list_append PySem.F.type_list_append bm_append (.var (i := 3) rfl rfl (by first | exact Or.inl rfl | exact Or.inr (Or.inl rfl) | exact Or.inr (Or.inr rfl)) (by decide) (by decide)) (.cons (.tup (.cons (.bin ok_mod (.callT cv_int z_int (.cons (.var (i := 6) rfl rfl (by first | exact Or.inl rfl | exact Or.inr (Or.inl rfl) | exact Or.inr (Or.inr rfl)) (by decide) (by decide)) .nil rfl) (by rfl) bt_int (by decide) (by decide) rfl rfl) (.bin (ok_add rfl) (.var (i := 2) rfl rfl (by first | exact Or.inl rfl | exact Or.inr (Or.inl rfl) | exact Or.inr (Or.inr rfl)) (by decide) (by decide)) .int)) (.cons (.callT (cv_tuple rfl) z_tuple (.cons (.var (i := 7) rfl rfl (by first | exact Or.inl rfl | exact Or.inr (Or.inl rfl) | exact Or.inr (Or.inr rfl)) (by decide) (by decide)) .nil rfl) (by rfl) bt_tuple (by decide) (by decide) rfl rfl) .nil rfl) rfl)) .nil rfl) rfl rfl rfl rfl rfl) rfl)))) (fun _ => rfl))
  (.one (.ret (.var (i := 3) rfl rfl (by first | exact Or.inl rfl | exact Or.inr (Or.inl rfl) | exact Or.inr (Or.inr rfl)) (by decide) (by decide)))))))
set_option maxHeartbeats 4000000 in
theorem ok__law_spoilt {f : Addr} {fd : FuncData} (F : Fun K "_law_spoilt" "_law_spoilt" s__law_spoilt f fd) (z_int : mg "int" = none) (z_len : mg "len" = none) : FnOk P w K mg base CX0 1 f fd ["steps", "cell", "many"] (spF (gg K) 3 F__law_spoilt) := by
  refine Fn0 F sc__law_spoilt (fun hl h => fnP_ends (N := 8) hl h) fun cdv A outer s H E hr => ?_
  have nd := sc__law_spoilt.nd
  exact (.cons (.set (i := 3) (.bin ok_mod (.callT cv_int z_int (.cons (.var (i := 1) rfl rfl (by first | exact Or.inl rfl | exact Or.inr (Or.inl rfl) | exact Or.inr (Or.inr rfl)) (by decide) (by decide)) .nil rfl) (by rfl) bt_int (by decide) (by decide) rfl rfl) .int) nd rfl (by first | exact Or.inl rfl | exact Or.inr rfl) rfl (Or.inl rfl))
  (.cons (.set (i := 4) (.bin ok_div (.var (i := 1) rfl rfl (by first | exact Or.inl rfl | exact Or.inr (Or.inl rfl) | exact Or.inr (Or.inr rfl)) (by decide) (by decide)) .int) nd rfl (by first | exact Or.inl rfl | exact Or.inr rfl) rfl (Or.inl rfl))
  (.cons (.if_ (WV.tv (.or_ (.cmp ok_lt (.var (i := 3) rfl rfl (by first | exact Or.inl rfl | exact Or.inr (Or.inl rfl) | exact Or.inr (Or.inr rfl)) (by decide) (by decide)) .int rfl) (.or1 (.cmp (ok_eq rfl hr.units) (.callB (cv_len rfl) z_len (.cons (.var (i := 0) rfl rfl (by first | exact Or.inl rfl | exact Or.inr (Or.inl rfl) | exact Or.inr (Or.inr rfl)) (by decide) (by decide)) .nil rfl) (by rfl) bt_len (by decide) (by decide) rfl rfl) .int rfl)))) (.one (.ret (.var (i := 0) rfl rfl (by first | exact Or.inl rfl | exact Or.inr (Or.inl rfl) | exact Or.inr (Or.inr rfl)) (by decide) (by decide)))) .nil)
  (.cons (.set (i := 5) (.bin ok_mod (.callT cv_int z_int (.cons (.var (i := 4) rfl rfl (by first | exact Or.inl rfl | exact Or.inr (Or.inl rfl) | exact Or.inr (Or.inr rfl)) (by decide) (by decide)) .nil rfl) (by rfl) bt_int (by decide) (by decide) rfl rfl) (.callB (cv_len rfl) z_len (.cons (.var (i := 0) rfl rfl (by first | exact Or.inl rfl | exact Or.inr (Or.inl rfl) | exact Or.inr (Or.inr rfl)) (by decide) (by decide)) .nil rfl) (by rfl) bt_len (by decide) (by decide) rfl rfl)) nd rfl (by first | exact Or.inl rfl | exact Or.inr rfl) rfl (Or.inl rfl))
  (.cons (.asg (.ix rfl (.var (i := 0) rfl rfl (by first | exact Or.inl rfl | exact Or.inr (Or.inl rfl) | exact Or.inr (Or.inr rfl)) (by decide) (by decide)) (.var (i := 5) rfl rfl (by first | exact Or.inl rfl | exact Or.inr (Or.inl rfl) | exact Or.inr (Or.inr rfl)) (by decide) (by decide)) (fun _ _ => rfl)) (.tup (n := 2) rfl rfl (.cons (ks := [6, 7]) (.name nd rfl (by first | exact Or.inl rfl | exact Or.inr rfl) (by first | exact Or.inl rfl | exact Or.inr rfl)) (.cons (ks := [6, 7]) (.name nd rfl (by first | exact Or.inl rfl | exact Or.inr rfl) (by first | exact Or.inl rfl | exact Or.inr rfl)) (.nil (is := [6, 7])) (by decide) (by decide) rfl) (by decide) (by decide) rfl) rfl rfl) rfl rfl rfl)
  (.cons (.set (i := 4) (.bin ok_div (.var (i := 4) rfl rfl (by first | exact Or.inl rfl | exact Or.inr (Or.inl rfl) | exact Or.inr (Or.inr rfl)) (by decide) (by decide)) .int) nd rfl (by first | exact Or.inl rfl | exact Or.inr rfl) rfl (Or.inl rfl))
  (.cons (.if_ (.cmp (ok_eq rfl hr.units) (.var (i := 3) rfl rfl (by first | exact Or.inl rfl | exact Or.inr (Or.inl rfl) | exact Or.inr (Or.inr rfl)) (by decide) (by decide)) .int rfl) (.one (.ret (.bin (ok_add rfl) (.bin (ok_add rfl) (.sl rfl (.var (i := 0) rfl rfl (by first | exact Or.inl rfl | exact Or.inr (Or.inl rfl) | exact Or.inr (Or.inr rfl)) (by decide) (by decide)) .no (.yes (.var (i := 5) rfl rfl (by first | exact Or.inl rfl | exact Or.inr (Or.inl rfl) | exact Or.inr (Or.inr rfl)) (by decide) (by decide)))) (.lst false (.cons (.tup (.cons (.bin ok_sub (.bin ok_mod (.callT cv_int z_int (.cons (.var (i := 4) rfl rfl (by first | exact Or.inl rfl | exact Or.inr (Or.inl rfl) | exact Or.inr (Or.inr rfl)) (by decide) (by decide)) .nil rfl) (by rfl) bt_int (by decide) (by decide) rfl rfl) (.bin (ok_add rfl) (.var (i := 2) rfl rfl (by first | exact Or.inl rfl | exact Or.inr (Or.inl rfl) | exact Or.inr (Or.inr rfl)) (by decide) (by decide)) .int)) .int) (.cons (.var (i := 7) rfl rfl (by first | exact Or.inl rfl | exact Or.inr (Or.inl rfl) | exact Or.inr (Or.inr rfl)) (by decide) (by decide)) .nil rfl) rfl)) .nil rfl))) (.sl rfl (.var (i := 0) rfl rfl (by first | exact Or.inl rfl | exact Or.inr (Or.inl rfl) | exact Or.inr (Or.inr rfl)) (by decide) (by decide)) (.yes (.bin (ok_add rfl) (.var (i := 5) rfl rfl (by first | exact Or.inl rfl | exact Or.inr (Or.inl rfl) | exact Or.inr (Or.inr rfl)) (by decide) (by decide)) .int)) .no)))) .nil)
  (.cons (.if_ (.cmp (ok_eq rfl hr.units) (.var (i := 3) rfl rfl (by first | exact Or.inl rfl | exact Or.inr (Or.inl rfl) | exact Or.inr (Or.inr rfl)) (by decide) (by decide)) .int rfl) (.one (.ret (.bin (ok_add rfl) (.bin (ok_add rfl) (.sl rfl (.var (i := 0) rfl rfl (by first | exact Or.inl rfl | exact Or.inr (Or.inl rfl) | exact Or.inr (Or.inr rfl)) (by decide) (by decide)) .no (.yes (.var (i := 5) rfl rfl (by first | exact Or.inl rfl | exact Or.inr (Or.inl rfl) | exact Or.inr (Or.inr rfl)) (by decide) (by decide)))) (.lst false (.cons (.tup (.cons (.var (i := 6) rfl rfl (by first | exact Or.inl rfl | exact Or.inr (Or.inl rfl) | exact Or.inr (Or.inr rfl)) (by decide) (by decide)) (.cons (.bin (ok_add rfl) (.var (i := 7) rfl rfl (by first | exact Or.inl rfl | exact Or.inr (Or.inl rfl) | exact Or.inr (Or.inr rfl)) (by decide) (by decide)) (.tup (.cons (.bin ok_sub (.bin ok_mod (.callT cv_int z_int (.cons (.var (i := 4) rfl rfl (by first | exact Or.inl rfl | exact Or.inr (Or.inl rfl) | exact Or.inr (Or.inr rfl)) (by decide) (by decide)) .nil rfl) (by rfl) bt_int (by decide) (by decide) rfl rfl) (.bin (ok_add rfl) (.callB (cv_len rfl) z_len (.cons (.var (i := 0) rfl rfl (by first | exact Or.inl rfl | exact Or.inr (Or.inl rfl) | exact Or.inr (Or.inr rfl)) (by decide) (by decide)) .nil rfl) (by rfl) bt_len (by decide) (by decide) rfl rfl) .int)) .int) .nil rfl))) .nil rfl) rfl)) .nil rfl))) (.sl rfl (.var (i := 0) rfl rfl (by first | exact Or.inl rfl | exact Or.inr (Or.inl rfl) | exact Or.inr (Or.inr rfl)) (by decide) (by decide)) (.yes (.bin (ok_add rfl) (.var (i := 5) rfl rfl (by first | exact Or.inl rfl | exact Or.inr (Or.inl rfl) | exact Or.inr (Or.inr rfl)) (by decide) (by decide)) .int)) .no)))) .nil)
  (.cons (.if_ (WV.tv (.and_ (.cmp (ok_eq rfl hr.units) (.var (i := 3) rfl rfl (by first | exact Or.inl rfl | exact Or.inr (Or.inl rfl) | exact Or.inr (Or.inr rfl)) (by decide) (by decide)) .int rfl) (.and1 (.cmp ok_gt (.callB (cv_len rfl) z_len (.cons (.var (i := 7) rfl rfl (by first | exact Or.inl rfl | exact Or.inr (Or.inl rfl) | exact Or.inr (Or.inr rfl)) (by decide) (by decide)) .nil rfl) (by rfl) bt_len (by decide) (by decide) rfl rfl) .int rfl)))) (.one (.ret (.bin (ok_add rfl) (.bin (ok_add rfl) (.sl rfl (.var (i := 0) rfl rfl (by first | exact Or.inl rfl | exact Or.inr (Or.inl rfl) | exact Or.inr (Or.inr rfl)) (by decide) (by decide)) .no (.yes (.var (i := 5) rfl rfl (by first | exact Or.inl rfl | exact Or.inr (Or.inl rfl) | exact Or.inr (Or.inr rfl)) (by decide) (by decide)))) (.lst false (.cons (.tup (.cons (.var (i := 6) rfl rfl (by first | exact Or.inl rfl | exact Or.inr (Or.inl rfl) | exact Or.inr (Or.inr rfl)) (by decide) (by decide)) (.cons (.bin (ok_add rfl) (.sl rfl (.var (i := 7) rfl rfl (by first | exact Or.inl rfl | exact Or.inr (Or.inl rfl) | exact Or.inr (Or.inr rfl)) (by decide) (by decide)) .no (.yes (.neg .int))) (.tup (.cons (.bin ok_mod (.callT cv_int z_int (.cons (.var (i := 4) rfl rfl (by first | exact Or.inl rfl | exact Or.inr (Or.inl rfl) | exact Or.inr (Or.inr rfl)) (by decide) (by decide)) .nil rfl) (by rfl) bt_int (by decide) (by decide) rfl rfl) (.bin (ok_add rfl) (.callB (cv_len rfl) z_len (.cons (.var (i := 0) rfl rfl (by first | exact Or.inl rfl | exact Or.inr (Or.inl rfl) | exact Or.inr (Or.inr rfl)) (by decide) (by decide)) .nil rfl) (by rfl) bt_len (by decide) (by decide) rfl rfl) .int)) .nil rfl))) .nil rfl) rfl)) .nil rfl))) (.sl rfl (.var (i := 0) rfl rfl (by first | exact Or.inl rfl | exact Or.inr (Or.inl rfl) | exact Or.inr (Or.inr rfl)) (by decide) (by decide)) (.yes (.bin (ok_add rfl) (.var (i := 5) rfl rfl (by first | exact Or.inl rfl | exact Or.inr (Or.inl rfl) | exact Or.inr (Or.inr rfl)) (by decide) (by decide)) .int)) .no)))) .nil)
  (.one (.ret (.bin (ok_add rfl) (.bin (ok_add rfl) (.sl rfl (.var (i := 0) rfl rfl (by first | exact Or.inl rfl | exact Or.inr (Or.inl rfl) | exact Or.inr (Or.inr rfl)) (by decide) (by decide)) .no (.yes (.var (i := 5) rfl rfl (by first | exact Or.inl rfl | exact Or.inr (Or.inl rfl) | exact Or.inr (Or.inr rfl)) (by decide) (by decide)))) (.lst false (.cons (.tup (.cons (.var (i := 6) rfl rfl (by first | exact Or.inl rfl | exact Or.inr (Or.inl rfl) | exact Or.inr (Or.inr rfl)) (by decide) (by decide)) (.cons (.tup .nil) .nil rfl) rfl)) .nil rfl))) (.sl rfl (.var (i := 0) rfl rfl (by first | exact Or.inl rfl | exact Or.inr (Or.inl rfl) | exact Or.inr (Or.inr rfl)) (by decide) (by decide)) (.yes (.bin (ok_add rfl) (.var (i := 5) rfl rfl (by first | exact Or.inl rfl | exact Or.inr (Or.inl rfl) | exact Or.inr (Or.inr rfl)) (by decide) (by decide)) .int)) .no)))))))))))))
set_option maxHeartbeats 4000000 in
theorem ok__law_step_right {f : Addr} {fd : FuncData} (F : Fun K "_law_step_right" "_law_step_right" s__law_step_right f fd) (z_len : mg "len" = none) : FnOk P w K mg base CX0 1 f fd ["used", "step", "left", "barred", "honest", "at", "many"] (spF (gg K) 7 F__law_step_right) := by
  refine Fn0 F sc__law_step_right (fun hl h => fnP_ends (N := 11) hl h) fun cdv A outer s H E hr => ?_
  have nd := sc__law_step_right.nd
  exact (.cons (.set (i := 7) (.ix rfl (.var (i := 1) rfl rfl (by first | exact Or.inl rfl | exact Or.inr (Or.inl rfl) | exact Or.inr (Or.inr rfl)) (by decide) (by decide)) .int (fun _ _ => rfl)) nd rfl (by first | exact Or.inl rfl | exact Or.inr rfl) rfl (Or.inl rfl))
  (.cons (.if_ (WV.tv (.or_ (.cmp ok_lt (.var (i := 7) rfl rfl (by first | exact Or.inl rfl | exact Or.inr (Or.inl rfl) | exact Or.inr (Or.inr rfl)) (by decide) (by decide)) .int rfl) (.or_ (.cmp ok_ge (.var (i := 7) rfl rfl (by first | exact Or.inl rfl | exact Or.inr (Or.inl rfl) | exact Or.inr (Or.inr rfl)) (by decide) (by decide)) (.callB (cv_len rfl) z_len (.cons (.var (i := 0) rfl rfl (by first | exact Or.inl rfl | exact Or.inr (Or.inl rfl) | exact Or.inr (Or.inr rfl)) (by decide) (by decide)) .nil rfl) (by rfl) bt_len (by decide) (by decide) rfl rfl) rfl) (.or1 (.cmp ok_isN (.ix rfl (.var (i := 0) rfl rfl (by first | exact Or.inl rfl | exact Or.inr (Or.inl rfl) | exact Or.inr (Or.inr rfl)) (by decide) (by decide)) (.var (i := 7) rfl rfl (by first | exact Or.inl rfl | exact Or.inr (Or.inl rfl) | exact Or.inr (Or.inr rfl)) (by decide) (by decide)) (fun _ _ => rfl)) .non rfl))))) (.one (.ret .bl)) .nil)
  (.cons (.for_ PassesOwn.never rfl (.any rfl (.ix rfl (.var (i := 0) rfl rfl (by first | exact Or.inl rfl | exact Or.inr (Or.inl rfl) | exact Or.inr (Or.inr rfl)) (by decide) (by decide)) (.var (i := 7) rfl rfl (by first | exact Or.inl rfl | exact Or.inr (Or.inl rfl) | exact Or.inr (Or.inr rfl)) (by decide) (by decide)) (fun _ _ => rfl))) (.name nd rfl (by first | exact Or.inl rfl | exact Or.inr rfl) (by first | exact Or.inl rfl | exact Or.inr rfl)) (.one (.if_ (.cmp (ok_in rfl) (.var (i := 8) rfl rfl (by first | exact Or.inl rfl | exact Or.inr (Or.inl rfl) | exact Or.inr (Or.inr rfl)) (by decide) (by decide)) (.var (i := 3) rfl rfl (by first | exact Or.inl rfl | exact Or.inr (Or.inl rfl) | exact Or.inr (Or.inr rfl)) (by decide) (by decide)) rfl) (.one (.ret .bl)) .nil)) (fun _ => rfl))
  (.cons (.if_ (.cmp (ok_eq rfl hr.units) (.var (i := 2) rfl rfl (by first | exact Or.inl rfl | exact Or.inr (Or.inl rfl) | exact Or.inr (Or.inr rfl)) (by decide) (by decide)) .int rfl) (.one (.ret (.cmp (ok_eq rfl hr.units) (.callB (cv_len rfl) z_len (.cons (.ix rfl (.var (i := 1) rfl rfl (by first | exact Or.inl rfl | exact Or.inr (Or.inl rfl) | exact Or.inr (Or.inr rfl)) (by decide) (by decide)) .int (fun _ _ => rfl)) .nil rfl) (by rfl) bt_len (by decide) (by decide) rfl rfl) .int rfl))) .nil)
  (.cons (.set (i := 9) .int nd rfl (by first | exact Or.inl rfl | exact Or.inr rfl) rfl (Or.inl rfl))
  (.cons (.for_ PassesOwn.never rfl (.any rfl (.ix rfl (.var (i := 0) rfl rfl (by first | exact Or.inl rfl | exact Or.inr (Or.inl rfl) | exact Or.inr (Or.inr rfl)) (by decide) (by decide)) (.var (i := 7) rfl rfl (by first | exact Or.inl rfl | exact Or.inr (Or.inl rfl) | exact Or.inr (Or.inr rfl)) (by decide) (by decide)) (fun _ _ => rfl))) (.name nd rfl (by first | exact Or.inl rfl | exact Or.inr rfl) (by first | exact Or.inl rfl | exact Or.inr rfl)) (.one (.if_ (.cmp (ok_notin rfl) (.var (i := 8) rfl rfl (by first | exact Or.inl rfl | exact Or.inr (Or.inl rfl) | exact Or.inr (Or.inr rfl)) (by decide) (by decide)) (.var (i := 4) rfl rfl (by first | exact Or.inl rfl | exact Or.inr (Or.inl rfl) | exact Or.inr (Or.inr rfl)) (by decide) (by decide)) rfl) (.one (.set (i := 9) (.bin (ok_add rfl) (.var (i := 9) rfl rfl (by first | exact Or.inl rfl | exact Or.inr (Or.inl rfl) | exact Or.inr (Or.inr rfl)) (by decide) (by decide)) .int) nd rfl (by first | exact Or.inl rfl | exact Or.inr rfl) rfl (Or.inl rfl))) .nil)) (fun _ => rfl))
  (.cons (.if_ (.cmp (ok_ne rfl hr.units) (.callB (cv_len rfl) z_len (.cons (.ix rfl (.var (i := 1) rfl rfl (by first | exact Or.inl rfl | exact Or.inr (Or.inl rfl) | exact Or.inr (Or.inr rfl)) (by decide) (by decide)) .int (fun _ _ => rfl)) .nil rfl) (by rfl) bt_len (by decide) (by decide) rfl rfl) (.var (i := 9) rfl rfl (by first | exact Or.inl rfl | exact Or.inr (Or.inl rfl) | exact Or.inr (Or.inr rfl)) (by decide) (by decide)) rfl) (.one (.ret .bl)) .nil)
  (.cons (.for_ PassesOwn.never rfl (.any rfl (.ix rfl (.var (i := 1) rfl rfl (by first | exact Or.inl rfl | exact Or.inr (Or.inl rfl) | exact Or.inr (Or.inr rfl)) (by decide) (by decide)) .int (fun _ _ => rfl))) (.name nd rfl (by first | exact Or.inl rfl | exact Or.inr rfl) (by first | exact Or.inl rfl | exact Or.inr rfl)) (.one (.if_ (WV.tv (.or_ (.cmp ok_le (.var (i := 10) rfl rfl (by first | exact Or.inl rfl | exact Or.inr (Or.inl rfl) | exact Or.inr (Or.inr rfl)) (by decide) (by decide)) (.var (i := 5) rfl rfl (by first | exact Or.inl rfl | exact Or.inr (Or.inl rfl) | exact Or.inr (Or.inr rfl)) (by decide) (by decide)) rfl) (.or1 (.cmp ok_ge (.var (i := 10) rfl rfl (by first | exact Or.inl rfl | exact Or.inr (Or.inl rfl) | exact Or.inr (Or.inr rfl)) (by decide) (by decide)) (.var (i := 6) rfl rfl (by first | exact Or.inl rfl | exact Or.inr (Or.inl rfl) | exact Or.inr (Or.inr rfl)) (by decide) (by decide)) rfl)))) (.one (.ret .bl)) .nil)) (fun _ => rfl))
  (.one (.ret .bl))))))))))
set_option maxHeartbeats 4000000 in
theorem ok__law_right {f : Addr} {fd : FuncData} (F : Fun K "_law_right" "_law_right" s__law_right f fd) {f__law_step_right : Addr} {fd__law_step_right : FuncData} (o__law_step_right : FnOk P w K mg base CX0 1 f__law_step_right fd__law_step_right ["used", "step", "left", "barred", "honest", "at", "many"] (spF (gg K) 7 F__law_step_right)) (b__law_step_right : Binds K fd__law_step_right ["used", "step", "left", "barred", "honest", "at", "many"] []) (m__law_step_right : mg "_law_step_right" = some (.ref f__law_step_right)) (k__law_step_right : PySem.W.keepIn K (.ref f__law_step_right) = true) (z_len : mg "len" = none) (z_max : mg "max" = none) (z_range : mg "range" = none) : FnOk P w K mg base CX0 2 f fd ["used", "steps", "honest", "liars"] (spF (gg K) 4 F__law_right) := by
  refine Fn0 F sc__law_right (fun hl h => fnP_ends (N := 11) hl h) fun cdv A outer s H E hr => ?_
  have nd := sc__law_right.nd
  exact (.cons (.setLc (i := 4) true rfl nd (LCV.mk' (own := [("step", 7)]) (is := [7]) (by kernel_rfl) (.any rfl (.var (i := 1) rfl rfl (by first | exact Or.inl rfl | exact Or.inr (Or.inl rfl) | exact Or.inr (Or.inr rfl)) (by decide) (by decide))) (fun _ _ _ _ _ => (.name nd rfl (by first | exact Or.inl rfl | exact Or.inr rfl) (by first | exact Or.inl rfl | exact Or.inr rfl))) (fun _ _ _ _ _ => .nil) (fun _ _ _ _ _ => (.neg .int)) (by decide)) rfl rfl (sw_true rfl rfl rfl rfl) (fun _ => rfl))
  (.cons (.setLc (i := 5) true rfl nd (LCV.mk' (own := [("step", 7)]) (is := [7]) (by kernel_rfl) (.any rfl (.var (i := 1) rfl rfl (by first | exact Or.inl rfl | exact Or.inr (Or.inl rfl) | exact Or.inr (Or.inr rfl)) (by decide) (by decide))) (fun _ _ _ _ _ => (.name nd rfl (by first | exact Or.inl rfl | exact Or.inr rfl) (by first | exact Or.inl rfl | exact Or.inr rfl))) (fun _ _ _ _ _ => .nil) (fun _ _ _ _ _ => (.lst false .nil)) (by decide)) rfl rfl (sw_true rfl rfl rfl rfl) (fun _ => rfl))
  (.cons (.if_ (.cmp (ok_eq rfl hr.units) (.callB (cv_len rfl) z_len (.cons (.var (i := 1) rfl rfl (by first | exact Or.inl rfl | exact Or.inr (Or.inl rfl) | exact Or.inr (Or.inr rfl)) (by decide) (by decide)) .nil rfl) (by rfl) bt_len (by decide) (by decide) rfl rfl) .int rfl) (.one (.ret .bl)) .nil)
  (.cons (.setIx (.var (i := 3) rfl rfl (by first | exact Or.inl rfl | exact Or.inr (Or.inl rfl) | exact Or.inr (Or.inr rfl)) (by decide) (by decide)) (.var (i := 4) rfl rfl (by first | exact Or.inl rfl | exact Or.inr (Or.inl rfl) | exact Or.inr (Or.inr rfl)) (by decide) (by decide)) .int (fun _ => rfl) rfl rfl rfl)
  (.cons (.for_ PassesOwn.never rfl (.range1 z_range (.cons (.callB (cv_len rfl) z_len (.cons (.var (i := 1) rfl rfl (by first | exact Or.inl rfl | exact Or.inr (Or.inl rfl) | exact Or.inr (Or.inr rfl)) (by decide) (by decide)) .nil rfl) (by rfl) bt_len (by decide) (by decide) rfl rfl) .nil rfl) (by rfl) (by rfl)) (.name nd rfl (by first | exact Or.inl rfl | exact Or.inr rfl) (by first | exact Or.inl rfl | exact Or.inr rfl)) (.cons (.if_ (.cmp ok_lt (.ix rfl (.var (i := 4) rfl rfl (by first | exact Or.inl rfl | exact Or.inr (Or.inl rfl) | exact Or.inr (Or.inr rfl)) (by decide) (by decide)) (.var (i := 6) rfl rfl (by first | exact Or.inl rfl | exact Or.inr (Or.inl rfl) | exact Or.inr (Or.inr rfl)) (by decide) (by decide)) (fun _ _ => rfl)) .int rfl) (.one .cnt) .nil)
  (.cons (.set (i := 7) (.ix rfl (.var (i := 1) rfl rfl (by first | exact Or.inl rfl | exact Or.inr (Or.inl rfl) | exact Or.inr (Or.inr rfl)) (by decide) (by decide)) (.var (i := 6) rfl rfl (by first | exact Or.inl rfl | exact Or.inr (Or.inl rfl) | exact Or.inr (Or.inr rfl)) (by decide) (by decide)) (fun _ _ => rfl)) nd rfl (by first | exact Or.inl rfl | exact Or.inr rfl) rfl (Or.inl rfl))
  (.cons (.if_ (.not_ (.tru rfl (.call o__law_step_right (hr.mono (by decide)) m__law_step_right k__law_step_right b__law_step_right passE (.cons (.var (i := 0) rfl rfl (by first | exact Or.inl rfl | exact Or.inr (Or.inl rfl) | exact Or.inr (Or.inr rfl)) (by decide) (by decide)) (.cons (.var (i := 7) rfl rfl (by first | exact Or.inl rfl | exact Or.inr (Or.inl rfl) | exact Or.inr (Or.inr rfl)) (by decide) (by decide)) (.cons (.ix rfl (.var (i := 4) rfl rfl (by first | exact Or.inl rfl | exact Or.inr (Or.inl rfl) | exact Or.inr (Or.inr rfl)) (by decide) (by decide)) (.var (i := 6) rfl rfl (by first | exact Or.inl rfl | exact Or.inr (Or.inl rfl) | exact Or.inr (Or.inr rfl)) (by decide) (by decide)) (fun _ _ => rfl)) (.cons (.ix rfl (.var (i := 5) rfl rfl (by first | exact Or.inl rfl | exact Or.inr (Or.inl rfl) | exact Or.inr (Or.inr rfl)) (by decide) (by decide)) (.var (i := 6) rfl rfl (by first | exact Or.inl rfl | exact Or.inr (Or.inl rfl) | exact Or.inr (Or.inr rfl)) (by decide) (by decide)) (fun _ _ => rfl)) (.cons (.var (i := 2) rfl rfl (by first | exact Or.inl rfl | exact Or.inr (Or.inl rfl) | exact Or.inr (Or.inr rfl)) (by decide) (by decide)) (.cons (.var (i := 6) rfl rfl (by first | exact Or.inl rfl | exact Or.inr (Or.inl rfl) | exact Or.inr (Or.inr rfl)) (by decide) (by decide)) (.cons (.callB (cv_len rfl) z_len (.cons (.var (i := 1) rfl rfl (by first | exact Or.inl rfl | exact Or.inr (Or.inl rfl) | exact Or.inr (Or.inr rfl)) (by decide) (by decide)) .nil rfl) (by rfl) bt_len (by decide) (by decide) rfl rfl) .nil rfl) rfl) rfl) rfl) rfl) rfl) rfl) (by rfl) (by decide) rfl rfl) (fun _ => rfl))) (.one (.ret .bl)) .nil)
  (.cons (.set (i := 8) .int nd rfl (by first | exact Or.inl rfl | exact Or.inr rfl) rfl (Or.inl rfl))
  (.one (.for_ PassesOwn.never rfl (.any rfl (.ix rfl (.var (i := 0) rfl rfl (by first | exact Or.inl rfl | exact Or.inr (Or.inl rfl) | exact Or.inr (Or.inr rfl)) (by decide) (by decide)) (.ix rfl (.var (i := 7) rfl rfl (by first | exact Or.inl rfl | exact Or.inr (Or.inl rfl) | exact Or.inr (Or.inr rfl)) (by decide) (by decide)) .int (fun _ _ => rfl)) (fun _ _ => rfl))) (.name nd rfl (by first | exact Or.inl rfl | exact Or.inr rfl) (by first | exact Or.inl rfl | exact Or.inr rfl)) (.one (.if_ (WV.tv (.and_ (.cmp (ok_notin rfl) (.var (i := 9) rfl rfl (by first | exact Or.inl rfl | exact Or.inr (Or.inl rfl) | exact Or.inr (Or.inr rfl)) (by decide) (by decide)) (.var (i := 2) rfl rfl (by first | exact Or.inl rfl | exact Or.inr (Or.inl rfl) | exact Or.inr (Or.inr rfl)) (by decide) (by decide)) rfl) (.and1 (.cmp ok_gt (.ix rfl (.var (i := 4) rfl rfl (by first | exact Or.inl rfl | exact Or.inr (Or.inl rfl) | exact Or.inr (Or.inr rfl)) (by decide) (by decide)) (.var (i := 6) rfl rfl (by first | exact Or.inl rfl | exact Or.inr (Or.inl rfl) | exact Or.inr (Or.inr rfl)) (by decide) (by decide)) (fun _ _ => rfl)) .int rfl)))) (.cons (.set (i := 10) (.ix rfl (.ix rfl (.var (i := 7) rfl rfl (by first | exact Or.inl rfl | exact Or.inr (Or.inl rfl) | exact Or.inr (Or.inr rfl)) (by decide) (by decide)) .int (fun _ _ => rfl)) (.var (i := 8) rfl rfl (by first | exact Or.inl rfl | exact Or.inr (Or.inl rfl) | exact Or.inr (Or.inr rfl)) (by decide) (by decide)) (fun _ _ => rfl)) nd rfl (by first | exact Or.inl rfl | exact Or.inr rfl) rfl (Or.inl rfl))
  (.cons (.setIx (.callB (cv_max rfl rfl) z_max (.cons (.ix rfl (.var (i := 4) rfl rfl (by first | exact Or.inl rfl | exact Or.inr (Or.inl rfl) | exact Or.inr (Or.inr rfl)) (by decide) (by decide)) (.var (i := 10) rfl rfl (by first | exact Or.inl rfl | exact Or.inr (Or.inl rfl) | exact Or.inr (Or.inr rfl)) (by decide) (by decide)) (fun _ _ => rfl)) (.cons (.bin ok_sub (.ix rfl (.var (i := 4) rfl rfl (by first | exact Or.inl rfl | exact Or.inr (Or.inl rfl) | exact Or.inr (Or.inr rfl)) (by decide) (by decide)) (.var (i := 6) rfl rfl (by first | exact Or.inl rfl | exact Or.inr (Or.inl rfl) | exact Or.inr (Or.inr rfl)) (by decide) (by decide)) (fun _ _ => rfl)) .int) .nil rfl) rfl) (by rfl) bt_max (by decide) (by decide) rfl rfl) (.var (i := 4) rfl rfl (by first | exact Or.inl rfl | exact Or.inr (Or.inl rfl) | exact Or.inr (Or.inr rfl)) (by decide) (by decide)) (.var (i := 10) rfl rfl (by first | exact Or.inl rfl | exact Or.inr (Or.inl rfl) | exact Or.inr (Or.inr rfl)) (by decide) (by decide)) (fun _ => rfl) rfl rfl rfl)
  (.cons (.setIx (.bin (ok_add rfl) (.bin (ok_add rfl) (.ix rfl (.var (i := 5) rfl rfl (by first | exact Or.inl rfl | exact Or.inr (Or.inl rfl) | exact Or.inr (Or.inr rfl)) (by decide) (by decide)) (.var (i := 10) rfl rfl (by first | exact Or.inl rfl | exact Or.inr (Or.inl rfl) | exact Or.inr (Or.inr rfl)) (by decide) (by decide)) (fun _ _ => rfl)) (.ix rfl (.var (i := 5) rfl rfl (by first | exact Or.inl rfl | exact Or.inr (Or.inl rfl) | exact Or.inr (Or.inr rfl)) (by decide) (by decide)) (.var (i := 6) rfl rfl (by first | exact Or.inl rfl | exact Or.inr (Or.inl rfl) | exact Or.inr (Or.inr rfl)) (by decide) (by decide)) (fun _ _ => rfl))) (.lst false (.cons (.var (i := 9) rfl rfl (by first | exact Or.inl rfl | exact Or.inr (Or.inl rfl) | exact Or.inr (Or.inr rfl)) (by decide) (by decide)) .nil rfl))) (.var (i := 5) rfl rfl (by first | exact Or.inl rfl | exact Or.inr (Or.inl rfl) | exact Or.inr (Or.inr rfl)) (by decide) (by decide)) (.var (i := 10) rfl rfl (by first | exact Or.inl rfl | exact Or.inr (Or.inl rfl) | exact Or.inr (Or.inr rfl)) (by decide) (by decide)) (fun _ => rfl) rfl rfl rfl)
  (.one (.set (i := 8) (.bin (ok_add rfl) (.var (i := 8) rfl rfl (by first | exact Or.inl rfl | exact Or.inr (Or.inl rfl) | exact Or.inr (Or.inr rfl)) (by decide) (by decide)) .int) nd rfl (by first | exact Or.inl rfl | exact Or.inr rfl) rfl (Or.inl rfl)))))) .nil)) (fun _ => rfl))))))) (fun _ => rfl))
  (.one (.ret .bl)))))))
set_option maxHeartbeats 4000000 in
theorem ok__law_truth {f : Addr} {fd : FuncData} (F : Fun K "_law_truth" "_law_truth" s__law_truth f fd) (z_bool : mg "bool" = none) (z_isinstance : mg "isinstance" = none) : FnOk P w K mg base CX0 1 f fd ["actual", "expected"] (spF (gg K) 2 F__law_truth) := by
  refine Fn0 F sc__law_truth (fun hl h => fnP_ends (N := 2) hl h) fun cdv A outer s H E hr => ?_
  have nd := sc__law_truth.nd
  exact (.one (.ret (.and_ (.isi rfl rfl z_isinstance z_bool (.var (i := 0) rfl rfl (by first | exact Or.inl rfl | exact Or.inr (Or.inl rfl) | exact Or.inr (Or.inr rfl)) (by decide) (by decide)) (by rfl) (by rfl) bt_bool (by decide) (by decide) rfl) (.one (.cmp (ok_eq rfl hr.units) (.var (i := 0) rfl rfl (by first | exact Or.inl rfl | exact Or.inr (Or.inl rfl) | exact Or.inr (Or.inr rfl)) (by decide) (by decide)) (.var (i := 1) rfl rfl (by first | exact Or.inl rfl | exact Or.inr (Or.inl rfl) | exact Or.inr (Or.inr rfl)) (by decide) (by decide)) rfl)))))
set_option maxHeartbeats 4000000 in
theorem ok__next_steps_right {f : Addr} {fd : FuncData} (F : Fun K "_next_steps_right" "_next_steps_right" s__next_steps_right f fd) (z_all : mg "all" = none) (z_len : mg "len" = none) : FnOk P w K mg base CX0 1 f fd ["number", "count", "suspects", "following", "left"] (spF (gg K) 5 F__next_steps_right) := by
  refine Fn0 F sc__next_steps_right (fun hl h => fnP_ends (N := 6) hl h) fun cdv A outer s H E hr => ?_
  have nd := sc__next_steps_right.nd
  exact (.cons (.if_ (.cmp (ok_eq rfl hr.units) (.var (i := 4) rfl rfl (by first | exact Or.inl rfl | exact Or.inr (Or.inl rfl) | exact Or.inr (Or.inr rfl)) (by decide) (by decide)) .int rfl) (.one (.ret (.cmp (ok_eq rfl hr.units) (.callB (cv_len rfl) z_len (.cons (.var (i := 3) rfl rfl (by first | exact Or.inl rfl | exact Or.inr (Or.inl rfl) | exact Or.inr (Or.inr rfl)) (by decide) (by decide)) .nil rfl) (by rfl) bt_len (by decide) (by decide) rfl rfl) .int rfl))) .nil)
  (.one (.ret (.and_ (.cmp (ok_eq rfl hr.units) (.callB (cv_len rfl) z_len (.cons (.var (i := 3) rfl rfl (by first | exact Or.inl rfl | exact Or.inr (Or.inl rfl) | exact Or.inr (Or.inr rfl)) (by decide) (by decide)) .nil rfl) (by rfl) bt_len (by decide) (by decide) rfl rfl) (.callB (cv_len rfl) z_len (.cons (.var (i := 2) rfl rfl (by first | exact Or.inl rfl | exact Or.inr (Or.inl rfl) | exact Or.inr (Or.inr rfl)) (by decide) (by decide)) .nil rfl) (by rfl) bt_len (by decide) (by decide) rfl rfl) rfl) (.one (.callB (cv_all rfl rfl) z_all (.cons (.lc false rfl nd (LCV.mk' (own := [("step", 5)]) (is := [5]) (by kernel_rfl) (.any rfl (.var (i := 3) rfl rfl (by first | exact Or.inl rfl | exact Or.inr (Or.inl rfl) | exact Or.inr (Or.inr rfl)) (by decide) (by decide))) (fun _ _ _ _ _ => (.name nd rfl (by first | exact Or.inl rfl | exact Or.inr rfl) (by first | exact Or.inl rfl | exact Or.inr rfl))) (fun _ _ _ _ _ => .nil) (fun _ _ _ _ _ => (.ch2 ok_lt ok_lt (.var (i := 0) rfl rfl (by first | exact Or.inl rfl | exact Or.inr (Or.inl rfl) | exact Or.inr (Or.inr rfl)) (by decide) (by decide)) (.var (i := 5) rfl rfl (by first | exact Or.inl rfl | exact Or.inr (Or.inl rfl) | exact Or.inr (Or.inr rfl)) (by decide) (by decide)) (.var (i := 1) rfl rfl (by first | exact Or.inl rfl | exact Or.inr (Or.inl rfl) | exact Or.inr (Or.inr rfl)) (by decide) (by decide)) rfl)) (by decide)) (fun _ => rfl)) .nil rfl) (by rfl) bt_all (by decide) (by decide) rfl rfl))))))
set_option maxHeartbeats 4000000 in
theorem ok__lead {f : Addr} {fd : FuncData} (F : Fun K "_lead" "_lead" s__lead f fd) (z_max : mg "max" = none) (z_tuple : mg "tuple" = none) : FnOk P w K mg base CX0 1 f fd ["marks", "step", "left", "barred"] (spF (gg K) 4 F__lead) := by
  refine Fn0 F sc__lead (fun hl h => fnR_ends (N := 8) h) fun cdv A outer s H E hr => ?_
  have nd := sc__lead.nd
  exact (.cons (.asg (.dget2 hr.units (.var (i := 0) rfl rfl (by first | exact Or.inl rfl | exact Or.inr (Or.inl rfl) | exact Or.inr (Or.inr rfl)) (by decide) (by decide)) (.var (i := 1) rfl rfl (by first | exact Or.inl rfl | exact Or.inr (Or.inl rfl) | exact Or.inr (Or.inr rfl)) (by decide) (by decide)) (.tup (.cons (.var (i := 2) rfl rfl (by first | exact Or.inl rfl | exact Or.inr (Or.inl rfl) | exact Or.inr (Or.inr rfl)) (by decide) (by decide)) (.cons (.tup .nil) .nil rfl) rfl)) ⟨rfl, rfl, rfl, rfl⟩) (.tup (n := 2) rfl rfl (.cons (ks := [4, 5]) (.name nd rfl (by first | exact Or.inl rfl | exact Or.inr rfl) (by first | exact Or.inl rfl | exact Or.inr rfl)) (.cons (ks := [4, 5]) (.name nd rfl (by first | exact Or.inl rfl | exact Or.inr rfl) (by first | exact Or.inl rfl | exact Or.inr rfl)) (.nil (is := [4, 5])) (by decide) (by decide) rfl) (by decide) (by decide) rfl) rfl rfl) rfl rfl rfl)
  (.cons (.set (i := 6) (.callT (cv_tuple rfl) z_tuple (.cons (.lc false rfl nd (LCV.mk' (own := [("name", 7)]) (is := [7]) (by kernel_rfl) (.any rfl (.var (i := 3) rfl rfl (by first | exact Or.inl rfl | exact Or.inr (Or.inl rfl) | exact Or.inr (Or.inr rfl)) (by decide) (by decide))) (fun _ _ _ _ _ => (.name nd rfl (by first | exact Or.inl rfl | exact Or.inr rfl) (by first | exact Or.inl rfl | exact Or.inr rfl))) (fun _ _ _ _ _ => (.one (.cmp (ok_notin rfl) (.var (i := 7) rfl rfl (by first | exact Or.inl rfl | exact Or.inr (Or.inl rfl) | exact Or.inr (Or.inr rfl)) (by decide) (by decide)) (.var (i := 5) rfl rfl (by first | exact Or.inl rfl | exact Or.inr (Or.inl rfl) | exact Or.inr (Or.inr rfl)) (by decide) (by decide)) rfl))) (fun _ _ _ _ _ => (.var (i := 7) rfl rfl (by first | exact Or.inl rfl | exact Or.inr (Or.inl rfl) | exact Or.inr (Or.inr rfl)) (by decide) (by decide))) (by decide)) (fun _ => rfl)) .nil rfl) (by rfl) bt_tuple (by decide) (by decide) rfl rfl) nd rfl (by first | exact Or.inl rfl | exact Or.inr rfl) rfl (Or.inl rfl))
  (.one (.dput hr.units (.tup (.cons (.callB (cv_max rfl rfl) z_max (.cons (.var (i := 2) rfl rfl (by first | exact Or.inl rfl | exact Or.inr (Or.inl rfl) | exact Or.inr (Or.inr rfl)) (by decide) (by decide)) (.cons (.var (i := 4) rfl rfl (by first | exact Or.inl rfl | exact Or.inr (Or.inl rfl) | exact Or.inr (Or.inr rfl)) (by decide) (by decide)) .nil rfl) rfl) (by rfl) bt_max (by decide) (by decide) rfl rfl) (.cons (.bin (ok_add rfl) (.var (i := 5) rfl rfl (by first | exact Or.inl rfl | exact Or.inr (Or.inl rfl) | exact Or.inr (Or.inr rfl)) (by decide) (by decide)) (.var (i := 6) rfl rfl (by first | exact Or.inl rfl | exact Or.inr (Or.inl rfl) | exact Or.inr (Or.inr rfl)) (by decide) (by decide))) .nil rfl) rfl)) (.var (i := 0) rfl rfl (by first | exact Or.inl rfl | exact Or.inr (Or.inl rfl) | exact Or.inr (Or.inr rfl)) (by decide) (by decide)) (.var (i := 1) rfl rfl (by first | exact Or.inl rfl | exact Or.inr (Or.inl rfl) | exact Or.inr (Or.inr rfl)) (by decide) (by decide)) rfl))))
set_option maxHeartbeats 4000000 in
theorem ok_blames_right {f : Addr} {fd : FuncData} (F : Fun K "blames_right" "blames_right" s_blames_right f fd) {f__next_steps_right : Addr} {fd__next_steps_right : FuncData} (o__next_steps_right : FnOk P w K mg base CX0 1 f__next_steps_right fd__next_steps_right ["number", "count", "suspects", "following", "left"] (spF (gg K) 5 F__next_steps_right)) (b__next_steps_right : Binds K fd__next_steps_right ["number", "count", "suspects", "following", "left"] []) (m__next_steps_right : mg "_next_steps_right" = some (.ref f__next_steps_right)) (k__next_steps_right : PySem.W.keepIn K (.ref f__next_steps_right) = true) {f__lead : Addr} {fd__lead : FuncData} (o__lead : FnOk P w K mg base CX0 1 f__lead fd__lead ["marks", "step", "left", "barred"] (spF (gg K) 4 F__lead)) (b__lead : Binds K fd__lead ["marks", "step", "left", "barred"] []) (m__lead : mg "_lead" = some (.ref f__lead)) (k__lead : PySem.W.keepIn K (.ref f__lead) = true) (z_any : mg "any" = none) (z_len : mg "len" = none) (z_range : mg "range" = none) (z_zip : mg "zip" = none) : FnOk P w K mg base CX0 2 f fd ["used", "steps", "honest", "liars"] (spF (gg K) 4 F_blames_right) := by
  refine Fn0 F sc_blames_right (fun hl h => fnP_ends (N := 15) hl h) fun cdv A outer s H E hr => ?_
  have nd := sc_blames_right.nd
  exact (.cons (.if_ (.cmp (ok_eq rfl hr.units) (.callB (cv_len rfl) z_len (.cons (.var (i := 1) rfl rfl (by first | exact Or.inl rfl | exact Or.inr (Or.inl rfl) | exact Or.inr (Or.inr rfl)) (by decide) (by decide)) .nil rfl) (by rfl) bt_len (by decide) (by decide) rfl rfl) .int rfl) (.one (.ret .bl)) .nil)
  (.cons (.set (i := 4) (.disp1 .int (.tup (.cons (.var (i := 3) rfl rfl (by first | exact Or.inl rfl | exact Or.inr (Or.inl rfl) | exact Or.inr (Or.inr rfl)) (by decide) (by decide)) (.cons (.tup .nil) .nil rfl) rfl))) nd rfl (by first | exact Or.inl rfl | exact Or.inr rfl) rfl (Or.inl rfl))
  (.cons (.for_ PassesOwn.never rfl (.range1 z_range (.cons (.callB (cv_len rfl) z_len (.cons (.var (i := 1) rfl rfl (by first | exact Or.inl rfl | exact Or.inr (Or.inl rfl) | exact Or.inr (Or.inr rfl)) (by decide) (by decide)) .nil rfl) (by rfl) bt_len (by decide) (by decide) rfl rfl) .nil rfl) (by rfl) (by rfl)) (.name nd rfl (by first | exact Or.inl rfl | exact Or.inr rfl) (by first | exact Or.inl rfl | exact Or.inr rfl)) (.cons (.if_ (.cmp (ok_dnotin hr.units) (.var (i := 5) rfl rfl (by first | exact Or.inl rfl | exact Or.inr (Or.inl rfl) | exact Or.inr (Or.inr rfl)) (by decide) (by decide)) (.var (i := 4) rfl rfl (by first | exact Or.inl rfl | exact Or.inr (Or.inl rfl) | exact Or.inr (Or.inr rfl)) (by decide) (by decide)) rfl) (.one .cnt) .nil)
  (.cons (.asg (.dget hr.units (.var (i := 4) rfl rfl (by first | exact Or.inl rfl | exact Or.inr (Or.inl rfl) | exact Or.inr (Or.inr rfl)) (by decide) (by decide)) (.var (i := 5) rfl rfl (by first | exact Or.inl rfl | exact Or.inr (Or.inl rfl) | exact Or.inr (Or.inr rfl)) (by decide) (by decide)) (fun _ _ => rfl)) (.tup (n := 2) rfl rfl (.cons (ks := [6, 7]) (.name nd rfl (by first | exact Or.inl rfl | exact Or.inr rfl) (by first | exact Or.inl rfl | exact Or.inr rfl)) (.cons (ks := [6, 7]) (.name nd rfl (by first | exact Or.inl rfl | exact Or.inr rfl) (by first | exact Or.inl rfl | exact Or.inr rfl)) (.nil (is := [6, 7])) (by decide) (by decide) rfl) (by decide) (by decide) rfl) rfl rfl) rfl rfl rfl)
  (.cons (.asg (.ix rfl (.var (i := 1) rfl rfl (by first | exact Or.inl rfl | exact Or.inr (Or.inl rfl) | exact Or.inr (Or.inr rfl)) (by decide) (by decide)) (.var (i := 5) rfl rfl (by first | exact Or.inl rfl | exact Or.inr (Or.inl rfl) | exact Or.inr (Or.inr rfl)) (by decide) (by decide)) (fun _ _ => rfl)) (.tup (n := 2) rfl rfl (.cons (ks := [8, 9]) (.name nd rfl (by first | exact Or.inl rfl | exact Or.inr rfl) (by first | exact Or.inl rfl | exact Or.inr rfl)) (.cons (ks := [8, 9]) (.name nd rfl (by first | exact Or.inl rfl | exact Or.inr rfl) (by first | exact Or.inl rfl | exact Or.inr rfl)) (.nil (is := [8, 9])) (by decide) (by decide) rfl) (by decide) (by decide) rfl) rfl rfl) rfl rfl rfl)
  (.cons (.if_ (WV.tv (.or_ (.not_ (.ch2 ok_le ok_lt .int (.var (i := 8) rfl rfl (by first | exact Or.inl rfl | exact Or.inr (Or.inl rfl) | exact Or.inr (Or.inr rfl)) (by decide) (by decide)) (.callB (cv_len rfl) z_len (.cons (.var (i := 0) rfl rfl (by first | exact Or.inl rfl | exact Or.inr (Or.inl rfl) | exact Or.inr (Or.inr rfl)) (by decide) (by decide)) .nil rfl) (by rfl) bt_len (by decide) (by decide) rfl rfl) rfl)) (.or1 (.cmp ok_isN (.ix rfl (.var (i := 0) rfl rfl (by first | exact Or.inl rfl | exact Or.inr (Or.inl rfl) | exact Or.inr (Or.inr rfl)) (by decide) (by decide)) (.var (i := 8) rfl rfl (by first | exact Or.inl rfl | exact Or.inr (Or.inl rfl) | exact Or.inr (Or.inr rfl)) (by decide) (by decide)) (fun _ _ => rfl)) .non rfl)))) (.one (.ret .bl)) .nil)
  (.cons (.set (i := 10) (.ix rfl (.var (i := 0) rfl rfl (by first | exact Or.inl rfl | exact Or.inr (Or.inl rfl) | exact Or.inr (Or.inr rfl)) (by decide) (by decide)) (.var (i := 8) rfl rfl (by first | exact Or.inl rfl | exact Or.inr (Or.inl rfl) | exact Or.inr (Or.inr rfl)) (by decide) (by decide)) (fun _ _ => rfl)) nd rfl (by first | exact Or.inl rfl | exact Or.inr rfl) rfl (Or.inl rfl))
  (.cons (.if_ (.tru rfl (.callB (cv_any rfl rfl) z_any (.cons (.lc false rfl nd (LCV.mk' (own := [("source", 14)]) (is := [14]) (by kernel_rfl) (.any rfl (.var (i := 10) rfl rfl (by first | exact Or.inl rfl | exact Or.inr (Or.inl rfl) | exact Or.inr (Or.inr rfl)) (by decide) (by decide))) (fun _ _ _ _ _ => (.name nd rfl (by first | exact Or.inl rfl | exact Or.inr rfl) (by first | exact Or.inl rfl | exact Or.inr rfl))) (fun _ _ _ _ _ => .nil) (fun _ _ _ _ _ => (.cmp (ok_in rfl) (.var (i := 14) rfl rfl (by first | exact Or.inl rfl | exact Or.inr (Or.inl rfl) | exact Or.inr (Or.inr rfl)) (by decide) (by decide)) (.var (i := 7) rfl rfl (by first | exact Or.inl rfl | exact Or.inr (Or.inl rfl) | exact Or.inr (Or.inr rfl)) (by decide) (by decide)) rfl)) (by decide)) (fun _ => rfl)) .nil rfl) (by rfl) bt_any (by decide) (by decide) rfl rfl) (fun _ => rfl)) (.one (.ret .bl)) .nil)
  (.cons (.setLc (i := 11) false rfl nd (LCV.mk' (own := [("source", 14)]) (is := [14]) (by kernel_rfl) (.any rfl (.var (i := 10) rfl rfl (by first | exact Or.inl rfl | exact Or.inr (Or.inl rfl) | exact Or.inr (Or.inr rfl)) (by decide) (by decide))) (fun _ _ _ _ _ => (.name nd rfl (by first | exact Or.inl rfl | exact Or.inr rfl) (by first | exact Or.inl rfl | exact Or.inr rfl))) (fun _ _ _ _ _ => (.one (.cmp (ok_notin rfl) (.var (i := 14) rfl rfl (by first | exact Or.inl rfl | exact Or.inr (Or.inl rfl) | exact Or.inr (Or.inr rfl)) (by decide) (by decide)) (.var (i := 2) rfl rfl (by first | exact Or.inl rfl | exact Or.inr (Or.inl rfl) | exact Or.inr (Or.inr rfl)) (by decide) (by decide)) rfl))) (fun _ _ _ _ _ => (.var (i := 14) rfl rfl (by first | exact Or.inl rfl | exact Or.inr (Or.inl rfl) | exact Or.inr (Or.inr rfl)) (by decide) (by decide))) (by decide)) rfl rfl (sw_true rfl rfl rfl rfl) (fun _ => rfl))
  (.cons (.if_ (.not_ (.tru rfl (.call o__next_steps_right (hr.mono (by decide)) m__next_steps_right k__next_steps_right b__next_steps_right passE (.cons (.var (i := 5) rfl rfl (by first | exact Or.inl rfl | exact Or.inr (Or.inl rfl) | exact Or.inr (Or.inr rfl)) (by decide) (by decide)) (.cons (.callB (cv_len rfl) z_len (.cons (.var (i := 1) rfl rfl (by first | exact Or.inl rfl | exact Or.inr (Or.inl rfl) | exact Or.inr (Or.inr rfl)) (by decide) (by decide)) .nil rfl) (by rfl) bt_len (by decide) (by decide) rfl rfl) (.cons (.var (i := 11) rfl rfl (by first | exact Or.inl rfl | exact Or.inr (Or.inl rfl) | exact Or.inr (Or.inr rfl)) (by decide) (by decide)) (.cons (.var (i := 9) rfl rfl (by first | exact Or.inl rfl | exact Or.inr (Or.inl rfl) | exact Or.inr (Or.inr rfl)) (by decide) (by decide)) (.cons (.var (i := 6) rfl rfl (by first | exact Or.inl rfl | exact Or.inr (Or.inl rfl) | exact Or.inr (Or.inr rfl)) (by decide) (by decide)) .nil rfl) rfl) rfl) rfl) rfl) (by rfl) (by decide) rfl rfl) (fun _ => rfl))) (.one (.ret .bl)) .nil)
  (.one (.for_ PassesOwn.never rfl (.zipS rfl z_zip (.cons (.var (i := 11) rfl rfl (by first | exact Or.inl rfl | exact Or.inr (Or.inl rfl) | exact Or.inr (Or.inr rfl)) (by decide) (by decide)) (.cons (.var (i := 9) rfl rfl (by first | exact Or.inl rfl | exact Or.inr (Or.inl rfl) | exact Or.inr (Or.inr rfl)) (by decide) (by decide)) .nil rfl) rfl) (by rfl) (by rfl) (by rfl)) (.tup (n := 2) rfl rfl (.cons (ks := [12, 13]) (.name nd rfl (by first | exact Or.inl rfl | exact Or.inr rfl) (by first | exact Or.inl rfl | exact Or.inr rfl)) (.cons (ks := [12, 13]) (.name nd rfl (by first | exact Or.inl rfl | exact Or.inr rfl) (by first | exact Or.inl rfl | exact Or.inr rfl)) (.nil (is := [12, 13])) (by decide) (by decide) rfl) (by decide) (by decide) rfl) rfl rfl) (.one (.exp (.call o__lead (hr.mono (by decide)) m__lead k__lead b__lead passE (.cons (.var (i := 4) rfl rfl (by first | exact Or.inl rfl | exact Or.inr (Or.inl rfl) | exact Or.inr (Or.inr rfl)) (by decide) (by decide)) (.cons (.var (i := 13) rfl rfl (by first | exact Or.inl rfl | exact Or.inr (Or.inl rfl) | exact Or.inr (Or.inr rfl)) (by decide) (by decide)) (.cons (.bin ok_sub (.var (i := 6) rfl rfl (by first | exact Or.inl rfl | exact Or.inr (Or.inl rfl) | exact Or.inr (Or.inr rfl)) (by decide) (by decide)) .int) (.cons (.bin (ok_add rfl) (.var (i := 7) rfl rfl (by first | exact Or.inl rfl | exact Or.inr (Or.inl rfl) | exact Or.inr (Or.inr rfl)) (by decide) (by decide)) (.tup (.cons (.var (i := 12) rfl rfl (by first | exact Or.inl rfl | exact Or.inr (Or.inl rfl) | exact Or.inr (Or.inr rfl)) (by decide) (by decide)) .nil rfl))) .nil rfl) rfl) rfl) rfl) (by rfl) (by decide) rfl rfl) rfl)) (fun _ => rfl))))))))))) (fun _ => rfl))
  (.one (.ret .bl)))))
set_option maxHeartbeats 4000000 in
theorem ok_law {f : Addr} {fd : FuncData} (F : Fun K "law" "law" s_law f fd) {f__law_number : Addr} {fd__law_number : FuncData} (o__law_number : FnOk P w K mg base CX0 1 f__law_number fd__law_number ["script", "k"] (spF (gg K) 2 F__law_number)) (b__law_number : Binds K fd__law_number ["script", "k"] []) (m__law_number : mg "_law_number" = some (.ref f__law_number)) (k__law_number : PySem.W.keepIn K (.ref f__law_number) = true) {f__law_used : Addr} {fd__law_used : FuncData} (o__law_used : FnOk P w K mg base CX0 2 f__law_used fd__law_used ["script", "k", "many"] (spF (gg K) 3 F__law_used)) (b__law_used : Binds K fd__law_used ["script", "k", "many"] []) (m__law_used : mg "_law_used" = some (.ref f__law_used)) (k__law_used : PySem.W.keepIn K (.ref f__law_used) = true) {f__law_honest : Addr} {fd__law_honest : FuncData} (o__law_honest : FnOk P w K mg base CX0 1 f__law_honest fd__law_honest ["cell"] (spF (gg K) 1 F__law_honest)) (b__law_honest : Binds K fd__law_honest ["cell"] []) (m__law_honest : mg "_law_honest" = some (.ref f__law_honest)) (k__law_honest : PySem.W.keepIn K (.ref f__law_honest) = true) {f__law_make : Addr} {fd__law_make : FuncData} (o__law_make : FnOk P w K mg base CX0 5 f__law_make fd__law_make ["used", "honest", "path", "left", "start"] (spF (gg K) 5 F__law_make)) (b__law_make : Binds K fd__law_make ["used", "honest", "path", "left", "start"] []) (m__law_make : mg "_law_make" = some (.ref f__law_make)) (k__law_make : PySem.W.keepIn K (.ref f__law_make) = true) {f__law_drawn : Addr} {fd__law_drawn : FuncData} (o__law_drawn : FnOk P w K mg base CX0 2 f__law_drawn fd__law_drawn ["script", "k", "many"] (spF (gg K) 3 F__law_drawn)) (b__law_drawn : Binds K fd__law_drawn ["script", "k", "many"] []) (m__law_drawn : mg "_law_drawn" = some (.ref f__law_drawn)) (k__law_drawn : PySem.W.keepIn K (.ref f__law_drawn) = true) {f__law_spoilt : Addr} {fd__law_spoilt : FuncData} (o__law_spoilt : FnOk P w K mg base CX0 1 f__law_spoilt fd__law_spoilt ["steps", "cell", "many"] (spF (gg K) 3 F__law_spoilt)) (b__law_spoilt : Binds K fd__law_spoilt ["steps", "cell", "many"] []) (m__law_spoilt : mg "_law_spoilt" = some (.ref f__law_spoilt)) (k__law_spoilt : PySem.W.keepIn K (.ref f__law_spoilt) = true) {f__law_right : Addr} {fd__law_right : FuncData} (o__law_right : FnOk P w K mg base CX0 2 f__law_right fd__law_right ["used", "steps", "honest", "liars"] (spF (gg K) 4 F__law_right)) (b__law_right : Binds K fd__law_right ["used", "steps", "honest", "liars"] []) (m__law_right : mg "_law_right" = some (.ref f__law_right)) (k__law_right : PySem.W.keepIn K (.ref f__law_right) = true) {f__law_truth : Addr} {fd__law_truth : FuncData} (o__law_truth : FnOk P w K mg base CX0 1 f__law_truth fd__law_truth ["actual", "expected"] (spF (gg K) 2 F__law_truth)) (b__law_truth : Binds K fd__law_truth ["actual", "expected"] []) (m__law_truth : mg "_law_truth" = some (.ref f__law_truth)) (k__law_truth : PySem.W.keepIn K (.ref f__law_truth) = true) {f_blames_right : Addr} {fd_blames_right : FuncData} (o_blames_right : FnOk P w K mg base CX0 2 f_blames_right fd_blames_right ["used", "steps", "honest", "liars"] (spF (gg K) 4 F_blames_right)) (m_blames_right : mg "blames_right" = some (.ref f_blames_right)) (k_blames_right : PySem.W.keepIn K (.ref f_blames_right) = true) (kb_blames_right_2_2 : KBn K fd_blames_right ["used", "steps", "honest", "liars"] 2 ["honest", "liars"] (fun us ws => us ++ ws) (fun vs zs => vs ++ zs)) {mv_kb_blames_right_2_1 : List Value} {a_kb_blames_right_2_1 : Addr} (kt_kb_blames_right_2_1 : ∀ m H, reps (gg K) m H [.tup []] [.ref a_kb_blames_right_2_1]) (kb_blames_right_2_1 : KBn K fd_blames_right ["used", "steps", "honest", "liars"] 2 ["liars"] (fun us ws => us ++ (mv_kb_blames_right_2_1 ++ ws)) (fun vs zs => vs ++ ([V.ref a_kb_blames_right_2_1] ++ zs))) (z_int : mg "int" = none) (z_list : mg "list" = none) (z_tuple : mg "tuple" = none) : FnOk P w K mg base CX0 6 f fd ["script"] (spF (gg K) 1 F_law) := by
  refine Fn0 F sc_law (fun hl h => fnP_ends (N := 11) hl h) fun cdv A outer s H E hr => ?_
  have nd := sc_law.nd
  exact (.cons (.set (i := 1) (.call o__law_number (hr.mono (by decide)) m__law_number k__law_number b__law_number passE (.cons (.var (i := 0) rfl rfl (by first | exact Or.inl rfl | exact Or.inr (Or.inl rfl) | exact Or.inr (Or.inr rfl)) (by decide) (by decide)) (.cons .int .nil rfl) rfl) (by rfl) (by decide) rfl rfl) nd rfl (by first | exact Or.inl rfl | exact Or.inr rfl) rfl (Or.inl rfl))
  (.cons (.set (i := 2) (.bin ok_mod (.callT cv_int z_int (.cons (.var (i := 1) rfl rfl (by first | exact Or.inl rfl | exact Or.inr (Or.inl rfl) | exact Or.inr (Or.inr rfl)) (by decide) (by decide)) .nil rfl) (by rfl) bt_int (by decide) (by decide) rfl rfl) .int) nd rfl (by first | exact Or.inl rfl | exact Or.inr rfl) rfl (Or.inl rfl))
  (.cons (.set (i := 3) (.call o__law_used (hr.mono (by decide)) m__law_used k__law_used b__law_used passE (.cons (.var (i := 0) rfl rfl (by first | exact Or.inl rfl | exact Or.inr (Or.inl rfl) | exact Or.inr (Or.inr rfl)) (by decide) (by decide)) (.cons .int (.cons (.var (i := 2) rfl rfl (by first | exact Or.inl rfl | exact Or.inr (Or.inl rfl) | exact Or.inr (Or.inr rfl)) (by decide) (by decide)) .nil rfl) rfl) rfl) (by rfl) (by decide) rfl rfl) nd rfl (by first | exact Or.inl rfl | exact Or.inr rfl) rfl (Or.inl rfl))
  (.cons (.set (i := 4) (.call o__law_honest (hr.mono (by decide)) m__law_honest k__law_honest b__law_honest passE (.cons (.bin ok_div (.var (i := 1) rfl rfl (by first | exact Or.inl rfl | exact Or.inr (Or.inl rfl) | exact Or.inr (Or.inr rfl)) (by decide) (by decide)) .int) .nil rfl) (by rfl) (by decide) rfl rfl) nd rfl (by first | exact Or.inl rfl | exact Or.inr rfl) rfl (Or.inl rfl))
  (.cons (.set (i := 5) (.bin ok_mod (.callT cv_int z_int (.cons (.bin ok_div (.var (i := 1) rfl rfl (by first | exact Or.inl rfl | exact Or.inr (Or.inl rfl) | exact Or.inr (Or.inr rfl)) (by decide) (by decide)) .int) .nil rfl) (by rfl) bt_int (by decide) (by decide) rfl rfl) .int) nd rfl (by first | exact Or.inl rfl | exact Or.inr rfl) rfl (Or.inl rfl))
  (.cons (.set (i := 6) (.call o__law_make (hr.mono (by decide)) m__law_make k__law_make b__law_make passE (.cons (.var (i := 3) rfl rfl (by first | exact Or.inl rfl | exact Or.inr (Or.inl rfl) | exact Or.inr (Or.inr rfl)) (by decide) (by decide)) (.cons (.var (i := 4) rfl rfl (by first | exact Or.inl rfl | exact Or.inr (Or.inl rfl) | exact Or.inr (Or.inr rfl)) (by decide) (by decide)) (.cons (.lst false .nil) (.cons (.var (i := 5) rfl rfl (by first | exact Or.inl rfl | exact Or.inr (Or.inl rfl) | exact Or.inr (Or.inr rfl)) (by decide) (by decide)) (.cons .int .nil rfl) rfl) rfl) rfl) rfl) (by rfl) (by decide) rfl rfl) nd rfl (by first | exact Or.inl rfl | exact Or.inr rfl) rfl (Or.inl rfl))
  (.cons (.set (i := 7) (.lst true (.cons (.call o__law_drawn (hr.mono (by decide)) m__law_drawn k__law_drawn b__law_drawn passE (.cons (.var (i := 0) rfl rfl (by first | exact Or.inl rfl | exact Or.inr (Or.inl rfl) | exact Or.inr (Or.inr rfl)) (by decide) (by decide)) (.cons .int (.cons (.var (i := 2) rfl rfl (by first | exact Or.inl rfl | exact Or.inr (Or.inl rfl) | exact Or.inr (Or.inr rfl)) (by decide) (by decide)) .nil rfl) rfl) rfl) (by rfl) (by decide) rfl rfl) (.cons (.lst false .nil) .nil rfl) rfl)) nd rfl (by first | exact Or.inl rfl | exact Or.inr rfl) rfl (Or.inl rfl))
  (.cons (.if_ (.cmp ok_notN (.var (i := 6) rfl rfl (by first | exact Or.inl rfl | exact Or.inr (Or.inl rfl) | exact Or.inr (Or.inr rfl)) (by decide) (by decide)) .non rfl) (.cons (.exp (.bm rfl PySem.F.plainAttrs_list PySem.F.slot_list_append PySem.F.type_list_append bm_append (.var (i := 7) rfl rfl (by first | exact Or.inl rfl | exact Or.inr (Or.inl rfl) | exact Or.inr (Or.inr rfl)) (by decide) (by decide)) (.cons (.var (i := 6) rfl rfl (by first | exact Or.inl rfl | exact Or.inr (Or.inl rfl) | exact Or.inr (Or.inr rfl)) (by decide) (by decide)) .nil rfl) rfl rfl rfl rfl rfl) rfl)
  (.cons (.exp (.bm rfl PySem.F.plainAttrs_list PySem.F.slot_list_append PySem.F.type_list_append bm_append (.var (i := 7) rfl rfl (by first | exact Or.inl rfl | exact Or.inr (Or.inl rfl) | exact Or.inr (Or.inr rfl)) (by decide) (by decide)) (.cons (.call o__law_spoilt (hr.mono (by decide)) m__law_spoilt k__law_spoilt b__law_spoilt passE (.cons (.var (i := 6) rfl rfl (by first | exact Or.inl rfl | exact Or.inr (Or.inl rfl) | exact Or.inr (Or.inr rfl)) (by decide) (by decide)) (.cons (.call o__law_number (hr.mono (by decide)) m__law_number k__law_number b__law_number passE (.cons (.var (i := 0) rfl rfl (by first | exact Or.inl rfl | exact Or.inr (Or.inl rfl) | exact Or.inr (Or.inr rfl)) (by decide) (by decide)) (.cons .int .nil rfl) rfl) (by rfl) (by decide) rfl rfl) (.cons (.var (i := 2) rfl rfl (by first | exact Or.inl rfl | exact Or.inr (Or.inl rfl) | exact Or.inr (Or.inr rfl)) (by decide) (by decide)) .nil rfl) rfl) rfl) (by rfl) (by decide) rfl rfl) .nil rfl) rfl rfl rfl rfl rfl) rfl)
  (.one (.exp (.bm rfl PySem.F.plainAttrs_list PySem.F.slot_list_append PySem.F.type_list_append bm_append (.var (i := 7) rfl rfl (by first | exact Or.inl rfl | exact Or.inr (Or.inl rfl) | exact Or.inr (Or.inr rfl)) (by decide) (by decide)) (.cons (.bin (ok_add rfl) (.call o__law_spoilt (hr.mono (by decide)) m__law_spoilt k__law_spoilt b__law_spoilt passE (.cons (.var (i := 6) rfl rfl (by first | exact Or.inl rfl | exact Or.inr (Or.inl rfl) | exact Or.inr (Or.inr rfl)) (by decide) (by decide)) (.cons (.call o__law_number (hr.mono (by decide)) m__law_number k__law_number b__law_number passE (.cons (.var (i := 0) rfl rfl (by first | exact Or.inl rfl | exact Or.inr (Or.inl rfl) | exact Or.inr (Or.inr rfl)) (by decide) (by decide)) (.cons .int .nil rfl) rfl) (by rfl) (by decide) rfl rfl) (.cons (.var (i := 2) rfl rfl (by first | exact Or.inl rfl | exact Or.inr (Or.inl rfl) | exact Or.inr (Or.inr rfl)) (by decide) (by decide)) .nil rfl) rfl) rfl) (by rfl) (by decide) rfl rfl) (.lst false (.cons (.tup (.cons .int (.cons (.tup (.cons .int (.cons .int .nil rfl) rfl)) .nil rfl) rfl)) .nil rfl))) .nil rfl) rfl rfl rfl rfl rfl) rfl)))) .nil)
  (.cons (.for_ PassesOwn.never rfl (.any rfl (.var (i := 7) rfl rfl (by first | exact Or.inl rfl | exact Or.inr (Or.inl rfl) | exact Or.inr (Or.inr rfl)) (by decide) (by decide))) (.name nd rfl (by first | exact Or.inl rfl | exact Or.inr rfl) (by first | exact Or.inl rfl | exact Or.inr rfl)) (.cons (.set (i := 9) (.callT (cv_list false rfl) z_list (.cons (.var (i := 3) rfl rfl (by first | exact Or.inl rfl | exact Or.inr (Or.inl rfl) | exact Or.inr (Or.inr rfl)) (by decide) (by decide)) .nil rfl) (by rfl) bt_list (by decide) (by decide) rfl rfl) nd rfl (by first | exact Or.inl rfl | exact Or.inr rfl) rfl (Or.inl rfl))
  (.cons (.set (i := 10) (.call o__law_right (hr.mono (by decide)) m__law_right k__law_right b__law_right passE (.cons (.var (i := 3) rfl rfl (by first | exact Or.inl rfl | exact Or.inr (Or.inl rfl) | exact Or.inr (Or.inr rfl)) (by decide) (by decide)) (.cons (.var (i := 8) rfl rfl (by first | exact Or.inl rfl | exact Or.inr (Or.inl rfl) | exact Or.inr (Or.inr rfl)) (by decide) (by decide)) (.cons (.var (i := 4) rfl rfl (by first | exact Or.inl rfl | exact Or.inr (Or.inl rfl) | exact Or.inr (Or.inr rfl)) (by decide) (by decide)) (.cons (.var (i := 5) rfl rfl (by first | exact Or.inl rfl | exact Or.inr (Or.inl rfl) | exact Or.inr (Or.inr rfl)) (by decide) (by decide)) .nil rfl) rfl) rfl) rfl) (by rfl) (by decide) rfl rfl) nd rfl (by first | exact Or.inl rfl | exact Or.inr rfl) rfl (Or.inl rfl))
  (.cons (.if_ (.not_ (.tru rfl (.call o__law_truth (hr.mono (by decide)) m__law_truth k__law_truth b__law_truth passE (.cons (.callN o_blames_right (hr.mono (by decide)) m_blames_right k_blames_right kb_blames_right_2_2 .app (fun xs ys h1 h2 => by rw [show (gApp xs ys).length = xs.length + ys.length from List.length_append, h1, h2]; rfl) passE (.cons (.var (i := 9) rfl rfl (by first | exact Or.inl rfl | exact Or.inr (Or.inl rfl) | exact Or.inr (Or.inr rfl)) (by decide) (by decide)) (.cons (.callT (cv_tuple rfl) z_tuple (.cons (.var (i := 8) rfl rfl (by first | exact Or.inl rfl | exact Or.inr (Or.inl rfl) | exact Or.inr (Or.inr rfl)) (by decide) (by decide)) .nil rfl) (by rfl) bt_tuple (by decide) (by decide) rfl rfl) .nil rfl) rfl) (.cons (.var (i := 4) rfl rfl (by first | exact Or.inl rfl | exact Or.inr (Or.inl rfl) | exact Or.inr (Or.inr rfl)) (by decide) (by decide)) (.cons (.var (i := 5) rfl rfl (by first | exact Or.inl rfl | exact Or.inr (Or.inl rfl) | exact Or.inr (Or.inr rfl)) (by decide) (by decide)) .nil)) (by rfl) rfl rfl (by decide) rfl rfl) (.cons (.var (i := 10) rfl rfl (by first | exact Or.inl rfl | exact Or.inr (Or.inl rfl) | exact Or.inr (Or.inr rfl)) (by decide) (by decide)) .nil rfl) rfl) (by rfl) (by decide) rfl rfl) (fun _ => rfl))) (.one (.ret .bl)) .nil)
  (.one (.if_ (.cmp (ok_ne rfl hr.units) (.var (i := 9) rfl rfl (by first | exact Or.inl rfl | exact Or.inr (Or.inl rfl) | exact Or.inr (Or.inr rfl)) (by decide) (by decide)) (.var (i := 3) rfl rfl (by first | exact Or.inl rfl | exact Or.inr (Or.inl rfl) | exact Or.inr (Or.inr rfl)) (by decide) (by decide)) rfl) (.one (.ret .bl)) .nil))))) (fun _ => rfl))
  (.cons (.if_ (.cmp (ok_eq rfl hr.units) (.var (i := 4) rfl rfl (by first | exact Or.inl rfl | exact Or.inr (Or.inl rfl) | exact Or.inr (Or.inr rfl)) (by decide) (by decide)) (.tup .nil) rfl) (.one (.ret (.call o__law_truth (hr.mono (by decide)) m__law_truth k__law_truth b__law_truth passE (.cons (.callN o_blames_right (hr.mono (by decide)) m_blames_right k_blames_right kb_blames_right_2_1 (.preD (us := [.ref a_kb_blames_right_2_1]) fun m H => kt_kb_blames_right_2_1 m H) (fun xs ys h1 h2 => by rw [show (gPreD [.tup []] xs ys).length = xs.length + (1 + ys.length) from by simp [gPreD]; omega, h1, h2]; rfl) passE (.cons (.var (i := 3) rfl rfl (by first | exact Or.inl rfl | exact Or.inr (Or.inl rfl) | exact Or.inr (Or.inr rfl)) (by decide) (by decide)) (.cons (.callT (cv_tuple rfl) z_tuple (.cons (.ix rfl (.var (i := 7) rfl rfl (by first | exact Or.inl rfl | exact Or.inr (Or.inl rfl) | exact Or.inr (Or.inr rfl)) (by decide) (by decide)) (.neg .int) (fun _ _ => rfl)) .nil rfl) (by rfl) bt_tuple (by decide) (by decide) rfl rfl) .nil rfl) rfl) (.cons (.var (i := 5) rfl rfl (by first | exact Or.inl rfl | exact Or.inr (Or.inl rfl) | exact Or.inr (Or.inr rfl)) (by decide) (by decide)) .nil) (by rfl) rfl rfl (by decide) rfl rfl) (.cons (.call o__law_right (hr.mono (by decide)) m__law_right k__law_right b__law_right passE (.cons (.var (i := 3) rfl rfl (by first | exact Or.inl rfl | exact Or.inr (Or.inl rfl) | exact Or.inr (Or.inr rfl)) (by decide) (by decide)) (.cons (.ix rfl (.var (i := 7) rfl rfl (by first | exact Or.inl rfl | exact Or.inr (Or.inl rfl) | exact Or.inr (Or.inr rfl)) (by decide) (by decide)) (.neg .int) (fun _ _ => rfl)) (.cons (.tup .nil) (.cons (.var (i := 5) rfl rfl (by first | exact Or.inl rfl | exact Or.inr (Or.inl rfl) | exact Or.inr (Or.inr rfl)) (by decide) (by decide)) .nil rfl) rfl) rfl) rfl) (by rfl) (by decide) rfl rfl) .nil rfl) rfl) (by rfl) (by decide) rfl rfl))) .nil)
  (.one (.ret .bl))))))))))))
end
set_option maxHeartbeats 4000000 in
theorem all_mk {l : PySem.W.OpenLaw} {w : World} {K : PySem.W.Frag} {h : Heap} {mg : Str → Option Value} {fa : Addr} (X : K.In h) (G : h.Ns mainGlobals mg) (hfa : mg "law" = some (.ref fa))
    {fa__law_number : Addr} {od__law_number an__law_number : Option Addr} {sl__law_number : Array (Option Value)} {oc__law_number kV__law_number dc__law_number pm__law_number cd__law_number ct__law_number : Value}
    {fa__law_used : Addr} {od__law_used an__law_used : Option Addr} {sl__law_used : Array (Option Value)} {oc__law_used kV__law_used dc__law_used pm__law_used cd__law_used ct__law_used : Value}
    {fa__law_honest : Addr} {od__law_honest an__law_honest : Option Addr} {sl__law_honest : Array (Option Value)} {oc__law_honest kV__law_honest dc__law_honest pm__law_honest cd__law_honest ct__law_honest : Value}
    {fa__law_make : Addr} {od__law_make an__law_make : Option Addr} {sl__law_make : Array (Option Value)} {oc__law_make kV__law_make dc__law_make pm__law_make cd__law_make ct__law_make : Value}
    {fa__law_drawn : Addr} {od__law_drawn an__law_drawn : Option Addr} {sl__law_drawn : Array (Option Value)} {oc__law_drawn kV__law_drawn dc__law_drawn pm__law_drawn cd__law_drawn ct__law_drawn : Value}
    {fa__law_spoilt : Addr} {od__law_spoilt an__law_spoilt : Option Addr} {sl__law_spoilt : Array (Option Value)} {oc__law_spoilt kV__law_spoilt dc__law_spoilt pm__law_spoilt cd__law_spoilt ct__law_spoilt : Value}
    {fa__law_step_right : Addr} {od__law_step_right an__law_step_right : Option Addr} {sl__law_step_right : Array (Option Value)} {oc__law_step_right kV__law_step_right dc__law_step_right pm__law_step_right cd__law_step_right ct__law_step_right : Value}
    {fa__law_right : Addr} {od__law_right an__law_right : Option Addr} {sl__law_right : Array (Option Value)} {oc__law_right kV__law_right dc__law_right pm__law_right cd__law_right ct__law_right : Value}
    {fa__law_truth : Addr} {od__law_truth an__law_truth : Option Addr} {sl__law_truth : Array (Option Value)} {oc__law_truth kV__law_truth dc__law_truth pm__law_truth cd__law_truth ct__law_truth : Value}
    {fa__next_steps_right : Addr} {od__next_steps_right an__next_steps_right : Option Addr} {sl__next_steps_right : Array (Option Value)} {oc__next_steps_right kV__next_steps_right dc__next_steps_right pm__next_steps_right cd__next_steps_right ct__next_steps_right : Value}
    {fa__lead : Addr} {od__lead an__lead : Option Addr} {sl__lead : Array (Option Value)} {oc__lead kV__lead dc__lead pm__lead cd__lead ct__lead : Value}
    {fa_blames_right : Addr} {od_blames_right an_blames_right : Option Addr} {sl_blames_right : Array (Option Value)} {oc_blames_right  dc_blames_right pm_blames_right cd_blames_right ct_blames_right : Value}
    {kD_blames_right : Addr}
    {ad_blames_right_honest : Addr} {dd_blames_right_honest : Option Addr} {nd_blames_right_honest : Nat} {sd_blames_right_honest : Array (Option Value)}
    {fa_law : Addr} {od_law an_law : Option Addr} {sl_law : Array (Option Value)} {oc_law kV_law dc_law pm_law cd_law ct_law : Value}
    (a__law_number : PySem.W.nsIn K mainGlobals "_law_number" = some (some (.ref fa__law_number)))
    (l__law_number : K.lookup fa__law_number = some ⟨oc__law_number, od__law_number, .func (PySem.W.fnOf "_law_number" "_law_number" (defArgs s__law_number) (defBody s__law_number) (defScope s__law_number) .none kV__law_number dc__law_number pm__law_number an__law_number cd__law_number ct__law_number), sl__law_number⟩)
    (c__law_number : PySem.W.codeIn K cd__law_number "_law_number" = true)
    (k__law_number : PySem.W.keepIn K (.ref fa__law_number) = true)
    (a__law_used : PySem.W.nsIn K mainGlobals "_law_used" = some (some (.ref fa__law_used)))
    (l__law_used : K.lookup fa__law_used = some ⟨oc__law_used, od__law_used, .func (PySem.W.fnOf "_law_used" "_law_used" (defArgs s__law_used) (defBody s__law_used) (defScope s__law_used) .none kV__law_used dc__law_used pm__law_used an__law_used cd__law_used ct__law_used), sl__law_used⟩)
    (c__law_used : PySem.W.codeIn K cd__law_used "_law_used" = true)
    (k__law_used : PySem.W.keepIn K (.ref fa__law_used) = true)
    (a__law_honest : PySem.W.nsIn K mainGlobals "_law_honest" = some (some (.ref fa__law_honest)))
    (l__law_honest : K.lookup fa__law_honest = some ⟨oc__law_honest, od__law_honest, .func (PySem.W.fnOf "_law_honest" "_law_honest" (defArgs s__law_honest) (defBody s__law_honest) (defScope s__law_honest) .none kV__law_honest dc__law_honest pm__law_honest an__law_honest cd__law_honest ct__law_honest), sl__law_honest⟩)
    (c__law_honest : PySem.W.codeIn K cd__law_honest "_law_honest" = true)
    (k__law_honest : PySem.W.keepIn K (.ref fa__law_honest) = true)
    (a__law_make : PySem.W.nsIn K mainGlobals "_law_make" = some (some (.ref fa__law_make)))
    (l__law_make : K.lookup fa__law_make = some ⟨oc__law_make, od__law_make, .func (PySem.W.fnOf "_law_make" "_law_make" (defArgs s__law_make) (defBody s__law_make) (defScope s__law_make) .none kV__law_make dc__law_make pm__law_make an__law_make cd__law_make ct__law_make), sl__law_make⟩)
    (c__law_make : PySem.W.codeIn K cd__law_make "_law_make" = true)
    (k__law_make : PySem.W.keepIn K (.ref fa__law_make) = true)
    (a__law_drawn : PySem.W.nsIn K mainGlobals "_law_drawn" = some (some (.ref fa__law_drawn)))
    (l__law_drawn : K.lookup fa__law_drawn = some ⟨oc__law_drawn, od__law_drawn, .func (PySem.W.fnOf "_law_drawn" "_law_drawn" (defArgs s__law_drawn) (defBody s__law_drawn) (defScope s__law_drawn) .none kV__law_drawn dc__law_drawn pm__law_drawn an__law_drawn cd__law_drawn ct__law_drawn), sl__law_drawn⟩)
    (c__law_drawn : PySem.W.codeIn K cd__law_drawn "_law_drawn" = true)
    (k__law_drawn : PySem.W.keepIn K (.ref fa__law_drawn) = true)
    (a__law_spoilt : PySem.W.nsIn K mainGlobals "_law_spoilt" = some (some (.ref fa__law_spoilt)))
    (l__law_spoilt : K.lookup fa__law_spoilt = some ⟨oc__law_spoilt, od__law_spoilt, .func (PySem.W.fnOf "_law_spoilt" "_law_spoilt" (defArgs s__law_spoilt) (defBody s__law_spoilt) (defScope s__law_spoilt) .none kV__law_spoilt dc__law_spoilt pm__law_spoilt an__law_spoilt cd__law_spoilt ct__law_spoilt), sl__law_spoilt⟩)
    (c__law_spoilt : PySem.W.codeIn K cd__law_spoilt "_law_spoilt" = true)
    (k__law_spoilt : PySem.W.keepIn K (.ref fa__law_spoilt) = true)
    (a__law_step_right : PySem.W.nsIn K mainGlobals "_law_step_right" = some (some (.ref fa__law_step_right)))
    (l__law_step_right : K.lookup fa__law_step_right = some ⟨oc__law_step_right, od__law_step_right, .func (PySem.W.fnOf "_law_step_right" "_law_step_right" (defArgs s__law_step_right) (defBody s__law_step_right) (defScope s__law_step_right) .none kV__law_step_right dc__law_step_right pm__law_step_right an__law_step_right cd__law_step_right ct__law_step_right), sl__law_step_right⟩)
    (c__law_step_right : PySem.W.codeIn K cd__law_step_right "_law_step_right" = true)
    (k__law_step_right : PySem.W.keepIn K (.ref fa__law_step_right) = true)
    (a__law_right : PySem.W.nsIn K mainGlobals "_law_right" = some (some (.ref fa__law_right)))
    (l__law_right : K.lookup fa__law_right = some ⟨oc__law_right, od__law_right, .func (PySem.W.fnOf "_law_right" "_law_right" (defArgs s__law_right) (defBody s__law_right) (defScope s__law_right) .none kV__law_right dc__law_right pm__law_right an__law_right cd__law_right ct__law_right), sl__law_right⟩)
    (c__law_right : PySem.W.codeIn K cd__law_right "_law_right" = true)
    (k__law_right : PySem.W.keepIn K (.ref fa__law_right) = true)
    (a__law_truth : PySem.W.nsIn K mainGlobals "_law_truth" = some (some (.ref fa__law_truth)))
    (l__law_truth : K.lookup fa__law_truth = some ⟨oc__law_truth, od__law_truth, .func (PySem.W.fnOf "_law_truth" "_law_truth" (defArgs s__law_truth) (defBody s__law_truth) (defScope s__law_truth) .none kV__law_truth dc__law_truth pm__law_truth an__law_truth cd__law_truth ct__law_truth), sl__law_truth⟩)
    (c__law_truth : PySem.W.codeIn K cd__law_truth "_law_truth" = true)
    (k__law_truth : PySem.W.keepIn K (.ref fa__law_truth) = true)
    (a__next_steps_right : PySem.W.nsIn K mainGlobals "_next_steps_right" = some (some (.ref fa__next_steps_right)))
    (l__next_steps_right : K.lookup fa__next_steps_right = some ⟨oc__next_steps_right, od__next_steps_right, .func (PySem.W.fnOf "_next_steps_right" "_next_steps_right" (defArgs s__next_steps_right) (defBody s__next_steps_right) (defScope s__next_steps_right) .none kV__next_steps_right dc__next_steps_right pm__next_steps_right an__next_steps_right cd__next_steps_right ct__next_steps_right), sl__next_steps_right⟩)
    (c__next_steps_right : PySem.W.codeIn K cd__next_steps_right "_next_steps_right" = true)
    (k__next_steps_right : PySem.W.keepIn K (.ref fa__next_steps_right) = true)
    (a__lead : PySem.W.nsIn K mainGlobals "_lead" = some (some (.ref fa__lead)))
    (l__lead : K.lookup fa__lead = some ⟨oc__lead, od__lead, .func (PySem.W.fnOf "_lead" "_lead" (defArgs s__lead) (defBody s__lead) (defScope s__lead) .none kV__lead dc__lead pm__lead an__lead cd__lead ct__lead), sl__lead⟩)
    (c__lead : PySem.W.codeIn K cd__lead "_lead" = true)
    (k__lead : PySem.W.keepIn K (.ref fa__lead) = true)
    (a_blames_right : PySem.W.nsIn K mainGlobals "blames_right" = some (some (.ref fa_blames_right)))
    (l_blames_right : K.lookup fa_blames_right = some ⟨oc_blames_right, od_blames_right, .func (PySem.W.fnOf "blames_right" "blames_right" (defArgs s_blames_right) (defBody s_blames_right) (defScope s_blames_right) .none (.ref kD_blames_right) dc_blames_right pm_blames_right an_blames_right cd_blames_right ct_blames_right), sl_blames_right⟩)
    (d_blames_right_honest : PySem.W.nsIn K kD_blames_right "honest" = some (some (.ref ad_blames_right_honest)))
    (e_blames_right_honest : K.lookup ad_blames_right_honest = some ⟨.type "tuple", dd_blames_right_honest, .seq #[] nd_blames_right_honest, sd_blames_right_honest⟩)
    (c_blames_right : PySem.W.codeIn K cd_blames_right "blames_right" = true)
    (k_blames_right : PySem.W.keepIn K (.ref fa_blames_right) = true)
    (a_law : PySem.W.nsIn K mainGlobals "law" = some (some (.ref fa_law)))
    (l_law : K.lookup fa_law = some ⟨oc_law, od_law, .func (PySem.W.fnOf "law" "law" (defArgs s_law) (defBody s_law) (defScope s_law) .none kV_law dc_law pm_law an_law cd_law ct_law), sl_law⟩)
    (c_law : PySem.W.codeIn K cd_law "law" = true)
    (k_law : PySem.W.keepIn K (.ref fa_law) = true)
    (z_all : PySem.W.nsIn K mainGlobals "all" = some none)
    (z_any : PySem.W.nsIn K mainGlobals "any" = some none)
    (z_bool : PySem.W.nsIn K mainGlobals "bool" = some none)
    (z_int : PySem.W.nsIn K mainGlobals "int" = some none)
    (z_isinstance : PySem.W.nsIn K mainGlobals "isinstance" = some none)
    (z_len : PySem.W.nsIn K mainGlobals "len" = some none)
    (z_list : PySem.W.nsIn K mainGlobals "list" = some none)
    (z_max : PySem.W.nsIn K mainGlobals "max" = some none)
    (z_range : PySem.W.nsIn K mainGlobals "range" = some none)
    (z_tuple : PySem.W.nsIn K mainGlobals "tuple" = some none)
    (z_zip : PySem.W.nsIn K mainGlobals "zip" = some none) :
    ∃ fd : FuncData, (∀ (s : Shared) (v : Value), BindsTo s fd ⟨[v], []⟩ [("script", v)]) ∧ ∀ base : Heap, K.In base → base.Ns mainGlobals mg → FnOk l.prog w K mg base CX0 6 fa fd ["script"] (spF (gg K) 1 F_law) := by
  have e := hfa.symm.trans (PySem.W.mg_of X G a_law)
  cases e
  have fu__law_number := fun_mk (st := s__law_number) l__law_number c__law_number k__law_number
  have b__law_number := fu__law_number.binds (ps := ["script", "k"]) fun _ _ _ _ _ _ us hl => match us, hl with | [_, _], _ => rfl
  have m__law_number := PySem.W.mg_of X G a__law_number
  have fu__law_used := fun_mk (st := s__law_used) l__law_used c__law_used k__law_used
  have b__law_used := fu__law_used.binds (ps := ["script", "k", "many"]) fun _ _ _ _ _ _ us hl => match us, hl with | [_, _, _], _ => rfl
  have m__law_used := PySem.W.mg_of X G a__law_used
  have fu__law_honest := fun_mk (st := s__law_honest) l__law_honest c__law_honest k__law_honest
  have b__law_honest := fu__law_honest.binds (ps := ["cell"]) fun _ _ _ _ _ _ us hl => match us, hl with | [_], _ => rfl
  have m__law_honest := PySem.W.mg_of X G a__law_honest
  have fu__law_make := fun_mk (st := s__law_make) l__law_make c__law_make k__law_make
  have b__law_make := fu__law_make.binds (ps := ["used", "honest", "path", "left", "start"]) fun _ _ _ _ _ _ us hl => match us, hl with | [_, _, _, _, _], _ => rfl
  have m__law_make := PySem.W.mg_of X G a__law_make
  have fu__law_drawn := fun_mk (st := s__law_drawn) l__law_drawn c__law_drawn k__law_drawn
  have b__law_drawn := fu__law_drawn.binds (ps := ["script", "k", "many"]) fun _ _ _ _ _ _ us hl => match us, hl with | [_, _, _], _ => rfl
  have m__law_drawn := PySem.W.mg_of X G a__law_drawn
  have fu__law_spoilt := fun_mk (st := s__law_spoilt) l__law_spoilt c__law_spoilt k__law_spoilt
  have b__law_spoilt := fu__law_spoilt.binds (ps := ["steps", "cell", "many"]) fun _ _ _ _ _ _ us hl => match us, hl with | [_, _, _], _ => rfl
  have m__law_spoilt := PySem.W.mg_of X G a__law_spoilt
  have fu__law_step_right := fun_mk (st := s__law_step_right) l__law_step_right c__law_step_right k__law_step_right
  have b__law_step_right := fu__law_step_right.binds (ps := ["used", "step", "left", "barred", "honest", "at", "many"]) fun _ _ _ _ _ _ us hl => match us, hl with | [_, _, _, _, _, _, _], _ => rfl
  have m__law_step_right := PySem.W.mg_of X G a__law_step_right
  have fu__law_right := fun_mk (st := s__law_right) l__law_right c__law_right k__law_right
  have b__law_right := fu__law_right.binds (ps := ["used", "steps", "honest", "liars"]) fun _ _ _ _ _ _ us hl => match us, hl with | [_, _, _, _], _ => rfl
  have m__law_right := PySem.W.mg_of X G a__law_right
  have fu__law_truth := fun_mk (st := s__law_truth) l__law_truth c__law_truth k__law_truth
  have b__law_truth := fu__law_truth.binds (ps := ["actual", "expected"]) fun _ _ _ _ _ _ us hl => match us, hl with | [_, _], _ => rfl
  have m__law_truth := PySem.W.mg_of X G a__law_truth
  have fu__next_steps_right := fun_mk (st := s__next_steps_right) l__next_steps_right c__next_steps_right k__next_steps_right
  have b__next_steps_right := fu__next_steps_right.binds (ps := ["number", "count", "suspects", "following", "left"]) fun _ _ _ _ _ _ us hl => match us, hl with | [_, _, _, _, _], _ => rfl
  have m__next_steps_right := PySem.W.mg_of X G a__next_steps_right
  have fu__lead := fun_mk (st := s__lead) l__lead c__lead k__lead
  have b__lead := fu__lead.binds (ps := ["marks", "step", "left", "barred"]) fun _ _ _ _ _ _ us hl => match us, hl with | [_, _, _, _], _ => rfl
  have m__lead := PySem.W.mg_of X G a__lead
  have fu_blames_right := fun_mk (st := s_blames_right) l_blames_right c_blames_right k_blames_right
  have m_blames_right := PySem.W.mg_of X G a_blames_right
  have fu_law := fun_mk (st := s_law) l_law c_law k_law
  have kb_blames_right_2_2 := kbA fu_blames_right (ps := ["used", "steps", "honest", "liars"]) 2 ["honest", "liars"] fun _ _ _ _ _ _ us ws h1 h2 => match us, h1, ws, h2 with | [_, _], _, [_, _], _ => rfl
  obtain ⟨mv_kb_blames_right_2_1, kb_blames_right_2_1⟩ := kbP (ps := ["used", "steps", "honest", "liars"]) (fund_mk (st := s_blames_right) (kws := [("honest", .ref ad_blames_right_honest)]) l_blames_right c_blames_right k_blames_right (by simp only [List.forall_mem_cons, List.not_mem_nil, false_implies, implies_true, and_true]; exact ⟨_, d_blames_right_honest, rfl⟩)) 2 ["liars"] (by simp) fun _ _ _ _ _ _ us mv ws h1 h2 h3 => match us, h1, mv, h2, ws, h3 with | [_, _], _, [_], _, [_], _ => ⟨_, _, _, _, _, _, rfl, rfl, rfl⟩
  have kt_kb_blames_right_2_1 : ∀ m H, reps (gg K) m H [.tup []] [.ref ad_blames_right_honest] := fun m H => reps_nilT (g := (gg K)) e_blames_right_honest rfl rfl m H
  have mz_all := PySem.W.mg_none_of X G z_all
  have mz_any := PySem.W.mg_none_of X G z_any
  have mz_bool := PySem.W.mg_none_of X G z_bool
  have mz_int := PySem.W.mg_none_of X G z_int
  have mz_isinstance := PySem.W.mg_none_of X G z_isinstance
  have mz_len := PySem.W.mg_none_of X G z_len
  have mz_list := PySem.W.mg_none_of X G z_list
  have mz_max := PySem.W.mg_none_of X G z_max
  have mz_range := PySem.W.mg_none_of X G z_range
  have mz_tuple := PySem.W.mg_none_of X G z_tuple
  have mz_zip := PySem.W.mg_none_of X G z_zip
  refine ⟨PySem.W.fnOf "law" "law" (defArgs s_law) (defBody s_law) (defScope s_law) .none kV_law dc_law pm_law an_law cd_law ct_law, fun s v => .of_eq rfl, fun base _ _ => ?_⟩
  have o__law_number := ok__law_number (P := l.prog) (w := w) (mg := mg) (base := base) fu__law_number mz_int mz_len
  have o__law_used := ok__law_used (P := l.prog) (w := w) (mg := mg) (base := base) fu__law_used o__law_number b__law_number m__law_number k__law_number mz_int mz_range mz_tuple
  have o__law_honest := ok__law_honest (P := l.prog) (w := w) (mg := mg) (base := base) fu__law_honest mz_int
  have o__law_make := ok__law_make (P := l.prog) (w := w) (mg := mg) (base := base) fu__law_make mz_len mz_range mz_tuple m__law_make k__law_make b__law_make
  have o__law_drawn := ok__law_drawn (P := l.prog) (w := w) (mg := mg) (base := base) fu__law_drawn o__law_number b__law_number m__law_number k__law_number mz_int mz_range mz_tuple
  have o__law_spoilt := ok__law_spoilt (P := l.prog) (w := w) (mg := mg) (base := base) fu__law_spoilt mz_int mz_len
  have o__law_step_right := ok__law_step_right (P := l.prog) (w := w) (mg := mg) (base := base) fu__law_step_right mz_len
  have o__law_right := ok__law_right (P := l.prog) (w := w) (mg := mg) (base := base) fu__law_right o__law_step_right b__law_step_right m__law_step_right k__law_step_right mz_len mz_max mz_range
  have o__law_truth := ok__law_truth (P := l.prog) (w := w) (mg := mg) (base := base) fu__law_truth mz_bool mz_isinstance
  have o__next_steps_right := ok__next_steps_right (P := l.prog) (w := w) (mg := mg) (base := base) fu__next_steps_right mz_all mz_len
  have o__lead := ok__lead (P := l.prog) (w := w) (mg := mg) (base := base) fu__lead mz_max mz_tuple
  have o_blames_right := ok_blames_right (P := l.prog) (w := w) (mg := mg) (base := base) fu_blames_right o__next_steps_right b__next_steps_right m__next_steps_right k__next_steps_right o__lead b__lead m__lead k__lead mz_any mz_len mz_range mz_zip
  exact ok_law fu_law o__law_number b__law_number m__law_number k__law_number o__law_used b__law_used m__law_used k__law_used o__law_honest b__law_honest m__law_honest k__law_honest o__law_make b__law_make m__law_make k__law_make o__law_drawn b__law_drawn m__law_drawn k__law_drawn o__law_spoilt b__law_spoilt m__law_spoilt k__law_spoilt o__law_right b__law_right m__law_right k__law_right o__law_truth b__law_truth m__law_truth k__law_truth o_blames_right m_blames_right k_blames_right kb_blames_right_2_2 kt_kb_blames_right_2_1 kb_blames_right_2_1 mz_int mz_list mz_tuple
end Pg
namespace Pg
open PySem PySem.Spec PyProof.Rows L2 Ev Lib
/-! texts in a list of texts -/
abbrev Nm := List Str
def nmD (ns : Nm) : D := .tup (ns.map D.str)
theorem mem_str (x : Str) (ns : Nm) : ((ns.map D.str).any fun y => eqD y (.str x)) = decide (x ∈ ns) := by
  induction ns with
  | nil => simp
  | cons n ns ih =>
    rw [List.map_cons, List.any_cons, ih]
    have e : eqD (.str n) (.str x) = decide (x = n) := by
      by_cases c : x = n
      · subst c; simp [eqD]
      · have : ¬ n = x := fun z => c z.symm
        simp [eqD, c, this]
    rw [e]
    by_cases c : x = n <;> simp [c]
theorem flat_strs (ns : Nm) : (ns.map D.str).all flatD = true := by
  rw [List.all_map]
  simp [List.all_eq_true]
theorem in_nm (neg : Bool) (x : Str) (ns : Nm) (h : HP) : fIn neg (.str x) (nmD ns) h = .ok (.bl (if neg = true then !decide (x ∈ ns) else decide (x ∈ ns))) h := by
  have e := mem_str x ns
  have f := flat_strs ns
  unfold nmD
  generalize ns.map D.str = us at *
  simp [f, e]
theorem clean_nm (ns : Nm) : clean (nmD ns) := clean_tup fun d hd => by
  obtain ⟨s, _, rfl⟩ := List.mem_map.mp hd
  exact clean_str s
theorem F_next (number count left : Int) (sus : Nm) (fs : List Int) (hz : fs.length ≤ 1000) (h : HP) :
    F__next_steps_right [.int number, .int count, .lst (sus.map D.str), .tup (fs.map D.int), .int left] h =
      .ok (.bl (if left = 0 then decide (fs.length = 0) else decide (fs.length = sus.length) && fs.all fun s => decide (number < s) && decide (s < count))) h := by
  have pb : ∀ b, pure_ h (.bl b) h = .ok (.bl b) h := fun b => pure_clean h (clean_bl b)
  have lf : (fs.map D.int).length = fs.length := by simp
  have ls : (sus.map D.str).length = sus.length := by simp
  by_cases c : left = 0
  · have e1 : ((fs.length : Int) == 0) = decide (fs.length = 0) := by by_cases z : fs.length = 0 <;> simp [z]
    rw [if_pos c]
    generalize fs.map D.int = us at *
    generalize sus.map D.str = ws at *
    simp [Lib.F__next_steps_right, c, sh_int, eqvI, lf, e1, pb, -List.length_eq_zero_iff]
  · have lc : Lib.C__next_steps_right_1 false [some (.int number), some (.int count), some (.lst (sus.map D.str)), some (.tup (fs.map D.int)), some (.int left), none] h = _ :=
      mLc_ty (h1 := h) fs D.int (fun s => .bl (decide (number < s) && decide (s < count))) (by simp) (by omega)
        (fun s hs h' => ⟨[some (.int number), some (.int count), some (.lst (sus.map D.str)), some (.tup (fs.map D.int)), some (.int left), some (.int s)], by simp, by
          by_cases c1 : number < s
          · by_cases c2 : s < count <;> simp [c1, c2]
          · simp [c1]⟩) fun s _ => clean_bl _
    have k := blsD_map (fs.map fun s => decide (number < s) && decide (s < count))
    rw [List.map_map] at k
    have e4 : (D.bl ∘ fun s : Int => decide (number < s) && decide (s < count)) = fun s => D.bl (decide (number < s) && decide (s < count)) := rfl
    rw [e4] at k
    have ea : (fs.map fun s => decide (number < s) && decide (s < count)).all id = fs.all fun s => decide (number < s) && decide (s < count) := by rw [List.all_map]; rfl
    have e2 : ((fs.length : Int) == (sus.length : Int)) = decide (fs.length = sus.length) := by
      by_cases z : fs.length = sus.length
      · simp [z]
      · have : ¬ (fs.length : Int) = sus.length := by omega
        simp [z, this]
    rw [if_neg c]
    generalize (fs.map fun s => D.bl (decide (number < s) && decide (s < count))) = xs at *
    generalize (fs.map fun s => decide (number < s) && decide (s < count)) = ys at *
    generalize (fs.all fun s => decide (number < s) && decide (s < count)) = al at *
    generalize fs.map D.int = us at *
    generalize sus.map D.str = ws at *
    cases z : decide (fs.length = sus.length) with
    | true =>
      rw [z] at e2
      simp [Lib.F__next_steps_right, c, sh_int, eqvI, lf, ls, e2, lc, k, ea, pb]
    | false =>
      rw [z] at e2
      simp [Lib.F__next_steps_right, c, sh_int, eqvI, lf, ls, e2, pb]
/-! marks -/
abbrev Mark := Int × Nm
def markD (m : Mark) : D := .tup [.int m.1, nmD m.2]
abbrev Marks := Int → Option Mark
def Ok (ks : List (Key × D)) (M : Marks) : Prop := ∀ j : Int, valT ks (.inl j) = (M j).map markD
def leadK (o : Option Mark) (left : Int) (barred : Nm) : Mark :=
  let m := o.getD (left, [])
  (if m.1 > left then m.1 else left, m.2 ++ barred.filter fun n => !decide (n ∈ m.2))
def leadM (M : Marks) (step left : Int) (barred : Nm) : Marks := fun j => if j = step then some (leadK (M step) left barred) else M j
theorem Ok.put {ks : List (Key × D)} {M : Marks} (o : Ok ks M) (step : Int) (m : Mark) : Ok (putT ks (.inl step) (markD m)) (fun j => if j = step then some m else M j) := fun j => by
  rw [valT_put]
  by_cases c : j = step
  · subst c; simp
  · have : ¬ (Sum.inl j : Key) = .inl step := fun z => c (by injection z)
    simp [c, this, o j]
theorem F_lead {ks : List (Key × D)} {M : Marks} (o : Ok ks M) (hk : ks.length < sizeLine) (step left : Int) (barred : Nm) (hb : barred.length ≤ 1000) (hm : ∀ m, M step = some m → m.2.length ≤ 1000) {n : Nat} {h : HP} (hn : h[n]? = some (.dic ks)) :
    F__lead [.ref n, .int step, .int left, nmD barred] h = .ok .non (h.set n (.dic (putT ks (.inl step) (markD (leadK (M step) left barred))))) := by
  obtain ⟨m, em, hm2⟩ : ∃ m : Mark, (M step).getD (left, []) = m ∧ m.2.length ≤ 1000 := by
    cases e : M step with
    | none => exact ⟨_, rfl, by simp⟩
    | some m => exact ⟨m, rfl, hm m e⟩
  have ev : ∀ h, dgetE (.tup [.int left, .tup []]) (valT ks (.inl step)) h = .ok (.tup [.int m.1, nmD m.2]) h := fun h => by
    rw [o step]
    cases e : M step with
    | none => rw [e] at em; simp at em; subst em; rfl
    | some m' => rw [e] at em; simp at em; subst em; rfl
  have ek : leadK (M step) left barred = (if m.1 > left then m.1 else left, m.2 ++ barred.filter fun n => !decide (n ∈ m.2)) := by unfold leadK; rw [em]
  rw [ek]
  have lc : C__lead_1 false [some (.ref n), some (.int step), some (.int left), some (nmD barred), some (.int m.1), some (nmD m.2), none, none] h = .ok (.lst ((barred.filter fun n => !decide (n ∈ m.2)).map D.str)) h :=
    mLc_tyF (h1 := h) barred D.str D.str (fun n => !decide (n ∈ m.2)) (by simp [nmD]) (by omega) (fun x hx h' => by
      refine ⟨_, rfl, ?_, fun _ => by simp⟩
      have e := in_nm true x m.2 h'
      generalize nmD m.2 = q at *
      simp [e, -fIn]) (fun x _ _ => clean_str x)
  have lz : ((barred.filter fun n => !decide (n ∈ m.2)).map D.str).length ≤ 1000 := by
    have := List.length_filter_le (fun n => !decide (n ∈ m.2)) barred
    simp
    omega
  have la : (m.2.map D.str).length ≤ 1000 := by simp; omega
  have lz2 : ((barred.filter fun n => !decide (n ∈ m.2)).map D.str).length ≤ 16000000 := by omega
  have lz3 : (m.2.map D.str).length + ((barred.filter fun n => !decide (n ∈ m.2)).map D.str).length ≤ sizeLine := by rw [sizeLine_eq]; omega
  have lz4 : (m.2.map D.str).length + ((barred.filter fun n => !decide (n ∈ m.2)).map D.str).length ≤ 16000000 := by omega
  unfold markD
  simp only [nmD, List.map_append] at ev lc ⊢
  generalize (barred.filter fun n => !decide (n ∈ m.2)).map D.str = fu at *
  generalize m.2.map D.str = mu at *
  generalize barred.map D.str = bu at *
  simp [F__lead, hn, ev, lc, lz2, lz3, lz4, hk, -dgetE]
theorem nd_len : ∀ {ns U : Nm}, ns.Nodup → (∀ x ∈ ns, x ∈ U) → ns.length ≤ U.length
  | [], _, _, _ => Nat.zero_le _
  | x :: xs, U, nd, s => by
    obtain ⟨n1, n2⟩ := List.nodup_cons.mp nd
    have h : xs.length ≤ (U.erase x).length := nd_len n2 fun y hy => (List.mem_erase_of_ne (fun e => n1 (by rw [← e]; exact hy))).mpr (s y (List.mem_cons_of_mem _ hy))
    have m := s x (List.mem_cons_self ..)
    have e := List.length_erase_of_mem m
    have p := List.length_pos_of_mem m
    simp only [List.length_cons]
    omega
/-- names of a mark: told once each, out of U -/
def Told (U ns : Nm) : Prop := ns.Nodup ∧ ∀ x ∈ ns, x ∈ U
def MI (U : Nm) (M : Marks) : Prop := ∀ j m, M j = some m → Told U m.2
theorem Told.len {U ns : Nm} (h : Told U ns) : ns.length ≤ U.length := nd_len h.1 h.2
theorem Told.nil {U : Nm} : Told U [] := ⟨List.nodup_nil, by simp⟩
theorem Told.snoc {U ns : Nm} {x : Str} (h : Told U ns) (hx : x ∈ U) (n : x ∉ ns) : Told U (ns ++ [x]) := ⟨by
  rw [List.nodup_append]
  refine ⟨h.1, by simp, fun a ha b hb => ?_⟩
  simp only [List.mem_singleton] at hb
  subst hb
  exact fun e => n (e ▸ ha), fun y hy => by
  rcases List.mem_append.mp hy with hy | hy
  · exact h.2 y hy
  · rw [List.mem_singleton.mp hy]; exact hx⟩
theorem Told.lead {U : Nm} {o : Option Mark} (h : ∀ m, o = some m → Told U m.2) (left : Int) {barred : Nm} (b : Told U barred) : Told U (leadK o left barred).2 := by
  have hm : Told U (o.getD (left, [])).2 := by
    cases o with
    | none => exact Told.nil
    | some m => exact h m rfl
  unfold leadK
  generalize o.getD (left, []) = m at *
  refine ⟨?_, fun x hx => ?_⟩
  · simp only
    rw [List.nodup_append]
    refine ⟨hm.1, b.1.filter _, fun a ha c hc => ?_⟩
    have := (List.mem_filter.mp hc).2
    intro e
    subst e
    simp [ha] at this
  · rcases List.mem_append.mp hx with hx | hx
    · exact hm.2 x hx
    · exact b.2 x (List.mem_filter.mp hx).1
theorem MI.lead {U : Nm} {M : Marks} (h : MI U M) (step left : Int) {barred : Nm} (b : Told U barred) : MI U (leadM M step left barred) := fun j m e => by
  unfold leadM at e
  split at e
  · cases e
    exact Told.lead (fun m e => h _ m e) left b
  · exact h j m e
abbrev envB (us st ho li : D) (n : Nat) (num left bar tree fol src sus s p q : Option D) : EN := [some us, some st, some ho, some li, some (.ref n), num, left, bar, tree, fol, src, sus, s, p, q]
def leads (left : Int) (barred : Nm) : List (Str × Int) → Marks → Marks
  | [], M => M
  | p :: ps, M => leads left barred ps (leadM M p.2 left (barred ++ [p.1]))
theorem MI.leads {U : Nm} {left : Int} {barred : Nm} (b : Told U barred) : ∀ (ps : List (Str × Int)) {M : Marks}, (∀ p ∈ ps, p.1 ∈ U ∧ p.1 ∉ barred) → MI U M → MI U (leads left barred ps M)
  | [], M, _, h => h
  | p :: ps, M, hp, h => by
    have := hp p (by simp)
    exact MI.leads b ps (fun q hq => hp q (by simp [hq])) (h.lead _ _ (b.snoc this.1 this.2))
def pairD (p : Str × Int) : D := .tup [.str p.1, .int p.2]
theorem leads_loop {U : Nm} (hU : U.length ≤ 900) {us st ho li num tree fol src sus q : D} {left : Int} {barred : Nm} (b : Told U barred) (q' : Option D) (h : HP) : ∀ (ps : List (Str × Int)) (ks : List (Key × D)) (M : Marks) (x y : Option D), Ok ks M → MI U M →
    (∀ p ∈ ps, p.1 ∈ U ∧ p.1 ∉ barred) → ks.length + ps.length < 1000000 →
    ∃ ks' x' y', forE (gTp 2 (gsCons (gNm 12) (gsCons (gNm 13) gsNil))) B_blames_right_1 [] (ps.map pairD) (envB us st ho li h.length (some num) (some (.int left)) (some (nmD barred)) (some tree) (some fol) (some src) (some sus) x y q') (h ++ [.dic ks]) =
      .nx (envB us st ho li h.length (some num) (some (.int left)) (some (nmD barred)) (some tree) (some fol) (some src) (some sus) x' y' q') (h ++ [.dic ks']) ∧ Ok ks' (leads (left - 1) barred ps M) ∧ ks'.length ≤ ks.length + ps.length
  | [], ks, M, x, y, o, _, _, _ => ⟨ks, x, y, by rw [List.map_nil]; exact for_nil, o, by simp⟩
  | p :: ps, ks, M, x, y, o, mi, hp, hz => by
    have h1 := hp p (by simp)
    have tb := b.snoc h1.1 h1.2
    simp only [List.length_cons] at hz
    have fl := F_lead o (by rw [sizeLine_eq]; omega) p.2 (left - 1) (barred ++ [p.1]) (by have := tb.len; omega) (fun m e => by have := (mi _ m e).len; omega) (n := h.length) (h := h ++ [.dic ks]) (by simp)
    rw [set_last] at fl
    have lb : (barred.map D.str).length + 1 ≤ sizeLine := by have := b.len; rw [sizeLine_eq]; simp; omega
    have lb2 : (barred.map D.str).length + 1 ≤ 16000000 := by have := b.len; simp; omega
    have hb : B_blames_right_1 (envB us st ho li h.length (some num) (some (.int left)) (some (nmD barred)) (some tree) (some fol) (some src) (some sus) (some (.str p.1)) (some (.int p.2)) q') (h ++ [.dic ks]) =
        .nx (envB us st ho li h.length (some num) (some (.int left)) (some (nmD barred)) (some tree) (some fol) (some src) (some sus) (some (.str p.1)) (some (.int p.2)) q') (h ++ [.dic (putT ks (.inl p.2) (markD (leadK (M p.2) (left - 1) (barred ++ [p.1]))))]) := by
      simp only [nmD, List.map_append, List.map_cons, List.map_nil] at fl ⊢
      generalize barred.map D.str = bu at *
      simp [fl, lb, lb2]
    rw [List.map_cons, for_nx (e := envB us st ho li h.length (some num) (some (.int left)) (some (nmD barred)) (some tree) (some fol) (some src) (some sus) (some (.str p.1)) (some (.int p.2)) q') (by simp [pairD]) hb]
    have pl := putT_len ks (.inl p.2) (markD (leadK (M p.2) (left - 1) (barred ++ [p.1])))
    obtain ⟨ks', x', y', e, o', l⟩ := leads_loop hU (us := us) (st := st) (ho := ho) (li := li) (num := num) (tree := tree) (fol := fol) (src := src) (sus := sus) (q := q) (left := left) b q' h ps (putT ks (.inl p.2) (markD (leadK (M p.2) (left - 1) (barred ++ [p.1])))) (leadM M p.2 (left - 1) (barred ++ [p.1])) (some (.str p.1)) (some (.int p.2)) (o.put p.2 _) (mi.lead _ _ tb) (fun q hq => hp q (by simp [hq])) (by omega)
    exact ⟨ks', x', y', e, o', by simp only [List.length_cons]; omega⟩
abbrev Stp := Int × List Int
def usD : Option Nm → D
  | none => .non
  | some ns => nmD ns
def stD (s : Stp) : D := .tup [.int s.1, .tup (s.2.map D.int)]
def okNext (i count : Nat) (sus : Nm) (fs : List Int) (left : Int) : Bool := if left = 0 then decide (fs.length = 0) else decide (fs.length = sus.length) && fs.all fun s => decide ((i : Int) < s) && decide (s < (count : Int))
def susOf (honest src : Nm) : Nm := src.filter fun x => !decide (x ∈ honest)
/-- one step, the place and what it says of the marks: none says no -/
def turnM (used : List (Option Nm)) (honest : Nm) (count i : Nat) (s : Stp) (M : Marks) : Option Marks :=
  match M i with
  | none => some M
  | some m => if 0 ≤ s.1 ∧ s.1 < used.length then match used.getD s.1.toNat none with
      | none => none
      | some src => if src.any (fun x => decide (x ∈ m.2)) = true then none else
        if okNext i count (susOf honest src) s.2 m.1 = true then some (leads (m.1 - 1) m.2 ((susOf honest src).zip s.2) M) else none
    else none
/-- what is in the used names -/
def Us (U : Nm) (used : List (Option Nm)) : Prop := ∀ ns, some ns ∈ used → ns.length ≤ 100 ∧ ∀ x ∈ ns, x ∈ U
theorem zip_pair (sus : Nm) (fs : List Int) : zipD (sus.map D.str) (fs.map D.int) = (sus.zip fs).map pairD := by
  unfold zipD
  rw [List.zipWith_map, List.zip, List.map_zipWith]
  rfl
theorem MI.turn {U : Nm} {used : List (Option Nm)} (hu : Us U used) {honest : Nm} {count i : Nat} {s : Stp} {M M' : Marks} (mi : MI U M) (e : turnM used honest count i s M = some M') : MI U M' := by
  unfold turnM at e
  split at e
  · cases e; exact mi
  · rename_i m em
    split at e
    · split at e
      · cases e
      · rename_i src es
        split at e
        · cases e
        · rename_i na
          split at e
          · cases e
            have ms : some src ∈ used := by
              rw [List.getD_eq_getElem?_getD] at es
              cases q : used[s.1.toNat]? with
              | none => rw [q] at es; cases es
              | some o => rw [q] at es; simp at es; subst es; exact List.mem_of_getElem? q
            refine MI.leads (mi _ _ em) _ (fun p hp => ?_) mi
            have : p.1 ∈ susOf honest src := (List.of_mem_zip (a := p.1) (b := p.2) hp).1
            have hx := (List.mem_filter.mp this).1
            refine ⟨(hu src ms).2 _ hx, fun z => na ?_⟩
            rw [List.any_eq_true]
            exact ⟨p.1, hx, by simpa using z⟩
          · cases e
    · cases e
theorem turn_run {U : Nm} (hU : U.length ≤ 900) {used : List (Option Nm)} (hu : Us U used) (lu : used.length ≤ 1000) {honest : Nm} {steps : List Stp} (ls : steps.length ≤ 1000) (li : D) {i : Nat} (hi : i < steps.length) (lf : (steps[i]).2.length ≤ 1000)
    {ks : List (Key × D)} {M : Marks} (o : Ok ks M) (mi : MI U M) (hk : ks.length < 900000) (x6 x7 x8 x9 x10 x11 x12 x13 : Option D) (h : HP) :
    ∃ y6 y7 y8 y9 y10 y11 y12 y13, match turnM used honest steps.length i steps[i] M with
      | some M' => ∃ ks', (B_blames_right_2 (envB (.lst (used.map usD)) (.tup (steps.map stD)) (nmD honest) li h.length (some (.int (i : Nat))) x6 x7 x8 x9 x10 x11 x12 x13 none) (h ++ [.dic ks]) = .nx (envB (.lst (used.map usD)) (.tup (steps.map stD)) (nmD honest) li h.length (some (.int (i : Nat))) y6 y7 y8 y9 y10 y11 y12 y13 none) (h ++ [.dic ks']) ∨
          B_blames_right_2 (envB (.lst (used.map usD)) (.tup (steps.map stD)) (nmD honest) li h.length (some (.int (i : Nat))) x6 x7 x8 x9 x10 x11 x12 x13 none) (h ++ [.dic ks]) = .ct (envB (.lst (used.map usD)) (.tup (steps.map stD)) (nmD honest) li h.length (some (.int (i : Nat))) y6 y7 y8 y9 y10 y11 y12 y13 none) (h ++ [.dic ks'])) ∧ Ok ks' M' ∧ ks'.length ≤ ks.length + 100
      | none => ∃ h', B_blames_right_2 (envB (.lst (used.map usD)) (.tup (steps.map stD)) (nmD honest) li h.length (some (.int (i : Nat))) x6 x7 x8 x9 x10 x11 x12 x13 none) (h ++ [.dic ks]) = .rt (.bl false) (h ++ h') := by
  have gd : (h ++ [O.dic ks])[h.length]? = some (.dic ks) := by simp
  have ok := o (i : Nat)
  unfold turnM
  cases em : M (i : Nat) with
  | none =>
    rw [em] at ok
    have ok' : valT ks (Sum.inl (i : Int)) = none := ok
    refine ⟨x6, x7, x8, x9, x10, x11, x12, x13, ks, .inr ?_, o, by omega⟩
    simp [gd, ok']
  | some m =>
    obtain ⟨left, bar⟩ := m
    rw [em] at ok
    have ok' : valT ks (Sum.inl (i : Int)) = some (.tup [.int left, nmD bar]) := ok
    have hst : atI (steps.map stD) (i : Int) = some (stD steps[i]) := at_map stD hi
    have lS : (steps.map stD).length = steps.length := by simp
    have lU : (used.map usD).length = used.length := by simp
    have trg : ∀ (h1 : HP), True := fun _ => trivial
    generalize hs : steps[i] = s at *
    obtain ⟨t, fs⟩ := s
    simp only at lf
    simp only [stD] at hst
    by_cases c : 0 ≤ t ∧ t < used.length
    · obtain ⟨k, rfl⟩ := Int.eq_ofNat_of_zero_le c.1
      have hk' : k < used.length := by omega
      have hkI : (k : Int) < used.length := by omega
      have hus : atI (used.map usD) (k : Int) = some (usD used[k]) := at_map usD hk'
      have eg : used.getD k none = used[k] := by rw [List.getD_eq_getElem?_getD, List.getElem?_eq_getElem hk']; rfl
      simp only [c, and_self, if_true, Int.toNat_natCast, eg]
      have ms : used[k] ∈ used := List.getElem_mem hk'
      cases eu : used[k] with
      | none =>
        rw [eu] at hus
        simp only [usD] at hus
        refine ⟨none, none, none, none, none, none, none, none, [.dic ks], ?_⟩
        simp only [nmD] at ok' ⊢
        generalize bar.map D.str = bu at *
        generalize honest.map D.str = ho at *
        generalize fs.map D.int = fu at *
        generalize steps.map stD = su at *
        generalize used.map usD = uu at *
        simp [gd, ok', hst, lU, hkI, hk', hus]
      | some src =>
        rw [eu] at hus ms
        simp only [usD] at hus
        have lsrc := (hu src ms).1
        have lc1 : C_blames_right_1 false (envB (.lst (used.map usD)) (.tup (steps.map stD)) (nmD honest) li h.length (some (.int (i : Nat))) (some (.int left)) (some (nmD bar)) (some (.int k)) (some (.tup (fs.map D.int))) (some (nmD src)) x11 x12 x13 none) (h ++ [.dic ks]) = _ :=
          mLc_ty (h1 := h ++ [.dic ks]) src D.str (fun x => .bl (decide (x ∈ bar))) (by simp [nmD]) (by omega)
            (fun x hx h' => ⟨_, rfl, by
              have e := in_nm false x bar h'
              generalize nmD bar = q at *
              simp [e, -fIn]⟩) fun x _ => clean_bl _
        have k1 := blsD_map (src.map fun x => decide (x ∈ bar))
        rw [List.map_map] at k1
        have k2 : (D.bl ∘ fun x : Str => decide (x ∈ bar)) = fun x => D.bl (decide (x ∈ bar)) := rfl
        rw [k2] at k1
        have ka : (src.map fun x => decide (x ∈ bar)).any id = src.any fun x => decide (x ∈ bar) := by rw [List.any_map]; rfl
        by_cases a : src.any (fun x => decide (x ∈ bar)) = true
        · simp only [a, if_true]
          rw [a] at ka
          refine ⟨none, none, none, none, none, none, none, none, [.dic ks], ?_⟩
          simp only [nmD] at ok' lc1 hus ⊢
          generalize (src.map fun x => D.bl (decide (x ∈ bar))) = bl1 at *
          generalize (src.map fun x => decide (x ∈ bar)) = bl2 at *
          generalize bar.map D.str = bu at *
          generalize honest.map D.str = ho at *
          generalize src.map D.str = sr at *
          generalize fs.map D.int = fu at *
          generalize steps.map stD = su at *
          generalize used.map usD = uu at *
          simp [gd, ok', hst, lU, hkI, hk', hus, lc1, k1, ka]
        · have a' : (src.any fun x => decide (x ∈ bar)) = false := by simpa using a
          simp only [a', Bool.false_eq_true, if_false]
          rw [a'] at ka
          have lc2 : C_blames_right_2 false (envB (.lst (used.map usD)) (.tup (steps.map stD)) (nmD honest) li h.length (some (.int (i : Nat))) (some (.int left)) (some (nmD bar)) (some (.int k)) (some (.tup (fs.map D.int))) (some (nmD src)) x11 x12 x13 none) (h ++ [.dic ks]) = .ok (.lst ((susOf honest src).map D.str)) (h ++ [.dic ks]) :=
            mLc_tyF (h1 := h ++ [.dic ks]) src D.str D.str (fun x => !decide (x ∈ honest)) (by simp [nmD]) (by omega)
              (fun x hx h' => ⟨_, rfl, by
                have e := in_nm true x honest h'
                generalize nmD honest = q at *
                simp [e, -fIn], fun _ => by simp⟩) fun x _ _ => clean_str _
          have fn := F_next (i : Nat) steps.length left (susOf honest src) fs lf (h ++ [.dic ks])
          have eo : (if left = 0 then decide (fs.length = 0) else decide (fs.length = (susOf honest src).length) && fs.all fun s => decide (((i : Nat) : Int) < s) && decide (s < (steps.length : Int))) = okNext i steps.length (susOf honest src) fs left := rfl
          rw [eo] at fn
          cases on : okNext i steps.length (susOf honest src) fs left with
          | false =>
            rw [on] at fn
            simp only [Bool.false_eq_true, if_false]
            refine ⟨none, none, none, none, none, none, none, none, [.dic ks], ?_⟩
            simp only [nmD] at ok' lc1 lc2 hus ⊢
            generalize (src.map fun x => D.bl (decide (x ∈ bar))) = bl1 at *
            generalize (src.map fun x => decide (x ∈ bar)) = bl2 at *
            generalize (susOf honest src).map D.str = ss at *
            generalize bar.map D.str = bu at *
            generalize honest.map D.str = ho at *
            generalize src.map D.str = sr at *
            generalize fs.map D.int = fu at *
            generalize steps.map stD = su at *
            generalize used.map usD = uu at *
            simp [gd, ok', hst, lU, lS, hkI, hk', hus, lc1, k1, ka, lc2, fn]
          | true =>
            rw [on] at fn
            simp only [if_true]
            have lz : ((susOf honest src).zip fs).length ≤ 100 := by
              have := List.length_filter_le (fun x => !decide (x ∈ honest)) src
              simp only [List.length_zip]
              unfold susOf
              omega
            obtain ⟨ks', y12, y13, e, o', l⟩ := leads_loop hU (us := .lst (used.map usD)) (st := .tup (steps.map stD)) (ho := nmD honest) (li := li) (num := .int (i : Nat)) (tree := .int k) (fol := .tup (fs.map D.int)) (src := nmD src) (sus := .lst ((susOf honest src).map D.str)) (q := .non) (left := left) (mi _ _ em) none h ((susOf honest src).zip fs) ks M x12 x13 o mi (fun p hp => by
              have : p.1 ∈ susOf honest src := (List.of_mem_zip (a := p.1) (b := p.2) hp).1
              have hx := (List.mem_filter.mp this).1
              refine ⟨(hu src ms).2 _ hx, fun z => a ?_⟩
              rw [List.any_eq_true]
              exact ⟨p.1, hx, by simpa using z⟩) (by omega)
            refine ⟨some (.int left), some (nmD bar), some (.int k), some (.tup (fs.map D.int)), some (nmD src), some (.lst ((susOf honest src).map D.str)), y12, y13, ks', .inl ?_, o', by omega⟩
            rw [← zip_pair] at e
            clear l lz o'
            simp only [nmD] at ok' lc1 lc2 hus e ⊢
            generalize (src.map fun x => D.bl (decide (x ∈ bar))) = bl1 at *
            generalize (src.map fun x => decide (x ∈ bar)) = bl2 at *
            generalize (susOf honest src).map D.str = ss at *
            generalize bar.map D.str = bu at *
            generalize honest.map D.str = ho at *
            generalize src.map D.str = sr at *
            generalize fs.map D.int = fu at *
            generalize steps.map stD = su at *
            generalize used.map usD = uu at *
            simp [gd, ok', hst, lU, lS, hkI, hk', hus, lc1, k1, ka, lc2, fn, e]
    · have c0 : ¬ (0 ≤ t ∧ t < (used.length : Int)) := c
      simp only [c0, if_false]
      refine ⟨none, none, none, none, none, none, none, none, [.dic ks], ?_⟩
      simp only [nmD] at ok' ⊢
      generalize bar.map D.str = bu at *
      generalize honest.map D.str = ho at *
      generalize fs.map D.int = fu at *
      generalize steps.map stD = su at *
      generalize used.map usD = uu at *
      by_cases c1 : 0 ≤ t
      · have c2 : ¬ t < used.length := fun z => c ⟨c1, z⟩
        simp [gd, ok', hst, lU, c1, c2]
      · simp [gd, ok', hst, lU, c1]
def runM (used : List (Option Nm)) (honest : Nm) (steps : List Stp) : Nat → Nat → Marks → Bool
  | 0, _, _ => true
  | d + 1, i, M => match turnM used honest steps.length i (steps.getD i (0, [])) M with
    | none => false
    | some M' => runM used honest steps d (i + 1) M'
def M0 (liars : Int) : Marks := fun j => if j = 0 then some (liars, []) else none
def blamesM (used : List (Option Nm)) (honest : Nm) (steps : List Stp) (liars : Int) : Bool := if steps.length = 0 then false else runM used honest steps steps.length 0 (M0 liars)
theorem steps_run {U : Nm} (hU : U.length ≤ 900) {used : List (Option Nm)} (hu : Us U used) (lu : used.length ≤ 1000) {honest : Nm} {steps : List Stp} (ls : steps.length ≤ 1000) (hf : ∀ s ∈ steps, s.2.length ≤ 1000) (li : D) (h : HP) : ∀ (d i : Nat), i + d = steps.length → ∀ (ks : List (Key × D)) (M : Marks), Ok ks M → MI U M → ks.length ≤ 1 + 100 * i → ∀ (x5 x6 x7 x8 x9 x10 x11 x12 x13 : Option D),
    (runM used honest steps d i M = true ∧ ∃ e' h', forE (gNm 5) B_blames_right_2 [] ((List.range d).map fun j => D.int ((i + j : Nat))) (envB (.lst (used.map usD)) (.tup (steps.map stD)) (nmD honest) li h.length x5 x6 x7 x8 x9 x10 x11 x12 x13 none) (h ++ [.dic ks]) = .nx e' (h ++ h')) ∨
    (runM used honest steps d i M = false ∧ ∃ h', forE (gNm 5) B_blames_right_2 [] ((List.range d).map fun j => D.int ((i + j : Nat))) (envB (.lst (used.map usD)) (.tup (steps.map stD)) (nmD honest) li h.length x5 x6 x7 x8 x9 x10 x11 x12 x13 none) (h ++ [.dic ks]) = .rt (.bl false) (h ++ h'))
  | 0, i, _, ks, M, _, _, _, x5, x6, x7, x8, x9, x10, x11, x12, x13 => .inl ⟨rfl, _, _, by rw [List.range_zero, List.map_nil]; exact for_nil⟩
  | d + 1, i, hd, ks, M, o, mi, hk, x5, x6, x7, x8, x9, x10, x11, x12, x13 => by
    have hi : i < steps.length := by omega
    have eg : steps.getD i (0, []) = steps[i] := by rw [List.getD_eq_getElem?_getD, List.getElem?_eq_getElem hi]; rfl
    have er : (List.range (d + 1)).map (fun j => D.int ((i + j : Nat))) = D.int (i : Nat) :: (List.range d).map fun j => D.int ((i + 1 + j : Nat)) := by
      rw [range_succ_map]
      congr 1
      exact List.map_congr_left fun j _ => by rw [show i + (j + 1) = i + 1 + j by omega]
    obtain ⟨y6, y7, y8, y9, y10, y11, y12, y13, t⟩ := turn_run hU hu lu ls li hi (hf _ (List.getElem_mem hi)) o mi (by omega) x6 x7 x8 x9 x10 x11 x12 x13 h
    have mt := fun M' => MI.turn (honest := honest) (count := steps.length) (i := i) (s := steps[i]) hu (M := M) (M' := M') mi
    rw [er]
    simp only [runM, eg]
    cases et : turnM used honest steps.length i steps[i] M with
    | none =>
      rw [et] at t
      obtain ⟨h', t⟩ := t
      exact .inr ⟨rfl, h', for_rt (e := envB (.lst (used.map usD)) (.tup (steps.map stD)) (nmD honest) li h.length (some (.int (i : Nat))) x6 x7 x8 x9 x10 x11 x12 x13 none) (by simp) t⟩
    | some M' =>
      rw [et] at t
      obtain ⟨ks', t, o', l⟩ := t
      have ih := steps_run (honest := honest) hU hu lu ls hf li h d (i + 1) (by omega) ks' M' o' (mt M' et) (by omega) (some (.int (i : Nat))) y6 y7 y8 y9 y10 y11 y12 y13
      have go : forE (gNm 5) B_blames_right_2 [] (D.int (i : Nat) :: (List.range d).map fun j => D.int ((i + 1 + j : Nat))) (envB (.lst (used.map usD)) (.tup (steps.map stD)) (nmD honest) li h.length x5 x6 x7 x8 x9 x10 x11 x12 x13 none) (h ++ [.dic ks]) =
          forE (gNm 5) B_blames_right_2 [] ((List.range d).map fun j => D.int ((i + 1 + j : Nat))) (envB (.lst (used.map usD)) (.tup (steps.map stD)) (nmD honest) li h.length (some (.int (i : Nat))) y6 y7 y8 y9 y10 y11 y12 y13 none) (h ++ [.dic ks']) := by
        rcases t with t | t
        · exact for_nx (e := envB (.lst (used.map usD)) (.tup (steps.map stD)) (nmD honest) li h.length (some (.int (i : Nat))) x6 x7 x8 x9 x10 x11 x12 x13 none) (by simp) t
        · exact for_ct (e := envB (.lst (used.map usD)) (.tup (steps.map stD)) (nmD honest) li h.length (some (.int (i : Nat))) x6 x7 x8 x9 x10 x11 x12 x13 none) (by simp) t
      rw [go]
      exact ih
theorem F_blames {U : Nm} (hU : U.length ≤ 900) {used : List (Option Nm)} (hu : Us U used) (lu : used.length ≤ 1000) (honest : Nm) {steps : List Stp} (ls : steps.length ≤ 1000) (hf : ∀ s ∈ steps, s.2.length ≤ 1000) (liars : Int) (h : HP) :
    F_blames_right [.lst (used.map usD), .tup (steps.map stD), nmD honest, .int liars] h = .ok (.bl (blamesM used honest steps liars)) h := by
  have pb : ∀ b x, pure_ h (.bl b) (h ++ x) = .ok (.bl b) h := fun b x => pure_cleanJ h x (clean_bl b)
  have pb0 : ∀ b, pure_ h (.bl b) h = .ok (.bl b) h := fun b => pure_clean h (clean_bl b)
  have lS : (steps.map stD).length = steps.length := by simp
  unfold blamesM
  by_cases z : steps.length = 0
  · rw [if_pos z]
    generalize used.map usD = uu at *
    unfold nmD
    generalize honest.map D.str = ho at *
    generalize steps.map stD = su at *
    simp [F_blames_right, lS, z, sh_int, eqvI, pb0, -List.length_eq_zero_iff]
  · rw [if_neg z]
    have o : Ok [(.inl 0, .tup [.int liars, .tup []])] (M0 liars) := fun j => by
      unfold M0
      by_cases c : j = 0
      · subst c; simp [valT, markD, nmD]
      · have : ¬ (Sum.inl (0 : Int) : Key) = .inl j := fun z => c (by injection z with q; exact q.symm)
        simp [valT, this, c]
    have mi : MI U (M0 liars) := fun j m e => by
      unfold M0 at e
      split at e
      · cases e; exact Told.nil
      · cases e
    have z2 : ¬ ((steps.length : Int) = 0) := by omega
    have rg : Rg (steps.length : Int) := rg_nat (by omega)
    have er : rngD 0 steps.length = (List.range steps.length).map fun j => D.int ((0 + j : Nat)) := by
      unfold rngD
      exact List.map_congr_left fun j _ => by push_cast; rfl
    have gd : (h ++ [O.dic []])[h.length]? = some (.dic []) := by simp
    have sl : ∀ o : O, (h ++ [O.dic []]).set h.length o = h ++ [o] := fun o => by simp
    rcases steps_run (honest := honest) hU hu lu ls hf (.int liars) h steps.length 0 (by omega) _ _ o mi (by simp) none none none none none none none none none with ⟨r, e', h', e⟩ | ⟨r, h', e⟩
    · rw [r]
      rw [← er] at e
      unfold nmD at *
      generalize used.map usD = uu at *
      generalize honest.map D.str = ho at *
      generalize steps.map stD = su at *
      simp [F_blames_right, lS, z, z2, sh_int, eqvI, gd, sl, rg, e, pb, -List.length_eq_zero_iff]
    · rw [r]
      rw [← er] at e
      unfold nmD at *
      generalize used.map usD = uu at *
      generalize honest.map D.str = ho at *
      generalize steps.map stD = su at *
      simp [F_blames_right, lS, z, z2, sh_int, eqvI, gd, sl, rg, e, pb, -List.length_eq_zero_iff]
/-! steps that the law makes -/
/-- the first tree without a name of the path -/
def firstT (path : Nm) : Nat → List (Option Nm) → Option (Nat × Nm)
  | _, [] => none
  | k, none :: r => firstT path (k + 1) r
  | k, some ns :: r => if ns.all (fun x => !decide (x ∈ path)) = true then some (k, ns) else firstT path (k + 1) r
def forest (g : Nm → Nat → Option (List Stp)) (path : Nm) : Nm → Nat → Option (List Int × List Stp)
  | [], _ => some ([], [])
  | x :: xs, s => match g (path ++ [x]) s with
    | none => none
    | some S1 => match forest g path xs (s + S1.length) with
      | none => none
      | some (ns, S2) => some ((s : Int) :: ns, S1 ++ S2)
def mkT (used : List (Option Nm)) (honest : Nm) : Nat → Nm → Nat → Option (List Stp)
  | left, path, st0 => match firstT path 0 used with
    | none => none
    | some (k, src) => match left with
      | 0 => some [((k : Int), [])]
      | l + 1 => match forest (fun p s => mkT used honest l p s) path (susOf honest src) (st0 + 1) with
        | none => none
        | some (ns, S) => some (((k : Int), ns) :: S)
theorem firstT_ok {path : Nm} : ∀ (used : List (Option Nm)) (k0 : Nat) {k : Nat} {src : Nm}, firstT path k0 used = some (k, src) → ∃ j, k = k0 + j ∧ used[j]? = some (some src) ∧ ∀ x ∈ src, x ∉ path
  | [], _, _, _, h => by simp [firstT] at h
  | none :: r, k0, k, src, h => by
    obtain ⟨j, e1, e2, e3⟩ := firstT_ok r (k0 + 1) (by simpa [firstT] using h)
    exact ⟨j + 1, by omega, by simpa using e2, e3⟩
  | some ns :: r, k0, k, src, h => by
    simp only [firstT] at h
    split at h
    · rename_i a
      cases h
      refine ⟨0, rfl, rfl, fun x hx => ?_⟩
      rw [List.all_eq_true] at a
      simpa using a x hx
    · obtain ⟨j, e1, e2, e3⟩ := firstT_ok r (k0 + 1) h
      exact ⟨j + 1, by omega, by simpa using e2, e3⟩
theorem mkT_pos {used : List (Option Nm)} {honest path : Nm} {left st0 : Nat} {S : List Stp} (h : mkT used honest left path st0 = some S) : 0 < S.length := by
  unfold mkT at h
  split at h
  · cases h
  · split at h
    · cases h; simp
    · split at h
      · cases h
      · cases h; simp
theorem in_lst (neg : Bool) (x : Str) (ns : Nm) (h : HP) : fIn neg (.str x) (.lst (ns.map D.str)) h = .ok (.bl (if neg = true then !decide (x ∈ ns) else decide (x ∈ ns))) h := by
  have e := mem_str x ns
  have f := flat_strs ns
  generalize ns.map D.str = us at *
  simp [f, e]
def mkD : Option (List Stp) → D
  | none => .non
  | some S => .lst (S.map stD)
theorem clean_st (s : Stp) : clean (stD s) := clean_tup (by
  intro d hd
  simp only [List.mem_cons, List.not_mem_nil, or_false] at hd
  rcases hd with rfl | rfl
  · exact clean_int _
  · exact clean_tup fun d hd => by
      obtain ⟨i, _, rfl⟩ := List.mem_map.mp hd
      exact clean_int i)
theorem clean_mk (o : Option (List Stp)) : clean (mkD o) := by
  cases o with
  | none => exact clean_non
  | some S =>
    refine clean_lst fun d hd => ?_
    obtain ⟨s, _, rfl⟩ := List.mem_map.mp hd
    exact clean_st s
abbrev envM (us ho pa le st a k fr nm sp nu mo : Option D) : EN := [us, ho, pa, le, st, a, k, fr, nm, sp, nu, mo]
theorem free_loop (us ho le st a k : Option D) (path : Nm) (sp nu mo : Option D) (h : HP) : ∀ (xs : Nm) (f : Bool) (nm : Option D), ∃ nm', forE (gNm 8) B__law_make_1 [] (xs.map D.str) (envM us ho (some (.lst (path.map D.str))) le st a k (some (.bl f)) nm sp nu mo) h =
    .nx (envM us ho (some (.lst (path.map D.str))) le st a k (some (.bl (f && xs.all fun x => !decide (x ∈ path)))) nm' sp nu mo) h
  | [], f, nm => ⟨nm, by rw [List.map_nil, for_nil]; simp⟩
  | x :: xs, f, nm => by
    have e := in_lst false x path h
    have hb : ∀ f, B__law_make_1 (envM us ho (some (.lst (path.map D.str))) le st a k (some (.bl f)) (some (.str x)) sp nu mo) h = .nx (envM us ho (some (.lst (path.map D.str))) le st a k (some (.bl (f && !decide (x ∈ path)))) (some (.str x)) sp nu mo) h := by
      intro f
      generalize path.map D.str = pu at *
      by_cases c : x ∈ path
      · simp [e, c, -fIn]
      · simp [e, c, -fIn]
    obtain ⟨nm', e'⟩ := free_loop us ho le st a k path sp nu mo h xs (f && !decide (x ∈ path)) (some (.str x))
    refine ⟨nm', ?_⟩
    rw [List.map_cons, for_nx (e := envM us ho (some (.lst (path.map D.str))) le st a k (some (.bl f)) (some (.str x)) sp nu mo) (by simp) (hb f), e', List.all_cons, Bool.and_assoc]
def atI0 (a : Int) (o : Option (Nat × Nm)) : Int := if 0 ≤ a then a else match o with
  | some p => p.1
  | none => -1
theorem find_loop {used : List (Option Nm)} (lu : used.length ≤ 1000) (ho le st : Option D) (path : Nm) (sp nu mo : Option D) (h : HP) : ∀ (d i : Nat), i + d = used.length → ∀ (a : Int) (k fr nm : Option D), a = -1 ∨ 0 ≤ a → ∃ k' fr' nm', forE (gNm 6) B__law_make_2 [] ((List.range d).map fun j => D.int ((i + j : Nat))) (envM (some (.lst (used.map usD))) ho (some (.lst (path.map D.str))) le st (some (.int a)) k fr nm sp nu mo) h =
    .nx (envM (some (.lst (used.map usD))) ho (some (.lst (path.map D.str))) le st (some (.int (atI0 a (firstT path i (used.drop i))))) k' fr' nm' sp nu mo) h
  | 0, i, hd, a, k, fr, nm, ha => by
    refine ⟨k, fr, nm, ?_⟩
    rw [List.range_zero, List.map_nil, for_nil, List.drop_of_length_le (by omega)]
    unfold atI0
    simp only [firstT]
    rcases ha with rfl | ha
    · rfl
    · rw [if_pos ha]
  | d + 1, i, hd, a, k, fr, nm, ha => by
    have hi : i < used.length := by omega
    have er : (List.range (d + 1)).map (fun j => D.int ((i + j : Nat))) = D.int (i : Nat) :: (List.range d).map fun j => D.int ((i + 1 + j : Nat)) := by
      rw [range_succ_map]
      congr 1
      exact List.map_congr_left fun j _ => by rw [show i + (j + 1) = i + 1 + j by omega]
    have ed : used.drop i = used[i] :: used.drop (i + 1) := List.drop_eq_getElem_cons hi
    have hus : atI (used.map usD) (i : Int) = some (usD used[i]) := at_map usD hi
    rw [er, ed]
    generalize hq : used[i] = q at *
    -- the turn
    have step : ∃ fr' nm' a', B__law_make_2 (envM (some (.lst (used.map usD))) ho (some (.lst (path.map D.str))) le st (some (.int a)) (some (.int (i : Nat))) fr nm sp nu mo) h =
        .nx (envM (some (.lst (used.map usD))) ho (some (.lst (path.map D.str))) le st (some (.int a')) (some (.int (i : Nat))) fr' nm' sp nu mo) h ∧ (a' = -1 ∨ 0 ≤ a') ∧ atI0 a' (firstT path (i + 1) (used.drop (i + 1))) = atI0 a (firstT path i (q :: used.drop (i + 1))) := by
      rcases ha with rfl | ha
      · cases q with
        | none =>
          refine ⟨fr, nm, -1, ?_, .inl rfl, by simp [atI0, firstT]⟩
          simp only [usD] at hus
          generalize used.map usD = uu at *
          generalize path.map D.str = pu at *
          simp [hus]
        | some src =>
          obtain ⟨nm', e⟩ := free_loop (some (.lst (used.map usD))) ho le st (some (.int (-1))) (some (.int (i : Nat))) path sp nu mo h src true nm
          simp only [usD, nmD] at hus
          rw [Bool.true_and] at e
          cases fa : src.all (fun x => !decide (x ∈ path)) with
          | true =>
            rw [fa] at e
            refine ⟨some (.bl true), nm', (i : Nat), ?_, .inr (by omega), by simp [atI0, firstT, fa]⟩
            generalize used.map usD = uu at *
            generalize path.map D.str = pu at *
            generalize src.map D.str = sr at *
            simp [hus, e]
          | false =>
            rw [fa] at e
            refine ⟨some (.bl false), nm', -1, ?_, .inl rfl, by simp [atI0, firstT, fa]⟩
            generalize used.map usD = uu at *
            generalize path.map D.str = pu at *
            generalize src.map D.str = sr at *
            simp [hus, e]
      · have na : ¬ a < 0 := by omega
        refine ⟨fr, nm, a, ?_, .inr ha, by simp [atI0, ha]⟩
        generalize used.map usD = uu at *
        generalize path.map D.str = pu at *
        simp [na]
    obtain ⟨fr', nm', a', e1, ha', e2⟩ := step
    rw [for_nx (e := envM (some (.lst (used.map usD))) ho (some (.lst (path.map D.str))) le st (some (.int a)) (some (.int (i : Nat))) fr nm sp nu mo) (by simp) e1]
    obtain ⟨k'', fr'', nm'', e⟩ := find_loop lu ho le st path sp nu mo h d (i + 1) (by omega) a' (some (.int (i : Nat))) fr' nm' ha'
    exact ⟨k'', fr'', nm'', by rw [e, e2]⟩
/-- the loop over the names -/
theorem names_loop {used : List (Option Nm)} {honest path : Nm} {l B : Nat} {S_F : FA} {st0 : Nat} (hB : ∀ p s S1, mkT used honest l p s = some S1 → S1.length ≤ B)
    (ih : ∀ (x : Str) (s : Nat) (h : HP), S_F [.lst (used.map usD), nmD honest, .lst ((path ++ [x]).map D.str), .int (l : Nat), .int (s : Nat)] h = .ok (mkD (mkT used honest l (path ++ [x]) s)) h) (lp : path.length ≤ 1000) (le : Int) (hle : le = ((l + 1 : Nat) : Int)) (a k fr : Option D) (h : HP) :
    ∀ (xs : Nm) (acc : List Stp) (nums : List Int) (nm mo : Option D), acc.length + xs.length * B ≤ 100000 → nums.length + xs.length ≤ 1000 →
      match forest (fun p s => mkT used honest l p s) path (susOf honest xs) (st0 + 1 + acc.length) with
      | none => ∃ x, forE (gNm 8) (B__law_make_3 S_F) [] (xs.map D.str) (envM (some (.lst (used.map usD))) (some (nmD honest)) (some (.lst (path.map D.str))) (some (.int le)) (some (.int (st0 : Nat))) a k fr nm (some (.lst (acc.map stD))) (some (.ref h.length)) mo) (h ++ [.lst (nums.map D.int)]) = .rt .non (h ++ x)
      | some (ns, S) => ∃ nm' mo', forE (gNm 8) (B__law_make_3 S_F) [] (xs.map D.str) (envM (some (.lst (used.map usD))) (some (nmD honest)) (some (.lst (path.map D.str))) (some (.int le)) (some (.int (st0 : Nat))) a k fr nm (some (.lst (acc.map stD))) (some (.ref h.length)) mo) (h ++ [.lst (nums.map D.int)]) =
          .nx (envM (some (.lst (used.map usD))) (some (nmD honest)) (some (.lst (path.map D.str))) (some (.int le)) (some (.int (st0 : Nat))) a k fr nm' (some (.lst ((acc ++ S).map stD))) (some (.ref h.length)) mo') (h ++ [.lst ((nums ++ ns).map D.int)])
  | [], acc, nums, nm, mo, hz, hn => by
    simp only [susOf, List.filter_nil, forest]
    exact ⟨nm, mo, by rw [List.map_nil, for_nil]; simp⟩
  | x :: xs, acc, nums, nm, mo, hz, hn => by
    simp only [List.length_cons, Nat.add_mul, Nat.one_mul] at hz hn
    have e := in_nm true x honest (h ++ [.lst (nums.map D.int)])
    by_cases hx : x ∈ honest
    · have es : susOf honest (x :: xs) = susOf honest xs := by simp [susOf, hx]
      rw [es]
      have hb : B__law_make_3 S_F (envM (some (.lst (used.map usD))) (some (nmD honest)) (some (.lst (path.map D.str))) (some (.int le)) (some (.int (st0 : Nat))) a k fr (some (.str x)) (some (.lst (acc.map stD))) (some (.ref h.length)) mo) (h ++ [.lst (nums.map D.int)]) =
          .nx (envM (some (.lst (used.map usD))) (some (nmD honest)) (some (.lst (path.map D.str))) (some (.int le)) (some (.int (st0 : Nat))) a k fr (some (.str x)) (some (.lst (acc.map stD))) (some (.ref h.length)) mo) (h ++ [.lst (nums.map D.int)]) := by
        generalize nmD honest = q at *
        generalize nums.map D.int = nn at *
        simp [e, hx, -fIn]
      have := names_loop (st0 := st0) hB ih lp le hle a k fr h xs acc nums (some (.str x)) mo (by omega) (by omega)
      rw [List.map_cons, for_nx (e := envM (some (.lst (used.map usD))) (some (nmD honest)) (some (.lst (path.map D.str))) (some (.int le)) (some (.int (st0 : Nat))) a k fr (some (.str x)) (some (.lst (acc.map stD))) (some (.ref h.length)) mo) (by simp) hb]
      exact this
    · have es : susOf honest (x :: xs) = x :: susOf honest xs := by simp [susOf, hx]
      rw [es]
      simp only [forest]
      have call := ih x (st0 + 1 + acc.length) (h ++ [.lst (nums.map D.int)])
      push_cast at call
      have lac : (acc.map stD).length = acc.length := by simp
      have lpp : (path.map D.str).length + 1 ≤ sizeLine := by rw [sizeLine_eq]; simp; omega
      have ll : le - 1 = (l : Nat) := by omega
      cases em : mkT used honest l (path ++ [x]) (st0 + 1 + acc.length) with
      | none =>
        rw [em] at call
        have hb : B__law_make_3 S_F (envM (some (.lst (used.map usD))) (some (nmD honest)) (some (.lst (path.map D.str))) (some (.int le)) (some (.int (st0 : Nat))) a k fr (some (.str x)) (some (.lst (acc.map stD))) (some (.ref h.length)) mo) (h ++ [.lst (nums.map D.int)]) = .rt .non (h ++ [.lst (nums.map D.int)]) := by
          simp only [List.map_append, List.map_cons, List.map_nil, mkD] at call
          generalize nmD honest = q at *
          generalize nums.map D.int = nn at *
          generalize path.map D.str = pp at *
          generalize used.map usD = uu at *
          generalize acc.map stD = aa at *
          simp [e, hx, lpp, ll, lac, call, -fIn]
        exact ⟨[.lst (nums.map D.int)], by rw [List.map_cons]; exact for_rt (e := envM (some (.lst (used.map usD))) (some (nmD honest)) (some (.lst (path.map D.str))) (some (.int le)) (some (.int (st0 : Nat))) a k fr (some (.str x)) (some (.lst (acc.map stD))) (some (.ref h.length)) mo) (by simp) hb⟩
      | some S1 =>
        rw [em] at call
        have lS := hB _ _ _ em
        have hb : B__law_make_3 S_F (envM (some (.lst (used.map usD))) (some (nmD honest)) (some (.lst (path.map D.str))) (some (.int le)) (some (.int (st0 : Nat))) a k fr (some (.str x)) (some (.lst (acc.map stD))) (some (.ref h.length)) mo) (h ++ [.lst (nums.map D.int)]) =
            .nx (envM (some (.lst (used.map usD))) (some (nmD honest)) (some (.lst (path.map D.str))) (some (.int le)) (some (.int (st0 : Nat))) a k fr (some (.str x)) (some (.lst ((acc ++ S1).map stD))) (some (.ref h.length)) (some (.lst (S1.map stD)))) (h ++ [.lst ((nums ++ [((st0 + 1 + acc.length : Nat) : Int)]).map D.int)]) := by
          have ln : (nums.map D.int).length < sizeLine := by rw [sizeLine_eq]; simp; omega
          have ap := fun y => appL_last (y := y) (ds := nums.map D.int) h ln
          have l3 : (acc.map stD).length + (S1.map stD).length ≤ sizeLine := by rw [sizeLine_eq]; simp; omega
          have l4 : acc.length + (S1.map stD).length ≤ sizeLine := by rw [sizeLine_eq]; simp; omega
          simp only [List.map_append, List.map_cons, List.map_nil, mkD] at call ⊢
          push_cast
          generalize nmD honest = q at *
          generalize nums.map D.int = nn at *
          generalize path.map D.str = pp at *
          generalize used.map usD = uu at *
          generalize acc.map stD = aa at *
          generalize S1.map stD = s1 at *
          simp [e, hx, lpp, ll, lac, call, ap, l3, l4, -fIn]
        have := names_loop (st0 := st0) hB ih lp le hle a k fr h xs (acc ++ S1) (nums ++ [((st0 + 1 + acc.length : Nat) : Int)]) (some (.str x)) (some (.lst (S1.map stD))) (by simp; omega) (by simp; omega)
        rw [List.length_append, ← Nat.add_assoc] at this
        rw [List.map_cons, for_nx (e := envM (some (.lst (used.map usD))) (some (nmD honest)) (some (.lst (path.map D.str))) (some (.int le)) (some (.int (st0 : Nat))) a k fr (some (.str x)) (some (.lst (acc.map stD))) (some (.ref h.length)) mo) (by simp) hb]
        cases ef : forest (fun p s => mkT used honest l p s) path (susOf honest xs) (st0 + 1 + acc.length + S1.length) with
        | none =>
          rw [ef] at this
          simp only [ef]
          exact this
        | some p =>
          obtain ⟨ns, S2⟩ := p
          rw [ef] at this
          obtain ⟨nm', mo', e2⟩ := this
          simp only [ef]
          refine ⟨nm', mo', ?_⟩
          rw [e2]
          simp [List.append_assoc]
theorem pow4 (l : Nat) : 0 < 4 ^ l := Nat.pow_pos (by decide)
theorem forest_len {g : Nm → Nat → Option (List Stp)} {path : Nm} {B : Nat} (hB : ∀ p s S1, g p s = some S1 → S1.length ≤ B) : ∀ (xs : Nm) (s : Nat) (ns : List Int) (S : List Stp), forest g path xs s = some (ns, S) → S.length ≤ xs.length * B ∧ ns.length = xs.length
  | [], s, ns, S, h => by
    simp only [forest, Option.some.injEq, Prod.mk.injEq] at h
    obtain ⟨rfl, rfl⟩ := h
    simp
  | x :: xs, s, ns, S, h => by
    simp only [forest] at h
    split at h
    · cases h
    · rename_i S1 e1
      split at h
      · cases h
      · rename_i ns' S2 e2
        simp only [Option.some.injEq, Prod.mk.injEq] at h
        obtain ⟨rfl, rfl⟩ := h
        have h1 := hB _ _ _ e1
        obtain ⟨h2, h3⟩ := forest_len hB xs _ _ _ e2
        simp only [List.length_append, List.length_cons, Nat.add_mul, Nat.one_mul]
        omega
theorem mkT_len {used : List (Option Nm)} (h3 : ∀ ns, some ns ∈ used → ns.length ≤ 3) {honest : Nm} : ∀ (l : Nat) (path : Nm) (st0 : Nat) (S : List Stp), mkT used honest l path st0 = some S → S.length ≤ 4 ^ (l + 1) ∧ ∀ s ∈ S, s.2.length ≤ 3 := by
  intro l
  induction l with
  | zero =>
    intro path st0 S h
    unfold mkT at h
    split at h
    · cases h
    · simp only [Option.some.injEq] at h
      subst h
      simp
  | succ l ih =>
    intro path st0 S h
    unfold mkT at h
    split at h
    · cases h
    · rename_i k src ef
      simp only at h
      split at h
      · cases h
      · rename_i ns S' eF
        simp only [Option.some.injEq] at h
        subst h
        obtain ⟨j, e1, e2, e3⟩ := firstT_ok used 0 ef
        have ms := List.mem_of_getElem? e2
        have l3 := h3 src ms
        have ls : (susOf honest src).length ≤ 3 := Nat.le_trans (List.length_filter_le _ _) l3
        obtain ⟨f1, f2⟩ := forest_len (B := 4 ^ (l + 1)) (fun p s S1 e => (ih p s S1 e).1) _ _ _ _ eF
        have p4 := pow4 (l + 1)
        have e4 : 4 ^ (l + 1 + 1) = 4 ^ (l + 1) * 4 := Nat.pow_succ ..
        have m3 : (susOf honest src).length * 4 ^ (l + 1) ≤ 3 * 4 ^ (l + 1) := Nat.mul_le_mul_right _ ls
        refine ⟨by simp only [List.length_cons]; omega, fun s hs => ?_⟩
        rcases List.mem_cons.mp hs with rfl | hs
        · simp only; omega
        · -- inside the forest
          have key : ∀ (xs : Nm) (s0 : Nat) (ns : List Int) (S : List Stp), forest (fun p s => mkT used honest l p s) path xs s0 = some (ns, S) → ∀ s ∈ S, s.2.length ≤ 3 := by
            intro xs
            induction xs with
            | nil =>
              intro s0 ns S h s hs
              simp only [forest, Option.some.injEq, Prod.mk.injEq] at h
              obtain ⟨rfl, rfl⟩ := h
              simp at hs
            | cons x xs ihx =>
              intro s0 ns S h s hs
              simp only [forest] at h
              split at h
              · cases h
              · rename_i S1 e1
                split at h
                · cases h
                · rename_i ns' S2 e2
                  simp only [Option.some.injEq, Prod.mk.injEq] at h
                  obtain ⟨rfl, rfl⟩ := h
                  rcases List.mem_append.mp hs with hs | hs
                  · exact (ih _ _ _ e1).2 s hs
                  · exact ihx _ _ _ e2 s hs
          exact key _ _ _ _ eF s hs
theorem F_make {used : List (Option Nm)} (lu : used.length ≤ 1000) (h3 : ∀ ns, some ns ∈ used → ns.length ≤ 3) (honest : Nm) : ∀ (l fuel : Nat) (path : Nm) (st0 : Nat) (h : HP), l < fuel → path.length + l ≤ 900 → l ≤ 6 →
    Fr__law_make fuel [.lst (used.map usD), nmD honest, .lst (path.map D.str), .int (l : Nat), .int (st0 : Nat)] h = .ok (mkD (mkT used honest l path st0)) h := by
  intro l
  induction l with
  | zero =>
    intro fuel path st0 h hf lp l6
    obtain ⟨f, rfl⟩ : ∃ f, fuel = f + 1 := ⟨fuel - 1, by omega⟩
    have lU : (used.map usD).length = used.length := by simp
    have rg : Rg (used.length : Int) := rg_nat (by omega)
    obtain ⟨k', fr', nm', e⟩ := find_loop lu (some (nmD honest)) (some (.int (0 : Nat))) (some (.int (st0 : Nat))) path none none none h used.length 0 (by omega) (-1) none none none (.inl rfl)
    have er : rngD 0 used.length = (List.range used.length).map fun j => D.int ((0 + j : Nat)) := by
      unfold rngD
      exact List.map_congr_left fun j _ => by push_cast; rfl
    rw [← er, List.drop_zero] at e
    have pc := fun o => pure_clean h (clean_mk o)
    unfold mkT
    cases ef : firstT path 0 used with
    | none =>
      rw [ef] at e
      have ea : atI0 (-1) (none : Option (Nat × Nm)) = -1 := rfl
      rw [ea] at e
      have pc := pc none
      simp only [mkD] at pc ⊢
      push_cast at e ⊢
      generalize used.map usD = uu at *
      generalize path.map D.str = pp at *
      unfold nmD at *
      generalize honest.map D.str = ho at *
      simp [Fr__law_make, G__law_make, lU, rg, e, pc]
    | some p =>
      obtain ⟨k, src⟩ := p
      rw [ef] at e
      have ea : atI0 (-1) (some (k, src)) = (k : Int) := rfl
      rw [ea] at e
      have pc := pc (some [((k : Int), [])])
      simp only [mkD, List.map_cons, List.map_nil, stD] at pc ⊢
      generalize used.map usD = uu at *
      generalize path.map D.str = pp at *
      unfold nmD at *
      generalize honest.map D.str = ho at *
      have kn : ¬ (k : Int) < 0 := by omega
      simp at e
      simp [Fr__law_make, G__law_make, lU, rg, e, kn, sh_int, eqvI, pc]
  | succ l ih =>
    intro fuel path st0 h hf lp l6
    obtain ⟨f, rfl⟩ : ∃ f, fuel = f + 1 := ⟨fuel - 1, by omega⟩
    have lU : (used.map usD).length = used.length := by simp
    have rg : Rg (used.length : Int) := rg_nat (by omega)
    obtain ⟨k', fr', nm', e⟩ := find_loop lu (some (nmD honest)) (some (.int ((l + 1 : Nat) : Int))) (some (.int (st0 : Nat))) path none none none h used.length 0 (by omega) (-1) none none none (.inl rfl)
    have er : rngD 0 used.length = (List.range used.length).map fun j => D.int ((0 + j : Nat)) := by
      unfold rngD
      exact List.map_congr_left fun j _ => by push_cast; rfl
    rw [← er, List.drop_zero] at e
    have pc := fun o => fun x => pure_cleanJ h x (clean_mk o)
    have pc0 := fun o => pure_clean h (clean_mk o)
    unfold mkT
    cases ef : firstT path 0 used with
    | none =>
      rw [ef] at e
      have ea : atI0 (-1) (none : Option (Nat × Nm)) = -1 := rfl
      rw [ea] at e
      have pc0 := pc0 none
      simp only [mkD] at pc0 ⊢
      push_cast at e ⊢
      generalize used.map usD = uu at *
      generalize path.map D.str = pp at *
      unfold nmD at *
      generalize honest.map D.str = ho at *
      simp [Fr__law_make, G__law_make, lU, rg, e, pc0]
    | some p =>
      obtain ⟨k, src⟩ := p
      rw [ef] at e
      have ea : atI0 (-1) (some (k, src)) = (k : Int) := rfl
      rw [ea] at e
      obtain ⟨j, q1, q2, q3⟩ := firstT_ok used 0 ef
      have qk : k = j := by omega
      subst qk
      have kl := (List.getElem?_eq_some_iff.mp q2).1
      have qe := (List.getElem?_eq_some_iff.mp q2).2
      have hus : atI (used.map usD) (k : Int) = some (nmD src) := by
        have := at_map usD kl
        rw [qe] at this
        exact this
      have ms := List.mem_of_getElem? q2
      have l3 := h3 src ms
      have p4 : 4 ^ (l + 1) ≤ 4 ^ 7 := Nat.pow_le_pow_right (by decide) (by omega)
      have m3 : src.length * 4 ^ (l + 1) ≤ 3 * 4 ^ 7 := Nat.mul_le_mul l3 p4
      have kn : ¬ (k : Int) < 0 := by omega
      have ln0 : ¬ ((l : Int) + 1 = 0) := by omega
      have N := names_loop (used := used) (honest := honest) (path := path) (l := l) (B := 4 ^ (l + 1)) (S_F := Fr__law_make f) (st0 := st0) (fun p s S1 e => (mkT_len h3 l p s S1 e).1) (fun x s h => ih f (path ++ [x]) s h (by omega) (by simp; omega) (by omega)) (by omega) ((l + 1 : Nat) : Int) rfl (some (.int k)) k' fr' h src [] [] nm' none (by simp; omega) (by simp; omega)
      simp only [List.length_nil, Nat.add_zero, List.map_nil, List.nil_append] at N
      cases eF : forest (fun p s => mkT used honest l p s) path (susOf honest src) (st0 + 1) with
      | none =>
        rw [eF] at N
        obtain ⟨x, eN⟩ := N
        have pc := pc none x
        simp only [eF]
        simp only [mkD, nmD] at pc hus eN e ⊢
        push_cast at e eN ⊢
        generalize used.map usD = uu at *
        generalize path.map D.str = pp at *
        generalize honest.map D.str = ho at *
        generalize src.map D.str = sr at *
        simp [Fr__law_make, G__law_make, lU, rg, e, kn, sh_int, eqvI, ln0, hus, eN, pc]
      | some p =>
        obtain ⟨ns, S⟩ := p
        rw [eF] at N
        obtain ⟨nm2, mo2, eN⟩ := N
        obtain ⟨f1, f2⟩ := forest_len (B := 4 ^ (l + 1)) (fun p s S1 e => (mkT_len h3 l p s S1 e).1) _ _ _ _ eF
        have ls : (susOf honest src).length ≤ 3 := Nat.le_trans (List.length_filter_le _ _) l3
        have lS : S.length ≤ 3 * 4 ^ 7 := Nat.le_trans f1 (Nat.mul_le_mul ls p4)
        have pc := pc (some (((k : Int), ns) :: S)) [.lst (ns.map D.int)]
        have gd : (h ++ [O.lst (ns.map D.int)])[h.length]? = some (.lst (ns.map D.int)) := by simp
        have lz : (ns.map D.int).length ≤ 16000000 := by simp; omega
        have lz2 : 1 + (S.map stD).length ≤ sizeLine := by rw [sizeLine_eq]; simp; omega
        have lz3 : (S.map stD).length + 1 ≤ sizeLine := by omega
        simp only [eF]
        simp only [mkD, nmD, List.map_cons, stD] at pc hus eN e ⊢
        push_cast at e eN ⊢
        have eS : S.map (fun s => D.tup [.int s.1, .tup (s.2.map D.int)]) = S.map stD := rfl
        generalize used.map usD = uu at *
        generalize path.map D.str = pp at *
        generalize honest.map D.str = ho at *
        generalize src.map D.str = sr at *
        generalize S.map stD = ss at *
        generalize ns.map D.int = nn at *
        simp [Fr__law_make, G__law_make, lU, rg, e, kn, sh_int, eqvI, ln0, hus, eN, gd, lz, lz2, lz3, pc]
def abcd : Nm := ["a", "b", "c", "d"]
def OkUs (us : List (Option Nm)) : Prop := ∀ ns, some ns ∈ us → ns.length ≤ 3 ∧ ∀ x ∈ ns, x ∈ abcd
theorem ab_at (i : Int) (h0 : 0 ≤ i) (h1 : i < 4) : ∃ x ∈ abcd, atI [D.str "a", .str "b", .str "c", .str "d"] i = some (.str x) := by
  rcases (show i = 0 ∨ i = 1 ∨ i = 2 ∨ i = 3 by omega) with rfl | rfl | rfl | rfl
  · exact ⟨"a", by simp [abcd], by simp [atI, ixN]⟩
  · exact ⟨"b", by simp [abcd], by simp [atI, ixN]⟩
  · exact ⟨"c", by simp [abcd], by simp [atI, ixN]⟩
  · exact ⟨"d", by simp [abcd], by simp [atI, ixN]⟩
theorem clean_us (o : Option Nm) : clean (usD o) := by
  cases o with
  | none => exact clean_non
  | some ns => exact clean_nm ns
theorem used_turn {ns : List Int} (hn : Okn ns) {k many at_ : Nat} (hk : k ≤ 100) (ha : at_ ≤ 100) (x6 x7 x8 x9 x10 : Option D) (h : HP) (us : List (Option Nm)) (lu : us.length ≤ 100) (ok : OkUs us) :
    ∃ y6 y7 y8 y9 y10 o, OkUs (us ++ [o]) ∧ Lib.B__law_used_1 [some (Sc ns), some (.int k), some (.int many), some (.lst [.str "a", .str "b", .str "c", .str "d"]), some (.ref h.length), some (.int (at_ : Nat)), x6, x7, x8, x9, x10] (h ++ [.lst (us.map usD)]) =
      .nx [some (Sc ns), some (.int k), some (.int many), some (.lst [.str "a", .str "b", .str "c", .str "d"]), some (.ref h.length), some (.int (at_ : Nat)), y6, y7, y8, y9, y10] (h ++ [.lst ((us ++ [o]).map usD)]) := by
  have n1 := fun h => F_number hn (k := k + at_) (by omega) h
  push_cast at n1
  have ap := fun y => appL_last (y := y) (ds := us.map usD) h (by rw [sizeLine_eq]; simp; omega)
  generalize num ns (k + at_) = c at *
  by_cases c0 : c % 7 = 0
  · refine ⟨some (.int c), x7, x8, x9, x10, none, fun q hq => ?_, ?_⟩
    · rcases List.mem_append.mp hq with hq | hq
      · exact ok q hq
      · simp at hq
    · rw [List.map_append]
      simp only [List.map_cons, List.map_nil, usD]
      generalize us.map usD = uu at *
      generalize Sc ns = sc at *
      simp [n1, lg, sh_int, eqvI, c0, ap]
  · obtain ⟨cnt, ec, hc⟩ : ∃ cnt : Nat, atI [D.int 1, .int 2, .int 2, .int 3, .int 0, .int 1] (c / 7 % 6) = some (.int (cnt : Nat)) ∧ cnt ≤ 3 := by
      rcases (show c / 7 % 6 = 0 ∨ c / 7 % 6 = 1 ∨ c / 7 % 6 = 2 ∨ c / 7 % 6 = 3 ∨ c / 7 % 6 = 4 ∨ c / 7 % 6 = 5 by omega) with q | q | q | q | q | q
      · exact ⟨1, by rw [q]; simp [atI, ixN], by omega⟩
      · exact ⟨2, by rw [q]; simp [atI, ixN], by omega⟩
      · exact ⟨2, by rw [q]; simp [atI, ixN], by omega⟩
      · exact ⟨3, by rw [q]; simp [atI, ixN], by omega⟩
      · exact ⟨0, by rw [q]; simp [atI, ixN], by omega⟩
      · exact ⟨1, by rw [q]; simp [atI, ixN], by omega⟩
    obtain ⟨st, es, hs⟩ : ∃ st : Int, 1 + 2 * (c / 168 % 2) = st ∧ 0 ≤ st ∧ st ≤ 3 := ⟨_, rfl, by omega, by omega⟩
    obtain ⟨s0, e0⟩ : ∃ s0 : Int, c / 42 % 4 = s0 := ⟨_, rfl⟩
    have cm2 : CMulE 2 (c / 168 % 2) := mul64 (by decide) (by omega)
    have pick : ∀ j : Nat, ∃ x ∈ abcd, atI [D.str "a", .str "b", .str "c", .str "d"] ((s0 + st * (j : Nat)) % 4) = some (.str x) := fun j => ab_at _ (Int.emod_nonneg _ (by decide)) (Int.emod_lt_of_pos _ (by decide))
    have rg : Rg (cnt : Int) := rg_nat (by omega)
    have lc : Lib.C__law_used_1 false [some (Sc ns), some (.int k), some (.int many), some (.lst [.str "a", .str "b", .str "c", .str "d"]), some (.ref h.length), some (.int (at_ : Nat)), some (.int c), some (.int (cnt : Nat)), some (.int s0), some (.int st), x10] (h ++ [.lst (us.map usD)]) = _ :=
      mLc_ty (h1 := h ++ [.lst (us.map usD)]) (List.range cnt) (fun j => D.int (j : Nat)) (fun j => .str (pick j).choose) (by simp [rg, rngD]) (by simp; omega)
        (fun j hj h' => ⟨_, rfl, by
          have hj' : j < cnt := List.mem_range.mp hj
          have e := (pick j).choose_spec.2
          have m := mul64 (x := st) (y := (j : Int)) (by omega) (by omega)
          generalize (pick j).choose = x at *
          generalize Sc ns = sc at *
          simp [m, e]⟩) fun j _ => clean_str _
    have el : ((List.range cnt).map fun j => D.str (pick j).choose) = ((List.range cnt).map fun j => (pick j).choose).map D.str := by rw [List.map_map]; rfl
    rw [el] at lc
    have hx : ∀ x ∈ (List.range cnt).map fun j => (pick j).choose, x ∈ abcd := fun x hx => by
      obtain ⟨j, _, rfl⟩ := List.mem_map.mp hx
      exact (pick j).choose_spec.1
    have ll : ((List.range cnt).map fun j => (pick j).choose).length ≤ 3 := by simpa using hc
    generalize ((List.range cnt).map fun j => (pick j).choose) = ws at *
    refine ⟨some (.int c), some (.int (cnt : Nat)), some (.int s0), some (.int st), x10, some ws, fun q hq => ?_, ?_⟩
    · rcases List.mem_append.mp hq with hq | hq
      · exact ok q hq
      · simp only [List.mem_singleton, Option.some.injEq] at hq
        subst hq
        exact ⟨ll, hx⟩
    · have lz : (ws.map D.str).length ≤ 16000000 := by simp; omega
      rw [List.map_append]
      simp only [List.map_cons, List.map_nil, usD, nmD]
      clear pick hx el
      generalize us.map usD = uu at *
      generalize ws.map D.str = ww at *
      generalize Sc ns = sc at *
      simp [n1, lg, sh_int, eqvI, c0, ec, e0, cm2, es, lc, lz, ap]
theorem F_used {ns : List Int} (hn : Okn ns) {k many : Nat} (hk : k ≤ 100) (hm : many ≤ 100) (h : HP) : ∃ us : List (Option Nm), F__law_used [Sc ns, .int (k : Nat), .int (many : Nat)] h = .ok (.lst (us.map usD)) h ∧ us.length = many ∧ OkUs us := by
  obtain ⟨_, _, e, ⟨y5, y6, y7, y8, y9, y10, rfl⟩, us, rfl, lu, ok⟩ := for_rng (asg := gNm 5) (body := Lib.B__law_used_1) (n := many)
    (fun i env h' => (∃ y5 y6 y7 y8 y9 y10, env = [some (Sc ns), some (.int k), some (.int many), some (.lst [.str "a", .str "b", .str "c", .str "d"]), some (.ref h.length), y5, y6, y7, y8, y9, y10]) ∧ ∃ us : List (Option Nm), h' = h ++ [.lst (us.map usD)] ∧ us.length = i ∧ OkUs us)
    (fun i env h' hi hI => by
      obtain ⟨⟨y5, y6, y7, y8, y9, y10, rfl⟩, us, rfl, lu, ok⟩ := hI
      obtain ⟨z6, z7, z8, z9, z10, o, ok', e⟩ := used_turn hn (k := k) (many := many) (at_ := i) hk (by omega) y6 y7 y8 y9 y10 h us (by omega) ok
      exact ⟨_, rfl, _, _, .inl e, ⟨_, _, _, _, _, _, rfl⟩, us ++ [o], rfl, by simp; omega, ok'⟩)
    (env := [some (Sc ns), some (.int k), some (.int many), some (.lst [.str "a", .str "b", .str "c", .str "d"]), some (.ref h.length), none, none, none, none, none, none]) (h := h ++ [.lst []]) ⟨⟨none, none, none, none, none, none, rfl⟩, [], rfl, rfl, by simp [OkUs]⟩
  refine ⟨us, ?_, lu, ok⟩
  have p := pure_ref (h := h) (x := [.lst (us.map usD)]) (n := h.length) (ds := us.map usD) (Nat.le_refl _) (by simp) (fun d hd => by
    obtain ⟨o, _, rfl⟩ := List.mem_map.mp hd
    exact clean_us o)
  have rg : Rg (many : Int) := rg_nat (by omega)
  generalize us.map usD = uu at *
  generalize Sc ns = sc at *
  simp [Lib.F__law_used, rg, e, p]
theorem F_honest (c : Int) (h : HP) : ∃ hs : Nm, F__law_honest [.int c] h = .ok (nmD hs) h := by
  rcases (show c % 5 = 0 ∨ c % 5 = 1 ∨ c % 5 = 2 ∨ c % 5 = 3 ∨ c % 5 = 4 by omega) with q | q | q | q | q
  · exact ⟨[], by have p := pure_clean h (clean_nm []); unfold nmD at *; simp at p; simp [Lib.F__law_honest, lg, q, atI, ixN, p]⟩
  · exact ⟨[], by have p := pure_clean h (clean_nm []); unfold nmD at *; simp at p; simp [Lib.F__law_honest, lg, q, atI, ixN, p]⟩
  · exact ⟨["a"], by have p := pure_clean h (clean_nm ["a"]); unfold nmD at *; simp at p; simp [Lib.F__law_honest, lg, q, atI, ixN, p]⟩
  · exact ⟨["b", "d"], by have p := pure_clean h (clean_nm ["b", "d"]); unfold nmD at *; simp at p; simp [Lib.F__law_honest, lg, q, atI, ixN, p]⟩
  · exact ⟨["c"], by have p := pure_clean h (clean_nm ["c"]); unfold nmD at *; simp at p; simp [Lib.F__law_honest, lg, q, atI, ixN, p]⟩
/-! drawn steps -/
def OkSt (m : Nat) (S : List Stp) : Prop := ∀ s ∈ S, s.2.length ≤ m
theorem drawn_turn {ns : List Int} (hn : Okn ns) {k many at_ : Nat} (hk : k ≤ 100) (ha : at_ ≤ 100) (x4 x6 x7 x8 : Option D) (h : HP) (S : List Stp) (lS : S.length ≤ 100) (ok : OkSt 3 S) :
    ∃ y6 y7 y8 s, OkSt 3 (S ++ [s]) ∧ Lib.B__law_drawn_1 [some (Sc ns), some (.int k), some (.int (many : Nat)), some (.ref h.length), x4, some (.int (at_ : Nat)), x6, x7, x8] (h ++ [.lst (S.map stD)]) =
      .nx [some (Sc ns), some (.int k), some (.int (many : Nat)), some (.ref h.length), x4, some (.int (at_ : Nat)), y6, y7, y8] (h ++ [.lst ((S ++ [s]).map stD)]) := by
  have n1 := fun h => F_number hn (k := k + 1 + at_) (by omega) h
  push_cast at n1
  have ap := fun y => appL_last (y := y) (ds := S.map stD) h (by rw [sizeLine_eq]; simp; omega)
  generalize num ns (k + 1 + at_) = c at *
  obtain ⟨cnt, ec, hc⟩ : ∃ cnt : Nat, c / 8 % 4 = (cnt : Nat) ∧ cnt ≤ 3 := ⟨(c / 8 % 4).toNat, by omega, by omega⟩
  have rg : Rg (cnt : Int) := rg_nat (by omega)
  have pick : ∀ j : Nat, j < 3 → ∃ q : Int, 0 < q ∧ q ≤ 1000 ∧ atI [D.int 40, .int 200, .int 1000] (j : Nat) = some (.int q) := fun j hj => by
    rcases (show j = 0 ∨ j = 1 ∨ j = 2 by omega) with rfl | rfl | rfl
    · exact ⟨40, by omega, by omega, by simp [atI, ixN]⟩
    · exact ⟨200, by omega, by omega, by simp [atI, ixN]⟩
    · exact ⟨1000, by omega, by omega, by simp [atI, ixN]⟩
  obtain ⟨qf, hq⟩ : ∃ qf : Nat → Int, ∀ j : Nat, j < 3 → 0 < qf j ∧ qf j ≤ 1000 ∧ atI [D.int 40, .int 200, .int 1000] (j : Nat) = some (.int (qf j)) := ⟨fun j => if h : j < 3 then (pick j h).choose else 0, fun j hj => by
    simp only [hj, dif_pos]
    exact (pick j hj).choose_spec⟩
  clear pick
  have lc : Lib.C__law_drawn_1 false [some (Sc ns), some (.int k), some (.int (many : Nat)), some (.ref h.length), x4, some (.int (at_ : Nat)), some (.int c), x7, x8] (h ++ [.lst (S.map stD)]) = _ :=
    mLc_ty (h1 := h ++ [.lst (S.map stD)]) (List.range cnt) (fun j => D.int (j : Nat)) (fun j => .int ((at_ : Int) + 1 + c / qf j % 3)) (by simp [rg, rngD, ec, lg]) (by simp; omega)
      (fun j hj h' => ⟨_, rfl, by
        have hj' : j < cnt := List.mem_range.mp hj
        obtain ⟨q0, q1, e⟩ := hq j (by omega)
        have l1 : (qf j).natAbs.log2 < 9000 := lg (by omega)
        generalize qf j = q at *
        generalize Sc ns = sc at *
        simp [e, q0, l1, lg]⟩) fun j _ => clean_int _
  have el : ((List.range cnt).map fun j => D.int ((at_ : Int) + 1 + c / qf j % 3)) = ((List.range cnt).map fun j => (at_ : Int) + 1 + c / qf j % 3).map D.int := by rw [List.map_map]; rfl
  rw [el] at lc
  have ll : ((List.range cnt).map fun j => (at_ : Int) + 1 + c / qf j % 3).length ≤ 3 := by simpa using hc
  generalize ((List.range cnt).map fun j => (at_ : Int) + 1 + c / qf j % 3) = ws at *
  refine ⟨some (.int c), some (.lst (ws.map D.int)), x8, (c % ((many : Int) + 1), ws), fun q hq => ?_, ?_⟩
  · rcases List.mem_append.mp hq with hq | hq
    · exact ok q hq
    · rw [List.mem_singleton.mp hq]; exact ll
  · have lz : (ws.map D.int).length ≤ 16000000 := by simp; omega
    have m1 : (0 : Int) < (many : Int) + 1 := by omega
    rw [List.map_append]
    simp only [List.map_cons, List.map_nil, stD]
    clear hq el
    generalize S.map stD = uu at *
    generalize ws.map D.int = ww at *
    generalize Sc ns = sc at *
    by_cases ml : ((many : Int) + 1).natAbs.log2 < 9000
    · simp [n1, m1, ml, lc, lz, ap]
    · simp [n1, m1, lg, lc, lz, ap]
theorem F_drawn {ns : List Int} (hn : Okn ns) {k many : Nat} (hk : k ≤ 90) (hm : many ≤ 100) (h : HP) : ∃ S : List Stp, F__law_drawn [Sc ns, .int (k : Nat), .int (many : Nat)] h = .ok (.lst (S.map stD)) h ∧ S.length ≤ 5 ∧ OkSt 3 S := by
  have n0 := fun h => F_number hn (k := k) (by omega) h
  obtain ⟨cnt, ec, hc⟩ : ∃ cnt : Nat, 1 + num ns k % 5 = (cnt : Nat) ∧ cnt ≤ 5 := ⟨(1 + num ns k % 5).toNat, by omega, by omega⟩
  generalize num ns k = c at *
  have rg : Rg (cnt : Int) := rg_nat (by omega)
  obtain ⟨_, _, e, ⟨y5, y6, y7, y8, rfl⟩, S, rfl, lS, ok⟩ := for_rng (asg := gNm 5) (body := Lib.B__law_drawn_1) (n := cnt)
    (fun i env h' => (∃ y5 y6 y7 y8, env = [some (Sc ns), some (.int k), some (.int (many : Nat)), some (.ref h.length), some (.int (cnt : Nat)), y5, y6, y7, y8]) ∧ ∃ S : List Stp, h' = h ++ [.lst (S.map stD)] ∧ S.length = i ∧ OkSt 3 S)
    (fun i env h' hi hI => by
      obtain ⟨⟨y5, y6, y7, y8, rfl⟩, S, rfl, lS, ok⟩ := hI
      obtain ⟨z6, z7, z8, s, ok', e⟩ := drawn_turn hn (k := k) (many := many) (at_ := i) (by omega) (by omega) (some (.int (cnt : Nat))) y6 y7 y8 h S (by omega) ok
      exact ⟨_, rfl, _, _, .inl e, ⟨_, _, _, _, rfl⟩, S ++ [s], rfl, by simp; omega, ok'⟩)
    (env := [some (Sc ns), some (.int k), some (.int (many : Nat)), some (.ref h.length), some (.int (cnt : Nat)), none, none, none, none]) (h := h ++ [.lst []]) ⟨⟨none, none, none, none, rfl⟩, [], rfl, rfl, by simp [OkSt]⟩
  refine ⟨S, ?_, by omega, ok⟩
  have p := pure_ref (h := h) (x := [.lst (S.map stD)]) (n := h.length) (ds := S.map stD) (Nat.le_refl _) (by simp) (fun d hd => by
    obtain ⟨o, _, rfl⟩ := List.mem_map.mp hd
    exact clean_st o)
  generalize S.map stD = uu at *
  generalize Sc ns = sc at *
  simp [Lib.F__law_drawn, n0, lg, ec, rg, e, p]
theorem F_spoilt {S : List Stp} {m : Nat} (lS : S.length ≤ 100000) (ok : OkSt m S) (lm : m ≤ 900) (c : Int) (many : Nat) (hm : many ≤ 100) (h : HP) : ∃ S' : List Stp, F__law_spoilt [.lst (S.map stD), .int c, .int (many : Nat)] h = .ok (.lst (S'.map stD)) h ∧ S'.length = S.length ∧ OkSt (m + 1) S' := by
  have okm : OkSt (m + 1) S := fun s hs => Nat.le_succ_of_le (ok s hs)
  have pc : ∀ S : List Stp, pure_ h (.lst (S.map stD)) h = .ok (.lst (S.map stD)) h := fun S => pure_clean h (clean_lst fun d hd => by
    obtain ⟨s, _, rfl⟩ := List.mem_map.mp hd
    exact clean_st s)
  have lq : (S.map stD).length = S.length := by simp
  by_cases k1 : c % 6 < 2
  · refine ⟨S, ?_, rfl, okm⟩
    have pc := pc S
    generalize S.map stD = su at *
    simp [Lib.F__law_spoilt, lg, k1, pc]
  by_cases z : S.length = 0
  · refine ⟨S, ?_, rfl, okm⟩
    have pc := pc S
    generalize S.map stD = su at *
    simp [Lib.F__law_spoilt, lg, k1, lq, z, sh_int, eqvI, pc, -List.length_eq_zero_iff]
  · have pl : 0 < S.length := by omega
    have plI : (0 : Int) < S.length := by omega
    obtain ⟨a, ea, ha⟩ : ∃ a : Nat, c / 6 % (S.length : Int) = (a : Nat) ∧ a < S.length := by
      have s1 := Int.emod_nonneg (c / 6) (show (S.length : Int) ≠ 0 by omega)
      have s2 := Int.emod_lt_of_pos (c / 6) plI
      exact ⟨(c / 6 % S.length).toNat, by omega, by omega⟩
    have zI : ¬ ((S.length : Int) = 0) := by omega
    have hst : atI (S.map stD) (a : Int) = some (stD S[a]) := at_map stD ha
    have cu1 : Ev.cutD (S.map stD) none (some (a : Int)) = (S.take a).map stD := by rw [cut_to (by simp; omega), List.map_take]
    have cu2 : Ev.cutD (S.map stD) (some ((a : Int) + 1)) none = (S.drop (a + 1)).map stD := by
      have := cut_from (xs := S.map stD) (i := a + 1) (by simp; omega)
      push_cast at this
      rw [this, List.map_drop]
    have ms := ok _ (List.getElem_mem ha)
    generalize hs : S[a] = s at *
    obtain ⟨t, fs⟩ := s
    simp only at ms
    simp only [stD] at hst
    have llg : ((S.length : Int)).natAbs.log2 < 9000 := lg (by omega)
    -- the answer with one step in its place
    have fin : ∀ s' : Stp, s'.2.length ≤ m + 1 → ((S.take a ++ s' :: S.drop (a + 1)).length = S.length ∧ OkSt (m + 1) (S.take a ++ s' :: S.drop (a + 1))) := fun s' hs' => ⟨by simp; omega, fun q hq => by
      rcases List.mem_append.mp hq with hq | hq
      · exact okm q (List.mem_of_mem_take hq)
      · rcases List.mem_cons.mp hq with rfl | hq
        · exact hs'
        · exact okm q (List.mem_of_mem_drop hq)⟩
    have z1 : ((S.take a).map stD).length + 1 ≤ sizeLine := by rw [sizeLine_eq]; simp; omega
    have z2 : ((S.take a).map stD).length + 1 + ((S.drop (a + 1)).map stD).length ≤ sizeLine := by rw [sizeLine_eq]; simp; omega
    have lf : (fs.map D.int).length = fs.length := by simp
    have m2 : (0 : Int) < (many : Int) + 2 := by omega
    have m2g : ((many : Int) + 2).natAbs.log2 < 9000 := lg (by omega)
    have s2 : (0 : Int) < (S.length : Int) + 2 := by omega
    have s2g : ((S.length : Int) + 2).natAbs.log2 < 9000 := lg (by omega)
    have s1 : (0 : Int) < (S.length : Int) + 1 := by omega
    have s1g : ((S.length : Int) + 1).natAbs.log2 < 9000 := lg (by omega)
    by_cases k2 : c % 6 = 2
    · refine ⟨S.take a ++ (c / 6 / 64 % ((many : Int) + 2) - 1, fs) :: S.drop (a + 1), ?_, fin _ (by simp only; omega)⟩
      have pc := pc (S.take a ++ (c / 6 / 64 % ((many : Int) + 2) - 1, fs) :: S.drop (a + 1))
      simp only [List.map_append, List.map_cons, stD] at pc ⊢
      have eS : ∀ Q : List Stp, Q.map (fun s => D.tup [.int s.1, .tup (s.2.map D.int)]) = Q.map stD := fun _ => rfl
      generalize (S.take a).map stD = u1 at *
      generalize (S.drop (a + 1)).map stD = u2 at *
      generalize S.map stD = su at *
      generalize fs.map D.int = fu at *
      simp [Lib.F__law_spoilt, lg, k1, k2, lq, z, zI, plI, pl, llg, ea, hst, cu1, cu2, z1, z2, m2, m2g, sh_int, eqvI, pc, -List.length_eq_zero_iff]
    by_cases k3 : c % 6 = 3
    · refine ⟨S.take a ++ (t, fs ++ [c / 6 / 64 % ((S.length : Int) + 2) - 1]) :: S.drop (a + 1), ?_, fin _ (by simp; omega)⟩
      have pc := pc (S.take a ++ (t, fs ++ [c / 6 / 64 % ((S.length : Int) + 2) - 1]) :: S.drop (a + 1))
      have l3 : (fs.map D.int).length + 1 ≤ sizeLine := by rw [sizeLine_eq]; simp; omega
      simp only [List.map_append, List.map_cons, List.map_nil, stD] at pc ⊢
      generalize (S.take a).map stD = u1 at *
      generalize (S.drop (a + 1)).map stD = u2 at *
      generalize S.map stD = su at *
      generalize fs.map D.int = fu at *
      simp [Lib.F__law_spoilt, lg, k1, k3, lq, z, zI, plI, pl, llg, ea, hst, cu1, cu2, z1, z2, s2, s2g, l3, sh_int, eqvI, pc, -List.length_eq_zero_iff]
    by_cases k4 : c % 6 = 4 ∧ 0 < fs.length
    · obtain ⟨k4, k5⟩ := k4
      have k5I : (0 : Int) < fs.length := by omega
      refine ⟨S.take a ++ (t, fs.take (fs.length - 1) ++ [c / 6 / 64 % ((S.length : Int) + 1)]) :: S.drop (a + 1), ?_, fin _ (by simp; omega)⟩
      have pc := pc (S.take a ++ (t, fs.take (fs.length - 1) ++ [c / 6 / 64 % ((S.length : Int) + 1)]) :: S.drop (a + 1))
      have cu3 : Ev.cutD (fs.map D.int) none (some (-1)) = (fs.take (fs.length - 1)).map D.int := by rw [cut_init (by simpa using k5), List.length_map, List.map_take]
      have l3 : ((fs.take (fs.length - 1)).map D.int).length + 1 ≤ sizeLine := by rw [sizeLine_eq]; simp; omega
      simp only [List.map_append, List.map_cons, List.map_nil, stD] at pc ⊢
      generalize (S.take a).map stD = u1 at *
      generalize (S.drop (a + 1)).map stD = u2 at *
      generalize S.map stD = su at *
      generalize (fs.take (fs.length - 1)).map D.int = fv at *
      generalize fs.map D.int = fu at *
      simp [Lib.F__law_spoilt, lg, k1, k4, lq, z, zI, plI, pl, llg, ea, hst, cu1, cu2, cu3, z1, z2, s1, s1g, l3, lf, k5, k5I, sh_int, eqvI, pc, -List.length_eq_zero_iff]
    · refine ⟨S.take a ++ (t, []) :: S.drop (a + 1), ?_, fin _ (by simp)⟩
      have pc := pc (S.take a ++ (t, []) :: S.drop (a + 1))
      simp only [List.map_append, List.map_cons, List.map_nil, stD] at pc ⊢
      generalize (S.take a).map stD = u1 at *
      generalize (S.drop (a + 1)).map stD = u2 at *
      generalize S.map stD = su at *
      by_cases k5 : c % 6 = 4
      · have k6 : ¬ 0 < fs.length := fun y => k4 ⟨k5, y⟩
        have k6I : ¬ (0 : Int) < fs.length := by omega
        generalize fs.map D.int = fu at *
        simp [Lib.F__law_spoilt, lg, k1, k2, k3, k5, k6, k6I, lq, z, zI, plI, pl, llg, ea, hst, cu1, cu2, z1, z2, lf, sh_int, eqvI, pc, -List.length_eq_zero_iff]
      · generalize fs.map D.int = fu at *
        simp [Lib.F__law_spoilt, lg, k1, k2, k3, k5, lq, z, zI, plI, pl, llg, ea, hst, cu1, cu2, z1, z2, lf, sh_int, eqvI, pc, -List.length_eq_zero_iff]
end Pg
namespace Pg
open PySem PySem.Spec PyProof.Rows L2 Ev Lib
abbrev envS (us st le ba ho at_ ma tr nm co nu : Option D) : EN := [us, st, le, ba, ho, at_, ma, tr, nm, co, nu]
theorem sr1 (us st le ho at_ ma tr co nu : Option D) (ls : Nm) (h : HP) : ∀ (xs : Nm) (nm : Option D), (xs.any (fun x => decide (x ∈ ls)) = true ∧ forE (gNm 8) B__law_step_right_1 [] (xs.map D.str) (envS us st le (some (.lst (ls.map D.str))) ho at_ ma tr nm co nu) h = .rt (.bl false) h) ∨
    (xs.any (fun x => decide (x ∈ ls)) = false ∧ ∃ nm', forE (gNm 8) B__law_step_right_1 [] (xs.map D.str) (envS us st le (some (.lst (ls.map D.str))) ho at_ ma tr nm co nu) h = .nx (envS us st le (some (.lst (ls.map D.str))) ho at_ ma tr nm' co nu) h)
  | [], nm => .inr ⟨rfl, nm, by rw [List.map_nil, for_nil]⟩
  | x :: xs, nm => by
    have e := in_lst false x ls h
    rw [List.map_cons]
    by_cases c : x ∈ ls
    · refine .inl ⟨by simp [c], for_rt (e := envS us st le (some (.lst (ls.map D.str))) ho at_ ma tr (some (.str x)) co nu) rfl ?_⟩
      generalize ls.map D.str = l at *
      simp [e, c, -fIn]
    · rw [for_nx (e := envS us st le (some (.lst (ls.map D.str))) ho at_ ma tr (some (.str x)) co nu) (e' := envS us st le (some (.lst (ls.map D.str))) ho at_ ma tr (some (.str x)) co nu) (h' := h) rfl (by
        generalize ls.map D.str = l at *
        simp [e, c, -fIn])]
      have := sr1 us st le ho at_ ma tr co nu ls h xs (some (.str x))
      simpa [c] using this
theorem sr2 (us st le ba at_ ma tr nu : Option D) (honest : Nm) (h : HP) : ∀ (xs : Nm) (k : Nat) (nm : Option D), ∃ nm', forE (gNm 8) B__law_step_right_2 [] (xs.map D.str) (envS us st le ba (some (nmD honest)) at_ ma tr nm (some (.int (k : Nat))) nu) h = .nx (envS us st le ba (some (nmD honest)) at_ ma tr nm' (some (.int ((k + (susOf honest xs).length : Nat)))) nu) h
  | [], k, nm => ⟨nm, by rw [List.map_nil, for_nil]; rfl⟩
  | x :: xs, k, nm => by
    have e := in_nm true x honest h
    rw [List.map_cons]
    by_cases c : x ∈ honest
    · obtain ⟨nm', q⟩ := sr2 us st le ba at_ ma tr nu honest h xs k (some (.str x))
      refine ⟨nm', ?_⟩
      rw [for_nx (e := envS us st le ba (some (nmD honest)) at_ ma tr (some (.str x)) (some (.int (k : Nat))) nu) (e' := envS us st le ba (some (nmD honest)) at_ ma tr (some (.str x)) (some (.int (k : Nat))) nu) (h' := h) rfl (by
        generalize nmD honest = l at *
        simp [e, c, -fIn]), q]
      simp [susOf, c]
    · obtain ⟨nm', q⟩ := sr2 us st le ba at_ ma tr nu honest h xs (k + 1) (some (.str x))
      refine ⟨nm', ?_⟩
      rw [for_nx (e := envS us st le ba (some (nmD honest)) at_ ma tr (some (.str x)) (some (.int (k : Nat))) nu) (e' := envS us st le ba (some (nmD honest)) at_ ma tr (some (.str x)) (some (.int ((k + 1 : Nat)))) nu) (h' := h) rfl (by
        generalize nmD honest = l at *
        simp [e, c, -fIn]), q]
      have : susOf honest (x :: xs) = x :: susOf honest xs := by simp [susOf, c]
      rw [this, List.length_cons, show k + 1 + (susOf honest xs).length = k + ((susOf honest xs).length + 1) by omega]
theorem sr3 (us st le ba ho tr nm co : Option D) (i count : Int) (h : HP) : ∀ (fs : List Int) (nu : Option D), (fs.all (fun s => decide (i < s) && decide (s < count)) = false ∧ forE (gNm 10) B__law_step_right_3 [] (fs.map D.int) (envS us st le ba ho (some (.int i)) (some (.int count)) tr nm co nu) h = .rt (.bl false) h) ∨
    (fs.all (fun s => decide (i < s) && decide (s < count)) = true ∧ ∃ nu', forE (gNm 10) B__law_step_right_3 [] (fs.map D.int) (envS us st le ba ho (some (.int i)) (some (.int count)) tr nm co nu) h = .nx (envS us st le ba ho (some (.int i)) (some (.int count)) tr nm co nu') h)
  | [], nu => .inr ⟨rfl, nu, by rw [List.map_nil, for_nil]⟩
  | s :: fs, nu => by
    rw [List.map_cons]
    by_cases c1 : i < s
    · by_cases c2 : s < count
      · rw [for_nx (e := envS us st le ba ho (some (.int i)) (some (.int count)) tr nm co (some (.int s))) (e' := envS us st le ba ho (some (.int i)) (some (.int count)) tr nm co (some (.int s))) (h' := h) rfl (by
          have d1 : ¬ s ≤ i := by omega
          have d2 : ¬ count ≤ s := by omega
          simp [d1, d2])]
        have := sr3 us st le ba ho tr nm co i count h fs (some (.int s))
        simpa [c1, c2] using this
      · refine .inl ⟨by simp [c2], for_rt (e := envS us st le ba ho (some (.int i)) (some (.int count)) tr nm co (some (.int s))) rfl ?_⟩
        have d1 : ¬ s ≤ i := by omega
        have d2 : count ≤ s := by omega
        simp [d1, d2]
    · refine .inl ⟨by simp [c1], for_rt (e := envS us st le ba ho (some (.int i)) (some (.int count)) tr nm co (some (.int s))) rfl ?_⟩
      have d1 : s ≤ i := by omega
      simp [d1]
def stepR (used : List (Option Nm)) (honest : Nm) (count i : Nat) (s : Stp) (left : Int) (ls : Nm) : Bool :=
  if 0 ≤ s.1 ∧ s.1 < used.length then match used.getD s.1.toNat none with
    | none => false
    | some src => if src.any (fun x => decide (x ∈ ls)) = true then false else okNext i count (susOf honest src) s.2 left
  else false
theorem F_step {used : List (Option Nm)} (lu : used.length ≤ 1000) (honest : Nm) (count i : Nat) (s : Stp) (lf : s.2.length ≤ 1000) (left : Int) (ls : Nm) (h : HP) :
    F__law_step_right [.lst (used.map usD), stD s, .int left, .lst (ls.map D.str), nmD honest, .int (i : Nat), .int (count : Nat)] h = .ok (.bl (stepR used honest count i s left ls)) h := by
  have pb : ∀ b, pure_ h (.bl b) h = .ok (.bl b) h := fun b => pure_clean h (clean_bl b)
  have lU : (used.map usD).length = used.length := by simp
  obtain ⟨t, fs⟩ := s
  have lF : (fs.map D.int).length = fs.length := by simp
  unfold stepR
  simp only at lf ⊢
  by_cases c : 0 ≤ t ∧ t < used.length
  · obtain ⟨k, rfl⟩ := Int.eq_ofNat_of_zero_le c.1
    have hk : k < used.length := by omega
    have hkI : ¬ (used.length : Int) ≤ k := by omega
    have hkN : ¬ used.length ≤ k := by omega
    have k0 : ¬ (k : Int) < 0 := by omega
    have hus : atI (used.map usD) (k : Int) = some (usD used[k]) := at_map usD hk
    have eg : used.getD ((k : Int)).toNat none = used[k] := by rw [List.getD_eq_getElem?_getD, Int.toNat_natCast, List.getElem?_eq_getElem hk]; rfl
    rw [if_pos c, eg]
    cases q : used[k] with
    | none =>
      rw [q] at hus
      simp only [usD, stD] at hus ⊢
      generalize used.map usD = uu at *
      generalize nmD honest = ho at *
      generalize ls.map D.str = l at *
      generalize fs.map D.int = fu at *
      simp [F__law_step_right, lU, hkI, hkN, k0, hus, pb]
    | some src =>
      rw [q] at hus
      simp only [usD] at hus
      simp only
      rcases sr1 (some (.lst (used.map usD))) (some (stD ((k : Int), fs))) (some (.int left)) (some (nmD honest)) (some (.int (i : Nat))) (some (.int (count : Nat))) (some (.int k)) none none ls h src none with ⟨a, e1⟩ | ⟨a, nm1, e1⟩
      · rw [if_pos a]
        simp only [stD] at e1 ⊢
        simp only [nmD] at hus
        generalize used.map usD = uu at *
        generalize nmD honest = ho at *
        generalize ls.map D.str = l at *
        generalize fs.map D.int = fu at *
        generalize src.map D.str = sr at *
        simp [F__law_step_right, lU, hkI, hkN, k0, hus, e1, pb]
      · rw [if_neg (by rw [a]; simp)]
        unfold okNext
        by_cases l0 : left = 0
        · rw [if_pos l0]
          have el : ((fs.length : Int) == 0) = decide (fs.length = 0) := by by_cases z : fs.length = 0 <;> simp [z]
          simp only [stD] at e1 ⊢
          simp only [nmD] at hus
          generalize used.map usD = uu at *
          generalize nmD honest = ho at *
          generalize ls.map D.str = l at *
          generalize fs.map D.int = fu at *
          generalize src.map D.str = sr at *
          subst l0
          simp [F__law_step_right, lU, hkI, hkN, k0, hus, e1, sh_int, eqvI, lF, el, pb, -List.length_eq_zero_iff]
        · rw [if_neg l0]
          obtain ⟨nm2, e2⟩ := sr2 (some (.lst (used.map usD))) (some (stD ((k : Int), fs))) (some (.int left)) (some (.lst (ls.map D.str))) (some (.int (i : Nat))) (some (.int (count : Nat))) (some (.int k)) none honest h src 0 nm1
          rw [Nat.zero_add] at e2
          have e2' : forE (gNm 8) B__law_step_right_2 [] (src.map D.str) (envS (some (.lst (used.map usD))) (some (stD ((k : Int), fs))) (some (.int left)) (some (.lst (ls.map D.str))) (some (nmD honest)) (some (.int (i : Nat))) (some (.int (count : Nat))) (some (.int k)) nm1 (some (.int 0)) none) h = _ := e2
          clear e2
          by_cases z : fs.length = (susOf honest src).length
          · have zb : ((fs.length : Int) == ((susOf honest src).length : Int)) = true := by simp [z]
            rcases sr3 (some (.lst (used.map usD))) (some (stD ((k : Int), fs))) (some (.int left)) (some (.lst (ls.map D.str))) (some (nmD honest)) (some (.int k)) nm2 (some (.int ((susOf honest src).length : Nat))) (i : Nat) (count : Nat) h fs none with ⟨b, e3⟩ | ⟨b, nu, e3⟩
            · rw [b]
              simp only [stD] at e1 e2' e3 ⊢
              simp only [nmD] at hus
              generalize (susOf honest src).length = sl at *
              generalize used.map usD = uu at *
              generalize nmD honest = ho at *
              generalize ls.map D.str = l at *
              generalize fs.map D.int = fu at *
              generalize src.map D.str = sr at *
              simp [F__law_step_right, lU, hkI, hkN, k0, hus, e1, sh_int, eqvI, lF, l0, e2', z, e3, pb]
            · rw [b]
              simp only [stD] at e1 e2' e3 ⊢
              simp only [nmD] at hus
              generalize (susOf honest src).length = sl at *
              generalize used.map usD = uu at *
              generalize nmD honest = ho at *
              generalize ls.map D.str = l at *
              generalize fs.map D.int = fu at *
              generalize src.map D.str = sr at *
              simp [F__law_step_right, lU, hkI, hkN, k0, hus, e1, sh_int, eqvI, lF, l0, e2', z, e3, pb]
          · have zI : ¬ (fs.length : Int) = ((susOf honest src).length : Int) := by omega
            simp only [stD] at e1 e2' ⊢
            simp only [nmD] at hus
            generalize (susOf honest src).length = sl at *
            generalize used.map usD = uu at *
            generalize nmD honest = ho at *
            generalize ls.map D.str = l at *
            generalize fs.map D.int = fu at *
            generalize src.map D.str = sr at *
            simp [F__law_step_right, lU, hkI, hkN, k0, hus, e1, sh_int, eqvI, lF, l0, e2', z, zI, pb]
  · rw [if_neg c]
    simp only [stD]
    generalize used.map usD = uu at *
    generalize nmD honest = ho at *
    generalize ls.map D.str = l at *
    generalize fs.map D.int = fu at *
    by_cases c1 : t < 0
    · simp [F__law_step_right, c1, pb]
    · have c2 : (used.length : Int) ≤ t := by omega
      simp [F__law_step_right, c1, lU, c2, pb]
end Pg
namespace Pg
open PySem PySem.Spec PyProof.Rows L2 Ev Lib
def Bd : Nat → Nat
  | 0 => 0
  | 1 => 3
  | d + 2 => 123 * (Bd (d + 1) + 1)
def FT (T : Nat) : Nat → Nat
  | 0 => 0
  | 1 => min T 3
  | d + 2 => T * (Bd (d + 1) + 1)
theorem Bd_up : ∀ d, Bd d ≤ Bd (d + 1)
  | 0 => by decide
  | 1 => by decide
  | d + 2 => by
    show Bd (d + 1 + 1) ≤ 123 * (Bd (d + 1 + 1) + 1)
    omega
theorem Bd_mono {a b : Nat} (h : a ≤ b) : Bd a ≤ Bd b := by
  induction b with
  | zero => rw [Nat.le_zero.mp h]; exact Nat.le_refl _
  | succ b ih =>
    rcases Nat.lt_or_ge a (b + 1) with z | z
    · exact Nat.le_trans (ih (by omega)) (Bd_up b)
    · have : a = b + 1 := by omega
      subst this; exact Nat.le_refl _
theorem FT_Bd {T : Nat} (hT : T ≤ 123) : ∀ d, FT T d ≤ Bd d
  | 0 => Nat.le_refl _
  | 1 => by show min T 3 ≤ 3; omega
  | d + 2 => Nat.mul_le_mul_right _ hT
theorem FT_up (T d : Nat) : FT T d ≤ FT (T + 1) d := by
  match d with
  | 0 => exact Nat.le_refl _
  | 1 => show min T 3 ≤ min (T + 1) 3; omega
  | d + 2 => exact Nat.mul_le_mul_right _ (Nat.le_succ T)
theorem FT_step {T ds dp d' : Nat} (hT : T + 1 ≤ 123) (h0 : dp = 0 → T < 3) (h1 : ds ≤ d') (h2 : dp + 1 ≤ d') : FT T ds + FT T dp + 1 ≤ FT (T + 1) d' := by
  match d', h1, h2 with
  | 0, h1, h2 => omega
  | 1, h1, h2 =>
    have e : dp = 0 := by omega
    subst e
    have := h0 rfl
    have k : FT T ds ≤ min T 3 := by
      match ds, h1 with
      | 0, _ => exact Nat.zero_le _
      | 1, _ => exact Nat.le_refl _
    show FT T ds + 0 + 1 ≤ min (T + 1) 3
    omega
  | e + 2, h1, h2 =>
    have a : FT T dp ≤ Bd (e + 1) := Nat.le_trans (FT_Bd (by omega) dp) (Bd_mono (by omega))
    have b : FT T ds ≤ T * (Bd (e + 1) + 1) := by
      match ds, h1 with
      | 0, _ => exact Nat.zero_le _
      | 1, _ => exact Nat.le_trans (Nat.min_le_left _ _) (Nat.le_mul_of_pos_right _ (Nat.succ_pos _))
      | f + 2, h1 => exact Nat.mul_le_mul_left _ (Nat.succ_le_succ (Bd_mono (by omega)))
    have c : (T + 1) * (Bd (e + 1) + 1) = T * (Bd (e + 1) + 1) + (Bd (e + 1) + 1) := Nat.succ_mul _ _
    show FT T ds + FT T dp + 1 ≤ (T + 1) * (Bd (e + 1) + 1)
    omega
def SimAt (T : Nat) (j : Nat) (l : Int) (b : Nm) : Option Mark → Prop
  | none => l = -1 ∧ b = []
  | some m => l = m.1 ∧ 0 ≤ m.1 ∧ (∀ x, x ∈ b ↔ x ∈ m.2) ∧ b.length ≤ FT T m.2.length ∧ (j ≠ 0 → 1 ≤ m.2.length)
structure Sim (n T : Nat) (L : List Int) (B : List Nm) (M : Marks) : Prop where
  l : L.length = n
  b : B.length = n
  at_ : ∀ j : Nat, j < n → SimAt T j (L.getD j 0) (B.getD j []) (M (j : Nat))
theorem SimAt.up {T j : Nat} {l : Int} {b : Nm} : ∀ {o : Option Mark}, SimAt T j l b o → SimAt (T + 1) j l b o
  | none, h => h
  | some m, ⟨h1, h2, h3, h4, h5⟩ => ⟨h1, h2, h3, Nat.le_trans h4 (FT_up T _), h5⟩
theorem Sim.lead {n T : Nat} {L : List Int} {B : List Nm} {M : Marks} (S : Sim n T L B M) (mi : MI abcd M) {p s : Nat} (hp : p < n) (hs : s < n) (ps : p < s) {mp : Mark} (em : M (p : Nat) = some mp) (l0 : 0 < mp.1) {x : Str} (hx : x ∈ abcd) (nx : x ∉ mp.2) (hT : T + 1 ≤ 123) (h0 : mp.2.length = 0 → T < 3) :
    Sim n (T + 1) (L.set s (if L.getD s 0 < L.getD p 0 - 1 then L.getD p 0 - 1 else L.getD s 0)) (B.set s (B.getD s [] ++ B.getD p [] ++ [x])) (leadM M (s : Nat) (mp.1 - 1) (mp.2 ++ [x])) ∧ (B.getD s [] ++ B.getD p [] ++ [x]).length ≤ 10000000 := by
  have Sp := S.at_ p hp
  rw [em] at Sp
  obtain ⟨p1, p2, p3, p4, p5⟩ := Sp
  have tp := (mi _ _ em).snoc hx nx
  have Ss := S.at_ s hs
  have tl : ∀ o : Option Mark, (∀ m, o = some m → Told abcd m.2) → (leadK o (mp.1 - 1) (mp.2 ++ [x])).2.length ≤ 4 ∧ mp.2.length + 1 ≤ (leadK o (mp.1 - 1) (mp.2 ++ [x])).2.length := fun o ho => by
    have t := Told.lead (U := abcd) ho (mp.1 - 1) tp
    refine ⟨t.len, ?_⟩
    have hsub : ∀ y ∈ mp.2 ++ [x], y ∈ (leadK o (mp.1 - 1) (mp.2 ++ [x])).2 := fun y hy => by
      unfold leadK
      generalize o.getD (mp.1 - 1, []) = m
      simp only
      by_cases c : y ∈ m.2
      · exact List.mem_append_left _ c
      · exact List.mem_append_right _ (List.mem_filter.mpr ⟨hy, by simpa using c⟩)
    have := nd_len tp.1 hsub
    simpa using this
  have key : SimAt (T + 1) s (if L.getD s 0 < L.getD p 0 - 1 then L.getD p 0 - 1 else L.getD s 0) (B.getD s [] ++ B.getD p [] ++ [x]) (some (leadK (M (s : Nat)) (mp.1 - 1) (mp.2 ++ [x]))) := by
    obtain ⟨t4, t1⟩ := tl (M (s : Nat)) (fun m e => mi _ _ e)
    have hsub : ∀ y, y ∈ (B.getD s [] ++ B.getD p [] ++ [x]) ↔ y ∈ (leadK (M (s : Nat)) (mp.1 - 1) (mp.2 ++ [x])).2 := fun y => by
      have q3 := p3 y
      have q4 : y ∈ B.getD s [] ↔ y ∈ ((M (s : Nat)).getD (mp.1 - 1, [])).2 := by
        cases es : M (s : Nat) with
        | none =>
          rw [es] at Ss
          obtain ⟨_, s2⟩ := Ss
          rw [s2]
          simp
        | some m => rw [es] at Ss; exact Ss.2.2.1 y
      unfold leadK
      generalize (M (s : Nat)).getD (mp.1 - 1, []) = m at *
      generalize B.getD s [] = bs at *
      generalize B.getD p [] = bp at *
      simp only [List.mem_append, List.mem_filter, List.mem_singleton, q3, q4, Bool.not_eq_true', decide_eq_false_iff_not]
      by_cases c : y ∈ m.2 <;> simp [c]
    have hlen : (B.getD s [] ++ B.getD p [] ++ [x]).length ≤ FT (T + 1) (leadK (M (s : Nat)) (mp.1 - 1) (mp.2 ++ [x])).2.length := by
      simp only [List.length_append, List.length_cons, List.length_nil]
      cases es : M (s : Nat) with
      | none =>
        rw [es] at Ss t1
        have := FT_step (T := T) (ds := 0) hT h0 (Nat.zero_le _) t1
        rw [Ss.2]
        have z : FT T 0 = 0 := rfl
        simp only [List.length_nil]
        omega
      | some m =>
        rw [es] at Ss t1
        have dl : m.2.length ≤ (leadK (some m) (mp.1 - 1) (mp.2 ++ [x])).2.length := by
          unfold leadK
          simp only [Option.getD_some, List.length_append]
          omega
        have := FT_step (T := T) hT h0 dl t1
        have s4 := Ss.2.2.2.1
        omega
    refine ⟨?_, ?_, hsub, hlen, fun _ => by omega⟩
    · rw [p1]
      unfold leadK
      cases es : M (s : Nat) with
      | none =>
        rw [es] at Ss
        rw [Ss.1]
        simp only [Option.getD_none]
        rw [if_pos (by omega), if_neg (by omega)]
      | some m =>
        rw [es] at Ss
        rw [Ss.1]
        simp only [Option.getD_some]
        split <;> split <;> omega
    · unfold leadK
      simp only
      split
      · rename_i z
        omega
      · omega
  have hb := key.2.2.2.1
  have t4 := (tl (M (s : Nat)) (fun m e => mi _ _ e)).1
  refine ⟨⟨by simp [S.l], by simp [S.b], fun j hj => ?_⟩, Nat.le_trans hb (Nat.le_trans (FT_Bd hT _) (Nat.le_trans (Bd_mono t4) (by decide)))⟩
  by_cases c : j = s
  · subst c
    have e1 : ∀ v, (L.set j v).getD j 0 = v := fun v => by rw [List.getD_eq_getElem?_getD, List.getElem?_set_self (by rw [S.l]; exact hj)]; rfl
    have e2 : ∀ v, (B.set j v).getD j [] = v := fun v => by rw [List.getD_eq_getElem?_getD, List.getElem?_set_self (by rw [S.b]; exact hj)]; rfl
    rw [e1, e2]
    unfold leadM
    rw [if_pos rfl]
    exact key
  · have e1 : ∀ v, (L.set s v).getD j 0 = L.getD j 0 := fun v => by rw [List.getD_eq_getElem?_getD, List.getElem?_set_ne (fun z => c z.symm), ← List.getD_eq_getElem?_getD]
    have e2 : ∀ v, (B.set s v).getD j [] = B.getD j [] := fun v => by rw [List.getD_eq_getElem?_getD, List.getElem?_set_ne (fun z => c z.symm), ← List.getD_eq_getElem?_getD]
    rw [e1, e2]
    unfold leadM
    rw [if_neg (by omega)]
    exact (S.at_ j hj).up
def lsN (s : Nm) : D := .lst (s.map D.str)
abbrev envR (us st ho li : D) (k : Nat) (at_ : Option D) (sp pl nm nu : Option D) : EN := [some us, some st, some ho, some li, some (.ref k), some (.ref (k + 1)), at_, sp, pl, nm, nu]
def hpR (h : HP) (L : List Int) (B : List Nm) : HP := h ++ [.lst (L.map D.int), .lst (B.map lsN)]
theorem hpR_0 (h : HP) (L : List Int) (B : List Nm) : (hpR h L B)[h.length]? = some (.lst (L.map D.int)) := by simp [hpR]
theorem hpR_1 (h : HP) (L : List Int) (B : List Nm) : (hpR h L B)[h.length + 1]? = some (.lst (B.map lsN)) := by simp [hpR]
theorem set_0 (h : HP) (L L' : List Int) (B : List Nm) : (hpR h L B).set h.length (.lst (L'.map D.int)) = hpR h L' B := by simp [hpR]
theorem set_1 (h : HP) (L : List Int) (B B' : List Nm) : (hpR h L B).set (h.length + 1) (.lst (B'.map lsN)) = hpR h L B' := by
  unfold hpR
  have e : h ++ [O.lst (L.map D.int), .lst (B.map lsN)] = (h ++ [.lst (L.map D.int)]) ++ [.lst (B.map lsN)] := by simp
  rw [e]
  have : h.length + 1 = (h ++ [O.lst (L.map D.int)]).length := by simp
  rw [this, List.set_append_right _ _ (Nat.le_refl _)]
  simp
theorem at_L {L : List Int} {j : Nat} (h : j < L.length) : atI (L.map D.int) (j : Int) = some (.int (L.getD j 0)) := by
  rw [at_map D.int h, List.getD_eq_getElem?_getD, List.getElem?_eq_getElem h]
  rfl
theorem at_B {B : List Nm} {j : Nat} (h : j < B.length) : atI (B.map lsN) (j : Int) = some (lsN (B.getD j [])) := by
  rw [at_map lsN h, List.getD_eq_getElem?_getD, List.getElem?_eq_getElem h]
  rfl
/-- one contribution -/
theorem give {n T : Nat} {L : List Int} {B : List Nm} {M : Marks} (S : Sim n T L B M) (mi : MI abcd M) {p : Nat} (hp : p < n) {mp : Mark} (em : M (p : Nat) = some mp) (l0 : 0 < mp.1) {x : Str} (hx : x ∈ abcd) (nx : x ∉ mp.2) (hT : T + 1 ≤ 123) (h0 : mp.2.length = 0 → T < 3)
    {fs : List Int} {pl s : Nat} (hpl : fs[pl]? = some (s : Int)) (ps : p < s) (hs : s < n) {honest : Nm} (hh : x ∉ honest) (us st li : D) (t : Int) (nu : Option D) (h : HP) :
    ∃ L' B', B__law_right_1 (envR us st (nmD honest) li h.length (some (.int (p : Nat))) (some (stD (t, fs))) (some (.int (pl : Nat))) (some (.str x)) nu) (hpR h L B) =
      .nx (envR us st (nmD honest) li h.length (some (.int (p : Nat))) (some (stD (t, fs))) (some (.int ((pl + 1 : Nat)))) (some (.str x)) (some (.int (s : Nat)))) (hpR h L' B') ∧ Sim n (T + 1) L' B' (leadM M (s : Nat) (mp.1 - 1) (mp.2 ++ [x])) := by
  obtain ⟨S', lz⟩ := S.lead mi hp hs ps em l0 hx nx hT h0
  refine ⟨_, _, ?_, S'⟩
  have Sp := S.at_ p hp
  rw [em] at Sp
  obtain ⟨p1, p2, p3, p4, p5⟩ := Sp
  have e := in_nm true x honest (hpR h L B)
  have g0 := hpR_0 h L B
  have aLp := at_L (L := L) (j := p) (by rw [S.l]; exact hp)
  have aLs := at_L (L := L) (j := s) (by rw [S.l]; exact hs)
  have lp : 0 < L.getD p 0 := by omega
  have hfl : pl < fs.length := (List.getElem?_eq_some_iff.mp hpl).1
  have hfe : fs[pl] = (s : Int) := (List.getElem?_eq_some_iff.mp hpl).2
  have aF : atI (fs.map D.int) (pl : Int) = some (.int (s : Nat)) := by rw [at_map D.int hfl, hfe]
  have ixL : ixN (L.map D.int).length (s : Int) = some s := ixN_nat (by simp [S.l]; exact hs)
  have ixB : ixN (B.map lsN).length (s : Int) = some s := ixN_nat (by simp [S.b]; exact hs)
  -- the first write
  obtain ⟨L', hL'⟩ : ∃ L', L' = L.set s (if L.getD s 0 < L.getD p 0 - 1 then L.getD p 0 - 1 else L.getD s 0) := ⟨_, rfl⟩
  have w0 : (hpR h L B).set h.length (.lst ((L.map D.int).set s (.int (if L.getD s 0 < L.getD p 0 - 1 then L.getD p 0 - 1 else L.getD s 0)))) = hpR h L' B := by
    have := set_0 h L (L.set s (if L.getD s 0 < L.getD p 0 - 1 then L.getD p 0 - 1 else L.getD s 0)) B
    rw [List.map_set] at this
    rw [hL']
    exact this
  have g1 := hpR_1 h L' B
  have aBp := at_B (B := B) (j := p) (by rw [S.b]; exact hp)
  have aBs := at_B (B := B) (j := s) (by rw [S.b]; exact hs)
  have w1 : (hpR h L' B).set (h.length + 1) (.lst ((B.map lsN).set s (lsN (B.getD s [] ++ B.getD p [] ++ [x])))) = hpR h L' (B.set s (B.getD s [] ++ B.getD p [] ++ [x])) := by
    have := set_1 h L' B (B.set s (B.getD s [] ++ B.getD p [] ++ [x]))
    rw [List.map_set] at this
    exact this
  rw [← hL']
  simp only [List.length_append, List.length_cons, List.length_nil] at lz
  have z1 : ((B.getD s []).map D.str).length + ((B.getD p []).map D.str).length ≤ sizeLine := by rw [sizeLine_eq]; simp only [List.length_map]; omega
  have z2 : ((B.getD s []).map D.str).length + ((B.getD p []).map D.str).length + 1 ≤ sizeLine := by rw [sizeLine_eq]; simp only [List.length_map]; omega
  clear hL' S' lz p3 p4 p5 hpl
  simp only [stD]
  simp only [lsN, List.map_append, List.map_cons, List.map_nil] at aBp aBs w1
  generalize hpR h L' (B.set s (B.getD s [] ++ B.getD p [] ++ [x])) = H2 at *
  generalize hpR h L' B = H1 at *
  generalize hpR h L B = H0 at *
  have eB : (B.map fun s => D.lst (s.map D.str)) = B.map lsN := rfl
  generalize (B.getD s []).map D.str = bs at *
  generalize (B.getD p []).map D.str = bp at *
  generalize L.getD s 0 = vs at *
  generalize L.getD p 0 = vp at *
  generalize nmD honest = ho at *
  generalize fs.map D.int = fu at *
  generalize L.map D.int = lu at *
  generalize B.map lsN = bu at *
  rw [List.append_assoc] at w1
  by_cases c : vs < vp - 1
  · simp only [c, if_true] at w0
    simp [e, hh, g0, aLp, lp, aF, aLs, c, ixL, w0, g1, aBs, aBp, z1, z2, ixB, w1, -fIn]
  · simp only [c, if_false] at w0
    simp [e, hh, g0, aLp, lp, aF, aLs, c, ixL, w0, g1, aBs, aBp, z1, z2, ixB, w1, -fIn]
theorem give_loop {n : Nat} {p : Nat} (hp : p < n) {mp : Mark} (l0 : 0 < mp.1) {honest : Nm} {fs : List Int} (hfs : ∀ q ∈ fs, (p : Int) < q ∧ q < n) (us st li : D) (t : Int) (h : HP) : ∀ (xs : Nm) (pl T : Nat) (L : List Int) (B : List Nm) (M : Marks) (nm nu : Option D), Sim n T L B M → MI abcd M → M (p : Nat) = some mp →
    (∀ x ∈ xs, x ∈ abcd ∧ x ∉ mp.2) → pl + (susOf honest xs).length = fs.length → T + (susOf honest xs).length ≤ 123 → (mp.2.length = 0 → T + (susOf honest xs).length ≤ 3) →
    ∃ L' B' pl' nm' nu', forE (gNm 9) B__law_right_1 [] (xs.map D.str) (envR us st (nmD honest) li h.length (some (.int (p : Nat))) (some (stD (t, fs))) (some (.int (pl : Nat))) nm nu) (hpR h L B) =
      .nx (envR us st (nmD honest) li h.length (some (.int (p : Nat))) (some (stD (t, fs))) pl' nm' nu') (hpR h L' B') ∧ Sim n (T + (susOf honest xs).length) L' B' (leads (mp.1 - 1) mp.2 ((susOf honest xs).zip (fs.drop pl)) M)
  | [], pl, T, L, B, M, nm, nu, S, mi, em, hx, hl, hT, h0 => ⟨L, B, _, nm, nu, by rw [List.map_nil, for_nil], S⟩
  | x :: xs, pl, T, L, B, M, nm, nu, S, mi, em, hx, hl, hT, h0 => by
    rw [List.map_cons]
    by_cases c : x ∈ honest
    · have es : susOf honest (x :: xs) = susOf honest xs := by simp [susOf, c]
      rw [es] at hl hT h0 ⊢
      have e := in_nm true x honest (hpR h L B)
      rw [for_nx (e := envR us st (nmD honest) li h.length (some (.int (p : Nat))) (some (stD (t, fs))) (some (.int (pl : Nat))) (some (.str x)) nu) (e' := envR us st (nmD honest) li h.length (some (.int (p : Nat))) (some (stD (t, fs))) (some (.int (pl : Nat))) (some (.str x)) nu) (h' := hpR h L B) rfl (by
        generalize hpR h L B = H0 at *
        generalize nmD honest = q at *
        simp [e, c, -fIn])]
      exact give_loop hp l0 hfs us st li t h xs pl T L B M _ _ S mi em (fun y hy => hx y (by simp [hy])) hl hT h0
    · have es : susOf honest (x :: xs) = x :: susOf honest xs := by simp [susOf, c]
      rw [es] at hl hT h0 ⊢
      simp only [List.length_cons] at hl hT h0 ⊢
      have hpl : pl < fs.length := by omega
      obtain ⟨q1, q2⟩ := hfs _ (List.getElem_mem hpl)
      obtain ⟨s, hs⟩ := Int.eq_ofNat_of_zero_le (show 0 ≤ fs[pl] by omega)
      obtain ⟨x1, x2⟩ := hx x (by simp)
      obtain ⟨L1, B1, e1, S1⟩ := give S mi hp em l0 x1 x2 (by omega) (fun z => by have := h0 z; omega) (fs := fs) (pl := pl) (s := s) (by rw [List.getElem?_eq_getElem hpl, hs]) (by omega) (by omega) c us st li t nu h
      have em1 : leadM M (s : Nat) (mp.1 - 1) (mp.2 ++ [x]) (p : Nat) = some mp := by
        unfold leadM
        rw [if_neg (by omega)]
        exact em
      obtain ⟨L', B', pl', nm', nu', e2, S2⟩ := give_loop (honest := honest) hp l0 hfs us st li t h xs (pl + 1) (T + 1) L1 B1 _ (some (.str x)) (some (.int (s : Nat))) S1 (mi.lead _ _ ((mi _ _ em).snoc x1 x2)) em1 (fun y hy => hx y (by simp [hy])) (by omega) (by omega) (fun z => by have := h0 z; omega)
      refine ⟨L', B', pl', nm', nu', ?_, ?_⟩
      · rw [for_nx (e := envR us st (nmD honest) li h.length (some (.int (p : Nat))) (some (stD (t, fs))) (some (.int (pl : Nat))) (some (.str x)) nu) rfl e1]
        exact e2
      · have ed : fs.drop pl = fs[pl] :: fs.drop (pl + 1) := List.drop_eq_getElem_cons hpl
        rw [ed, hs, List.zip_cons_cons]
        rw [show T + ((susOf honest xs).length + 1) = T + 1 + (susOf honest xs).length by omega]
        exact S2
theorem skip_loop {L : List Int} {p : Nat} (hp : p < L.length) (l0 : ¬ 0 < L.getD p 0) {honest : Nm} (us st li : D) (sp pl nu : Option D) (B : List Nm) (h : HP) : ∀ (xs : Nm) (nm : Option D), ∃ nm', forE (gNm 9) B__law_right_1 [] (xs.map D.str) (envR us st (nmD honest) li h.length (some (.int (p : Nat))) sp pl nm nu) (hpR h L B) =
      .nx (envR us st (nmD honest) li h.length (some (.int (p : Nat))) sp pl nm' nu) (hpR h L B)
  | [], nm => ⟨nm, by rw [List.map_nil, for_nil]⟩
  | x :: xs, nm => by
    have e := in_nm true x honest (hpR h L B)
    have g0 := hpR_0 h L B
    have aL := at_L hp
    obtain ⟨nm', e2⟩ := skip_loop hp l0 (honest := honest) us st li sp pl nu B h xs (some (.str x))
    refine ⟨nm', ?_⟩
    rw [List.map_cons, for_nx (e := envR us st (nmD honest) li h.length (some (.int (p : Nat))) sp pl (some (.str x)) nu) (e' := envR us st (nmD honest) li h.length (some (.int (p : Nat))) sp pl (some (.str x)) nu) (h' := hpR h L B) rfl (by
      generalize hpR h L B = H0 at *
      generalize nmD honest = q at *
      generalize L.getD p 0 = v at *
      generalize L.map D.int = lu at *
      by_cases c : x ∈ honest
      · simp [e, c, -fIn]
      · simp [e, c, g0, aL, l0, -fIn])]
    exact e2
theorem right_turn {used : List (Option Nm)} (ou : OkUs used) (lu : used.length ≤ 1000) {honest : Nm} {steps : List Stp} (ls : steps.length ≤ 41) {i : Nat} (hi : i < steps.length) (lf : (steps[i]).2.length ≤ 1000) {T : Nat} {L : List Int} {B : List Nm} {M : Marks} (S : Sim steps.length T L B M) (mi : MI abcd M) (hT : T ≤ 3 * i) (li : D) (sp pl nm nu : Option D) (h : HP) :
    match turnM used honest steps.length i steps[i] M with
    | some M' => ∃ L' B' T' sp' pl' nm' nu', (B__law_right_2 (envR (.lst (used.map usD)) (.lst (steps.map stD)) (nmD honest) li h.length (some (.int (i : Nat))) sp pl nm nu) (hpR h L B) = .nx (envR (.lst (used.map usD)) (.lst (steps.map stD)) (nmD honest) li h.length (some (.int (i : Nat))) sp' pl' nm' nu') (hpR h L' B') ∨
        B__law_right_2 (envR (.lst (used.map usD)) (.lst (steps.map stD)) (nmD honest) li h.length (some (.int (i : Nat))) sp pl nm nu) (hpR h L B) = .ct (envR (.lst (used.map usD)) (.lst (steps.map stD)) (nmD honest) li h.length (some (.int (i : Nat))) sp' pl' nm' nu') (hpR h L' B')) ∧ Sim steps.length T' L' B' M' ∧ T' ≤ 3 * (i + 1)
    | none => B__law_right_2 (envR (.lst (used.map usD)) (.lst (steps.map stD)) (nmD honest) li h.length (some (.int (i : Nat))) sp pl nm nu) (hpR h L B) = .rt (.bl false) (hpR h L B) := by
  have Si := S.at_ i hi
  have g0 := hpR_0 h L B
  have g1 := hpR_1 h L B
  have aL := at_L (L := L) (j := i) (by rw [S.l]; exact hi)
  have aB := at_B (B := B) (j := i) (by rw [S.b]; exact hi)
  have hst : atI (steps.map stD) (i : Int) = some (stD steps[i]) := at_map stD hi
  have lS : (steps.map stD).length = steps.length := by simp
  unfold turnM
  cases em : M (i : Nat) with
  | none =>
    rw [em] at Si
    obtain ⟨s1, s2⟩ := Si
    rw [s1] at aL
    refine ⟨L, B, T, sp, pl, nm, nu, .inr ?_, S, by omega⟩
    generalize hpR h L B = H0 at *
    generalize nmD honest = ho at *
    generalize used.map usD = uu at *
    generalize steps.map stD = su at *
    generalize L.map D.int = lu at *
    simp [g0, aL]
  | some m =>
    rw [em] at Si
    obtain ⟨s1, s2, s3, s4, s5⟩ := Si
    have ln : ¬ m.1 < 0 := by omega
    have fs := F_step lu honest steps.length i steps[i] lf m.1 (B.getD i []) (hpR h L B)
    rw [s1] at aL
    have anyeq : ∀ src : Nm, (src.any fun x => decide (x ∈ B.getD i [])) = src.any fun x => decide (x ∈ m.2) := fun src => by
      congr 1
      funext x
      exact decide_eq_decide.mpr (s3 x)
    generalize hs : steps[i] = s at *
    have stepfalse : stepR used honest steps.length i s m.1 (B.getD i []) = false → B__law_right_2 (envR (.lst (used.map usD)) (.lst (steps.map stD)) (nmD honest) li h.length (some (.int (i : Nat))) sp pl nm nu) (hpR h L B) = .rt (.bl false) (hpR h L B) := fun z => by
      rw [z] at fs
      simp only [lsN] at aB
      generalize hpR h L B = H0 at *
      generalize nmD honest = ho at *
      generalize used.map usD = uu at *
      generalize steps.map stD = su at *
      generalize L.map D.int = lu at *
      generalize stD s = sd at *
      generalize (B.getD i []).map D.str = bb at *
      generalize (B.map lsN) = bu at *
      simp [g0, g1, aL, aB, ln, hst, lS, fs]
    by_cases c : 0 ≤ s.1 ∧ s.1 < used.length
    · simp only [c, and_self, if_true]
      obtain ⟨t, fq⟩ := s
      simp only at c lf
      obtain ⟨k, rfl⟩ := Int.eq_ofNat_of_zero_le c.1
      have hk : k < used.length := by omega
      have eg : used.getD ((k : Int)).toNat none = used[k] := by rw [List.getD_eq_getElem?_getD, Int.toNat_natCast, List.getElem?_eq_getElem hk]; rfl
      have hus : atI (used.map usD) (k : Int) = some (usD used[k]) := at_map usD hk
      have ms := List.getElem_mem hk
      simp only [eg]
      cases eu : used[k] with
      | none => exact stepfalse (by unfold stepR; simp only [eg, eu]; split <;> rfl)
      | some src =>
        rw [eu] at hus ms
        have os := ou src ms
        by_cases a : src.any (fun x => decide (x ∈ m.2)) = true
        · simp only [a, if_true]
          exact stepfalse (by unfold stepR; simp only [eg, eu, anyeq, a, if_true]; split <;> rfl)
        · have a' : (src.any fun x => decide (x ∈ m.2)) = false := by simpa using a
          simp only [a', Bool.false_eq_true, if_false]
          cases on : okNext i steps.length (susOf honest src) fq m.1 with
          | false =>
            simp only [Bool.false_eq_true, if_false]
            exact stepfalse (by unfold stepR; simp only [eg, eu, anyeq, a', on]; split <;> simp)
          | true =>
            simp only [if_true]
            have st : stepR used honest steps.length i ((k : Int), fq) m.1 (B.getD i []) = true := by
              unfold stepR
              simp only [eg, eu, anyeq, a', on]
              rw [if_pos c]
              simp
            rw [st] at fs
            have ssl : (susOf honest src).length ≤ 3 := Nat.le_trans (List.length_filter_le _ _) os.1
            have nb : ∀ x ∈ src, x ∉ m.2 := fun x hx z => a (by rw [List.any_eq_true]; exact ⟨x, hx, by simpa using z⟩)
            have fin : ∀ (L' : List Int) (B' : List Nm) (T' : Nat) (pl' nm' nu' : Option D), forE (gNm 9) B__law_right_1 [] (src.map D.str) (envR (.lst (used.map usD)) (.lst (steps.map stD)) (nmD honest) li h.length (some (.int (i : Nat))) (some (stD ((k : Int), fq))) (some (.int (0 : Nat))) nm nu) (hpR h L B) =
                .nx (envR (.lst (used.map usD)) (.lst (steps.map stD)) (nmD honest) li h.length (some (.int (i : Nat))) (some (stD ((k : Int), fq))) pl' nm' nu') (hpR h L' B') →
                B__law_right_2 (envR (.lst (used.map usD)) (.lst (steps.map stD)) (nmD honest) li h.length (some (.int (i : Nat))) sp pl nm nu) (hpR h L B) = .nx (envR (.lst (used.map usD)) (.lst (steps.map stD)) (nmD honest) li h.length (some (.int (i : Nat))) (some (stD ((k : Int), fq))) pl' nm' nu') (hpR h L' B') := fun L' B' T' pl' nm' nu' e => by
              have e' : forE (gNm 9) B__law_right_1 [] (src.map D.str) (envR (.lst (used.map usD)) (.lst (steps.map stD)) (nmD honest) li h.length (some (.int (i : Nat))) (some (stD ((k : Int), fq))) (some (.int 0)) nm nu) (hpR h L B) = _ := e
              clear e
              simp only [lsN] at aB
              simp only [usD, nmD] at hus
              generalize hpR h L' B' = H1 at *
              generalize hpR h L B = H0 at *
              generalize nmD honest = ho at *
              generalize used.map usD = uu at *
              generalize steps.map stD = su at *
              generalize L.map D.int = lu at *
              generalize (B.getD i []).map D.str = bb at *
              generalize (B.map lsN) = bu at *
              generalize src.map D.str = sr at *
              simp only [stD] at fs hst e' ⊢
              generalize fq.map D.int = fu at *
              simp [g0, g1, aL, aB, ln, hst, lS, fs, hus, e']
            by_cases l0 : 0 < m.1
            · have on' := on
              unfold okNext at on'
              rw [if_neg (by omega)] at on'
              simp only [Bool.and_eq_true, decide_eq_true_eq, List.all_eq_true] at on'
              obtain ⟨o1, o2⟩ := on'
              obtain ⟨L', B', pl', nm', nu', e, S'⟩ := give_loop hi l0 (honest := honest) (fs := fq) (fun q hq => o2 q hq) (.lst (used.map usD)) (.lst (steps.map stD)) li (k : Int) h src 0 T L B M nm nu S mi em (fun x hx => ⟨os.2 x hx, nb x hx⟩) (by omega) (by omega) (fun z => by
                have : i = 0 := Classical.byContradiction fun y => by have := s5 y; omega
                omega)
              rw [List.drop_zero] at S'
              exact ⟨L', B', _, _, pl', nm', nu', .inl (fin L' B' 0 pl' nm' nu' e), S', by omega⟩
            · have m0 : m.1 = 0 := by omega
              have on' := on
              unfold okNext at on'
              rw [if_pos m0] at on'
              have fz : fq = [] := by simpa using on'
              obtain ⟨nm', e⟩ := skip_loop (L := L) (p := i) (by rw [S.l]; exact hi) (by omega) (honest := honest) (.lst (used.map usD)) (.lst (steps.map stD)) li (some (stD ((k : Int), fq))) (some (.int (0 : Nat))) nu B h src nm
              refine ⟨L, B, T, _, _, nm', nu, .inl (fin L B 0 _ nm' nu e), ?_, by omega⟩
              subst fz
              rw [List.zip_nil_right]
              exact S
    · simp only [c, if_false]
      exact stepfalse (by unfold stepR; rw [if_neg c])
end Pg
namespace Pg
open PySem PySem.Spec PyProof.Rows L2 Ev Lib
theorem right_run {used : List (Option Nm)} (ou : OkUs used) (lu : used.length ≤ 1000) {honest : Nm} {steps : List Stp} (ls : steps.length ≤ 41) (hf : ∀ s ∈ steps, s.2.length ≤ 1000) (li : D) (h : HP) : ∀ (d i : Nat), i + d = steps.length → ∀ (T : Nat) (L : List Int) (B : List Nm) (M : Marks), Sim steps.length T L B M → MI abcd M → T ≤ 3 * i → ∀ (at_ sp pl nm nu : Option D),
    (runM used honest steps d i M = true ∧ ∃ e' L' B', forE (gNm 6) B__law_right_2 [] ((List.range d).map fun j => D.int ((i + j : Nat))) (envR (.lst (used.map usD)) (.lst (steps.map stD)) (nmD honest) li h.length at_ sp pl nm nu) (hpR h L B) = .nx e' (hpR h L' B')) ∨
    (runM used honest steps d i M = false ∧ ∃ L' B', forE (gNm 6) B__law_right_2 [] ((List.range d).map fun j => D.int ((i + j : Nat))) (envR (.lst (used.map usD)) (.lst (steps.map stD)) (nmD honest) li h.length at_ sp pl nm nu) (hpR h L B) = .rt (.bl false) (hpR h L' B'))
  | 0, i, _, T, L, B, M, S, mi, hT, at_, sp, pl, nm, nu => .inl ⟨rfl, _, L, B, by rw [List.range_zero, List.map_nil]; exact for_nil⟩
  | d + 1, i, hd, T, L, B, M, S, mi, hT, at_, sp, pl, nm, nu => by
    have hi : i < steps.length := by omega
    have eg : steps.getD i (0, []) = steps[i] := by rw [List.getD_eq_getElem?_getD, List.getElem?_eq_getElem hi]; rfl
    have er : (List.range (d + 1)).map (fun j => D.int ((i + j : Nat))) = D.int (i : Nat) :: (List.range d).map fun j => D.int ((i + 1 + j : Nat)) := by
      rw [range_succ_map]
      congr 1
      exact List.map_congr_left fun j _ => by rw [show i + (j + 1) = i + 1 + j by omega]
    have t := right_turn ou lu (honest := honest) ls hi (hf _ (List.getElem_mem hi)) S mi hT li sp pl nm nu h
    have mt := fun M' => MI.turn (U := abcd) (honest := honest) (count := steps.length) (i := i) (s := steps[i]) (fun ns hn => ⟨by have := (ou ns hn).1; omega, (ou ns hn).2⟩) (M := M) (M' := M') mi
    rw [er]
    simp only [runM, eg]
    cases et : turnM used honest steps.length i steps[i] M with
    | none =>
      rw [et] at t
      exact .inr ⟨rfl, L, B, for_rt (e := envR (.lst (used.map usD)) (.lst (steps.map stD)) (nmD honest) li h.length (some (.int (i : Nat))) sp pl nm nu) rfl t⟩
    | some M' =>
      rw [et] at t
      obtain ⟨L', B', T', sp', pl', nm', nu', t, S', hT'⟩ := t
      have ih := right_run (honest := honest) ou lu ls hf li h d (i + 1) (by omega) T' L' B' M' S' (mt M' et) hT' (some (.int (i : Nat))) sp' pl' nm' nu'
      have go : forE (gNm 6) B__law_right_2 [] (D.int (i : Nat) :: (List.range d).map fun j => D.int ((i + 1 + j : Nat))) (envR (.lst (used.map usD)) (.lst (steps.map stD)) (nmD honest) li h.length at_ sp pl nm nu) (hpR h L B) =
          forE (gNm 6) B__law_right_2 [] ((List.range d).map fun j => D.int ((i + 1 + j : Nat))) (envR (.lst (used.map usD)) (.lst (steps.map stD)) (nmD honest) li h.length (some (.int (i : Nat))) sp' pl' nm' nu') (hpR h L' B') := by
        rcases t with t | t
        · exact for_nx (e := envR (.lst (used.map usD)) (.lst (steps.map stD)) (nmD honest) li h.length (some (.int (i : Nat))) sp pl nm nu) rfl t
        · exact for_ct (e := envR (.lst (used.map usD)) (.lst (steps.map stD)) (nmD honest) li h.length (some (.int (i : Nat))) sp pl nm nu) rfl t
      rw [go]
      exact ih
theorem map_c {α : Type} (d : D) : ∀ xs : List α, xs.map (fun _ => d) = List.replicate xs.length d
  | [] => rfl
  | x :: xs => by rw [List.map_cons, map_c d xs]; rfl
theorem F_right {used : List (Option Nm)} (ou : OkUs used) (lu : used.length ≤ 1000) (honest : Nm) {steps : List Stp} (ls : steps.length ≤ 41) (hf : ∀ s ∈ steps, s.2.length ≤ 1000) {liars : Int} (l0 : 0 ≤ liars) (h : HP) :
    F__law_right [.lst (used.map usD), .lst (steps.map stD), nmD honest, .int liars] h = .ok (.bl (blamesM used honest steps liars)) h := by
  have pb : ∀ b x, pure_ h (.bl b) (h ++ x) = .ok (.bl b) h := fun b x => pure_cleanJ h x (clean_bl b)
  have lS : (steps.map stD).length = steps.length := by simp
  have c1 : ∀ e5, C__law_right_1 true [some (.lst (used.map usD)), some (.lst (steps.map stD)), some (nmD honest), some (.int liars), none, e5, none, none, none, none, none] h = _ := fun e5 =>
    mLc_tyL (h1 := h) (gd := []) steps stD (fun _ => D.int (-1)) (by simp) (fun x => by simp [Gd]) (by omega) (fun s hs y => ⟨_, rfl, by simp⟩)
  have c2 : ∀ o : O, C__law_right_2 true [some (.lst (used.map usD)), some (.lst (steps.map stD)), some (nmD honest), some (.int liars), some (.ref h.length), none, none, none, none, none, none] (h ++ [o]) = _ := fun o =>
    mLc_tyL (h1 := h ++ [o]) (gd := []) steps stD (fun _ => lsN []) (by simp) (fun x => by simp [Gd]) (by omega) (fun s hs y => ⟨_, rfl, by simp [lsN, sizeLine_eq]⟩)
  have eL : steps.map (fun _ => D.int (-1)) = (List.replicate steps.length (-1 : Int)).map D.int := by rw [map_c, List.map_replicate]
  have eB : steps.map (fun _ => lsN []) = (List.replicate steps.length ([] : Nm)).map lsN := by rw [map_c, List.map_replicate]
  rw [eL] at c1
  rw [eB] at c2
  have c2' : C__law_right_2 true [some (.lst (used.map usD)), some (.lst (steps.map stD)), some (nmD honest), some (.int liars), some (.ref h.length), none, none, none, none, none, none] (h ++ [.lst ((List.replicate steps.length (-1 : Int)).map D.int)]) = .ok (.ref (h.length + 1)) (hpR h (List.replicate steps.length (-1)) (List.replicate steps.length [])) := by
    rw [c2]
    simp [hpR]
  clear c2 eL eB
  unfold blamesM
  by_cases z : steps.length = 0
  · rw [if_pos z]
    have pb' : pure_ h (.bl false) (hpR h (List.replicate steps.length (-1)) (List.replicate steps.length [])) = .ok (.bl false) h := pb false _
    generalize hpR h (List.replicate steps.length (-1)) (List.replicate steps.length []) = H0 at *
    generalize (List.replicate steps.length (-1 : Int)).map D.int = lm at *
    generalize used.map usD = uu at *
    generalize nmD honest = ho at *
    generalize steps.map stD = su at *
    simp [F__law_right, c1, c2', lS, z, sh_int, eqvI, pb', -List.length_eq_zero_iff]
  · rw [if_neg z]
    have z2 : ¬ ((steps.length : Int) = 0) := by omega
    have rg : Rg (steps.length : Int) := rg_nat (by omega)
    have g0 := hpR_0 h (List.replicate steps.length (-1 : Int)) (List.replicate steps.length [])
    have w0 := set_0 h (List.replicate steps.length (-1 : Int)) ((List.replicate steps.length (-1 : Int)).set 0 liars) (List.replicate steps.length [])
    rw [List.map_set] at w0
    have ix : ixN ((List.replicate steps.length (-1 : Int)).map D.int).length (0 : Int) = some 0 := by
      have := ixN_nat (n := ((List.replicate steps.length (-1 : Int)).map D.int).length) (i := 0) (by simp; omega)
      exact this
    have S0 : Sim steps.length 0 ((List.replicate steps.length (-1 : Int)).set 0 liars) (List.replicate steps.length []) (M0 liars) := ⟨by simp, by simp, fun j hj => by
      have eb : (List.replicate steps.length ([] : Nm)).getD j [] = [] := by rw [List.getD_eq_getElem?_getD, List.getElem?_replicate, if_pos hj]; rfl
      rw [eb]
      by_cases c : j = 0
      · subst c
        have e1 : ((List.replicate steps.length (-1 : Int)).set 0 liars).getD 0 0 = liars := by rw [List.getD_eq_getElem?_getD, List.getElem?_set_self (by simpa using hj)]; rfl
        rw [e1]
        show SimAt 0 0 liars [] (some (liars, []))
        exact ⟨rfl, l0, by simp, Nat.zero_le _, fun y => absurd rfl y⟩
      · have e1 : ((List.replicate steps.length (-1 : Int)).set 0 liars).getD j 0 = -1 := by rw [List.getD_eq_getElem?_getD, List.getElem?_set_ne (fun y => c y.symm), List.getElem?_replicate, if_pos hj]; rfl
        rw [e1]
        have : M0 liars (j : Nat) = none := by unfold M0; rw [if_neg (by omega)]
        rw [this]
        exact ⟨rfl, rfl⟩⟩
    have mi : MI abcd (M0 liars) := fun j m e => by
      unfold M0 at e
      split at e
      · cases e; exact Told.nil
      · cases e
    have er : rngD 0 steps.length = (List.range steps.length).map fun j => D.int ((0 + j : Nat)) := by
      unfold rngD
      exact List.map_congr_left fun j _ => by push_cast; rfl
    rcases right_run (honest := honest) ou lu ls hf (.int liars) h steps.length 0 (by omega) 0 _ _ _ S0 mi (by omega) none none none none none with ⟨r, e', L', B', e⟩ | ⟨r, L', B', e⟩
    · rw [r]
      rw [← er] at e
      have pb' : pure_ h (.bl true) (hpR h L' B') = .ok (.bl true) h := pb true _
      generalize hpR h L' B' = H2 at *
      generalize hpR h ((List.replicate steps.length (-1 : Int)).set 0 liars) (List.replicate steps.length []) = H1 at *
      generalize hpR h (List.replicate steps.length (-1)) (List.replicate steps.length []) = H0 at *
      generalize (List.replicate steps.length (-1 : Int)).map D.int = lm at *
      generalize used.map usD = uu at *
      generalize nmD honest = ho at *
      generalize steps.map stD = su at *
      simp [F__law_right, c1, c2', lS, z, z2, sh_int, eqvI, g0, ix, w0, rg, e, pb', -List.length_eq_zero_iff]
    · rw [r]
      rw [← er] at e
      have pb' : pure_ h (.bl false) (hpR h L' B') = .ok (.bl false) h := pb false _
      generalize hpR h L' B' = H2 at *
      generalize hpR h ((List.replicate steps.length (-1 : Int)).set 0 liars) (List.replicate steps.length []) = H1 at *
      generalize hpR h (List.replicate steps.length (-1)) (List.replicate steps.length []) = H0 at *
      generalize (List.replicate steps.length (-1 : Int)).map D.int = lm at *
      generalize used.map usD = uu at *
      generalize nmD honest = ho at *
      generalize steps.map stD = su at *
      simp [F__law_right, c1, c2', lS, z, z2, sh_int, eqvI, g0, ix, w0, rg, e, pb', -List.length_eq_zero_iff]
def gL : Nat → Nat
  | 0 => 1
  | l + 1 => 1 + 3 * gL l
theorem mkT_len2 {used : List (Option Nm)} (h3 : ∀ ns, some ns ∈ used → ns.length ≤ 3) {honest : Nm} : ∀ (l : Nat) (path : Nm) (st0 : Nat) (S : List Stp), mkT used honest l path st0 = some S → S.length ≤ gL l := by
  intro l
  induction l with
  | zero =>
    intro path st0 S h
    unfold mkT at h
    split at h
    · cases h
    · simp only [Option.some.injEq] at h
      subst h
      simp [gL]
  | succ l ih =>
    intro path st0 S h
    unfold mkT at h
    split at h
    · cases h
    · rename_i k src ef
      simp only at h
      split at h
      · cases h
      · rename_i ns S' eF
        simp only [Option.some.injEq] at h
        subst h
        obtain ⟨j, e1, e2, e3⟩ := firstT_ok used 0 ef
        have ls : (susOf honest src).length ≤ 3 := Nat.le_trans (List.length_filter_le _ _) (h3 src (List.mem_of_getElem? e2))
        obtain ⟨f1, f2⟩ := forest_len (B := gL l) (fun p s S1 e => ih p s S1 e) _ _ _ _ eF
        have m3 : (susOf honest src).length * gL l ≤ 3 * gL l := Nat.mul_le_mul_right _ ls
        simp only [List.length_cons, gL]
        omega
end Pg
namespace Pg
open PySem PySem.Spec PyProof.Rows L2 Ev Lib
theorem F_honest2 (c : Int) (h : HP) : ∃ hs : Nm, F__law_honest [.int c] h = .ok (nmD hs) h ∧ ∀ x ∈ hs, x ∈ abcd := by
  rcases (show c % 5 = 0 ∨ c % 5 = 1 ∨ c % 5 = 2 ∨ c % 5 = 3 ∨ c % 5 = 4 by omega) with q | q | q | q | q
  · exact ⟨[], by have p := pure_clean h (clean_nm []); unfold nmD at *; simp at p; simp [Lib.F__law_honest, lg, q, atI, ixN, p], by simp⟩
  · exact ⟨[], by have p := pure_clean h (clean_nm []); unfold nmD at *; simp at p; simp [Lib.F__law_honest, lg, q, atI, ixN, p], by simp⟩
  · exact ⟨["a"], by have p := pure_clean h (clean_nm ["a"]); unfold nmD at *; simp at p; simp [Lib.F__law_honest, lg, q, atI, ixN, p], by simp [abcd]⟩
  · exact ⟨["b", "d"], by have p := pure_clean h (clean_nm ["b", "d"]); unfold nmD at *; simp at p; simp [Lib.F__law_honest, lg, q, atI, ixN, p], by simp [abcd]⟩
  · exact ⟨["c"], by have p := pure_clean h (clean_nm ["c"]); unfold nmD at *; simp at p; simp [Lib.F__law_honest, lg, q, atI, ixN, p], by simp [abcd]⟩
theorem shs_abcd : ∀ x ∈ abcd, SeqAt.shaped (.str x) = true := by
  intro x hx
  simp only [abcd, List.mem_cons, List.not_mem_nil, or_false] at hx
  rcases hx with rfl | rfl | rfl | rfl <;> decide +kernel
theorem Shp.nm {ns : Nm} (h : ∀ x ∈ ns, x ∈ abcd) : Shp 1 (.tuple (ns.map PyData.str)) := Shp.tup fun p hp => by
  obtain ⟨x, hx, rfl⟩ := List.mem_map.mp hp
  have := shs_abcd x (h x hx)
  unfold SeqAt.shaped at this
  rw [Bool.and_eq_true] at this
  exact ⟨this.1, by simp [PyData.depth]⟩
def usP : Option Nm → PyData
  | none => .none
  | some ns => .tuple (ns.map PyData.str)
theorem used_py {us : List (Option Nm)} (o : OkUs us) : toPs (us.map usD) = some (us.map usP) ∧ SeqAt.shaped (.list (us.map usP)) = true ∧ PyData.eqv (.list (us.map usP)) (.list (us.map usP)) = true := by
  have s : ∀ p ∈ us.map usP, Shp 1 p := fun p hp => by
    obtain ⟨q, hq, rfl⟩ := List.mem_map.mp hp
    cases q with
    | none => exact Shp.none 1
    | some ns => exact Shp.nm (o ns hq).2
  refine ⟨toPs_map _ _ us fun q _ => ?_, (Shp.list s).ok (by omega), (Shp.list s).self⟩
  cases q with
  | none => rfl
  | some ns =>
    have := toPs_map D.str PyData.str ns fun x _ => rfl
    simp [usD, nmD, usP, this]
abbrev env24 (sc f mn us ho li mk rw : D) (x8 x9 x10 : Option D) : EN := [some sc, some f, some mn, some us, some ho, some li, some mk, some rw, x8, x9, x10]
def rowD (S : List Stp) : D := .lst (S.map stD)
def OkR (S : List Stp) : Prop := S.length ≤ 41 ∧ OkSt 900 S
section
variable {used : List (Option Nm)} (hu : OkUs used) (lu : used.length ≤ 100) (honest : Nm) {l : Nat}
include hu lu
theorem both_at {S : List Stp} (o : OkR S) (h : HP) : F_blames_right [.lst (used.map usD), .tup (S.map stD), nmD honest, .int (l : Nat)] h = .ok (.bl (blamesM used honest S ((l : Nat) : Int))) h ∧
    F__law_right [.lst (used.map usD), .lst (S.map stD), nmD honest, .int (l : Nat)] h = .ok (.bl (blamesM used honest S ((l : Nat) : Int))) h :=
  ⟨F_blames (U := abcd) (by simp [abcd]) (fun ns hn => ⟨by have := (hu ns hn).1; omega, (hu ns hn).2⟩) (by omega) honest (by have := o.1; omega) (fun s hs => by have := o.2 s hs; omega) ((l : Nat) : Int) h,
   F_right hu (by omega) honest o.1 (fun s hs => by have := o.2 s hs; omega) (by omega) h⟩
theorem row_turn24 {S : List Stp} (o : OkR S) (sc f mn mk rw : D) (x9 x10 : Option D) (h : HP) : ∃ y9 y10, B_law_1 (env24 sc f mn (.lst (used.map usD)) (nmD honest) (.int (l : Nat)) mk rw (some (rowD S)) x9 x10) h =
    .nx (env24 sc f mn (.lst (used.map usD)) (nmD honest) (.int (l : Nat)) mk rw (some (rowD S)) y9 y10) h := by
  obtain ⟨f1, f2⟩ := both_at hu lu honest (l := l) o h
  have lz : (S.map stD).length ≤ 16000000 := by have := o.1; simp; omega
  have lzu : (used.map usD).length ≤ 16000000 := by simp; omega
  obtain ⟨t1, t2, t3⟩ := used_py hu
  have ft := F_truth
  refine ⟨some (.lst (used.map usD)), some (.bl (blamesM used honest S ((l : Nat) : Int))), ?_⟩
  unfold rowD
  generalize blamesM used honest S ((l : Nat) : Int) = b at *
  generalize used.map usD = uu at *
  generalize used.map usP = up at *
  generalize nmD honest = q at *
  generalize S.map stD = ss at *
  cases b <;> simp [lz, lzu, f1, f2, ft, t1, t2, t3]
theorem T2_24 (hh : ∀ x ∈ honest, x ∈ abcd) {R : List (List Stp)} {S : List Stp} (o : OkR S) (sc f mn mk : D) (last : atI (R.map rowD) (-1) = some (rowD S)) (x8 x9 x10 : Option D) :
    T_law_2 (env24 sc f mn (.lst (used.map usD)) (nmD honest) (.int (l : Nat)) mk (.ref 0) x8 x9 x10) [.lst (R.map rowD)] = .rt (.bl true) [.lst (R.map rowD)] := by
  have ft := F_truth
  have sh := (Shp.nm hh).ok (by omega)
  have s0 : SeqAt.shaped (.tuple []) = true := (Shp.tup (n := 1) (ps := []) (by simp)).ok (by omega)
  have tp := toPs_map D.str PyData.str honest fun x _ => rfl
  have et : PyData.eqv (.tuple (honest.map PyData.str)) (.tuple []) = decide (honest = []) := by
    cases honest with
    | nil => simp [PyData.eqv, PyData.eqvAll]
    | cons x xs => simp [PyData.eqv, PyData.eqvAll]
  have lz : (S.map stD).length ≤ 16000000 := by have := o.1; simp; omega
  have gd : ([O.lst (R.map rowD)])[0]? = some (.lst (R.map rowD)) := rfl
  by_cases z : honest = []
  · subst z
    obtain ⟨f1, f2⟩ := both_at hu lu ([] : Nm) (l := l) o [.lst (R.map rowD)]
    simp only [rowD] at last
    simp only [nmD, List.map_nil] at f1 f2 ⊢
    generalize blamesM used [] S ((l : Nat) : Int) = b at *
    generalize used.map usD = uu at *
    generalize S.map stD = ss at *
    generalize R.map rowD = rr at *
    have e0 : PyData.eqvAll [] [] = true := by simp [PyData.eqvAll]
    have e1 : PyData.eqv (.tuple []) (.tuple []) = true := by simp [PyData.eqv, PyData.eqvAll]
    cases b <;> simp [T_law_2, s0, e0, e1, last, lz, f1, f2, ft]
  · simp only [z, decide_false] at et
    unfold nmD
    generalize used.map usD = uu at *
    generalize honest.map PyData.str = hp at *
    generalize honest.map D.str = hd at *
    generalize R.map rowD = rr at *
    simp [T_law_2, tp, sh, s0, et]
theorem rows_24 {R : List (List Stp)} (o : ∀ S ∈ R, OkR S) (sc f mn mk : D) : ∃ y8 y9 y10, forE (gNm 8) B_law_1 [(0, R.map rowD)] (R.map rowD) (env24 sc f mn (.lst (used.map usD)) (nmD honest) (.int (l : Nat)) mk (.ref 0) none none none) [.lst (R.map rowD)] =
    .nx (env24 sc f mn (.lst (used.map usD)) (nmD honest) (.int (l : Nat)) mk (.ref 0) y8 y9 y10) [.lst (R.map rowD)] := by
  obtain ⟨_, _, e1, ⟨y8, y9, y10, rfl⟩, rfl⟩ := for_ty (asg := gNm 8) (body := B_law_1) (gd := [(0, R.map rowD)])
    (fun i env h => (∃ y8 y9 y10, env = env24 sc f mn (.lst (used.map usD)) (nmD honest) (.int (l : Nat)) mk (.ref 0) y8 y9 y10) ∧ h = [.lst (R.map rowD)]) R rowD (fun i env h hI => by
      obtain ⟨_, rfl⟩ := hI
      intro p hp
      rw [List.mem_singleton.mp hp]
      rfl)
    (fun i env h hi hI => by
      obtain ⟨⟨y8, y9, y10, rfl⟩, rfl⟩ := hI
      obtain ⟨z9, z10, e⟩ := row_turn24 hu lu honest (l := l) (o _ (List.getElem_mem hi)) sc f mn mk (.ref 0) y9 y10 [.lst (R.map rowD)]
      exact ⟨_, rfl, _, _, .inl e, ⟨_, _, _, rfl⟩, rfl⟩)
    (env := env24 sc f mn (.lst (used.map usD)) (nmD honest) (.int (l : Nat)) mk (.ref 0) none none none) (h := [.lst (R.map rowD)]) ⟨⟨none, none, none, rfl⟩, rfl⟩
  exact ⟨y8, y9, y10, e1⟩
end
theorem law_true (ns : List Int) (hl : ns.length ≤ 63) (hb : ∀ z ∈ ns, Builtin.Int.intBits z ≤ 1048576) : F_law [.klst (ns.map D.int)] [] = .ok (.bl true) [] := by
  have hn : Okn ns := ⟨hl, fun z hz => bits_sz (hb z hz)⟩
  have pe : ∀ x, pure_ [] (.bl true) x = .ok (.bl true) [] := fun x => pure_cleanJ [] x (clean_bl true)
  have n0 : Lib.F__law_number [Sc ns, .int 0] [] = .ok (.int (num ns 0)) [] := F_number hn (k := 0) (by omega) []
  have n13 : ∀ h, Lib.F__law_number [Sc ns, .int 13] h = .ok (.int (num ns 13)) h := fun h => F_number hn (k := 13) (by omega) h
  have n14 : ∀ h, Lib.F__law_number [Sc ns, .int 14] h = .ok (.int (num ns 14)) h := fun h => F_number hn (k := 14) (by omega) h
  generalize num ns 0 = c at *
  generalize num ns 13 = c13 at *
  generalize num ns 14 = c14 at *
  obtain ⟨many, em, hm⟩ : ∃ many : Nat, c % 6 = (many : Nat) ∧ many ≤ 5 := ⟨(c % 6).toNat, by omega, by omega⟩
  obtain ⟨l, el, hl3⟩ : ∃ l : Nat, c / 30 % 4 = (l : Nat) ∧ l ≤ 3 := ⟨(c / 30 % 4).toNat, by omega, by omega⟩
  obtain ⟨used, fu, lu, ou⟩ := F_used hn (k := 1) (many := many) (by omega) (by omega) []
  obtain ⟨honest, fh, oh⟩ := F_honest2 (c / 6) []
  have fu' : F__law_used [Sc ns, .int 1, .int (many : Nat)] [] = .ok (.lst (used.map usD)) [] := fu
  clear fu
  have h3 : ∀ q, some q ∈ used → q.length ≤ 3 := fun q hq => (ou q hq).1
  have fm := F_make (used := used) (by omega) h3 honest l 5 [] 0 [] (by omega) (by simp; omega) (by omega)
  have fm' : F__law_make [.lst (used.map usD), nmD honest, .lst [], .int (l : Nat), .int 0] [] = .ok (mkD (mkT used honest l [] 0)) [] := fm
  clear fm
  obtain ⟨S0, fd, lS0, oS0⟩ := F_drawn hn (k := 7) (many := many) (by omega) (by omega) []
  have fd' : F__law_drawn [Sc ns, .int 7, .int (many : Nat)] [] = .ok (.lst (S0.map stD)) [] := fd
  clear fd
  have o0 : OkR S0 := ⟨by omega, fun s hs => by have := oS0 s hs; omega⟩
  have oE : OkR [] := ⟨by simp, by simp [OkSt]⟩
  have lu' : used.length ≤ 100 := by omega
  rw [F_law_eq]
  have hh : ∃ h', (H_law_0 T_law_1) [some (Sc ns), none, none, none, none, none, none, none, none, none, none] [] = .rt (.bl true) h' := by
    rw [T_law_1_eq]
    cases emk : mkT used honest l [] 0 with
    | none =>
      rw [emk] at fm'
      obtain ⟨y8, y9, y10, e⟩ := rows_24 ou lu' honest (l := l) (R := [S0, []]) (fun S hS => by
        simp only [List.mem_cons, List.not_mem_nil, or_false] at hS
        rcases hS with rfl | rfl
        · exact o0
        · exact oE) (Sc ns) (.int c) (.int (many : Nat)) .non
      have T2 := T2_24 ou lu' honest (l := l) oh (R := [S0, []]) oE (Sc ns) (.int c) (.int (many : Nat)) .non (by simp [atI, ixN]) y8 y9 y10
      refine ⟨[.lst ([S0, []].map rowD)], ?_⟩
      have er : [S0, []].map rowD = [.lst (S0.map stD), .lst []] := rfl
      rw [er] at T2 e ⊢
      simp only [mkD] at fm'
      generalize T_law_2 = T2' at *
      generalize Sc ns = sc at *
      generalize used.map usD = uu at *
      generalize nmD honest = ho at *
      generalize S0.map stD = s0 at *
      refine (seq_nx (e' := [some sc, some (.int c), none, none, none, none, none, none, none, none, none]) (h' := []) (by simp [n0])).trans ?_
      refine (seq_nx (e' := [some sc, some (.int c), some (.int (many : Nat)), none, none, none, none, none, none, none, none]) (h' := []) (by simp [lg, em])).trans ?_
      refine (seq_nx (e' := [some sc, some (.int c), some (.int (many : Nat)), some (.lst uu), none, none, none, none, none, none, none]) (h' := []) (by simp [fu'])).trans ?_
      refine (seq_nx (e' := [some sc, some (.int c), some (.int (many : Nat)), some (.lst uu), some ho, none, none, none, none, none, none]) (h' := []) (by simp [lg, fh])).trans ?_
      refine (seq_nx (e' := [some sc, some (.int c), some (.int (many : Nat)), some (.lst uu), some ho, some (.int (l : Nat)), none, none, none, none, none]) (h' := []) (by simp [lg, el])).trans ?_
      refine (seq_nx (e' := [some sc, some (.int c), some (.int (many : Nat)), some (.lst uu), some ho, some (.int (l : Nat)), some .non, none, none, none, none]) (h' := []) (by simp [fm'])).trans ?_
      refine (seq_nx (e' := env24 sc (.int c) (.int (many : Nat)) (.lst uu) ho (.int (l : Nat)) .non (.ref 0) none none none) (h' := [.lst [.lst s0, .lst []]]) (by simp [fd', sizeLine_eq])).trans ?_
      refine (seq_nx (e' := env24 sc (.int c) (.int (many : Nat)) (.lst uu) ho (.int (l : Nat)) .non (.ref 0) none none none) (h' := [.lst [.lst s0, .lst []]]) (by simp)).trans ?_
      refine (seq_nx (e' := env24 sc (.int c) (.int (many : Nat)) (.lst uu) ho (.int (l : Nat)) .non (.ref 0) y8 y9 y10) (h' := [.lst [.lst s0, .lst []]]) (by simp [e])).trans ?_
      exact T2
    | some S =>
      rw [emk] at fm'
      have ml := mkT_len h3 l [] 0 S emk
      have lS : S.length ≤ 40 := Nat.le_trans (mkT_len2 h3 l [] 0 S emk) (by
        rcases (show l = 0 ∨ l = 1 ∨ l = 2 ∨ l = 3 by omega) with rfl | rfl | rfl | rfl <;> decide)
      have oS : OkSt 3 S := ml.2
      have oR : OkR S := ⟨by omega, fun s hs => by have := oS s hs; omega⟩
      obtain ⟨S1, f1, l1, o1⟩ := F_spoilt (m := 3) (by omega) oS (by omega) c13 many (by omega) [.lst [rowD S0, rowD [], rowD S]]
      obtain ⟨S2, f2, l2, o2⟩ := F_spoilt (m := 3) (by omega) oS (by omega) c14 many (by omega) [.lst [rowD S0, rowD [], rowD S, rowD S1]]
      have oR1 : OkR S1 := ⟨by omega, fun s hs => by have := o1 s hs; omega⟩
      have oR2 : OkR (S2 ++ [(9, [0, 0])]) := ⟨by simp; omega, fun s hs => by
        rcases List.mem_append.mp hs with hs | hs
        · have := o2 s hs; omega
        · rw [List.mem_singleton.mp hs]; simp⟩
      obtain ⟨y8, y9, y10, e⟩ := rows_24 ou lu' honest (l := l) (R := [S0, [], S, S1, S2 ++ [(9, [0, 0])]]) (fun Q hQ => by
        simp only [List.mem_cons, List.not_mem_nil, or_false] at hQ
        rcases hQ with rfl | rfl | rfl | rfl | rfl
        · exact o0
        · exact oE
        · exact oR
        · exact oR1
        · exact oR2) (Sc ns) (.int c) (.int (many : Nat)) (.lst (S.map stD))
      have T2 := T2_24 ou lu' honest (l := l) oh (R := [S0, [], S, S1, S2 ++ [(9, [0, 0])]]) oR2 (Sc ns) (.int c) (.int (many : Nat)) (.lst (S.map stD)) (by simp [atI, ixN]) y8 y9 y10
      refine ⟨[.lst ([S0, [], S, S1, S2 ++ [(9, [0, 0])]].map rowD)], ?_⟩
      have er : [S0, [], S, S1, S2 ++ [(9, [0, 0])]].map rowD = [.lst (S0.map stD), .lst [], .lst (S.map stD), .lst (S1.map stD), .lst (S2.map stD ++ [.tup [.int 9, .tup [.int 0, .int 0]]])] := by
        simp [rowD, stD]
      have er1 : ∀ Q, rowD Q = .lst (Q.map stD) := fun _ => rfl
      rw [er] at T2 e ⊢
      simp only [mkD, er1, List.map_nil] at fm' f1 f2
      have l5 : (S2.map stD).length + 1 ≤ sizeLine := by rw [sizeLine_eq]; simp; omega
      have ap1 := fun y => appL_last (y := y) (ds := [D.lst (S0.map stD), .lst []]) [] (by rw [sizeLine_eq]; simp)
      have ap2 := fun y => appL_last (y := y) (ds := [D.lst (S0.map stD), .lst [], .lst (S.map stD)]) [] (by rw [sizeLine_eq]; simp)
      have ap3 := fun y => appL_last (y := y) (ds := [D.lst (S0.map stD), .lst [], .lst (S.map stD), .lst (S1.map stD)]) [] (by rw [sizeLine_eq]; simp)
      simp only [List.length_nil, List.nil_append, List.cons_append] at ap1 ap2 ap3
      generalize T_law_2 = T2' at *
      generalize Sc ns = sc at *
      generalize used.map usD = uu at *
      generalize nmD honest = ho at *
      generalize S0.map stD = s0 at *
      generalize S1.map stD = s1 at *
      generalize S2.map stD = s2 at *
      generalize S.map stD = sm at *
      refine (seq_nx (e' := [some sc, some (.int c), none, none, none, none, none, none, none, none, none]) (h' := []) (by simp [n0])).trans ?_
      refine (seq_nx (e' := [some sc, some (.int c), some (.int (many : Nat)), none, none, none, none, none, none, none, none]) (h' := []) (by simp [lg, em])).trans ?_
      refine (seq_nx (e' := [some sc, some (.int c), some (.int (many : Nat)), some (.lst uu), none, none, none, none, none, none, none]) (h' := []) (by simp [fu'])).trans ?_
      refine (seq_nx (e' := [some sc, some (.int c), some (.int (many : Nat)), some (.lst uu), some ho, none, none, none, none, none, none]) (h' := []) (by simp [lg, fh])).trans ?_
      refine (seq_nx (e' := [some sc, some (.int c), some (.int (many : Nat)), some (.lst uu), some ho, some (.int (l : Nat)), none, none, none, none, none]) (h' := []) (by simp [lg, el])).trans ?_
      refine (seq_nx (e' := [some sc, some (.int c), some (.int (many : Nat)), some (.lst uu), some ho, some (.int (l : Nat)), some (.lst sm), none, none, none, none]) (h' := []) (by simp [fm'])).trans ?_
      refine (seq_nx (e' := env24 sc (.int c) (.int (many : Nat)) (.lst uu) ho (.int (l : Nat)) (.lst sm) (.ref 0) none none none) (h' := [.lst [.lst s0, .lst []]]) (by simp [fd', sizeLine_eq])).trans ?_
      refine (seq_nx (e' := env24 sc (.int c) (.int (many : Nat)) (.lst uu) ho (.int (l : Nat)) (.lst sm) (.ref 0) none none none) (h' := [.lst [.lst s0, .lst [], .lst sm, .lst s1, .lst (s2 ++ [.tup [.int 9, .tup [.int 0, .int 0]]])]]) (by simp [n13, n14, f1, f2, ap1, ap2, ap3, l5])).trans ?_
      refine (seq_nx (e' := env24 sc (.int c) (.int (many : Nat)) (.lst uu) ho (.int (l : Nat)) (.lst sm) (.ref 0) y8 y9 y10) (h' := [.lst [.lst s0, .lst [], .lst sm, .lst s1, .lst (s2 ++ [.tup [.int 9, .tup [.int 0, .int 0]]])]]) (by simp [e])).trans ?_
      exact T2
  obtain ⟨h', hh⟩ := hh
  show kFnP [] ((H_law_0 T_law_1) [some (.klst (ns.map D.int)), none, none, none, none, none, none, none, none, none, none] []) = _
  unfold Sc at hh
  rw [hh]
  exact pe _
end Pg
open PySem PySem.W PyProof.Rows
set_option maxHeartbeats 0 in
theorem PySem.Challenge.cw_sureplace_k24_steps_of_blame_holds : PySem.Challenge.rw_sureplace_k24_steps_of_blame.Holds := by
  w_on; o_law; k_head; (case hw => w_witness2)
  k_fill
  refine L2.walk_ofB (l := PySem.Challenge.rw_sureplace_k24_steps_of_blame) (n := 63) (k := 6) (x := "script") (CX := fun _ => L2.CX0) (sp := fun w => Ev.spF (Pg.gg _) 1 Pg.F_law) rfl (by decide) rfl ⟨rfl, by decide, by decide⟩ (fun w h Y => PySem.W.kIn_of Y) ?F (fun _ H a ns hl hb _ hS => Ev.law_sp (Pg.law_true ns hl hb) hS) (fun _ _ _ _ _ h => h)
  case F =>
    intro w mg fa h KX G hmg
    refine' Pg.all_mk KX G hmg ?a__law_number ?l__law_number ?c__law_number ?k__law_number ?a__law_used ?l__law_used ?c__law_used ?k__law_used ?a__law_honest ?l__law_honest ?c__law_honest ?k__law_honest ?a__law_make ?l__law_make ?c__law_make ?k__law_make ?a__law_drawn ?l__law_drawn ?c__law_drawn ?k__law_drawn ?a__law_spoilt ?l__law_spoilt ?c__law_spoilt ?k__law_spoilt ?a__law_step_right ?l__law_step_right ?c__law_step_right ?k__law_step_right ?a__law_right ?l__law_right ?c__law_right ?k__law_right ?a__law_truth ?l__law_truth ?c__law_truth ?k__law_truth ?a__next_steps_right ?l__next_steps_right ?c__next_steps_right ?k__next_steps_right ?a__lead ?l__lead ?c__lead ?k__lead ?a_blames_right ?l_blames_right ?d_blames_right_honest ?e_blames_right_honest ?c_blames_right ?k_blames_right ?a_law ?l_law ?c_law ?k_law ?z_all ?z_any ?z_bool ?z_int ?z_isinstance ?z_len ?z_list ?z_max ?z_range ?z_tuple ?z_zip
    (case a__law_number => k_is)
    (case l__law_number => k_is)
    (case c__law_number => k_is)
    (case k__law_number => k_is)
    (case a__law_used => k_is)
    (case l__law_used => k_is)
    (case c__law_used => k_is)
    (case k__law_used => k_is)
    (case a__law_honest => k_is)
    (case l__law_honest => k_is)
    (case c__law_honest => k_is)
    (case k__law_honest => k_is)
    (case a__law_make => k_is)
    (case l__law_make => k_is)
    (case c__law_make => k_is)
    (case k__law_make => k_is)
    (case a__law_drawn => k_is)
    (case l__law_drawn => k_is)
    (case c__law_drawn => k_is)
    (case k__law_drawn => k_is)
    (case a__law_spoilt => k_is)
    (case l__law_spoilt => k_is)
    (case c__law_spoilt => k_is)
    (case k__law_spoilt => k_is)
    (case a__law_step_right => k_is)
    (case l__law_step_right => k_is)
    (case c__law_step_right => k_is)
    (case k__law_step_right => k_is)
    (case a__law_right => k_is)
    (case l__law_right => k_is)
    (case c__law_right => k_is)
    (case k__law_right => k_is)
    (case a__law_truth => k_is)
    (case l__law_truth => k_is)
    (case c__law_truth => k_is)
    (case k__law_truth => k_is)
    (case a__next_steps_right => k_is)
    (case l__next_steps_right => k_is)
    (case c__next_steps_right => k_is)
    (case k__next_steps_right => k_is)
    (case a__lead => k_is)
    (case l__lead => k_is)
    (case c__lead => k_is)
    (case k__lead => k_is)
    (case a_blames_right => k_is)
    (case l_blames_right => k_is)
    (case d_blames_right_honest => k_is)
    (case e_blames_right_honest => k_is)
    (case c_blames_right => k_is)
    (case k_blames_right => k_is)
    (case a_law => k_is)
    (case l_law => k_is)
    (case c_law => k_is)
    (case k_law => k_is)
    (case z_all => k_is)
    (case z_any => k_is)
    (case z_bool => k_is)
    (case z_int => k_is)
    (case z_isinstance => k_is)
    (case z_len => k_is)
    (case z_list => k_is)
    (case z_max => k_is)
    (case z_range => k_is)
    (case z_tuple => k_is)
    (case z_zip => k_is)
