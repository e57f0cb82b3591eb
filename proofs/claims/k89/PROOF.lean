import PyProof.Rows.All
import Wide.All
import OpenK.AllK
import Wide.FinOn
import HandS.ForMost
import HandS.ForExc
import HandS.Zip
import HandS.TupAny
import HandS.EndBits
import HandS.Wide
import HandS.Defaults
import HandS.IsInst
import HandS.ExcInit
import HandS.MakeKw
import HandS.MakeKwOnly
import HandS.Walk
import KE.KMathG
import HandS.Gcd
import HandS.Flt
import HandS.WideBits
import HandS.Deep
import Flt.RightSqrt
import HandS.OwnEq
import HandS.SortKw
import KE.KMinBuiltin
import HandS.Style
import HandS.Dict
import KE.GoesEnum
import HandS.Conv
import HandS.SetFor
import HandS.Strs
import PySem.Challenge.RW_sureplace_k89_boxes_on_chains
set_option Elab.async false
set_option linter.all false
set_option maxRecDepth 100000
namespace Ev
open PySem PySem.Spec PyProof.Rows L2

/-! ### data -/
inductive D where
  | non | bl (b : Bool) | int (i : Int) | str (x : Str)
  | tup (ds : List D) | lst (ds : List D) | klst (ds : List D)
  | dic (ks : List (Key × D)) | set (ks : List Int)
  | ins (c : Nat) (fs : List (Str × D))
  | ref (n : Nat)

/-- live objects -/
inductive O where
  | lst (ds : List D) | dic (ks : List (Key × D)) | ins (c : Nat) (fs : List (Str × D)) | dead

abbrev HP := List O
abbrev EN := List (Option D)
abbrev AM := List (Option Addr)

inductive R (α : Type) where
  | ok (a : α) (h : HP)
  | exc (c : Nat) (fs : List (Str × D)) (h : HP)
  | stuck

@[simp] def R.bind {α β : Type} : R α → (α → HP → R β) → R β
  | .ok a h, f => f a h
  | .exc c fs h, _ => .exc c fs h
  | .stuck, _ => .stuck

/-- what the proof knows of the module: the written part, the classes' addresses -/
structure G where
  K : PySem.W.Frag
  cA : Nat → Addr

def KT (K : PySem.W.Frag) (a : Addr) (xs : List V) : Prop := ∃ (o : Obj) (its : Array Value) (n : Nat), K.lookup a = some o ∧ o.cls = .type "tuple" ∧ o.data = .seq its n ∧ its.size ≤ sizeLine ∧ Vals xs its.toList
def KL (K : PySem.W.Frag) (a : Addr) (xs : List V) : Prop := ∃ (o : Obj) (its : Array Value) (n : Nat), K.lookup a = some o ∧ o.cls = .type "list" ∧ o.dict = none ∧ o.data = .seq its n ∧ its.size ≤ sizeLine ∧ Vals xs its.toList

def FT (K : PySem.W.Frag) (m : AM) (H : Hp) (a : Addr) (xs : List V) : Prop := (Rd H a (.tup xs) ∧ some a ∉ m) ∨ KT K a xs
def FL (K : PySem.W.Frag) (m : AM) (H : Hp) (a : Addr) (xs : List V) : Prop := (Rd H a (.lst xs) ∧ some a ∉ m) ∨ KL K a xs

variable (g : G)
mutual
def rep (m : AM) (H : Hp) : D → V → Prop
  | .non, v => v = .non
  | .bl b, v => v = .bl b
  | .int i, v => v = .int i
  | .str x, v => v = .str x
  | .tup ds, v => ∃ a vs, v = .ref a ∧ FT g.K m H a vs ∧ reps m H ds vs
  | .lst ds, v => ∃ a vs, v = .ref a ∧ H a = some (.lst vs) ∧ some a ∉ m ∧ reps m H ds vs
  | .klst ds, v => ∃ a vs, v = .ref a ∧ FL g.K m H a vs ∧ reps m H ds vs
  | .dic ks, v => ∃ a vs, v = .ref a ∧ H a = some (.dK vs) ∧ some a ∉ m ∧ repk m H ks vs
  | .set ks, v => ∃ a n, v = .ref a ∧ H a = some (.set (fun j => decide (j ∈ ks)) n) ∧ some a ∉ m
  | .ins c fs, v => ∃ a dx vs, v = .ref a ∧ H a = some (.ins (g.cA c) dx vs) ∧ some a ∉ m ∧ repf m H fs vs
  | .ref n, v => n < m.length ∧ ∀ a, m[n]? = some (some a) → v = .ref a
def reps (m : AM) (H : Hp) : List D → List V → Prop
  | [], vs => vs = []
  | d :: ds, vs => ∃ v r, vs = v :: r ∧ rep m H d v ∧ reps m H ds r
def repk (m : AM) (H : Hp) : List (Key × D) → List (Key × V) → Prop
  | [], vs => vs = []
  | (k, d) :: ds, vs => ∃ v r, vs = (k, v) :: r ∧ rep m H d v ∧ repk m H ds r
def repf (m : AM) (H : Hp) : List (Str × D) → List (Str × V) → Prop
  | [], vs => vs = []
  | (k, d) :: ds, vs => ∃ v r, vs = (k, v) :: r ∧ rep m H d v ∧ repf m H ds r
end

/-- the state grows: what is not live stays, live objects stay live at their place or die -/
structure Ex (m : AM) (H : Hp) (m' : AM) (H' : Hp) : Prop where
  le : m.length ≤ m'.length
  mp : ∀ n a, m'[n]? = some (some a) → n < m.length → m[n]? = some (some a)
  fz : ∀ a o, H a = some o → some a ∉ m → H' a = some o ∧ some a ∉ m'

theorem Ex.refl (m : AM) (H : Hp) : Ex m H m H := ⟨Nat.le_refl _, fun _ _ h _ => h, fun _ _ h k => ⟨h, k⟩⟩
theorem Ex.trans {m1 m2 m3 : AM} {H1 H2 H3 : Hp} (x : Ex m1 H1 m2 H2) (y : Ex m2 H2 m3 H3) : Ex m1 H1 m3 H3 :=
  ⟨Nat.le_trans x.le y.le, fun n a h l => x.mp n a (y.mp n a h (Nat.lt_of_lt_of_le l x.le)) l, fun a o h k => let ⟨h1, k1⟩ := x.fz a o h k; y.fz a o h1 k1⟩

variable {g} {m m' : AM} {H H' : Hp}
theorem FT.ext {a : Addr} {xs : List V} (x : Ex m H m' H') (h : FT g.K m H a xs) : FT g.K m' H' a xs := by
  rcases h with ⟨h | ⟨o, h⟩, k⟩ | h
  · obtain ⟨h1, k1⟩ := x.fz _ _ h k
    exact .inl ⟨.inl h1, k1⟩
  · obtain ⟨h1, k1⟩ := x.fz _ _ h k
    exact .inl ⟨.inr ⟨o, h1⟩, k1⟩
  · exact .inr h
theorem FL.ext {a : Addr} {xs : List V} (x : Ex m H m' H') (h : FL g.K m H a xs) : FL g.K m' H' a xs := by
  rcases h with ⟨h | ⟨o, h⟩, k⟩ | h
  · obtain ⟨h1, k1⟩ := x.fz _ _ h k
    exact .inl ⟨.inl h1, k1⟩
  · obtain ⟨h1, k1⟩ := x.fz _ _ h k
    exact .inl ⟨.inr ⟨o, h1⟩, k1⟩
  · exact .inr h

mutual
theorem rep.ext (x : Ex m H m' H') : ∀ (d : D) (v : V), rep g m H d v → rep g m' H' d v
  | .non, v, h => by simpa [rep] using h
  | .bl b, v, h => by simpa [rep] using h
  | .int i, v, h => by simpa [rep] using h
  | .str s, v, h => by simpa [rep] using h
  | .tup ds, v, h => by
    simp only [rep] at h ⊢
    obtain ⟨a, vs, e, f, r⟩ := h
    exact ⟨a, vs, e, f.ext x, reps.ext x ds vs r⟩
  | .lst ds, v, h => by
    simp only [rep] at h ⊢
    obtain ⟨a, vs, e, f, k, r⟩ := h
    obtain ⟨f1, k1⟩ := x.fz _ _ f k
    exact ⟨a, vs, e, f1, k1, reps.ext x ds vs r⟩
  | .klst ds, v, h => by
    simp only [rep] at h ⊢
    obtain ⟨a, vs, e, f, r⟩ := h
    exact ⟨a, vs, e, f.ext x, reps.ext x ds vs r⟩
  | .dic ks, v, h => by
    simp only [rep] at h ⊢
    obtain ⟨a, vs, e, f, k, r⟩ := h
    obtain ⟨f1, k1⟩ := x.fz _ _ f k
    exact ⟨a, vs, e, f1, k1, repk.ext x ks vs r⟩
  | .set ks, v, h => by
    simp only [rep] at h ⊢
    obtain ⟨a, n, e, f, k⟩ := h
    obtain ⟨f1, k1⟩ := x.fz _ _ f k
    exact ⟨a, n, e, f1, k1⟩
  | .ins c fs, v, h => by
    simp only [rep] at h ⊢
    obtain ⟨a, dx, vs, e, f, k, r⟩ := h
    obtain ⟨f1, k1⟩ := x.fz _ _ f k
    exact ⟨a, dx, vs, e, f1, k1, repf.ext x fs vs r⟩
  | .ref n, v, h => by
    simp only [rep] at h ⊢
    exact ⟨Nat.lt_of_lt_of_le h.1 x.le, fun a e => h.2 a (x.mp n a e h.1)⟩
theorem reps.ext (x : Ex m H m' H') : ∀ (ds : List D) (vs : List V), reps g m H ds vs → reps g m' H' ds vs
  | [], vs, h => by simpa [reps] using h
  | d :: ds, vs, h => by
    simp only [reps] at h ⊢
    obtain ⟨v, r, e, h1, h2⟩ := h
    exact ⟨v, r, e, rep.ext x d v h1, reps.ext x ds r h2⟩
theorem repk.ext (x : Ex m H m' H') : ∀ (ds : List (Key × D)) (vs : List (Key × V)), repk g m H ds vs → repk g m' H' ds vs
  | [], vs, h => by simpa [repk] using h
  | (k, d) :: ds, vs, h => by
    simp only [repk] at h ⊢
    obtain ⟨v, r, e, h1, h2⟩ := h
    exact ⟨v, r, e, rep.ext x d v h1, repk.ext x ds r h2⟩
theorem repf.ext (x : Ex m H m' H') : ∀ (ds : List (Str × D)) (vs : List (Str × V)), repf g m H ds vs → repf g m' H' ds vs
  | [], vs, h => by simpa [repf] using h
  | (k, d) :: ds, vs, h => by
    simp only [repf] at h ⊢
    obtain ⟨v, r, e, h1, h2⟩ := h
    exact ⟨v, r, e, rep.ext x d v h1, repf.ext x ds r h2⟩
end

/-- a live object at a -/
def liveO (g : G) (m : AM) (H : Hp) (a : Addr) : O → Prop
  | .lst ds => ∃ vs, H a = some (.lst vs) ∧ reps g m H ds vs
  | .dic ks => ∃ vs, H a = some (.dK vs) ∧ repk g m H ks vs
  | .ins c fs => ∃ dx vs, H a = some (.ins (g.cA c) dx vs) ∧ repf g m H fs vs
  | .dead => False

structure HL (g : G) (m : AM) (H : Hp) (hp : HP) : Prop where
  len : m.length = hp.length
  nd : ∀ (i j : Nat) (a : Addr), m[i]? = some (some a) → m[j]? = some (some a) → i = j
  live : ∀ (i : Nat) (o : O), hp[i]? = some o → (o = .dead ∧ m[i]? = some none) ∨ ∃ a, m[i]? = some (some a) ∧ liveO g m H a o

structure ER (g : G) (m : AM) (H : Hp) (σ : L2.St) (env : EN) : Prop where
  len : σ.length = env.length
  at_ : ∀ (i : Nat) (d : D), env[i]? = some (some d) → ∃ v, σ[i]? = some (some v) ∧ rep g m H d v

theorem ER.ext {σ : L2.St} {env : EN} (x : Ex m H m' H') (h : ER g m H σ env) : ER g m' H' σ env :=
  ⟨h.len, fun i d e => let ⟨v, e1, r⟩ := h.at_ i d e; ⟨v, e1, rep.ext x d v r⟩⟩

/-- what is asked behind an expression -/
def PO {α β : Type} (g : G) (m : AM) (H : Hp) (E : XK) (rp : AM → Hp → α → β → Prop) (Q : β → Hp → Prop) : R α → Prop
  | .ok d hp' => ∀ m' H' v, Ex m H m' H' → HL g m' H' hp' → rp m' H' d v → Q v H'
  | .exc c fs hp' => ∀ m' H' d ws, Ex m H m' H' → HL g m' H' hp' → H' d = some (.xd ws) → some d ∉ m' → repf g m' H' fs ws → E (.ref (g.cA c)) (some d) H'
  | .stuck => False

theorem PO.bind {α β γ δ : Type} {E : XK} {rp : AM → Hp → α → β → Prop} {rq : AM → Hp → γ → δ → Prop} {Q : β → Hp → Prop} {Q' : δ → Hp → Prop} {r : R α} {f : α → HP → R γ}
    (h : PO g m H E rq Q' (r.bind f)) (k : ∀ d hp' m' H' v, Ex m H m' H' → HL g m' H' hp' → rp m' H' d v → PO g m' H' E rq Q' (f d hp') → Q v H') : PO g m H E rp Q r := by
  cases r with
  | ok d hp' =>
    intro m' H' v x hl rv
    refine k d hp' m' H' v x hl rv ?_
    simp only [R.bind] at h
    revert h
    cases f d hp' with
    | ok e h2 => exact fun h m2 H2 w x2 hl2 r2 => h m2 H2 w (x.trans x2) hl2 r2
    | exc c fs h2 => exact fun h m2 H2 d2 ws x2 hl2 e2 n2 r2 => h m2 H2 d2 ws (x.trans x2) hl2 e2 n2 r2
    | stuck => exact fun h => h
  | exc c fs hp' => exact h
  | stuck => exact h

abbrev rB : AM → Hp → Bool → Bool → Prop := fun _ _ b c => b = c
end Ev
namespace Ev
open PySem PySem.Spec PyProof.Rows L2

abbrev M (α : Type) := EN → HP → R α

section
variable (g : G) (X : Cx) (E : XK)
structure EV (e : Expr) (f : M D) : Prop where
  ex : ∃ t, PE X e t ∧ ∀ σ H Q m env hp, HL g m H hp → ER g m H σ env → PO g m H E (rep g) Q (f env hp) → t σ H Q
structure TV (e : Expr) (f : M Bool) : Prop where
  ex : ∃ t, PT X e t ∧ ∀ σ H Q m env hp, HL g m H hp → ER g m H σ env → PO g m H E rB Q (f env hp) → t σ H Q
structure AV (es : List Expr) (f : M (List D)) : Prop where
  ex : ∃ t, PA X es t ∧ ∀ σ H Q m env hp, HL g m H hp → ER g m H σ env → PO g m H E (reps g) Q (f env hp) → t σ H Q
end

section
variable {g : G} {X : Cx} {E : XK}

/-! ### names, constants -/
@[simp] def kVar : Option (Option D) → HP → R D
  | some (some d), hp => .ok d hp
  | some none, _ => .stuck
  | none, _ => .stuck
@[simp] def mVar (i : Nat) (env : EN) (hp : HP) : R D := kVar env[i]? hp
theorem EV.var {i : Nat} {x : Str} {pos : Pos} {e : Expr} (he : e = .Name x pos) (hN : X.N[i]? = some x) (hv : Vis X.env.scope x) (hd : (x == ("__debug__" : Str)) = false) (hcd : (x == ("__classdict__" : Str)) = false) : EV g X E e (mVar i) := by
  subst he
  refine ⟨_, pe_var hN hv hd hcd, fun σ H Q m env hp hl er h => ?_⟩
  unfold mVar kVar at h
  split at h
  · rename_i d e
    obtain ⟨v, e1, r⟩ := er.at_ i d e
    exact ⟨v, e1, h m H v (.refl _ _) hl r⟩
  · exact h.elim
  · exact h.elim
@[simp] def mCst (d : D) (_ : EN) (hp : HP) : R D := .ok d hp
theorem EV.cst {e : Expr} {v : V} {d : D} (hp : PE X e (tC v)) (hr : ∀ m H, rep g m H d v) : EV g X E e (mCst d) :=
  ⟨_, hp, fun σ H Q m env hp hl er h => h m H v (.refl _ _) hl (hr m H)⟩
theorem EV.int {i : Int} {j pos} : EV g X E (.Constant (.int i) j pos) (mCst (.int i)) := .cst pe_int fun _ _ => by simp [rep]
theorem EV.bl {i : Bool} {j pos} : EV g X E (.Constant (.bool i) j pos) (mCst (.bl i)) := .cst pe_bl fun _ _ => by simp [rep]
theorem EV.non {j pos} : EV g X E (.Constant .none j pos) (mCst .non) := .cst pe_non fun _ _ => by simp [rep]
theorem EV.str {i : Str} {j pos} : EV g X E (.Constant (.str i) j pos) (mCst (.str i)) := .cst pe_str fun _ _ => by simp [rep]
theorem EV.glb {x : Str} {d : D} {v : V} {u : Value} {pos : Pos} (hr : ∀ m H, rep g m H d v) (hm : X.mg x = some u) (r : RelV v u) (hg : Gl X x) (hd : (x == ("__debug__" : Str)) = false) : EV g X E (.Name x pos) (mCst d) := .cst (pe_glob hg hm r hd) hr

/-! ### two values -/
abbrev F2 := D → D → HP → R D
/-- an operation on values keeps a rule of the layer -/
def OK2 (g : G) (E : XK) (r : R2) (f : F2) : Prop := ∀ m H hp x y v u Q, HL g m H hp → rep g m H x v → rep g m H y u → PO g m H E (rep g) Q (f x y hp) → r v u H Q
def OKS (X : Cx) (g : G) (E : XK) (h : Value → Value → Sem Value) (f : F2) : Prop := ∃ r, OpR X h r ∧ OK2 g E r f
@[simp] def kBin (f : F2) (b : M D) (env : EN) (x : D) (h1 : HP) : R D := (b env h1).bind (f x)
@[simp] def mBin (f : F2) (a b : M D) (env : EN) (hp : HP) : R D := (a env hp).bind (kBin f b env)
theorem EV.bin {op : Operator} {a b : Expr} {pos : Pos} {fa fb : M D} {f : F2} (ho : OKS X g E (binaryOp op) f) (ha : EV g X E a fa) (hb : EV g X E b fb) : EV g X E (.BinOp a op b pos) (mBin f fa fb) := by
  obtain ⟨r, hr, ho⟩ := ho
  obtain ⟨ta, pa, qa⟩ := ha
  obtain ⟨tb, pb, qb⟩ := hb
  refine ⟨_, pe_op hr pa pb, fun σ H Q m env hp hl er h => ?_⟩
  refine qa σ H _ m env hp hl er (PO.bind h fun x h1 m1 H1 v x1 hl1 r1 h => ?_)
  refine qb σ H1 _ m1 env h1 hl1 (er.ext x1) (PO.bind h fun y h2 m2 H2 u x2 hl2 r2 h => ?_)
  exact ho m2 H2 h2 x y v u Q hl2 (rep.ext x2 _ _ r1) r2 h
theorem EV.cmp {op : CmpOp} {a b : Expr} {pos : Pos} {fa fb : M D} {f : F2} (ho : OKS X g E (compareOp op) f) (ha : EV g X E a fa) (hb : EV g X E b fb) (hm : behindInMarks op b = false) : EV g X E (.Compare a [op] [b] pos) (mBin f fa fb) := by
  obtain ⟨r, hr, ho⟩ := ho
  obtain ⟨ta, pa, qa⟩ := ha
  obtain ⟨tb, pb, qb⟩ := hb
  refine ⟨_, pe_cmpR hr pa pb hm, fun σ H Q m env hp hl er h => ?_⟩
  refine qa σ H _ m env hp hl er (PO.bind h fun x h1 m1 H1 v x1 hl1 r1 h => ?_)
  refine qb σ H1 _ m1 env h1 hl1 (er.ext x1) (PO.bind h fun y h2 m2 H2 u x2 hl2 r2 h => ?_)
  exact ho m2 H2 h2 x y v u Q hl2 (rep.ext x2 _ _ r1) r2 h
/-- a value as a bool -/
@[simp] def isB : D → HP → R Bool
  | .bl b, hp => .ok b hp
  | _, _ => .stuck
@[simp] def mB (a : M D) (env : EN) (hp : HP) : R Bool := (a env hp).bind isB
theorem PO.toB {m : AM} {H : Hp} {hp : HP} {d : D} {v : V} {Q : Bool → Hp → Prop} (hl : HL g m H hp) (r : rep g m H d v) (h : PO g m H E rB Q (isB d hp)) : ∃ k, v = .bl k ∧ Q k H := by
  unfold Ev.isB at h
  split at h
  · simp only [rep] at r
    exact ⟨_, r, h m H _ (.refl _ _) hl rfl⟩
  · exact h.elim
theorem PO.isBk {α β : Type} {rq : AM → Hp → α → β → Prop} {m : AM} {H : Hp} {hp : HP} {d : D} {v : V} {Q : β → Hp → Prop} {f : Bool → HP → R α} (r : rep g m H d v) (h : PO g m H E rq Q ((isB d hp).bind f)) : ∃ k, v = .bl k ∧ PO g m H E rq Q (f k hp) := by
  cases d with
  | bl b =>
    simp only [rep] at r
    exact ⟨b, r, h⟩
  | _ => exact h.elim
theorem TV.cmp {op : CmpOp} {a b : Expr} {pos : Pos} {fa fb : M D} {f : F2} (ho : OKS X g E (compareOp op) f) (ha : EV g X E a fa) (hb : EV g X E b fb) (hm : behindInMarks op b = false) : TV g X E (.Compare a [op] [b] pos) (mB (mBin f fa fb)) := by
  obtain ⟨r, hr, ho⟩ := ho
  obtain ⟨ta, pa, qa⟩ := ha
  obtain ⟨tb, pb, qb⟩ := hb
  refine ⟨_, pt_cmpR hr pa pb hm, fun σ H Q m env hp hl er h => ?_⟩
  refine qa σ H _ m env hp hl er ?_
  have h : PO g m H E rB Q ((fa env hp).bind fun x h1 => ((fb env h1).bind fun y h2 => (f x y h2).bind isB)) := by
    have e : mB (mBin f fa fb) env hp = ((fa env hp).bind fun x h1 => ((fb env h1).bind fun y h2 => (f x y h2).bind isB)) := by
      unfold mB mBin
      cases fa env hp with
      | ok x h1 =>
        simp only [R.bind, kBin]
        cases fb env h1 with
        | ok y h2 => rfl
        | exc _ _ _ => rfl
        | stuck => rfl
      | exc _ _ _ => rfl
      | stuck => rfl
    rw [← e]; exact h
  refine PO.bind h fun x h1 m1 H1 v x1 hl1 r1 h => ?_
  refine qb σ H1 _ m1 env h1 hl1 (er.ext x1) (PO.bind h fun y h2 m2 H2 u x2 hl2 r2 h => ?_)
  refine ho m2 H2 h2 x y v u _ hl2 (rep.ext x2 _ _ r1) r2 (PO.bind h fun z h3 m3 H3 w x3 hl3 r3 h => ?_)
  exact PO.toB hl3 r3 h
/-- a < b < c .. (any number) : the first comparison, then the rest from b's value -/
@[simp] def kCh3 (f2 : F2) (c : M D) (env : EN) (y : D) (k : Bool) (h : HP) : R D := if k = true then (c env h).bind (f2 y) else .ok (.bl false) h
@[simp] def kChB (f2 : F2) (c : M D) (env : EN) (y : D) (d : D) (h : HP) : R D := (isB d h).bind (kCh3 f2 c env y)
@[simp] def kCh2 (f f2 : F2) (c : M D) (env : EN) (x y : D) (h2 : HP) : R D := (f x y h2).bind (kChB f2 c env y)
@[simp] def kCh1 (f f2 : F2) (b c : M D) (env : EN) (x : D) (h1 : HP) : R D := (b env h1).bind (kCh2 f f2 c env x)
@[simp] def mCh2 (f f2 : F2) (a b c : M D) (env : EN) (hp : HP) : R D := (a env hp).bind (kCh1 f f2 b c env)
theorem EV.ch2 {op op2 : CmpOp} {a b c : Expr} {pos : Pos} {fa fb fc : M D} {f f2 : F2} (ho : OKS X g E (compareOp op) f) (ho2 : OKS X g E (compareOp op2) f2) (ha : EV g X E a fa) (hb : EV g X E b fb) (hc : EV g X E c fc) (hm : lastMarks [op, op2] [b, c] = false) :
    EV g X E (.Compare a [op, op2] [b, c] pos) (mCh2 f f2 fa fb fc) := by
  obtain ⟨r, hr, ho⟩ := ho
  obtain ⟨r2, hr2, ho2⟩ := ho2
  obtain ⟨ta, pa, qa⟩ := ha
  obtain ⟨tb, pb, qb⟩ := hb
  obtain ⟨tc, pc, qc⟩ := hc
  refine ⟨_, pe_chain hr hr2 pa pb pc hm, fun σ H Q m env hp hl er h => ?_⟩
  refine qa σ H _ m env hp hl er (PO.bind h fun x h1 m1 H1 v x1 hl1 r1 h => ?_)
  refine qb σ H1 _ m1 env h1 hl1 (er.ext x1) (PO.bind h fun y h2 m2 H2 u x2 hl2 r2 h => ?_)
  refine ho m2 H2 h2 x y v u _ hl2 (rep.ext x2 _ _ r1) r2 (PO.bind h fun z h3 m3 H3 w x3 hl3 r3 h => ?_)
  obtain ⟨k, e, h⟩ := PO.isBk r3 h
  refine ⟨k, e, ?_⟩
  unfold kCh3 at h
  cases k with
  | true =>
    rw [if_pos rfl] at h ⊢
    refine qc σ H3 _ m3 env h3 hl3 ((er.ext x1).ext (x2.trans x3)) (PO.bind h fun z h4 m4 H4 w4 x4 hl4 r4 h => ?_)
    exact ho2 m4 H4 h4 y z u w4 Q hl4 (rep.ext (x3.trans x4) _ _ r2) r4 h
  | false =>
    rw [if_neg Bool.false_ne_true] at h ⊢
    exact h m3 H3 _ (.refl _ _) hl3 (by simp [rep])
theorem TV.val {e : Expr} {f : M D} (h : EV g X E e f) (he : ∀ whole, isTrue e X.env whole = (do let v ← whole; standAt e.pos; holding [v] (truthy v))) : TV g X E e (mB f) := by
  obtain ⟨t, p, q⟩ := h
  refine ⟨_, pt_val p he, fun σ H Q m env hp hl er h => ?_⟩
  exact q σ H _ m env hp hl er (PO.bind h fun x h1 m1 H1 v x1 hl1 r1 h => PO.toB hl1 r1 h)
theorem R.bind_assoc {α β γ : Type} (r : R α) (f : α → HP → R β) (k : β → HP → R γ) : (r.bind f).bind k = r.bind fun x h => (f x h).bind k := by cases r <;> rfl
theorem TV.ch2 {op op2 : CmpOp} {a b c : Expr} {pos : Pos} {fa fb fc : M D} {f f2 : F2} (ho : OKS X g E (compareOp op) f) (ho2 : OKS X g E (compareOp op2) f2) (ha : EV g X E a fa) (hb : EV g X E b fb) (hc : EV g X E c fc) (hm : lastMarks [op, op2] [b, c] = false) :
    TV g X E (.Compare a [op, op2] [b, c] pos) (mB (mCh2 f f2 fa fb fc)) := by
  obtain ⟨r, hr, ho⟩ := ho
  obtain ⟨r2, hr2, ho2⟩ := ho2
  obtain ⟨ta, pa, qa⟩ := ha
  obtain ⟨tb, pb, qb⟩ := hb
  obtain ⟨tc, pc, qc⟩ := hc
  refine ⟨_, pt_chain hr hr2 pa pb pc hm, fun σ H Q m env hp hl er h => ?_⟩
  simp only [mB, mCh2, R.bind_assoc] at h
  unfold kCh1 kCh2 kChB at h
  simp only [R.bind_assoc] at h
  refine qa σ H _ m env hp hl er (PO.bind h fun x h1 m1 H1 v x1 hl1 r1 h => ?_)
  refine qb σ H1 _ m1 env h1 hl1 (er.ext x1) (PO.bind h fun y h2 m2 H2 u x2 hl2 r2 h => ?_)
  refine ho m2 H2 h2 x y v u _ hl2 (rep.ext x2 _ _ r1) r2 (PO.bind h fun z h3 m3 H3 w x3 hl3 r3 h => ?_)
  obtain ⟨k, e, h⟩ := PO.isBk r3 h
  refine ⟨k, e, ?_⟩
  unfold kCh3 at h
  cases k with
  | true =>
    rw [if_pos rfl] at h ⊢
    rw [R.bind_assoc] at h
    refine qc σ H3 _ m3 env h3 hl3 ((er.ext x1).ext (x2.trans x3)) (PO.bind h fun z h4 m4 H4 w4 x4 hl4 r4 h => ?_)
    exact ho2 m4 H4 h4 y z u w4 _ hl4 (rep.ext (x3.trans x4) _ _ r2) r4 (PO.bind h fun z h5 m5 H5 w5 x5 hl5 r5 h => PO.toB hl5 r5 h)
  | false =>
    rw [if_neg Bool.false_ne_true] at h ⊢
    exact ⟨false, rfl, h m3 H3 _ (.refl _ _) hl3 rfl⟩

/-! ### and, or, not, if -/
@[simp] def kNotB (k : Bool) (h : HP) : R D := .ok (.bl (!k)) h
@[simp] def kNot (x : D) (h : HP) : R D := (isB x h).bind kNotB
@[simp] def mNot (a : M D) (env : EN) (hp : HP) : R D := (a env hp).bind kNot
@[simp] def kAndB (b : M D) (env : EN) (k : Bool) (h : HP) : R D := if k = true then b env h else .ok (.bl false) h
@[simp] def kAnd (b : M D) (env : EN) (x : D) (h : HP) : R D := (isB x h).bind (kAndB b env)
@[simp] def mAnd (a b : M D) (env : EN) (hp : HP) : R D := (a env hp).bind (kAnd b env)
@[simp] def kOrB (b : M D) (env : EN) (k : Bool) (h : HP) : R D := if k = true then .ok (.bl true) h else b env h
@[simp] def kOr (b : M D) (env : EN) (x : D) (h : HP) : R D := (isB x h).bind (kOrB b env)
@[simp] def mOr (a b : M D) (env : EN) (hp : HP) : R D := (a env hp).bind (kOr b env)
theorem EV.not_ {a : Expr} {pos : Pos} {fa : M D} (ha : EV g X E a fa) : EV g X E (.UnaryOp .Not a pos) (mNot fa) := by
  obtain ⟨ta, pa, qa⟩ := ha
  refine ⟨_, pe_not pa, fun σ H Q m env hp hl er h => ?_⟩
  refine qa σ H _ m env hp hl er (PO.bind h fun x h1 m1 H1 v x1 hl1 r1 h => ?_)
  obtain ⟨k, e, h⟩ := PO.isBk r1 h
  exact ⟨k, e, h m1 H1 _ (.refl _ _) hl1 (by simp [rep])⟩
theorem EV.and_ {a b : Expr} {rest : List Expr} {pos : Pos} {fa fb : M D} (ha : EV g X E a fa) (hb : EV g X E (.BoolOp .And (b :: rest) pos) fb) : EV g X E (.BoolOp .And (a :: b :: rest) pos) (mAnd fa fb) := by
  obtain ⟨ta, pa, qa⟩ := ha
  obtain ⟨tb, pb, qb⟩ := hb
  refine ⟨_, pe_and pa pb, fun σ H Q m env hp hl er h => ?_⟩
  refine qa σ H _ m env hp hl er (PO.bind h fun x h1 m1 H1 v x1 hl1 r1 h => ?_)
  obtain ⟨k, e, h⟩ := PO.isBk r1 h
  refine ⟨k, e, ?_⟩
  unfold kAndB at h
  cases k with
  | true =>
    rw [if_pos rfl] at h ⊢
    exact qb σ H1 Q m1 env h1 hl1 (er.ext x1) h
  | false =>
    rw [if_neg Bool.false_ne_true] at h ⊢
    exact h m1 H1 _ (.refl _ _) hl1 (by simp [rep])
theorem EV.or_ {a b : Expr} {rest : List Expr} {pos : Pos} {fa fb : M D} (ha : EV g X E a fa) (hb : EV g X E (.BoolOp .Or (b :: rest) pos) fb) : EV g X E (.BoolOp .Or (a :: b :: rest) pos) (mOr fa fb) := by
  obtain ⟨ta, pa, qa⟩ := ha
  obtain ⟨tb, pb, qb⟩ := hb
  refine ⟨_, pe_or pa pb, fun σ H Q m env hp hl er h => ?_⟩
  refine qa σ H _ m env hp hl er (PO.bind h fun x h1 m1 H1 v x1 hl1 r1 h => ?_)
  obtain ⟨k, e, h⟩ := PO.isBk r1 h
  refine ⟨k, e, ?_⟩
  unfold kOrB at h
  cases k with
  | false =>
    rw [if_neg Bool.false_ne_true] at h ⊢
    exact qb σ H1 Q m1 env h1 hl1 (er.ext x1) h
  | true =>
    rw [if_pos rfl] at h ⊢
    exact h m1 H1 _ (.refl _ _) hl1 (by simp [rep])
theorem EV.one {op : BoolOp} {a : Expr} {pos : Pos} {fa : M D} (ha : EV g X E a fa) : EV g X E (.BoolOp op [a] pos) fa := by
  obtain ⟨ta, pa, qa⟩ := ha
  exact ⟨_, pe_one pa, qa⟩
/-! tests -/
@[simp] def ktNot (k : Bool) (h : HP) : R Bool := .ok (!k) h
@[simp] def tmNot (a : M Bool) (env : EN) (hp : HP) : R Bool := (a env hp).bind ktNot
@[simp] def ktAnd (b : M Bool) (env : EN) (k : Bool) (h : HP) : R Bool := if k = true then b env h else .ok false h
@[simp] def tmAnd (a b : M Bool) (env : EN) (hp : HP) : R Bool := (a env hp).bind (ktAnd b env)
@[simp] def ktOr (b : M Bool) (env : EN) (k : Bool) (h : HP) : R Bool := if k = true then .ok true h else b env h
@[simp] def tmOr (a b : M Bool) (env : EN) (hp : HP) : R Bool := (a env hp).bind (ktOr b env)
theorem TV.not_ {a : Expr} {pos : Pos} {fa : M Bool} (ha : TV g X E a fa) : TV g X E (.UnaryOp .Not a pos) (tmNot fa) := by
  obtain ⟨ta, pa, qa⟩ := ha
  refine ⟨_, pt_not pa, fun σ H Q m env hp hl er h => ?_⟩
  refine qa σ H _ m env hp hl er (PO.bind h fun x h1 m1 H1 v x1 hl1 r1 h => ?_)
  cases (show x = v from r1)
  exact h m1 H1 _ (.refl _ _) hl1 rfl
/-- a test whatever its 'whole' is -/
structure WV (g : G) (X : Cx) (E : XK) (e : Expr) (f : M Bool) : Prop where
  ex : ∃ t, PW X e t ∧ ∀ σ H Q m env hp, HL g m H hp → ER g m H σ env → PO g m H E rB Q (f env hp) → t σ H Q
theorem WV.tv {e : Expr} {f : M Bool} (h : WV g X E e f) : TV g X E e f := by
  obtain ⟨ta, pa, qa⟩ := h
  exact ⟨_, pa.pt, qa⟩
theorem WV.and1 {a : Expr} {pos : Pos} {fa : M Bool} (ha : TV g X E a fa) : WV g X E (.BoolOp .And [a] pos) fa := by
  obtain ⟨ta, pa, qa⟩ := ha
  exact ⟨_, pw_and1 pa, qa⟩
theorem WV.or1 {a : Expr} {pos : Pos} {fa : M Bool} (ha : TV g X E a fa) : WV g X E (.BoolOp .Or [a] pos) fa := by
  obtain ⟨ta, pa, qa⟩ := ha
  exact ⟨_, pw_or1 pa, qa⟩
theorem WV.and_ {a b : Expr} {rest : List Expr} {pos : Pos} {fa fb : M Bool} (ha : TV g X E a fa) (hb : WV g X E (.BoolOp .And (b :: rest) pos) fb) : WV g X E (.BoolOp .And (a :: b :: rest) pos) (tmAnd fa fb) := by
  obtain ⟨ta, pa, qa⟩ := ha
  obtain ⟨tb, pb, qb⟩ := hb
  refine ⟨_, pw_and pa pb, fun σ H Q m env hp hl er h => ?_⟩
  refine qa σ H _ m env hp hl er (PO.bind h fun x h1 m1 H1 v x1 hl1 r1 h => ?_)
  cases (show x = v from r1)
  unfold ktAnd at h
  cases x with
  | true =>
    rw [if_pos rfl] at h ⊢
    exact qb σ H1 Q m1 env h1 hl1 (er.ext x1) h
  | false =>
    rw [if_neg Bool.false_ne_true] at h ⊢
    exact h m1 H1 _ (.refl _ _) hl1 rfl
theorem WV.or_ {a b : Expr} {rest : List Expr} {pos : Pos} {fa fb : M Bool} (ha : TV g X E a fa) (hb : WV g X E (.BoolOp .Or (b :: rest) pos) fb) : WV g X E (.BoolOp .Or (a :: b :: rest) pos) (tmOr fa fb) := by
  obtain ⟨ta, pa, qa⟩ := ha
  obtain ⟨tb, pb, qb⟩ := hb
  refine ⟨_, pw_or pa pb, fun σ H Q m env hp hl er h => ?_⟩
  refine qa σ H _ m env hp hl er (PO.bind h fun x h1 m1 H1 v x1 hl1 r1 h => ?_)
  cases (show x = v from r1)
  unfold ktOr at h
  cases x with
  | false =>
    rw [if_neg Bool.false_ne_true] at h ⊢
    exact qb σ H1 Q m1 env h1 hl1 (er.ext x1) h
  | true =>
    rw [if_pos rfl] at h ⊢
    exact h m1 H1 _ (.refl _ _) hl1 rfl
@[simp] def kIf (a b : M D) (env : EN) (k : Bool) (h : HP) : R D := if k = true then a env h else b env h
@[simp] def mIf (c : M Bool) (a b : M D) (env : EN) (hp : HP) : R D := (c env hp).bind (kIf a b env)
theorem EV.ite_ {c a b : Expr} {pos : Pos} {fc : M Bool} {fa fb : M D} (hc : TV g X E c fc) (ha : EV g X E a fa) (hb : EV g X E b fb) : EV g X E (.IfExp c a b pos) (mIf fc fa fb) := by
  obtain ⟨tc, pc, qc⟩ := hc
  obtain ⟨ta, pa, qa⟩ := ha
  obtain ⟨tb, pb, qb⟩ := hb
  refine ⟨_, pe_ifExp pc pa pb, fun σ H Q m env hp hl er h => ?_⟩
  refine qc σ H _ m env hp hl er (PO.bind h fun x h1 m1 H1 v x1 hl1 r1 h => ?_)
  cases (show x = v from r1)
  unfold kIf at h
  cases x with
  | true =>
    rw [if_pos rfl] at h ⊢
    exact qa σ H1 Q m1 env h1 hl1 (er.ext x1) h
  | false =>
    rw [if_neg Bool.false_ne_true] at h ⊢
    exact qb σ H1 Q m1 env h1 hl1 (er.ext x1) h
/-- truth of any value that is there -/
@[simp] def truO : Option O → HP → R Bool
  | some (.lst ds), hp => .ok (!ds.isEmpty) hp
  | some (.dic ds), hp => .ok (!ds.isEmpty) hp
  | _, _ => .stuck
@[simp] def truD : D → HP → R Bool
  | .non, hp => .ok false hp
  | .bl b, hp => .ok b hp
  | .int i, hp => .ok (i != 0) hp
  | .lst ds, hp => .ok (!ds.isEmpty) hp
  | .klst ds, hp => .ok (!ds.isEmpty) hp
  | .tup ds, hp => .ok (!ds.isEmpty) hp
  | .dic ds, hp => .ok (!ds.isEmpty) hp
  | .ref n, hp => truO hp[n]? hp
  | _, _ => .stuck
@[simp] def mTru (a : M D) (env : EN) (hp : HP) : R Bool := (a env hp).bind truD
theorem reps.length {m : AM} {H : Hp} : ∀ {ds : List D} {vs : List V}, reps g m H ds vs → ds.length = vs.length
  | [], vs, h => by simp only [reps] at h; subst h; rfl
  | d :: ds, vs, h => by
    simp only [reps] at h
    obtain ⟨v, r, rfl, _, h2⟩ := h
    simp [reps.length h2]
theorem repk.length {m : AM} {H : Hp} : ∀ {ds : List (Key × D)} {vs : List (Key × V)}, repk g m H ds vs → ds.length = vs.length
  | [], vs, h => by simp only [repk] at h; subst h; rfl
  | (k, d) :: ds, vs, h => by
    simp only [repk] at h
    obtain ⟨v, r, rfl, _, h2⟩ := h
    simp [repk.length h2]
theorem isEmpty_len {α β : Type} {xs : List α} {ys : List β} (h : xs.length = ys.length) : xs.isEmpty = ys.isEmpty := by
  cases xs <;> cases ys <;> simp at h ⊢
theorem HL.at {m : AM} {H : Hp} {hp : HP} (hl : HL g m H hp) {n : Nat} {o : O} (e : hp[n]? = some o) (ne : o ≠ .dead) : ∃ a, m[n]? = some (some a) ∧ liveO g m H a o := by
  rcases hl.live n o e with ⟨h, _⟩ | h
  · exact absurd h ne
  · exact h
theorem FL.sq {K : PySem.W.Frag} {m : AM} {H : Hp} {a : Addr} {xs : List V} (h : FL K m H a xs) : SqL K H a xs := by
  rcases h with ⟨h, _⟩ | h
  · exact .inl h
  · exact .inr h
theorem FT.sq {K : PySem.W.Frag} {m : AM} {H : Hp} {a : Addr} {xs : List V} (h : FT K m H a xs) : SqT K H a xs := by
  rcases h with ⟨h, _⟩ | h
  · exact .inl h
  · exact .inr h
theorem TV.tru {e : Expr} {f : M D} (hK : X.K = g.K) (h : EV g X E e f) (he : ∀ whole, isTrue e X.env whole = (do let v ← whole; standAt e.pos; holding [v] (truthy v))) : TV g X E e (mTru f) := by
  obtain ⟨t, p, q⟩ := h
  refine ⟨_, pt_truth p he, fun σ H Q m env hp hl er h => ?_⟩
  refine q σ H _ m env hp hl er (PO.bind h fun x h1 m1 H1 v x1 hl1 r1 h => ?_)
  have fin : ∀ k, TruV X.K v H1 k → PO g m1 H1 E rB Q (.ok k h1) → ∃ k, TruV X.K v H1 k ∧ Q k H1 := fun k t h => ⟨k, t, h m1 H1 k (.refl _ _) hl1 rfl⟩
  cases x with
  | non => simp only [rep] at r1; subst r1; exact fin false rfl h
  | bl b => simp only [rep] at r1; subst r1; exact fin b rfl h
  | int b => simp only [rep] at r1; subst r1; exact fin _ rfl h
  | str b => exact h.elim
  | tup ds =>
    simp only [rep] at r1
    obtain ⟨a, vs, rfl, f, r⟩ := r1
    exact fin _ (show _ ∨ _ ∨ _ from .inr (.inl ⟨vs, by rw [hK]; exact f.sq, by rw [isEmpty_len (reps.length r)]⟩)) h
  | lst ds =>
    simp only [rep] at r1
    obtain ⟨a, vs, rfl, f, _, r⟩ := r1
    exact fin _ (show _ ∨ _ ∨ _ from .inl ⟨vs, .of f, by rw [isEmpty_len (reps.length r)]⟩) h
  | klst ds =>
    simp only [rep] at r1
    obtain ⟨a, vs, rfl, f, r⟩ := r1
    exact fin _ (show _ ∨ _ ∨ _ from .inl ⟨vs, by rw [hK]; exact f.sq, by rw [isEmpty_len (reps.length r)]⟩) h
  | dic ds =>
    simp only [rep] at r1
    obtain ⟨a, vs, rfl, f, _, r⟩ := r1
    exact fin _ (show _ ∨ _ ∨ _ from .inr (.inr ⟨vs, f, by rw [isEmpty_len (repk.length r)]⟩)) h
  | set ks => exact h.elim
  | ins c fs => exact h.elim
  | ref n =>
    simp only [rep] at r1
    simp only [truD] at h
    unfold truO at h
    split at h
    · rename_i ds e
      obtain ⟨a, ea, vs, ha, rv⟩ := hl1.at e (by simp)
      obtain rfl := r1.2 a ea
      exact fin _ (show _ ∨ _ ∨ _ from .inl ⟨vs, .of ha, by rw [isEmpty_len (reps.length rv)]⟩) h
    · rename_i ds e
      obtain ⟨a, ea, vs, ha, rv⟩ := hl1.at e (by simp)
      obtain rfl := r1.2 a ea
      exact fin _ (show _ ∨ _ ∨ _ from .inr (.inr ⟨vs, ha, by rw [isEmpty_len (repk.length rv)]⟩)) h
    · exact h.elim

/-! ### argument lists, displays -/
@[simp] def aNil (_ : EN) (hp : HP) : R (List D) := .ok [] hp
@[simp] def kCons2 (x : D) (xs : List D) (h : HP) : R (List D) := .ok (x :: xs) h
@[simp] def kCons (r : M (List D)) (env : EN) (x : D) (h : HP) : R (List D) := (r env h).bind (kCons2 x)
@[simp] def aCons (a : M D) (r : M (List D)) (env : EN) (hp : HP) : R (List D) := (a env hp).bind (kCons r env)
theorem AV.nil : AV g X E [] aNil := ⟨_, pa_nil, fun σ H Q m env hp hl er h => h m H [] (.refl _ _) hl (by simp [reps])⟩
theorem AV.cons {e : Expr} {es : List Expr} {f : M D} {fs : M (List D)} (ha : EV g X E e f) (hr : AV g X E es fs) (hs : starEach (e :: es) X.env = (false, eval e X.env) :: starEach es X.env) : AV g X E (e :: es) (aCons f fs) := by
  obtain ⟨ta, pa, qa⟩ := ha
  obtain ⟨tr, pr, qr⟩ := hr
  refine ⟨_, pa_cons pa pr hs, fun σ H Q m env hp hl er h => ?_⟩
  refine qa σ H _ m env hp hl er (PO.bind h fun x h1 m1 H1 v x1 hl1 r1 h => ?_)
  refine qr σ H1 _ m1 env h1 hl1 (er.ext x1) (PO.bind h fun xs h2 m2 H2 vs x2 hl2 r2 h => ?_)
  exact h m2 H2 _ (.refl _ _) hl2 (by simp only [reps]; exact ⟨v, vs, rfl, rep.ext x2 _ _ r1, r2⟩)
/-- a new frozen thing -/
theorem HL.new {m : AM} {H : Hp} {hp : HP} (hl : HL g m H hp) {p : Addr} {o : HO} (np : H p = none) : Ex m H m (upd H p o) ∧ HL g m (upd H p o) hp ∧ some p ∉ m := by
  have hm : ∀ i a, m[i]? = some (some a) → ∃ o, H a = some o := fun i a e => by
    obtain ⟨h, hh⟩ : ∃ o, hp[i]? = some o := by
      have : i < m.length := (List.getElem?_eq_some_iff.mp e).1
      rw [hl.len] at this
      exact ⟨_, List.getElem?_eq_getElem this⟩
    rcases hl.live i h hh with ⟨_, z⟩ | ⟨b, eb, lv⟩
    · rw [e] at z; cases z
    · rw [e] at eb; cases eb
      cases h with
      | lst ds => obtain ⟨vs, h1, _⟩ := lv; exact ⟨_, h1⟩
      | dic ds => obtain ⟨vs, h1, _⟩ := lv; exact ⟨_, h1⟩
      | ins c fs => obtain ⟨dx, vs, h1, _⟩ := lv; exact ⟨_, h1⟩
      | dead => exact lv.elim
  have hn : ∀ a o', H a = some o' → upd H p o a = some o' := fun a o' e => by rw [upd_ne (ne_of_none e np)]; exact e
  have pm : some p ∉ m := fun z => by
    obtain ⟨i, hi, e⟩ := List.getElem_of_mem z
    obtain ⟨o', e'⟩ := hm i p (by rw [List.getElem?_eq_getElem hi, e])
    rw [np] at e'; cases e'
  have x : Ex m H m (upd H p o) := ⟨Nat.le_refl _, fun _ _ h _ => h, fun a o' e k => ⟨hn a o' e, k⟩⟩
  refine ⟨x, ⟨hl.len, hl.nd, fun i h hh => ?_⟩, pm⟩
  rcases hl.live i h hh with z | ⟨b, eb, lv⟩
  · exact .inl z
  · refine .inr ⟨b, eb, ?_⟩
    cases h with
    | lst ds => obtain ⟨vs, h1, r⟩ := lv; exact ⟨vs, hn _ _ h1, reps.ext x _ _ r⟩
    | dic ds => obtain ⟨vs, h1, r⟩ := lv; exact ⟨vs, hn _ _ h1, repk.ext x _ _ r⟩
    | ins c fs => obtain ⟨dx, vs, h1, r⟩ := lv; exact ⟨dx, vs, hn _ _ h1, repf.ext x _ _ r⟩
    | dead => exact lv.elim
/-- a new live thing -/
theorem HL.push {m : AM} {H : Hp} {hp : HP} (hl : HL g m H hp) {p : Addr} {o : HO} {ob : O} (np : H p = none) (hne : ob ≠ .dead) (hlv : Ex m H (m ++ [some p]) (upd H p o) → liveO g (m ++ [some p]) (upd H p o) p ob) :
    Ex m H (m ++ [some p]) (upd H p o) ∧ HL g (m ++ [some p]) (upd H p o) (hp ++ [ob]) := by
  obtain ⟨x0, hl0, pm⟩ := hl.new (o := o) np
  have x : Ex m H (m ++ [some p]) (upd H p o) := by
    refine ⟨by simp, fun n a e l => ?_, fun a o' e k => ⟨(x0.fz a o' e k).1, fun z => ?_⟩⟩
    · rw [List.getElem?_append_left l] at e; exact e
    · rcases List.mem_append.mp z with z | z
      · exact k z
      · have : a = p := by simpa using z
        subst this
        rw [np] at e; cases e
  have x2 : Ex m (upd H p o) (m ++ [some p]) (upd H p o) → True := fun _ => trivial
  refine ⟨x, ⟨by simp [hl.len], fun i j a hi hj => ?_, fun i h hh => ?_⟩⟩
  · have key : ∀ i, (m ++ [some p])[i]? = some (some a) → (i < m.length ∧ m[i]? = some (some a)) ∨ (i = m.length ∧ a = p) := fun i e => by
      by_cases l : i < m.length
      · rw [List.getElem?_append_left l] at e; exact .inl ⟨l, e⟩
      · rw [List.getElem?_append_right (by omega)] at e
        have : i - m.length = 0 := by
          by_cases z : i - m.length = 0
          · exact z
          · rw [List.getElem?_eq_none (by simp; omega)] at e; cases e
        rw [this] at e
        simp at e
        exact .inr ⟨by omega, e.symm⟩
    rcases key i hi with ⟨l, e⟩ | ⟨l, e⟩ <;> rcases key j hj with ⟨l', e'⟩ | ⟨l', e'⟩
    · exact hl.nd i j a e e'
    · subst e'; exact absurd (List.mem_of_getElem? e) pm
    · subst e; exact absurd (List.mem_of_getElem? e') pm
    · omega
  · by_cases l : i < hp.length
    · rw [List.getElem?_append_left l] at hh
      rcases hl.live i h hh with ⟨z, e⟩ | ⟨b, eb, lv⟩
      · exact .inl ⟨z, by rw [List.getElem?_append_left (by rw [hl.len]; exact l)]; exact e⟩
      · refine .inr ⟨b, by rw [List.getElem?_append_left (by rw [hl.len]; exact l)]; exact eb, ?_⟩
        cases h with
        | lst ds => obtain ⟨vs, h1, r⟩ := lv; exact ⟨vs, by rw [upd_ne (ne_of_none h1 np)]; exact h1, reps.ext x _ _ r⟩
        | dic ds => obtain ⟨vs, h1, r⟩ := lv; exact ⟨vs, by rw [upd_ne (ne_of_none h1 np)]; exact h1, repk.ext x _ _ r⟩
        | ins c fs => obtain ⟨dx, vs, h1, r⟩ := lv; exact ⟨dx, vs, by rw [upd_ne (ne_of_none h1 np)]; exact h1, repf.ext x _ _ r⟩
        | dead => exact lv.elim
    · rw [List.getElem?_append_right (by omega)] at hh
      have i0 : i - hp.length = 0 := by
        by_cases z : i - hp.length = 0
        · exact z
        · rw [List.getElem?_eq_none (by simp; omega)] at hh; cases hh
      rw [i0] at hh
      simp at hh
      subst hh
      refine .inr ⟨p, ?_, hlv x⟩
      have : i = m.length := by have := hl.len; omega
      subst this
      rw [List.getElem?_append_right (Nat.le_refl _)]
      simp
@[simp] def kTup (xs : List D) (h : HP) : R D := if xs.length ≤ sizeLine then .ok (.tup xs) h else .stuck
@[simp] def mTup (a : M (List D)) (env : EN) (hp : HP) : R D := (a env hp).bind kTup
theorem EV.tup {es : List Expr} {x1} {pos : Pos} {f : M (List D)} (ha : AV g X E es f) : EV g X E (.Tuple es x1 pos) (mTup f) := by
  obtain ⟨ta, pa, qa⟩ := ha
  refine ⟨_, pe_tup pa, fun σ H Q m env hp hl er h => ?_⟩
  refine qa σ H _ m env hp hl er (PO.bind h fun xs h1 m1 H1 vs x1 hl1 r1 h => ?_)
  unfold kTup at h
  by_cases hz : xs.length ≤ sizeLine
  · rw [if_pos hz] at h
    refine ⟨by rw [← reps.length r1]; exact hz, fun p np => ?_⟩
    obtain ⟨x, hl2, pm⟩ := hl1.new (o := .tup vs) np
    exact h m1 _ _ x hl2 (by simp only [rep]; exact ⟨p, vs, rfl, .inl ⟨.inl upd_same, pm⟩, reps.ext x _ _ r1⟩)
  · rw [if_neg hz] at h; exact h.elim
/-- a list display: frozen, or live -/
@[simp] def newL (live : Bool) (xs : List D) (h : HP) : R D := if xs.length ≤ sizeLine then (if live = true then .ok (.ref h.length) (h ++ [.lst xs]) else .ok (.lst xs) h) else .stuck
theorem PO.newL {live : Bool} {m : AM} {H : Hp} {hp : HP} {xs : List D} {vs : List V} {Q : V → Hp → Prop} (hl : HL g m H hp) (r : reps g m H xs vs) (h : PO g m H E (rep g) Q (Ev.newL live xs hp)) : vs.length ≤ sizeLine ∧ ∀ p, H p = none → Q (.ref p) (upd H p (.lst vs)) := by
  unfold Ev.newL at h
  by_cases hz : xs.length ≤ sizeLine
  · rw [if_pos hz] at h
    refine ⟨by rw [← reps.length r]; exact hz, fun p np => ?_⟩
    cases live with
    | true =>
      rw [if_pos rfl] at h
      obtain ⟨x, hl2⟩ := hl.push (o := .lst vs) (ob := .lst xs) np (by simp) fun x => ⟨vs, upd_same, reps.ext x _ _ r⟩
      refine h _ _ _ x hl2 ?_
      simp only [rep]
      refine ⟨by simp [hl.len], fun a e => ?_⟩
      rw [← hl.len, List.getElem?_append_right (Nat.le_refl _)] at e
      simp at e
      rw [e]
    | false =>
      rw [if_neg Bool.false_ne_true] at h
      obtain ⟨x, hl2, pm⟩ := hl.new (o := .lst vs) np
      exact h m _ _ x hl2 (by simp only [rep]; exact ⟨p, vs, rfl, upd_same, pm, reps.ext x _ _ r⟩)
  · rw [if_neg hz] at h; exact h.elim
@[simp] def mLst (live : Bool) (a : M (List D)) (env : EN) (hp : HP) : R D := (a env hp).bind (newL live)
theorem EV.lst {es : List Expr} {pos : Pos} {f : M (List D)} (live : Bool) (ha : AV g X E es f) : EV g X E (.List es pos) (mLst live f) := by
  obtain ⟨ta, pa, qa⟩ := ha
  refine ⟨_, pe_lst pa, fun σ H Q m env hp hl er h => ?_⟩
  exact qa σ H _ m env hp hl er (PO.bind h fun xs h1 m1 H1 vs x1 hl1 r1 h => PO.newL hl1 r1 h)
end
end Ev
namespace Ev
open PySem PySem.Spec PyProof.Rows L2
section
variable {g : G} {X : Cx} {E : XK}

/-! ### views -/
/-- a list to be read -/
@[simp] def lstO : Option O → Option (List D)
  | some (.lst ds) => some ds
  | _ => none
@[simp] def asL (h : HP) : D → Option (List D)
  | .lst ds => some ds
  | .klst ds => some ds
  | .ref n => lstO h[n]?
  | _ => none
/-- a list that is tracked (not the script, not of the module) -/
@[simp] def asLx (h : HP) : D → Option (List D)
  | .lst ds => some ds
  | .ref n => lstO h[n]?
  | _ => none
@[simp] def asT : D → Option (List D)
  | .tup ds => some ds
  | _ => none
theorem asLx_ok {m : AM} {H : Hp} {hp : HP} {d : D} {v : V} {ds : List D} (hl : HL g m H hp) (r : rep g m H d v) (e : asLx hp d = some ds) : ∃ a vs, v = .ref a ∧ H a = some (.lst vs) ∧ reps g m H ds vs := by
  cases d with
  | lst es =>
    cases e
    simp only [rep] at r
    obtain ⟨a, vs, rfl, f, _, r⟩ := r
    exact ⟨a, vs, rfl, f, r⟩
  | ref n =>
    simp only [asLx] at e
    unfold lstO at e
    split at e
    · rename_i es q
      cases e
      simp only [rep] at r
      obtain ⟨a, ea, vs, ha, rv⟩ := hl.at q (by simp)
      exact ⟨a, vs, r.2 a ea, ha, rv⟩
    · cases e
  | _ => cases e
theorem asL_ok {m : AM} {H : Hp} {hp : HP} {d : D} {v : V} {ds : List D} (hl : HL g m H hp) (r : rep g m H d v) (e : asL hp d = some ds) : ∃ a vs, v = .ref a ∧ SqL g.K H a vs ∧ reps g m H ds vs := by
  cases d with
  | klst es =>
    cases e
    simp only [rep] at r
    obtain ⟨a, vs, rfl, f, r⟩ := r
    exact ⟨a, vs, rfl, f.sq, r⟩
  | lst es =>
    obtain ⟨a, vs, h1, h2, h3⟩ := asLx_ok hl r (ds := ds) e
    exact ⟨a, vs, h1, .of h2, h3⟩
  | ref n =>
    obtain ⟨a, vs, h1, h2, h3⟩ := asLx_ok hl r (ds := ds) e
    exact ⟨a, vs, h1, .of h2, h3⟩
  | _ => cases e
theorem asT_ok {m : AM} {H : Hp} {d : D} {v : V} {ds : List D} (r : rep g m H d v) (e : asT d = some ds) : ∃ a vs, v = .ref a ∧ SqT g.K H a vs ∧ reps g m H ds vs := by
  cases d with
  | tup es =>
    cases e
    simp only [rep] at r
    obtain ⟨a, vs, rfl, f, r⟩ := r
    exact ⟨a, vs, rfl, f.sq, r⟩
  | _ => cases e
theorem reps.get {m : AM} {H : Hp} : ∀ {ds : List D} {vs : List V} {i : Nat} {d : D}, reps g m H ds vs → ds[i]? = some d → ∃ v, vs[i]? = some v ∧ rep g m H d v
  | [], _, _, _, _, e => by simp at e
  | d :: ds, vs, 0, x, h, e => by
    simp only [reps] at h
    obtain ⟨v, r, rfl, h1, h2⟩ := h
    cases e
    exact ⟨v, rfl, h1⟩
  | d :: ds, vs, i + 1, x, h, e => by
    simp only [reps] at h
    obtain ⟨v, r, rfl, h1, h2⟩ := h
    exact reps.get (i := i) h2 e
theorem reps.append {m : AM} {H : Hp} : ∀ {ds es : List D} {vs us : List V}, reps g m H ds vs → reps g m H es us → reps g m H (ds ++ es) (vs ++ us)
  | [], es, vs, us, h, k => by
    simp only [reps] at h
    subst h
    exact k
  | d :: ds, es, vs, us, h, k => by
    simp only [reps] at h
    obtain ⟨v, r, rfl, h1, h2⟩ := h
    simp only [List.cons_append, reps]
    exact ⟨v, r ++ us, rfl, h1, reps.append h2 k⟩
theorem reps.take {m : AM} {H : Hp} : ∀ {ds : List D} {vs : List V} (n : Nat), reps g m H ds vs → reps g m H (ds.take n) (vs.take n)
  | _, _, 0, _ => by simp [reps]
  | [], vs, n + 1, h => by simp only [reps] at h; subst h; simp [reps]
  | d :: ds, vs, n + 1, h => by
    simp only [reps] at h
    obtain ⟨v, r, rfl, h1, h2⟩ := h
    simp only [List.take_succ_cons, reps]
    exact ⟨v, _, rfl, h1, reps.take n h2⟩
theorem reps.drop {m : AM} {H : Hp} : ∀ {ds : List D} {vs : List V} (n : Nat), reps g m H ds vs → reps g m H (ds.drop n) (vs.drop n)
  | _, _, 0, h => h
  | [], vs, n + 1, h => by simp only [reps] at h; subst h; simp [reps]
  | d :: ds, vs, n + 1, h => by
    simp only [reps] at h
    obtain ⟨v, r, rfl, h1, h2⟩ := h
    simp only [List.drop_succ_cons]
    exact reps.drop n h2
theorem reps.mem {m : AM} {H : Hp} {ds : List D} {vs : List V} (h : reps g m H ds vs) (p : V → Bool) (q : D → Bool) (hq : ∀ d v, rep g m H d v → q d = true → p v = true) (hd : ds.all q = true) : vs.all p = true := by
  induction ds generalizing vs with
  | nil => simp only [reps] at h; subst h; rfl
  | cons d ds ih =>
    simp only [reps] at h
    obtain ⟨v, r, rfl, h1, h2⟩ := h
    simp only [List.all_cons, Bool.and_eq_true] at hd ⊢
    exact ⟨hq d v h1 hd.1, ih h2 hd.2⟩

/-! ### operations -/
theorem OKS.mk {h : Value → Value → Sem Value} {f : F2} {r : R2} (hr : OpR X h r) (ho : OK2 g E r f) : OKS X g E h f := ⟨r, hr, ho⟩
/-- two rules joined -/
theorem OKS.two {h : Value → Value → Sem Value} {f : F2} {r r' : R2} (hr : OpR X h r) (hr' : OpR X h r') (ho : OK2 g E (fun x y H Q => r x y H Q ∨ r' x y H Q) f) : OKS X g E h f := ⟨_, hr.or hr', ho⟩
theorem rInt {m : AM} {H : Hp} {i : Int} {v : V} (r : rep g m H (.int i) v) : v = .int i := by simpa [rep] using r
theorem rStr {m : AM} {H : Hp} {i : Str} {v : V} (r : rep g m H (.str i) v) : v = .str i := by simpa [rep] using r
theorem rBl {m : AM} {H : Hp} {i : Bool} {v : V} (r : rep g m H (.bl i) v) : v = .bl i := by simpa [rep] using r
theorem PO.here {m : AM} {H : Hp} {hp : HP} {d : D} {v : V} {Q : V → Hp → Prop} (hl : HL g m H hp) (h : PO g m H E (rep g) Q (.ok d hp)) (r : rep g m H d v) : Q v H := h m H v (.refl _ _) hl r

@[simp] def fSub : D → D → HP → R D
  | .int i, .int j, h => .ok (.int (i - j)) h
  | _, _, _ => .stuck
theorem ok_sub : OKS X g E (binaryOp .Sub) fSub := .mk op_sub fun m H hp x y v u Q hl rx ry h => by
  unfold fSub at h
  split at h
  · exact ⟨_, _, rInt rx, rInt ry, PO.here hl h (by simp [rep])⟩
  · exact h.elim
/-- * of two factors of together less than a hundred million bits -/
def CMulE (i j : Int) : Prop := i.natAbs.log2 + j.natAbs.log2 < 100000000
instance (i j : Int) : Decidable (CMulE i j) := by unfold CMulE; exact inferInstance
theorem CMulE.ok {i j : Int} (h : CMulE i j) : IntMulOk i j := by
  have b : ∀ x : Int, Builtin.Int.intBits x ≤ x.natAbs.log2 + 1 := fun x => by
    unfold Builtin.Int.intBits
    split <;> omega
  have h1 := b i
  have h2 := b j
  have h3 : i.natAbs.log2 + j.natAbs.log2 < 100000000 := h
  have e : bitsLine = 134217728 := by decide
  unfold IntMulOk
  intro z
  rw [Bool.and_eq_true] at z
  have z2 := z.2
  unfold Builtin.Int.intTooBig at z2
  have z3 := of_decide_eq_true z2
  rw [e] at z3
  omega
theorem op_mulX : OpR X (binaryOp .Mult) (rI CMulE fun i j => .int (i * j)) := opI fun _ _ _ _ _ _ _ hc q => mul_int q hc.ok
@[simp] def fMul : D → D → HP → R D
  | .int i, .int j, h => if CMulE i j then .ok (.int (i * j)) h else .stuck
  | _, _, _ => .stuck
theorem ok_mul : OKS X g E (binaryOp .Mult) fMul := .mk op_mulX fun m H hp x y v u Q hl rx ry h => by
  unfold fMul at h
  split at h
  · split at h
    · rename_i c
      exact ⟨_, _, rInt rx, rInt ry, c, PO.here hl h (by simp [rep])⟩
    · exact h.elim
  · exact h.elim
@[simp] def fDiv : D → D → HP → R D
  | .int i, .int j, h => if 0 < j ∧ j.natAbs.log2 < 9000 then .ok (.int (i / j)) h else .stuck
  | _, _, _ => .stuck
theorem ok_div : OKS X g E (binaryOp .FloorDiv) fDiv := .mk op_fdivW fun m H hp x y v u Q hl rx ry h => by
  unfold fDiv at h
  split at h
  · split at h
    · rename_i c
      exact ⟨_, _, rInt rx, rInt ry, c, PO.here hl h (by simp [rep])⟩
    · exact h.elim
  · exact h.elim
@[simp] def fMod : D → D → HP → R D
  | .int i, .int j, h => if 0 < j then .ok (.int (i % j)) h else .stuck
  | _, _, _ => .stuck
theorem ok_mod : OKS X g E (binaryOp .Mod) fMod := .mk op_mod fun m H hp x y v u Q hl rx ry h => by
  unfold fMod at h
  split at h
  · split at h
    · rename_i c
      exact ⟨_, _, rInt rx, rInt ry, c, PO.here hl h (by simp [rep])⟩
    · exact h.elim
  · exact h.elim
def CPowW (i j : Int) : Prop := 0 ≤ j ∧ (Builtin.Int.intBits i : Int) * j ≤ 2 ^ 27
instance (i j : Int) : Decidable (CPowW i j) := by unfold CPowW; exact inferInstance
theorem op_powW : OpR X (binaryOp .Pow) (rI CPowW fun i j => .int (i ^ j.toNat)) := opI fun _ _ _ _ _ _ _ hc q => pow_int hc.1 hc.2 q
@[simp] def fPow : D → D → HP → R D
  | .int i, .int j, h => if CPowW i j then .ok (.int (i ^ j.toNat)) h else .stuck
  | _, _, _ => .stuck
theorem ok_pow : OKS X g E (binaryOp .Pow) fPow := .mk op_powW fun m H hp x y v u Q hl rx ry h => by
  unfold fPow at h
  split at h
  · split at h
    · rename_i c
      exact ⟨_, _, rInt rx, rInt ry, c, PO.here hl h (by simp [rep])⟩
    · exact h.elim
  · exact h.elim
@[simp] def fShl : D → D → HP → R D
  | .int i, .int j, h => if 0 ≤ j ∧ j ≤ 1000000 ∧ i.natAbs < 2 ^ 64 then .ok (.int (i * 2 ^ j.toNat)) h else .stuck
  | _, _, _ => .stuck
theorem ok_shl : OKS X g E (binaryOp .LShift) fShl := .mk op_shl fun m H hp x y v u Q hl rx ry h => by
  unfold fShl at h
  split at h
  · split at h
    · rename_i c
      exact ⟨_, _, rInt rx, rInt ry, c, PO.here hl h (by simp [rep])⟩
    · exact h.elim
  · exact h.elim
@[simp] def catL : Option (List D) → Option (List D) → HP → R D
  | some xs, some ys, h => if xs.length + ys.length ≤ sizeLine then .ok (.lst (xs ++ ys)) h else .stuck
  | _, _, _ => .stuck
@[simp] def fAdd : D → D → HP → R D
  | .int i, .int j, h => .ok (.int (i + j)) h
  | .str i, .str j, h => if i.length + j.length ≤ sizeLine then .ok (.str (i ++ j)) h else .stuck
  | .tup xs, .tup ys, h => if xs.length + ys.length ≤ sizeLine then .ok (.tup (xs ++ ys)) h else .stuck
  | x, y, h => catL (asLx h x) (asLx h y) h
theorem reps.nil_iff {m : AM} {H : Hp} {ds : List D} {vs : List V} (r : reps g m H ds vs) : ds = [] ↔ vs = [] := by
  have h := reps.length r
  constructor
  · intro e; subst e; exact List.length_eq_zero_iff.mp h.symm
  · intro e; subst e; exact List.length_eq_zero_iff.mp h
theorem rTup {m : AM} {H : Hp} {ds : List D} {v : V} (r : rep g m H (.tup ds) v) : ∃ a vs, v = .ref a ∧ SqT g.K H a vs ∧ reps g m H ds vs := asT_ok (g := g) r rfl
theorem PO.newT {m : AM} {H : Hp} {hp : HP} {xs : List D} {vs : List V} {Q : V → Hp → Prop} (hl : HL g m H hp) (r : reps g m H xs vs) (h : PO g m H E (rep g) Q (.ok (.tup xs) hp)) : ∀ p, H p = none → Q (.ref p) (upd H p (.tup vs)) := fun p np => by
  obtain ⟨x, hl2, pm⟩ := hl.new (o := .tup vs) np
  exact h m _ _ x hl2 (by simp only [rep]; exact ⟨p, vs, rfl, .inl ⟨.inl upd_same, pm⟩, reps.ext x _ _ r⟩)
theorem PO.newF {m : AM} {H : Hp} {hp : HP} {xs : List D} {vs : List V} {Q : V → Hp → Prop} (hl : HL g m H hp) (r : reps g m H xs vs) (h : PO g m H E (rep g) Q (.ok (.lst xs) hp)) : ∀ p, H p = none → Q (.ref p) (upd H p (.lst vs)) := fun p np => by
  obtain ⟨x, hl2, pm⟩ := hl.new (o := .lst vs) np
  exact h m _ _ x hl2 (by simp only [rep]; exact ⟨p, vs, rfl, upd_same, pm, reps.ext x _ _ r⟩)
theorem ok_add (hK : X.K = g.K) : OKS X g E (binaryOp .Add) fAdd := by
  refine ⟨_, op_add.or (op_add_str.or (op_catA.or op_cat)), fun m H hp x y v u Q hl rx ry h => ?_⟩
  rw [hK]
  unfold fAdd at h
  split at h
  · exact .inl ⟨_, _, rInt rx, rInt ry, PO.here hl h (by simp [rep])⟩
  · split at h
    · rename_i c
      exact .inr (.inl ⟨_, _, rStr rx, rStr ry, c, PO.here hl h (by simp [rep])⟩)
    · exact h.elim
  · split at h
    · rename_i xs ys c
      obtain ⟨a, vs, rfl, fa, ra⟩ := rTup rx
      obtain ⟨b, us, rfl, fb, rb⟩ := rTup ry
      refine .inr (.inr (.inl ⟨a, b, vs, us, rfl, rfl, fa, fb, by rw [← reps.length ra, ← reps.length rb]; exact c, fun z => ?_, fun _ z => ?_, fun _ _ p np => ?_⟩))
      · have e := (reps.nil_iff ra).mpr z
        subst e
        exact PO.here hl h ry
      · have e := (reps.nil_iff rb).mpr z
        subst e
        rw [List.append_nil] at h
        exact PO.here hl h rx
      · exact PO.newT hl (reps.append ra rb) h p np
    · exact h.elim
  · unfold catL at h
    split at h
    · rename_i xs ys ex ey
      split at h
      · rename_i c
        obtain ⟨a, vs, rfl, fa, ra⟩ := asLx_ok hl rx ex
        obtain ⟨b, us, rfl, fb, rb⟩ := asLx_ok hl ry ey
        exact .inr (.inr (.inr ⟨a, b, vs, us, rfl, rfl, fa, fb, by rw [← reps.length ra, ← reps.length rb]; exact c, PO.newF hl (reps.append ra rb) h⟩))
      · exact h.elim
    · exact h.elim

/-! ### comparisons -/
@[simp] def fCmp (p : Int → Int → Bool) : D → D → HP → R D
  | .int i, .int j, h => .ok (.bl (p i j)) h
  | _, _, _ => .stuck
theorem ok_cmpI {o : CmpOp} {p : Int → Int → Bool} (hr : OpR X (compareOp o) (rI0 fun i j => .bl (p i j))) : OKS X g E (compareOp o) (fCmp p) := .mk hr fun m H hp x y v u Q hl rx ry h => by
  unfold fCmp at h
  split at h
  · exact ⟨_, _, rInt rx, rInt ry, PO.here hl h (by simp [rep])⟩
  · exact h.elim
@[simp] abbrev fLt : F2 := fCmp fun i j => decide (i < j)
@[simp] abbrev fLe : F2 := fCmp fun i j => decide (i ≤ j)
@[simp] abbrev fGt : F2 := fCmp fun i j => decide (j < i)
@[simp] abbrev fGe : F2 := fCmp fun i j => decide (j ≤ i)
theorem ok_lt : OKS X g E (compareOp .Lt) fLt := ok_cmpI op_lt
theorem ok_le : OKS X g E (compareOp .LtE) fLe := ok_cmpI op_le
theorem ok_gt : OKS X g E (compareOp .Gt) fGt := ok_cmpI op_gt
theorem ok_ge : OKS X g E (compareOp .GtE) fGe := ok_cmpI op_ge
/-! == of data -/
mutual
@[simp] def toP : D → Option PyData
  | .non => some .none
  | .bl b => some (.bool b)
  | .int i => some (.int i)
  | .str x => some (.str x)
  | .tup ds => (toPs ds).map PyData.tuple
  | .lst ds => (toPs ds).map PyData.list
  | .klst ds => (toPs ds).map PyData.list
  | _ => none
@[simp] def toPs : List D → Option (List PyData)
  | [] => some []
  | d :: ds => match toP d, toPs ds with
    | some p, some ps => some (p :: ps)
    | _, _ => none
end
@[simp] def toPO : Option O → Option PyData
  | some (.lst ds) => (toPs ds).map PyData.list
  | _ => none
@[simp] def toPh (h : HP) : D → Option PyData
  | .ref n => toPO h[n]?
  | d => toP d
mutual
theorem toP_ok {m : AM} {H : Hp} : ∀ (d : D) (v : V) (p : PyData), rep g m H d v → toP d = some p → Dp g.K H v p
  | .non, v, p, r, e => by cases e; simp only [rep] at r; subst r; exact .non
  | .bl b, v, p, r, e => by cases e; simp only [rep] at r; subst r; exact .bl b
  | .int b, v, p, r, e => by cases e; simp only [rep] at r; subst r; exact .int b
  | .str b, v, p, r, e => by cases e; simp only [rep] at r; subst r; exact .str b
  | .tup ds, v, p, r, e => by
    simp only [rep] at r
    obtain ⟨a, vs, rfl, f, r⟩ := r
    simp only [toP] at e
    obtain ⟨ps, e1, rfl⟩ := Option.map_eq_some_iff.mp e
    exact .tup f.sq (toPs_ok ds vs ps r e1)
  | .lst ds, v, p, r, e => by
    simp only [rep] at r
    obtain ⟨a, vs, rfl, f, _, r⟩ := r
    simp only [toP] at e
    obtain ⟨ps, e1, rfl⟩ := Option.map_eq_some_iff.mp e
    exact .lst (.of f) (toPs_ok ds vs ps r e1)
  | .klst ds, v, p, r, e => by
    simp only [rep] at r
    obtain ⟨a, vs, rfl, f, r⟩ := r
    simp only [toP] at e
    obtain ⟨ps, e1, rfl⟩ := Option.map_eq_some_iff.mp e
    exact .lst f.sq (toPs_ok ds vs ps r e1)
  | .dic _, v, p, r, e => by simp [toP] at e
  | .set _, v, p, r, e => by simp [toP] at e
  | .ins _ _, v, p, r, e => by simp [toP] at e
  | .ref _, v, p, r, e => by simp [toP] at e
theorem toPs_ok {m : AM} {H : Hp} : ∀ (ds : List D) (vs : List V) (ps : List PyData), reps g m H ds vs → toPs ds = some ps → DpAll g.K H vs ps
  | [], vs, ps, r, e => by simp only [reps] at r; subst r; simp only [toPs] at e; cases e; exact .nil
  | d :: ds, vs, ps, r, e => by
    simp only [reps] at r
    obtain ⟨v, r', rfl, h1, h2⟩ := r
    simp only [toPs] at e
    split at e
    · rename_i p qs e1 e2
      cases e
      exact .cons (toP_ok d v p h1 e1) (toPs_ok ds r' qs h2 e2)
    · cases e
end
theorem toPh_ok {m : AM} {H : Hp} {hp : HP} {d : D} {v : V} {p : PyData} (hl : HL g m H hp) (r : rep g m H d v) (e : toPh hp d = some p) : Dp g.K H v p := by
  cases d with
  | ref n =>
    simp only [toPh] at e
    unfold toPO at e
    split at e
    · rename_i ds q
      obtain ⟨ps, e1, rfl⟩ := Option.map_eq_some_iff.mp e
      simp only [rep] at r
      obtain ⟨a, ea, vs, ha, rv⟩ := hl.at q (by simp)
      rw [r.2 a ea]
      exact .lst (.of ha) (toPs_ok ds vs ps rv e1)
    · cases e
  | _ => exact toP_ok _ _ _ r e
@[simp] def eqP : Option PyData → Option PyData → HP → R D
  | some p, some q, h => if SeqAt.shaped p = true ∧ SeqAt.shaped q = true then .ok (.bl (PyData.eqv p q)) h else .stuck
  | _, _, _ => .stuck
@[simp] def neP : Option PyData → Option PyData → HP → R D
  | some p, some q, h => if SeqAt.shaped p = true ∧ SeqAt.shaped q = true then .ok (.bl (!PyData.eqv p q)) h else .stuck
  | _, _, _ => .stuck
@[simp] def fEq (x y : D) (h : HP) : R D := eqP (toPh h x) (toPh h y) h
@[simp] def fNe (x y : D) (h : HP) : R D := neP (toPh h x) (toPh h y) h
theorem ok_eq (hK : X.K = g.K) (hu : X.A.units + 64 < cLine) : OKS X g E (compareOp .Eq) fEq := .mk (op_eqD hu) fun m H hp x y v u Q hl rx ry h => by
  rw [hK]
  unfold fEq eqP at h
  split at h
  · rename_i p q e1 e2
    split at h
    · rename_i c
      exact ⟨p, q, toPh_ok hl rx e1, toPh_ok hl ry e2, c.1, c.2, PO.here hl h (by simp [rep])⟩
    · exact h.elim
  · exact h.elim
theorem ok_ne (hK : X.K = g.K) (hu : X.A.units + 64 < cLine) : OKS X g E (compareOp .NotEq) fNe := .mk (op_neD hu) fun m H hp x y v u Q hl rx ry h => by
  rw [hK]
  unfold fNe neP at h
  split at h
  · rename_i p q e1 e2
    split at h
    · rename_i c
      exact ⟨p, q, toPh_ok hl rx e1, toPh_ok hl ry e2, c.1, c.2, PO.here hl h (by simp [rep])⟩
    · exact h.elim
  · exact h.elim
@[simp] def isNon : D → Bool
  | .non => true
  | _ => false
theorem isNon_ok {m : AM} {H : Hp} {d : D} {v : V} (hd : ∀ n, d ≠ .ref n) (r : rep g m H d v) : decide (v = V.non) = isNon d := by
  cases d with
  | non => simp only [rep] at r; subst r; rfl
  | bl b => simp only [rep] at r; subst r; rfl
  | int b => simp only [rep] at r; subst r; rfl
  | str b => simp only [rep] at r; subst r; rfl
  | tup ds => simp only [rep] at r; obtain ⟨a, vs, rfl, _⟩ := r; rfl
  | lst ds => simp only [rep] at r; obtain ⟨a, vs, rfl, _⟩ := r; rfl
  | klst ds => simp only [rep] at r; obtain ⟨a, vs, rfl, _⟩ := r; rfl
  | dic ds => simp only [rep] at r; obtain ⟨a, vs, rfl, _⟩ := r; rfl
  | set ks => simp only [rep] at r; obtain ⟨a, n, rfl, _⟩ := r; rfl
  | ins c fs => simp only [rep] at r; obtain ⟨a, dx, vs, rfl, _⟩ := r; rfl
  | ref n => exact absurd rfl (hd n)
/-- a live object is there -/
@[simp] def aliveO : Option O → Bool
  | some .dead => false
  | some _ => true
  | none => false
@[simp] def alive (h : HP) (n : Nat) : Bool := aliveO h[n]?
theorem alive_ok {m : AM} {H : Hp} {hp : HP} {n : Nat} {v : V} (hl : HL g m H hp) (r : rep g m H (.ref n) v) (e : alive hp n = true) : ∃ a, v = .ref a := by
  simp only [rep] at r
  unfold alive aliveO at e
  split at e
  · cases e
  · rename_i o hn q
    obtain ⟨a, ea, _⟩ := hl.at q hn
    exact ⟨a, r.2 a ea⟩
  · cases e
@[simp] def fIsN : D → D → HP → R D
  | .ref n, .non, h => if alive h n = true then .ok (.bl false) h else .stuck
  | x, .non, h => .ok (.bl (isNon x)) h
  | _, _, _ => .stuck
@[simp] def fNotN : D → D → HP → R D
  | .ref n, .non, h => if alive h n = true then .ok (.bl true) h else .stuck
  | x, .non, h => .ok (.bl (!isNon x)) h
  | _, _, _ => .stuck
theorem ok_isN : OKS X g E (compareOp .Is) fIsN := .mk op_isN fun m H hp x y v u Q hl rx ry h => by
  unfold fIsN at h
  split at h
  · refine ⟨by simpa [rep] using ry, ?_⟩
    split at h
    · rename_i n c
      obtain ⟨a, rfl⟩ := alive_ok hl rx c
      exact PO.here hl h (by simp [rep])
    · exact h.elim
  · rename_i hx
    refine ⟨by simpa [rep] using ry, ?_⟩
    rw [isNon_ok (fun n e => hx n e) rx]
    exact PO.here hl h (by simp [rep])
  · exact h.elim
theorem ok_notN : OKS X g E (compareOp .IsNot) fNotN := .mk op_notN fun m H hp x y v u Q hl rx ry h => by
  unfold fNotN at h
  split at h
  · refine ⟨by simpa [rep] using ry, ?_⟩
    split at h
    · rename_i n c
      obtain ⟨a, rfl⟩ := alive_ok hl rx c
      exact PO.here hl h (by simp [rep])
    · exact h.elim
  · rename_i hx
    refine ⟨by simpa [rep] using ry, ?_⟩
    rw [isNon_ok (fun n e => hx n e) rx]
    exact PO.here hl h (by simp [rep])
  · exact h.elim
/-! in -/
@[simp] def flatD : D → Bool
  | .non => true
  | .bl _ => true
  | .int _ => true
  | .str _ => true
  | _ => false
def eqD : D → D → Bool
  | .non, .non => true
  | .bl a, .bl b => a == b
  | .bl a, .int b => (if a then 1 else 0) == b
  | .int a, .bl b => a == (if b then 1 else 0)
  | .int a, .int b => a == b
  | .str a, .str b => a == b
  | _, _ => false
theorem flatD_ok {m : AM} {H : Hp} : ∀ (d : D) (v : V), rep g m H d v → flatD d = true → flatV v = true := fun d v r e => by
  cases d <;> first | (simp only [rep] at r; subst r; rfl) | cases e
theorem eqD_ok {m : AM} {H : Hp} {d e : D} {v u : V} (r : rep g m H d v) (q : rep g m H e u) (hd : flatD d = true) (he : flatD e = true) : eqV v u = eqD d e := by
  cases d <;> cases e <;> first | exact absurd hd Bool.false_ne_true | exact absurd he Bool.false_ne_true | (simp only [rep] at r q; subst r; subst q; rfl)
theorem inD_ok {m : AM} {H : Hp} {x : D} {v : V} (r : rep g m H x v) (fx : flatD x = true) : ∀ {ds : List D} {vs : List V}, reps g m H ds vs → ds.all flatD = true → inV v vs = ds.any fun y => eqD y x
  | [], vs, h, _ => by simp only [reps] at h; subst h; rfl
  | d :: ds, vs, h, f => by
    simp only [reps] at h
    obtain ⟨w, r', rfl, h1, h2⟩ := h
    simp only [List.all_cons, Bool.and_eq_true] at f
    have ih := inD_ok r fx h2 f.2
    unfold inV at ih ⊢
    rw [List.any_cons, List.any_cons, ih, eqD_ok h1 r f.1 fx]
@[simp] def seqD (h : HP) : D → Option (List D)
  | .tup ds => some ds
  | d => asL h d
@[simp] def inO (neg : Bool) (x : D) : Option (List D) → HP → R D
  | some ds, h => if flatD x = true ∧ ds.all flatD = true then .ok (.bl (if neg then !(ds.any fun y => eqD y x) else ds.any fun y => eqD y x)) h else .stuck
  | none, _ => .stuck
@[simp] def fIn (neg : Bool) : D → D → HP → R D
  | .str i, .str j, h => .ok (.bl (if neg then !(!(Builtin.Str.occurrences j i 0 j.length 1).isEmpty) else !(Builtin.Str.occurrences j i 0 j.length 1).isEmpty)) h
  | x, y, h => inO neg x (seqD h y) h
theorem seqD_ok {m : AM} {H : Hp} {hp : HP} {d : D} {v : V} {ds : List D} (hl : HL g m H hp) (r : rep g m H d v) (e : seqD hp d = some ds) : ∃ a vs, v = .ref a ∧ (SqL g.K H a vs ∨ SqT g.K H a vs) ∧ reps g m H ds vs := by
  unfold seqD at e
  split at e
  · cases e
    obtain ⟨a, vs, h1, h2, h3⟩ := asT_ok r rfl
    exact ⟨a, vs, h1, .inr h2, h3⟩
  · obtain ⟨a, vs, h1, h2, h3⟩ := asL_ok hl r e
    exact ⟨a, vs, h1, .inl h2, h3⟩
theorem fIn_ok {m : AM} {H : Hp} {hp : HP} {neg : Bool} {x y : D} {v u : V} {Q : V → Hp → Prop} (hl : HL g m H hp) (rx : rep g m H x v) (ry : rep g m H y u) (h : PO g m H E (rep g) Q (fIn neg x y hp)) :
    (∃ i j, v = .str i ∧ u = .str j ∧ Q (.bl (if neg then !(!(Builtin.Str.occurrences j i 0 j.length 1).isEmpty) else !(Builtin.Str.occurrences j i 0 j.length 1).isEmpty)) H) ∨ rIn g.K neg v u H Q := by
  unfold fIn at h
  split at h
  · exact .inl ⟨_, _, rStr rx, rStr ry, PO.here hl h (by simp [rep])⟩
  · unfold inO at h
    split at h
    · rename_i ds e
      split at h
      · rename_i c
        obtain ⟨a, vs, rfl, hs, rs⟩ := seqD_ok hl ry e
        refine .inr ⟨a, vs, rfl, hs, flatD_ok _ _ rx c.1, reps.mem rs _ _ (fun d v => flatD_ok d v) c.2, ?_⟩
        rw [inD_ok rx c.1 rs c.2]
        exact PO.here hl h (by simp [rep])
      · exact h.elim
    · exact h.elim
theorem ok_in (hK : X.K = g.K) : OKS X g E (compareOp .In) (fIn false) := by
  refine ⟨_, op_in_str.or op_in_seq, fun m H hp x y v u Q hl rx ry h => ?_⟩
  rw [hK]
  exact fIn_ok hl rx ry h
theorem ok_notin (hK : X.K = g.K) : OKS X g E (compareOp .NotIn) (fIn true) := by
  refine ⟨_, op_notIn_str.or op_notIn_seq, fun m H hp x y v u Q hl rx ry h => ?_⟩
  rw [hK]
  exact fIn_ok hl rx ry h
/-! ### one value -/
@[simp] def kNeg : D → HP → R D
  | .int i, h => .ok (.int (-i)) h
  | _, _ => .stuck
@[simp] def mNeg (a : M D) (env : EN) (hp : HP) : R D := (a env hp).bind kNeg
theorem EV.neg {a : Expr} {pos : Pos} {fa : M D} (ha : EV g X E a fa) : EV g X E (.UnaryOp .USub a pos) (mNeg fa) := by
  obtain ⟨ta, pa, qa⟩ := ha
  refine ⟨_, pe_un un_neg pa, fun σ H Q m env hp hl er h => ?_⟩
  refine qa σ H _ m env hp hl er (PO.bind h fun x h1 m1 H1 v x1 hl1 r1 h => ?_)
  cases x with
  | int i => exact ⟨i, rInt r1, PO.here hl1 h (by simp [rep])⟩
  | _ => exact h.elim
/-! ### subscripts -/
@[simp] def okO : Option D → HP → R D
  | some d, h => .ok d h
  | none, _ => .stuck
@[simp] def ixS : Option Nat → HP → R D
  | some c, h => .ok (.str ⟨#[c]⟩) h
  | none, _ => .stuck
@[simp] def ixL (i : Int) : Option (List D) → HP → R D
  | some ds, h => okO (atI ds i) h
  | none, _ => .stuck
@[simp] def fIx : D → D → HP → R D
  | .str z, .int i, h => if z.length ≤ sizeLine then ixS (atI z.cps.toList i) h else .stuck
  | x, .int i, h => ixL i (seqD h x) h
  | _, _, _ => .stuck
theorem reps.atI {m : AM} {H : Hp} {ds : List D} {vs : List V} {i : Int} {d : D} (r : reps g m H ds vs) (e : L2.atI ds i = some d) : ∃ v, L2.atI vs i = some v ∧ rep g m H d v := by
  unfold L2.atI at e ⊢
  rw [← reps.length r]
  cases q : ixN ds.length i with
  | none => rw [q] at e; cases e
  | some j =>
    rw [q] at e
    exact reps.get r e
theorem EV.ix {a b : Expr} {pos : Pos} {fa fb : M D} (hK : X.K = g.K) (ha : EV g X E a fa) (hb : EV g X E b fb) (hs : PlainIx b) : EV g X E (.Subscript a b pos) (mBin fIx fa fb) := by
  obtain ⟨ta, pa, qa⟩ := ha
  obtain ⟨tb, pb, qb⟩ := hb
  refine ⟨_, pe_ix ix_seq pa pb hs, fun σ H Q m env hp hl er h => ?_⟩
  refine qa σ H _ m env hp hl er (PO.bind h fun x h1 m1 H1 v x1 hl1 r1 h => ?_)
  refine qb σ H1 _ m1 env h1 hl1 (er.ext x1) (PO.bind h fun y h2 m2 H2 u x2 hl2 r2 h => ?_)
  have r1 := rep.ext x2 _ _ r1
  rw [hK]
  unfold fIx at h
  split at h
  · split at h
    · rename_i c
      unfold ixS at h
      split at h
      · rename_i k e
        exact .inr (.inr ⟨_, _, k, rStr r1, rInt r2, c, e, PO.here hl2 h (by simp [rep])⟩)
      · exact h.elim
    · exact h.elim
  · unfold ixL at h
    split at h
    · rename_i ds e
      unfold okO at h
      split at h
      · rename_i d ed
        obtain ⟨p, vs, rfl, hs, rs⟩ := seqD_ok hl2 r1 e
        obtain ⟨w, ew, rw'⟩ := rs.atI ed
        rcases hs with hs | hs
        · exact .inl ⟨p, vs, _, w, rfl, rInt r2, hs, ew, PO.here hl2 h rw'⟩
        · exact .inr (.inl ⟨p, vs, _, w, rfl, rInt r2, hs, ew, PO.here hl2 h rw'⟩)
      · exact h.elim
    · exact h.elim
  · exact h.elim
/-- a part of a slice: left out, or an int -/
structure PV (g : G) (X : Cx) (E : XK) (e : Option Expr) (f : M (Option Int)) : Prop where
  ex : ∃ t, L2.PO X e t ∧ ∀ σ H Q m env hp, HL g m H hp → ER g m H σ env → PO g m H E (fun _ _ a b => a = b) Q (f env hp) → t σ H Q
@[simp] def pNo (_ : EN) (hp : HP) : R (Option Int) := .ok none hp
@[simp] def kYes : D → HP → R (Option Int)
  | .int i, h => .ok (some i) h
  | _, _ => .stuck
@[simp] def pYes (a : M D) (env : EN) (hp : HP) : R (Option Int) := (a env hp).bind kYes
theorem PV.no : PV g X E none pNo := ⟨_, po_none, fun σ H Q m env hp hl er h => h m H none (.refl _ _) hl rfl⟩
theorem PV.yes {e : Expr} {f : M D} (he : EV g X E e f) : PV g X E (some e) (pYes f) := by
  obtain ⟨t, p, q⟩ := he
  refine ⟨_, po_some p, fun σ H Q m env hp hl er h => ?_⟩
  refine q σ H _ m env hp hl er (PO.bind h fun x h1 m1 H1 v x1 hl1 r1 h => ?_)
  cases x with
  | int i => exact ⟨i, rInt r1, h m1 H1 (some i) (.refl _ _) hl1 rfl⟩
  | _ => exact h.elim
def cutD (xs : List D) (lo hi : Option Int) : List D := (xs.drop (HT.sIx xs.length 0 lo)).take (HT.sIx xs.length xs.length hi - HT.sIx xs.length 0 lo)
theorem cutD_all {xs : List D} {lo hi : Option Int} (c : HT.sIx xs.length 0 lo = 0 ∧ HT.sIx xs.length xs.length hi = xs.length) : cutD xs lo hi = xs := by
  unfold cutD
  rw [c.1, c.2]
  simp
theorem reps.cut {m : AM} {H : Hp} {ds : List D} {vs : List V} {lo hi : Option Int} (r : reps g m H ds vs) : reps g m H (cutD ds lo hi) (cutV vs lo hi) := by
  unfold cutD cutV
  rw [← reps.length r]
  exact (r.drop _).take _
@[simp] def slL (lo hi : Option Int) : Option (List D) → HP → R D
  | some ds, h => .ok (.lst (cutD ds lo hi)) h
  | none, _ => .stuck
@[simp] def fSl : D → Option Int → Option Int → HP → R D
  | .str z, lo, hi, h => if z.length ≤ sizeLine then .ok (.str (cutS z lo hi)) h else .stuck
  | .tup ds, lo, hi, h => .ok (.tup (cutD ds lo hi)) h
  | x, lo, hi, h => slL lo hi (asL h x) h
@[simp] def kSl2 (hi : M (Option Int)) (env : EN) (x : D) (l : Option Int) (h : HP) : R D := (hi env h).bind (fSl x l)
@[simp] def kSl1 (lo hi : M (Option Int)) (env : EN) (x : D) (h : HP) : R D := (lo env h).bind (kSl2 hi env x)
@[simp] def mSl (a : M D) (lo hi : M (Option Int)) (env : EN) (hp : HP) : R D := (a env hp).bind (kSl1 lo hi env)
theorem EV.sl {e : Expr} {lo hi : Option Expr} {p2 pos : Pos} {f : M D} {fl fh : M (Option Int)} (hK : X.K = g.K) (he : EV g X E e f) (hl : PV g X E lo fl) (hh : PV g X E hi fh) : EV g X E (.Subscript e (.Slice lo hi none p2) pos) (mSl f fl fh) := by
  obtain ⟨t, p, q⟩ := he
  obtain ⟨tl, pl, ql⟩ := hl
  obtain ⟨th, ph, qh⟩ := hh
  refine ⟨_, pe_slice (sl_tupA.or (sl_list.or sl_str)) p pl ph, fun σ H Q m env hp hl er h => ?_⟩
  refine q σ H _ m env hp hl er (PO.bind h fun x h1 m1 H1 v x1 hl1 r1 h => ?_)
  refine ql σ H1 _ m1 env h1 hl1 (er.ext x1) (PO.bind h fun y h2 m2 H2 u x2 hl2 r2 h => ?_)
  refine qh σ H2 _ m2 env h2 hl2 ((er.ext x1).ext x2) (PO.bind h fun z h3 m3 H3 w x3 hl3 r3 h => ?_)
  subst r2
  subst r3
  have r1 := rep.ext (x2.trans x3) _ _ r1
  rw [hK]
  unfold fSl at h
  split at h
  · rename_i s
    split at h
    · rename_i c
      exact .inr (.inr ⟨_, rStr r1, c, PO.here hl3 h (by simp [rep])⟩)
    · exact h.elim
  · obtain ⟨a, vs, rfl, hs, rs⟩ := rTup r1
    refine .inl ⟨a, vs, rfl, hs, fun c => ?_, fun _ p np => PO.newT hl3 rs.cut h p np⟩
    rw [← reps.length rs] at c
    rw [cutD_all c] at h
    exact PO.here hl3 h r1
  · unfold slL at h
    split at h
    · rename_i ds e
      obtain ⟨a, vs, rfl, hs, rs⟩ := asL_ok hl3 r1 e
      exact .inr (.inl ⟨a, vs, rfl, hs, fun p np => PO.newF hl3 rs.cut h p np⟩)
    · exact h.elim
end
end Ev
namespace Ev
open PySem PySem.Spec PyProof.Rows L2
section
variable {g : G} {X : Cx} {E : XK}
abbrev FA := List D → HP → R D
/-- a call by values keeps a rule -/
def CV (X : Cx) (g : G) (E : XK) (f : Value) (F : FA) : Prop := ∃ r, CallR X f r ∧ ∀ m H hp ds vs Q, HL g m H hp → reps g m H ds vs → PO g m H E (rep g) Q (F ds hp) → r vs H Q
@[simp] def mCall (F : FA) (a : M (List D)) (env : EN) (hp : HP) : R D := (a env hp).bind F
section
variable {x : Str} {id T : String} {p pos : Pos} {e : Expr} {es : List Expr} {fs : M (List D)} {F : FA}
theorem EV.callB (hc : CV X g E (.builtin id) F) (hm : X.mg x = none) (ha : AV g X E (e :: es) fs) (hg : Gl X x) (hv : bootBuiltins x = some (.builtin id)) (hn : x ≠ "__name__") (hdb : (x == ("__debug__" : Str)) = false)
    (he : starEach (e :: es) X.env = (false, eval e X.env) :: starEach es X.env) (hpl : (backTo pos (starEach es X.env)).any (·.1) = false) : EV g X E (.Call (.Name x p) (e :: es) [] pos) (mCall F fs) := by
  obtain ⟨r, hr, hc⟩ := hc
  obtain ⟨t, pa, qa⟩ := ha
  refine ⟨_, pe_callB hr hg hm hv pa hn hdb he hpl, fun σ H Q m env hp hl er h => ?_⟩
  exact qa σ H _ m env hp hl er (PO.bind h fun xs h1 m1 H1 vs x1 hl1 r1 h => hc m1 H1 h1 xs vs Q hl1 r1 h)
theorem EV.callT (hc : CV X g E (.type T) F) (hm : X.mg x = none) (ha : AV g X E (e :: es) fs) (hg : Gl X x) (hv : bootBuiltins x = some (.type T)) (hn : x ≠ "__name__") (hdb : (x == ("__debug__" : Str)) = false)
    (he : starEach (e :: es) X.env = (false, eval e X.env) :: starEach es X.env) (hpl : (backTo pos (starEach es X.env)).any (·.1) = false) : EV g X E (.Call (.Name x p) (e :: es) [] pos) (mCall F fs) := by
  obtain ⟨r, hr, hc⟩ := hc
  obtain ⟨t, pa, qa⟩ := ha
  refine ⟨_, pe_callTy hr hg hm hv pa hn hdb he hpl, fun σ H Q m env hp hl er h => ?_⟩
  exact qa σ H _ m env hp hl er (PO.bind h fun xs h1 m1 H1 vs x1 hl1 r1 h => hc m1 H1 h1 xs vs Q hl1 r1 h)
/-- a built-in function that a name of the module holds (math.isqrt) -/
theorem EV.callM (hc : CV X g E (.builtin id) F) (hm : X.mg x = some (.builtin id)) (ha : AV g X E (e :: es) fs) (hg : Gl X x) (hdb : (x == ("__debug__" : Str)) = false)
    (he : starEach (e :: es) X.env = (false, eval e X.env) :: starEach es X.env) (hpl : (backTo pos (starEach es X.env)).any (·.1) = false) : EV g X E (.Call (.Name x p) (e :: es) [] pos) (mCall F fs) := by
  obtain ⟨r, hr, hc⟩ := hc
  obtain ⟨t, pa, qa⟩ := ha
  refine ⟨_, pe_callBfun hr hg hm pa hdb he hpl, fun σ H Q m env hp hl er h => ?_⟩
  exact qa σ H _ m env hp hl er (PO.bind h fun xs h1 m1 H1 vs x1 hl1 r1 h => hc m1 H1 h1 xs vs Q hl1 r1 h)
end
theorem reps1 {m : AM} {H : Hp} {d : D} {vs : List V} (r : reps g m H [d] vs) : ∃ v, vs = [v] ∧ rep g m H d v := by
  simp only [reps] at r
  obtain ⟨v, r, rfl, h, rfl⟩ := r
  exact ⟨v, rfl, h⟩
theorem reps2 {m : AM} {H : Hp} {d e : D} {vs : List V} (r : reps g m H [d, e] vs) : ∃ v u, vs = [v, u] ∧ rep g m H d v ∧ rep g m H e u := by
  simp only [reps] at r
  obtain ⟨v, r, rfl, h, u, r2, rfl, h2, rfl⟩ := r
  exact ⟨v, u, rfl, h, h2⟩
@[simp] def lenO : Option (List D) → HP → R D
  | some ds, h => .ok (.int ds.length) h
  | none, _ => .stuck
@[simp] def bLen : List D → HP → R D
  | [.str z], h => if z.length ≤ sizeLine then .ok (.int z.length) h else .stuck
  | [x], h => lenO (seqD h x) h
  | _, _ => .stuck
theorem cv_len (hK : X.K = g.K) : CV X g E (.builtin "len") bLen := by
  refine ⟨_, call_len, fun m H hp ds vs Q hl r h => ?_⟩
  rw [hK]
  unfold bLen at h
  split at h
  · split at h
    · rename_i c
      obtain ⟨v, rfl, rr⟩ := reps1 r
      obtain rfl := rStr rr
      exact ⟨_, _, rfl, ⟨c, rfl⟩, PO.here hl h (by simp [rep])⟩
    · exact h.elim
  · unfold lenO at h
    split at h
    · rename_i es e
      obtain ⟨v, rfl, rr⟩ := reps1 r
      obtain ⟨a, us, rfl, hs, rs⟩ := seqD_ok hl rr e
      refine ⟨_, us.length, rfl, ?_, PO.here hl h (by rw [reps.length rs]; simp [rep])⟩
      rcases hs with hs | hs
      · exact .inl ⟨us, hs, rfl⟩
      · exact .inr ⟨us, hs, rfl⟩
    · exact h.elim
  · exact h.elim
@[simp] def bInt : List D → HP → R D
  | [.int i], h => .ok (.int i) h
  | [.bl b], h => .ok (.int (if b then 1 else 0)) h
  | _, _ => .stuck
theorem cv_int : CV X g E (.type "int") bInt := by
  refine ⟨_, call_int1, fun m H hp ds vs Q hl r h => ?_⟩
  unfold bInt at h
  split at h
  · obtain ⟨v, rfl, rr⟩ := reps1 r
    obtain rfl := rInt rr
    exact .inl ⟨_, rfl, PO.here hl h (by simp [rep])⟩
  · obtain ⟨v, rfl, rr⟩ := reps1 r
    obtain rfl := rBl rr
    exact .inr ⟨_, rfl, PO.here hl h (by simp [rep])⟩
  · exact h.elim
@[simp] def bAbs : List D → HP → R D
  | [.int i], h => .ok (.int (if i < 0 then -i else i)) h
  | _, _ => .stuck
theorem cv_abs : CV X g E (.builtin "abs") bAbs := by
  refine ⟨_, call_abs, fun m H hp ds vs Q hl r h => ?_⟩
  unfold bAbs at h
  split at h
  · obtain ⟨v, rfl, rr⟩ := reps1 r
    obtain rfl := rInt rr
    exact ⟨_, rfl, PO.here hl h (by simp [rep])⟩
  · exact h.elim
@[simp] def intsD : List D → Option (List Int)
  | [] => some []
  | .int i :: ds => (intsD ds).map (i :: ·)
  | _ => none
theorem intsD_ok {m : AM} {H : Hp} : ∀ {ds : List D} {vs : List V} {ns : List Int}, reps g m H ds vs → intsD ds = some ns → vs = ns.map V.int
  | [], vs, ns, r, e => by simp only [reps] at r; subst r; cases e; rfl
  | .int i :: ds, vs, ns, r, e => by
    simp only [reps] at r
    obtain ⟨v, r', rfl, h1, h2⟩ := r
    simp only [intsD] at e
    obtain ⟨ms, e1, rfl⟩ := Option.map_eq_some_iff.mp e
    obtain rfl := rInt h1
    rw [intsD_ok h2 e1, List.map_cons]
  | .non :: ds, vs, ns, r, e => by cases e
  | .bl _ :: ds, vs, ns, r, e => by cases e
  | .str _ :: ds, vs, ns, r, e => by cases e
  | .tup _ :: ds, vs, ns, r, e => by cases e
  | .lst _ :: ds, vs, ns, r, e => by cases e
  | .klst _ :: ds, vs, ns, r, e => by cases e
  | .dic _ :: ds, vs, ns, r, e => by cases e
  | .set _ :: ds, vs, ns, r, e => by cases e
  | .ins _ _ :: ds, vs, ns, r, e => by cases e
  | .ref _ :: ds, vs, ns, r, e => by cases e
theorem intsD_map (ns : List Int) : intsD (ns.map D.int) = some ns := by
  induction ns with
  | nil => rfl
  | cons n ns ih => simp [intsD, ih]
@[simp] def blsD : List D → Option (List Bool)
  | [] => some []
  | .bl i :: ds => (blsD ds).map (i :: ·)
  | _ => none
theorem blsD_ok {m : AM} {H : Hp} : ∀ {ds : List D} {vs : List V} {ns : List Bool}, reps g m H ds vs → blsD ds = some ns → vs = ns.map V.bl
  | [], vs, ns, r, e => by simp only [reps] at r; subst r; cases e; rfl
  | .bl i :: ds, vs, ns, r, e => by
    simp only [reps] at r
    obtain ⟨v, r', rfl, h1, h2⟩ := r
    simp only [blsD] at e
    obtain ⟨ms, e1, rfl⟩ := Option.map_eq_some_iff.mp e
    obtain rfl := rBl h1
    rw [blsD_ok h2 e1, List.map_cons]
  | .non :: ds, vs, ns, r, e => by cases e
  | .int _ :: ds, vs, ns, r, e => by cases e
  | .str _ :: ds, vs, ns, r, e => by cases e
  | .tup _ :: ds, vs, ns, r, e => by cases e
  | .lst _ :: ds, vs, ns, r, e => by cases e
  | .klst _ :: ds, vs, ns, r, e => by cases e
  | .dic _ :: ds, vs, ns, r, e => by cases e
  | .set _ :: ds, vs, ns, r, e => by cases e
  | .ins _ _ :: ds, vs, ns, r, e => by cases e
  | .ref _ :: ds, vs, ns, r, e => by cases e
theorem blsD_map (ns : List Bool) : blsD (ns.map D.bl) = some ns := by
  induction ns with
  | nil => rfl
  | cons n ns ih => simp [blsD, ih]
@[simp] def sumN : Option (List Int) → HP → R D
  | some ns, h => .ok (.int ns.sum) h
  | none, _ => .stuck
@[simp] def sumO : Option (List D) → HP → R D
  | some es, h => sumN (intsD es) h
  | none, _ => .stuck
@[simp] def bSum : List D → HP → R D
  | [x], h => sumO (asL h x) h
  | _, _ => .stuck
theorem cv_sum (hK : X.K = g.K) (hc : X.calm = true) : CV X g E (.builtin "sum") bSum := by
  refine ⟨_, cr_sum hc, fun m H hp ds vs Q hl r h => ?_⟩
  rw [hK]
  unfold bSum at h
  split at h
  · unfold sumO at h
    split at h
    · rename_i es e
      unfold sumN at h
      split at h
      · rename_i ns en
        obtain ⟨v, rfl, rr⟩ := reps1 r
        obtain ⟨a, us, rfl, hs, rs⟩ := asL_ok hl rr e
        have := intsD_ok rs en
        subst this
        exact ⟨a, ns, rfl, hs, PO.here hl h (by simp [rep])⟩
      · exact h.elim
    · exact h.elim
  · exact h.elim
@[simp] def allN : Option (List Bool) → HP → R D
  | some ns, h => .ok (.bl (ns.all id)) h
  | none, _ => .stuck
@[simp] def allO : Option (List D) → HP → R D
  | some es, h => allN (blsD es) h
  | none, _ => .stuck
@[simp] def bAll : List D → HP → R D
  | [x], h => allO (asL h x) h
  | _, _ => .stuck
theorem cv_all (hK : X.K = g.K) (hc : X.calm = true) : CV X g E (.builtin "all") bAll := by
  refine ⟨_, cr_all hc, fun m H hp ds vs Q hl r h => ?_⟩
  rw [hK]
  unfold bAll at h
  split at h
  · unfold allO at h
    split at h
    · rename_i es e
      unfold allN at h
      split at h
      · rename_i ns en
        obtain ⟨v, rfl, rr⟩ := reps1 r
        obtain ⟨a, us, rfl, hs, rs⟩ := asL_ok hl rr e
        have := blsD_ok rs en
        subst this
        exact ⟨a, ns, rfl, hs, PO.here hl h (by simp [rep])⟩
      · exact h.elim
    · exact h.elim
  · exact h.elim
@[simp] def anyN : Option (List Bool) → HP → R D
  | some ns, h => .ok (.bl (ns.any id)) h
  | none, _ => .stuck
@[simp] def anyO : Option (List D) → HP → R D
  | some es, h => anyN (blsD es) h
  | none, _ => .stuck
@[simp] def bAny : List D → HP → R D
  | [x], h => anyO (asL h x) h
  | _, _ => .stuck
theorem cv_any (hK : X.K = g.K) (hc : X.calm = true) : CV X g E (.builtin "any") bAny := by
  refine ⟨_, cr_any hc, fun m H hp ds vs Q hl r h => ?_⟩
  rw [hK]
  unfold bAny at h
  split at h
  · unfold anyO at h
    split at h
    · rename_i es e
      unfold anyN at h
      split at h
      · rename_i ns en
        obtain ⟨v, rfl, rr⟩ := reps1 r
        obtain ⟨a, us, rfl, hs, rs⟩ := asL_ok hl rr e
        have := blsD_ok rs en
        subst this
        exact ⟨a, ns, rfl, hs, PO.here hl h (by simp [rep])⟩
      · exact h.elim
    · exact h.elim
  · exact h.elim
/-- the greatest, the least of a list -/
def maxL : List Int → Int
  | [] => 0
  | [n] => n
  | n :: ns => if maxL ns > n then maxL ns else n
def minL : List Int → Int
  | [] => 0
  | [n] => n
  | n :: ns => if minL ns < n then minL ns else n
theorem maxL_mem : ∀ {ns : List Int}, ns ≠ [] → maxL ns ∈ ns ∧ ∀ y ∈ ns, y ≤ maxL ns
  | [], h => absurd rfl h
  | [n], _ => by simp [maxL]
  | n :: k :: ns, _ => by
    have ih := maxL_mem (ns := k :: ns) (by simp)
    unfold maxL
    split
    · refine ⟨List.mem_cons_of_mem _ ih.1, fun y hy => ?_⟩
      rcases List.mem_cons.mp hy with e | hy
      · subst e; omega
      · exact ih.2 y hy
    · refine ⟨List.mem_cons_self .., fun y hy => ?_⟩
      rcases List.mem_cons.mp hy with e | hy
      · subst e; omega
      · have := ih.2 y hy; omega
theorem minL_mem : ∀ {ns : List Int}, ns ≠ [] → minL ns ∈ ns ∧ ∀ y ∈ ns, minL ns ≤ y
  | [], h => absurd rfl h
  | [n], _ => by simp [minL]
  | n :: k :: ns, _ => by
    have ih := minL_mem (ns := k :: ns) (by simp)
    unfold minL
    split
    · refine ⟨List.mem_cons_of_mem _ ih.1, fun y hy => ?_⟩
      rcases List.mem_cons.mp hy with e | hy
      · subst e; omega
      · exact ih.2 y hy
    · refine ⟨List.mem_cons_self .., fun y hy => ?_⟩
      rcases List.mem_cons.mp hy with e | hy
      · subst e; omega
      · have := ih.2 y hy; omega
section
variable {prog : Program} {w : World} {A : Around} {Ex : Value → Shared → Prop} {s : Shared} {l : Addr}
theorem kept_tup {h' : Heap} (hk : ∀ b o, b ∉ [s.heap.objs.size] → (s.heap.push { cls := .type "tuple_iterator", data := .fields #[.ref l, .int 0 0] }).get? b = some o → h'.get? b = some o) :
    ∀ b o, s.heap.get? b = some o → h'.get? b = some o := fun b o e => by
  refine hk b o (fun hm => ?_) (Heap.get?_push_of_some _ e)
  rcases List.mem_cons.mp hm with e1 | hm
  · exact absurd (e1 ▸ Heap.lt_size e) (Nat.lt_irrefl _)
  · cases hm
theorem foot_tup (hlt : l < s.heap.objs.size) : ∀ b ∈ [s.heap.objs.size, l], b < (s.heap.push { cls := .type "tuple_iterator", data := .fields #[.ref l, .int 0 0] }).objs.size := fun b hb => by
  rw [Heap.size_push]
  rcases List.mem_cons.mp hb with rfl | hb
  · exact Nat.lt_succ_self _
  · rcases List.mem_cons.mp hb with rfl | hb
    · exact Nat.lt_succ_of_lt hlt
    · cases hb
theorem max_intTup {xs : Array (Int × Tok)} {Q : Value → Shared → Prop} (hh : A.handled = none) (hl : s.heap.IsTuple l (intItems xs)) (hne : 0 < xs.size)
    (h : ∀ v h' tk, (intItems xs)[argBest (fun i j => decide (numAt xs i > numAt xs j)) (xs.size - 1)]? = some v → (∀ b o, s.heap.get? b = some o → h'.get? b = some o) → Q v { s with heap := h', toks := tk }) :
    wpAny (model prog w) A (call (.builtin "max") [.ref l]) Q Ex s := by
  have hlt : l < s.heap.objs.size := by obtain ⟨_, e, _⟩ := hl; exact Heap.lt_size e
  refine call_max_walk (wpAny_pyIter_tuple hl ?_)
  refine ⟨_, _, _, _, _, _, _, rfl, Walks.tuple (A := A.in1) hh _ l (Nat.ne_of_lt hlt) (intItems xs), ⟨⟨_, Heap.get?_push_size _ rfl, rfl, rfl⟩, hl.push _⟩, foot_tup hlt, by simpa [intItems] using hne, CmpOf.ints_gt (numAt xs) (fun _ _ => intItems_at), fun v h' tk hP hk => ?_⟩
  exact h v h' tk (by simpa [intItems] using hP) (kept_tup hk)
theorem min_intTup {xs : Array (Int × Tok)} {Q : Value → Shared → Prop} (hh : A.handled = none) (hl : s.heap.IsTuple l (intItems xs)) (hne : 0 < xs.size)
    (h : ∀ v h' tk, (intItems xs)[argBest (fun i j => decide (numAt xs i < numAt xs j)) (xs.size - 1)]? = some v → (∀ b o, s.heap.get? b = some o → h'.get? b = some o) → Q v { s with heap := h', toks := tk }) :
    wpAny (model prog w) A (call (.builtin "min") [.ref l]) Q Ex s := by
  have hlt : l < s.heap.objs.size := by obtain ⟨_, e, _⟩ := hl; exact Heap.lt_size e
  refine call_min_walk (wpAny_pyIter_tuple hl ?_)
  refine ⟨_, _, _, _, _, _, _, rfl, Walks.tuple (A := A.in1) hh _ l (Nat.ne_of_lt hlt) (intItems xs), ⟨⟨_, Heap.get?_push_size _ rfl, rfl, rfl⟩, hl.push _⟩, foot_tup hlt, by simpa [intItems] using hne, CmpOf.ints_lt (numAt xs) (fun _ _ => intItems_at), fun v h' tk hP hk => ?_⟩
  exact h v h' tk (by simpa [intItems] using hP) (kept_tup hk)
theorem max_rawT {its : List Value} {ns : List Int} {Q : Value → Shared → Prop} (hh : A.handled = none) (hl : s.heap.IsTuple l its.toArray) (hi : IntsAre its ns) (hne : 0 < ns.length)
    (h : ∀ h' tk M t', (∀ b o, s.heap.get? b = some o → h'.get? b = some o) → M ∈ ns → (∀ a, a ∈ ns → a ≤ M) → Q (.int M t') { s with heap := h', toks := tk }) : wpAny (model prog w) A (call (.builtin "max") [.ref l]) Q Ex s := by
  obtain ⟨xs, e⟩ := hi.allInts.items
  have hn : numsOf (intItems xs).toList = ns := by rw [← e]; exact hi.numsOf
  rw [nums_intItems] at hn
  subst hn
  rw [e] at hl
  have hsz : 0 < xs.size := by simpa using hne
  refine max_intTup hh hl hsz fun v h' tk hv hk => ?_
  obtain ⟨t, rfl⟩ := intItems_at hv
  obtain ⟨h1, h2⟩ := argBest_gt (numAt xs) (xs.size - 1)
  refine h h' tk _ t hk ?_ fun a ha => ?_
  · rw [numAt_eq]; exact PySem.getD_mem (by rw [List.length_map, Array.length_toList]; omega)
  · obtain ⟨j, hj, rfl⟩ := mem_getD ha
    rw [List.length_map, Array.length_toList] at hj
    rw [← numAt_eq]; exact h2 j (by omega)
theorem min_rawT {its : List Value} {ns : List Int} {Q : Value → Shared → Prop} (hh : A.handled = none) (hl : s.heap.IsTuple l its.toArray) (hi : IntsAre its ns) (hne : 0 < ns.length)
    (h : ∀ h' tk M t', (∀ b o, s.heap.get? b = some o → h'.get? b = some o) → M ∈ ns → (∀ a, a ∈ ns → M ≤ a) → Q (.int M t') { s with heap := h', toks := tk }) : wpAny (model prog w) A (call (.builtin "min") [.ref l]) Q Ex s := by
  obtain ⟨xs, e⟩ := hi.allInts.items
  have hn : numsOf (intItems xs).toList = ns := by rw [← e]; exact hi.numsOf
  rw [nums_intItems] at hn
  subst hn
  rw [e] at hl
  have hsz : 0 < xs.size := by simpa using hne
  refine min_intTup hh hl hsz fun v h' tk hv hk => ?_
  obtain ⟨t, rfl⟩ := intItems_at hv
  obtain ⟨h1, h2⟩ := argBest_lt (numAt xs) (xs.size - 1)
  refine h h' tk _ t hk ?_ fun a ha => ?_
  · rw [numAt_eq]; exact PySem.getD_mem (by rw [List.length_map, Array.length_toList]; omega)
  · obtain ⟨j, hj, rfl⟩ := mem_getD ha
    rw [List.length_map, Array.length_toList] at hj
    rw [← numAt_eq]; exact h2 j (by omega)
end
def rMaxT (K : PySem.W.Frag) : List V → Hp → VK → Prop := fun vs H Q => ∃ (a : Addr) (ns : List Int), vs = [V.ref a] ∧ SqT K H a (ns.map V.int) ∧ 0 < ns.length ∧ ∀ m, m ∈ ns → (∀ y, y ∈ ns → y ≤ m) → Q (.int m) H
def rMinT (K : PySem.W.Frag) : List V → Hp → VK → Prop := fun vs H Q => ∃ (a : Addr) (ns : List Int), vs = [V.ref a] ∧ SqT K H a (ns.map V.int) ∧ 0 < ns.length ∧ ∀ m, m ∈ ns → (∀ y, y ∈ ns → m ≤ y) → Q (.int m) H
theorem cr_maxT (hc : X.calm = true) : CallR X (.builtin "max") (rMaxT X.K) := by
  intro pins s σ H vs us Q I r h
  obtain ⟨a, ns, rfl, hs, hne, q⟩ := h
  obtain ⟨its, rv, hl, _⟩ := I.tuple hs
  rw [Vals.ref1 r]
  exact max_rawT (I.ok.hd hc) hl rv.ints hne fun h' tk m t' hk h1 h2 => ⟨.int _, H, I.kept hk, ⟨_, rfl⟩, q m h1 h2⟩
theorem cr_minT (hc : X.calm = true) : CallR X (.builtin "min") (rMinT X.K) := by
  intro pins s σ H vs us Q I r h
  obtain ⟨a, ns, rfl, hs, hne, q⟩ := h
  obtain ⟨its, rv, hl, _⟩ := I.tuple hs
  rw [Vals.ref1 r]
  exact min_rawT (I.ok.hd hc) hl rv.ints hne fun h' tk m t' hk h1 h2 => ⟨.int _, H, I.kept hk, ⟨_, rfl⟩, q m h1 h2⟩
theorem reps_cons {m : AM} {H : Hp} {d : D} {ds : List D} {vs : List V} (r : reps g m H (d :: ds) vs) : ∃ v us, vs = v :: us ∧ rep g m H d v ∧ reps g m H ds us := by
  simp only [reps] at r
  obtain ⟨v, r', rfl, h1, h2⟩ := r
  exact ⟨v, r', rfl, h1, h2⟩
theorem numax3_int (i j k : Int) : nuMax3 (.int i) (.int j) (.int k) = some (.int (if k > (if j > i then j else i) then k else (if j > i then j else i))) := by
  by_cases c : i < j
  · by_cases c2 : j < k <;> simp [nuMax3, nuMax2, nuLt, nuCB, c, c2]
  · by_cases c2 : i < k <;> simp [nuMax3, nuMax2, nuLt, nuCB, c, c2]
theorem numin3_int (i j k : Int) : nuMin3 (.int i) (.int j) (.int k) = some (.int (if k < (if j < i then j else i) then k else (if j < i then j else i))) := by
  by_cases c : j < i
  · by_cases c2 : k < j <;> simp [nuMin3, nuMin2, nuLt, nuCB, c, c2]
  · by_cases c2 : k < i <;> simp [nuMin3, nuMin2, nuLt, nuCB, c, c2]
@[simp] def maxN : Option (List Int) → HP → R D
  | some ns, h => if 0 < ns.length then .ok (.int (maxL ns)) h else .stuck
  | none, _ => .stuck
@[simp] def maxO : Option (List D) → HP → R D
  | some es, h => maxN (intsD es) h
  | none, _ => .stuck
@[simp] def bMax : List D → HP → R D
  | [.int i, .int j], h => .ok (.int (if j > i then j else i)) h
  | [.int i, .int j, .int k], h => .ok (.int (if k > (if j > i then j else i) then k else (if j > i then j else i))) h
  | [.tup ds], h => maxN (intsD ds) h
  | [x], h => maxO (asL h x) h
  | _, _ => .stuck
theorem CallR.or {f : Value} {r r' : List V → Hp → VK → Prop} (h : CallR X f r) (h' : CallR X f r') : CallR X f (fun xs H Q => r xs H Q ∨ r' xs H Q) := by
  intro pins s σ H xs us Q I rx q
  rcases q with q | q
  · exact h pins s σ H xs us Q I rx q
  · exact h' pins s σ H xs us Q I rx q
theorem cv_max (hK : X.K = g.K) (hc : X.calm = true) : CV X g E (.builtin "max") bMax := by
  refine ⟨_, (call_max2 hc).or ((cr_max hc).or ((call_max3Nu hc).or (cr_maxT hc))), fun m H hp ds vs Q hl r h => ?_⟩
  rw [hK]
  unfold bMax at h
  split at h
  · obtain ⟨v, u, rfl, r1, r2⟩ := reps2 r
    obtain rfl := rInt r1
    obtain rfl := rInt r2
    exact .inl ⟨_, _, rfl, PO.here hl h (by simp [rep])⟩
  · obtain ⟨v, vs1, rfl, r1, r2⟩ := reps_cons r
    obtain ⟨v2, v3, rfl, r2, r3⟩ := reps2 r2
    obtain rfl := rInt r1
    obtain rfl := rInt r2
    obtain rfl := rInt r3
    exact .inr (.inr (.inl ⟨_, _, _, _, rfl, numax3_int _ _ _, PO.here hl h (by simp [rep])⟩))
  · unfold maxN at h
    split at h
    · rename_i ns en
      split at h
      · rename_i c
        obtain ⟨v, rfl, rr⟩ := reps1 r
        obtain ⟨a, us, rfl, hs, rs⟩ := asT_ok rr rfl
        have := intsD_ok rs en
        subst this
        refine .inr (.inr (.inr ⟨a, ns, rfl, hs, c, fun M h1 h2 => ?_⟩))
        obtain ⟨k1, k2⟩ := maxL_mem (ns := ns) (by intro z; subst z; simp at c)
        have e : M = maxL ns := Int.le_antisymm (k2 M h1) (h2 _ k1)
        rw [e]
        exact PO.here hl h (by simp [rep])
      · exact h.elim
    · exact h.elim
  · unfold maxO at h
    split at h
    · rename_i es e
      unfold maxN at h
      split at h
      · rename_i ns en
        split at h
        · rename_i c
          obtain ⟨v, rfl, rr⟩ := reps1 r
          obtain ⟨a, us, rfl, hs, rs⟩ := asL_ok hl rr e
          have := intsD_ok rs en
          subst this
          refine .inr (.inl ⟨a, ns, rfl, hs, c, fun M h1 h2 => ?_⟩)
          obtain ⟨k1, k2⟩ := maxL_mem (ns := ns) (by intro z; subst z; simp at c)
          have e : M = maxL ns := Int.le_antisymm (k2 M h1) (h2 _ k1)
          rw [e]
          exact PO.here hl h (by simp [rep])
        · exact h.elim
      · exact h.elim
    · exact h.elim
  · exact h.elim
@[simp] def minN : Option (List Int) → HP → R D
  | some ns, h => if 0 < ns.length then .ok (.int (minL ns)) h else .stuck
  | none, _ => .stuck
@[simp] def minO : Option (List D) → HP → R D
  | some es, h => minN (intsD es) h
  | none, _ => .stuck
@[simp] def bMin : List D → HP → R D
  | [.int i, .int j], h => .ok (.int (if j < i then j else i)) h
  | [.int i, .int j, .int k], h => .ok (.int (if k < (if j < i then j else i) then k else (if j < i then j else i))) h
  | [.tup ds], h => minN (intsD ds) h
  | [x], h => minO (asL h x) h
  | _, _ => .stuck
theorem cv_min (hK : X.K = g.K) (hc : X.calm = true) : CV X g E (.builtin "min") bMin := by
  refine ⟨_, (call_min2 hc).or ((cr_min hc).or ((call_min3Nu hc).or (cr_minT hc))), fun m H hp ds vs Q hl r h => ?_⟩
  rw [hK]
  unfold bMin at h
  split at h
  · obtain ⟨v, u, rfl, r1, r2⟩ := reps2 r
    obtain rfl := rInt r1
    obtain rfl := rInt r2
    exact .inl ⟨_, _, rfl, PO.here hl h (by simp [rep])⟩
  · obtain ⟨v, vs1, rfl, r1, r2⟩ := reps_cons r
    obtain ⟨v2, v3, rfl, r2, r3⟩ := reps2 r2
    obtain rfl := rInt r1
    obtain rfl := rInt r2
    obtain rfl := rInt r3
    exact .inr (.inr (.inl ⟨_, _, _, _, rfl, numin3_int _ _ _, PO.here hl h (by simp [rep])⟩))
  · unfold minN at h
    split at h
    · rename_i ns en
      split at h
      · rename_i c
        obtain ⟨v, rfl, rr⟩ := reps1 r
        obtain ⟨a, us, rfl, hs, rs⟩ := asT_ok rr rfl
        have := intsD_ok rs en
        subst this
        refine .inr (.inr (.inr ⟨a, ns, rfl, hs, c, fun M h1 h2 => ?_⟩))
        obtain ⟨k1, k2⟩ := minL_mem (ns := ns) (by intro z; subst z; simp at c)
        have e : M = minL ns := Int.le_antisymm (h2 _ k1) (k2 M h1)
        rw [e]
        exact PO.here hl h (by simp [rep])
      · exact h.elim
    · exact h.elim
  · unfold minO at h
    split at h
    · rename_i es e
      unfold minN at h
      split at h
      · rename_i ns en
        split at h
        · rename_i c
          obtain ⟨v, rfl, rr⟩ := reps1 r
          obtain ⟨a, us, rfl, hs, rs⟩ := asL_ok hl rr e
          have := intsD_ok rs en
          subst this
          refine .inr (.inl ⟨a, ns, rfl, hs, c, fun M h1 h2 => ?_⟩)
          obtain ⟨k1, k2⟩ := minL_mem (ns := ns) (by intro z; subst z; simp at c)
          have e : M = minL ns := Int.le_antisymm (h2 _ k1) (k2 M h1)
          rw [e]
          exact PO.here hl h (by simp [rep])
        · exact h.elim
      · exact h.elim
    · exact h.elim
  · exact h.elim
@[simp] def tupO : Option (List D) → HP → R D
  | some es, h => .ok (.tup es) h
  | none, _ => .stuck
@[simp] def bTuple : List D → HP → R D
  | [.tup ds], h => .ok (.tup ds) h
  | [x], h => tupO (asL h x) h
  | _, _ => .stuck
theorem cv_tuple (hK : X.K = g.K) : CV X g E (.type "tuple") bTuple := by
  refine ⟨_, call_tuple_of, fun m H hp ds vs Q hl r h => ?_⟩
  rw [hK]
  unfold bTuple at h
  split at h
  · obtain ⟨v, rfl, rr⟩ := reps1 r
    obtain ⟨a, us, rfl, hs, rs⟩ := rTup rr
    exact ⟨a, us, rfl, .inr ⟨hs, PO.here hl h rr⟩⟩
  · unfold tupO at h
    split at h
    · rename_i es e
      obtain ⟨v, rfl, rr⟩ := reps1 r
      obtain ⟨a, us, rfl, hs, rs⟩ := asL_ok hl rr e
      exact ⟨a, us, rfl, .inl ⟨hs, PO.newT hl rs h⟩⟩
    · exact h.elim
  · exact h.elim
@[simp] def listO (live : Bool) : Option (List D) → HP → R D
  | some es, h => newL live es h
  | none, _ => .stuck
@[simp] def bList (live : Bool) : List D → HP → R D
  | [x], h => listO live (seqD h x) h
  | _, _ => .stuck
theorem cv_list (live : Bool) (hK : X.K = g.K) : CV X g E (.type "list") (bList live) := by
  refine ⟨_, call_list_of, fun m H hp ds vs Q hl r h => ?_⟩
  rw [hK]
  unfold bList at h
  split at h
  · unfold listO at h
    split at h
    · rename_i es e
      obtain ⟨v, rfl, rr⟩ := reps1 r
      obtain ⟨a, us, rfl, hs, rs⟩ := seqD_ok hl rr e
      exact ⟨a, us, rfl, hs, (PO.newL hl rs h).2⟩
    · exact h.elim
  · exact h.elim
/-- isqrt, for numbers below 2 ^ 6000 -/
@[simp] def bIsqrt : List D → HP → R D
  | [.int i], h => if 0 ≤ i ∧ i.toNat.log2 < 6000 then .ok (.int ((Float64.isqrt i.toNat : Nat) : Int)) h else .stuck
  | _, _ => .stuck
theorem cr_isqrt : CallR X (.builtin "math.isqrt") (fun xs H Q => ∃ i : Int, xs = [.int i] ∧ 0 ≤ i ∧ i.toNat.log2 < 6000 ∧ Q (.int ((Float64.isqrt i.toNat : Nat) : Int)) H) := by
  intro pins s σ H xs us Q I r h
  obtain ⟨i, rfl, h0, h1, q⟩ := h
  obtain ⟨u, rfl, t, rfl⟩ := vals1 r
  exact call_function_meets PySem.W.MGF.kind_isqrt PySem.W.MGF.plain_isqrt PySem.W.MGF.entry_isqrt (PySem.W.MGF.args_isqrt _) (PySem.W.mg_run_isqrt i t (by omega) (by omega) (by omega)).meets ⟨.int _, H, I.tok _, ⟨_, rfl⟩, q⟩
theorem cv_isqrt : CV X g E (.builtin "math.isqrt") bIsqrt := by
  refine ⟨_, cr_isqrt, fun m H hp ds vs Q hl r h => ?_⟩
  unfold bIsqrt at h
  split at h
  · split at h
    · rename_i c
      obtain ⟨v, rfl, rr⟩ := reps1 r
      obtain rfl := rInt rr
      exact ⟨_, rfl, c.1, c.2, PO.here hl h (by simp [rep])⟩
    · exact h.elim
  · exact h.elim
/-! isinstance of a built-in type -/
@[simp] def tyO : Option O → Option String
  | some (.lst _) => some "list"
  | some (.dic _) => some "dict"
  | _ => none
@[simp] def tyD (h : HP) : D → Option String
  | .non => some "NoneType"
  | .bl _ => some "bool"
  | .int _ => some "int"
  | .str _ => some "str"
  | .tup _ => some "tuple"
  | .lst _ => some "list"
  | .dic _ => some "dict"
  | .ref n => tyO h[n]?
  | _ => none
theorem tyD_ok {m : AM} {H : Hp} {hp : HP} {d : D} {v : V} {T : String} (hl : HL g m H hp) (r : rep g m H d v) (e : tyD hp d = some T) : TyX g.K H v (.type T) := by
  cases d with
  | non => cases e; simp only [rep] at r; subst r; exact .base .non
  | bl b => cases e; simp only [rep] at r; subst r; exact .base (.bl b)
  | int b => cases e; simp only [rep] at r; subst r; exact .base (.int b)
  | str b => cases e; simp only [rep] at r; subst r; exact .base (.str b)
  | tup ds =>
    cases e
    simp only [rep] at r
    obtain ⟨a, vs, rfl, f, _⟩ := r
    rcases f with ⟨f | ⟨o, f⟩, _⟩ | ⟨o, its, n, k1, k2, _⟩
    · exact .base (.tup f)
    · exact .fTuple f
    · exact .kTuple k1 k2
  | lst ds =>
    cases e
    simp only [rep] at r
    obtain ⟨a, vs, rfl, f, _⟩ := r
    exact .base (.lst f)
  | klst ds => cases e
  | dic ds =>
    cases e
    simp only [rep] at r
    obtain ⟨a, vs, rfl, f, _⟩ := r
    exact .base (.dK f)
  | set ks => cases e
  | ins c fs => cases e
  | ref n =>
    simp only [tyD] at e
    simp only [rep] at r
    unfold tyO at e
    split at e
    · rename_i ds q
      cases e
      obtain ⟨a, ea, vs, ha, _⟩ := hl.at q (by simp)
      rw [r.2 a ea]
      exact .base (.lst ha)
    · rename_i ds q
      cases e
      obtain ⟨a, ea, vs, ha, _⟩ := hl.at q (by simp)
      rw [r.2 a ea]
      exact .base (.dK ha)
    · cases e
@[simp] def isiB : Option Bool → HP → R D
  | some b, h => .ok (.bl b) h
  | none, _ => .stuck
@[simp] def isiO (T : String) : Option String → HP → R D
  | some S, h => isiB (kitB S T) h
  | none, _ => .stuck
@[simp] def kIsi (T : String) (x : D) (h : HP) : R D := isiO T (tyD h x) h
@[simp] def mIsi (T : String) (a : M D) (env : EN) (hp : HP) : R D := (a env hp).bind (kIsi T)
theorem pe_bty {x : Str} {T : String} {pos : Pos} (hg : Gl X x) (hm : X.mg x = none) (hv : bootBuiltins x = some (.type T)) (hn : x ≠ "__name__") (hd : (x == ("__debug__" : Str)) = false) : PE X (.Name x pos) (tC (.ty T)) := pe_bltn (v := .ty T) hg hm hv rfl hn hd
theorem EV.isi {T : String} {t isi : Str} {a : Expr} {p p2 pos : Pos} {fa : M D} (hK : X.K = g.K) (he0 : isi = "isinstance") (hm : X.mg isi = none) (hmt : X.mg t = none) (ha : EV g X E a fa) (hg : Gl X isi) (hgt : Gl X t) (hv : bootBuiltins t = some (.type T)) (hn : t ≠ "__name__") (hd : (t == ("__debug__" : Str)) = false)
    (he : starEach [a, .Name t p2] X.env = (false, eval a X.env) :: starEach [.Name t p2] X.env) : EV g X E (.Call (.Name isi p) [a, .Name t p2] [] pos) (mIsi T fa) := by
  subst he0
  obtain ⟨ta, pa, qa⟩ := ha
  refine ⟨_, pe_callB call_isi hg hm (by decide +kernel) (pa_cons pa (pa_cons (pe_bty hgt hmt hv hn hd) pa_nil rfl) he) (by decide) (by decide) he rfl, fun σ H Q m env hp hl er h => ?_⟩
  refine qa σ H _ m env hp hl er (PO.bind h fun x h1 m1 H1 v x1 hl1 r1 h => ?_)
  rw [hK]
  unfold kIsi isiO at h
  split at h
  · rename_i S e
    unfold isiB at h
    split at h
    · rename_i b eb
      exact ⟨v, .ty T, .type S, .type T, b, rfl, .ty T, tyD_ok hl1 r1 e, kit_ty eb, PO.here hl1 h (by simp [rep])⟩
    · exact h.elim
  · exact h.elim
end
end Ev
namespace Ev
open PySem PySem.Spec PyProof.Rows L2
section
variable {g : G} {X : Cx} {E : XK}

/-! ### targets -/
abbrev TF := D → EN → HP → Option EN
abbrev TFs := List D → EN → HP → Option EN
/-- the slots at `is` may be turned, the others stay -/
def Turned (is : List Nat) (σ σ' : L2.St) : Prop := σ'.length = σ.length ∧ ∀ j, j ∉ is → σ'[j]? = σ[j]?
theorem Turned.refl (is : List Nat) (σ : L2.St) : Turned is σ σ := ⟨rfl, fun _ _ => rfl⟩
theorem Turned.trans {is : List Nat} {a b c : L2.St} (x : Turned is a b) (y : Turned is b c) : Turned is a c := ⟨y.1.trans x.1, fun j h => (y.2 j h).trans (x.2 j h)⟩
theorem Turned.mono {is js : List Nat} {a b : L2.St} (x : Turned is a b) (h : ∀ i ∈ is, i ∈ js) : Turned js a b := ⟨x.1, fun j hj => x.2 j fun z => hj (h j z)⟩
structure GV (g : G) (X : Cx) (tg : Expr) (is : List Nat) (f : TF) : Prop where
  ex : ∃ t, PG X tg t ∧ ∀ v σ H Q m env hp d, HL g m H hp → ER g m H σ env → rep g m H d v → (∃ env', f d env hp = some env' ∧ ∀ σ', Turned is σ σ' → ER g m H σ' env' → Q σ' H) → t v σ H Q
structure GVs (g : G) (X : Cx) (tgs : List Expr) (is : List Nat) (f : TFs) : Prop where
  ex : ∃ t, PGs X tgs t ∧ ∀ vs σ H Q m env hp ds, HL g m H hp → ER g m H σ env → reps g m H ds vs → (∃ env', f ds env hp = some env' ∧ ∀ σ', Turned is σ σ' → ER g m H σ' env' → Q σ' H) → t vs σ H Q
theorem ER.set {m : AM} {H : Hp} {σ : L2.St} {env : EN} {i : Nat} {d : D} {v : V} (er : ER g m H σ env) (r : rep g m H d v) : ER g m H (σ.set i (some v)) (env.set i (some d)) := by
  refine ⟨by simp [er.len], fun j e h => ?_⟩
  by_cases hj : i = j
  · subst hj
    rw [List.getElem?_set_self'] at h
    cases q : env[i]? with
    | none => rw [q] at h; cases h
    | some z =>
      rw [q] at h
      cases h
      have : i < σ.length := by rw [er.len]; exact (List.getElem?_eq_some_iff.mp q).1
      exact ⟨v, by rw [List.getElem?_set_self this], r⟩
  · rw [List.getElem?_set_ne hj] at h
    obtain ⟨w, e1, r1⟩ := er.at_ j e h
    exact ⟨w, by rw [List.getElem?_set_ne hj]; exact e1, r1⟩
@[simp] def gNm (i : Nat) (d : D) (env : EN) (_ : HP) : Option EN := some (env.set i (some d))
theorem GV.name {i : Nat} {x : Str} {pos : Pos} (hN : X.N.Nodup) (hi : X.N[i]? = some x) (hx : Loc X.env.scope x) (hf : X.fn x = true ∨ X.env.scope.names.lookup x = some .local) : GV g X (.Name x pos) [i] (gNm i) := by
  refine ⟨_, pg_name hN hi hx hf, fun v σ H Q m env hp d hl er r ⟨env', e, h⟩ => ?_⟩
  cases e
  refine h _ ⟨by simp, fun j hj => ?_⟩ (er.set r)
  rw [List.getElem?_set_ne (by intro z; subst z; simp at hj)]
@[simp] def gsNil : List D → EN → HP → Option EN
  | [], env, _ => some env
  | _, _, _ => none
@[simp] def gsK (fs : TFs) (ds : List D) (h : HP) : Option EN → Option EN
  | some env => fs ds env h
  | none => none
@[simp] def gsCons (f : TF) (fs : TFs) : List D → EN → HP → Option EN
  | d :: ds, env, h => gsK fs ds h (f d env h)
  | [], _, _ => none
theorem GVs.nil {is : List Nat} : GVs g X [] is gsNil := by
  refine ⟨_, pgs_nil, fun vs σ H Q m env hp ds hl er r ⟨env', e, h⟩ => ?_⟩
  cases ds with
  | nil =>
    cases e
    simp only [reps] at r
    exact ⟨r, h σ (.refl _ _) er⟩
  | cons _ _ => cases e
theorem GVs.cons {t : Expr} {ts : List Expr} {is js ks : List Nat} {f : TF} {fs : TFs} (h1 : GV g X t is f) (h2 : GVs g X ts js fs) (hi : ∀ i ∈ is, i ∈ ks) (hj : ∀ i ∈ js, i ∈ ks) (hs : (assignEach (t :: ts) X.env).map (·.2) = assign t X.env :: (assignEach ts X.env).map (·.2)) : GVs g X (t :: ts) ks (gsCons f fs) := by
  obtain ⟨ta, pa, qa⟩ := h1
  obtain ⟨tb, pb, qb⟩ := h2
  refine ⟨_, pgs_cons pa pb hs, fun vs σ H Q m env hp ds hl er r ⟨env', e, h⟩ => ?_⟩
  cases ds with
  | nil => cases e
  | cons d ds =>
    simp only [reps] at r
    obtain ⟨v, vr, rfl, r1, r2⟩ := r
    simp only [gsCons] at e
    obtain ⟨env1, e1, e2⟩ : ∃ env1, f d env hp = some env1 ∧ fs ds env1 hp = some env' := by
      revert e
      cases f d env hp with
      | some z => exact fun e => ⟨z, rfl, e⟩
      | none => exact fun e => by cases e
    refine ⟨v, vr, rfl, qa v σ H _ m env hp d hl er r1 ⟨env1, e1, fun σ' t' er' => ?_⟩⟩
    exact qb vr σ' H Q m env1 hp ds hl er' r2 ⟨env', e2, fun σ2 t2 er2 => h σ2 ((t'.mono hi).trans (t2.mono hj)) er2⟩
@[simp] def gTp (n : Nat) (fs : TFs) : D → EN → HP → Option EN
  | .tup ds, env, h => if ds.length = n then fs ds env h else none
  | _, _, _ => none
theorem GV.tup {es : List Expr} {k n : Nat} {pos : Pos} {is : List Nat} {fs : TFs} (hK : X.K = g.K) (hc : X.calm = true) (h : GVs g X es is fs) (hn : (assignEach es X.env).length = n) (hst : (assignEach es X.env).findIdx? (·.1) = none) : GV g X (.Tuple es k pos) is (gTp n fs) := by
  obtain ⟨t, p, q⟩ := h
  refine ⟨_, pg_tup hc p hn hst, fun v σ H Q m env hp d hl er r ⟨env', e, h⟩ => ?_⟩
  rw [hK]
  cases d with
  | tup ds =>
    simp only [gTp] at e
    split at e
    · rename_i c
      obtain ⟨a, vs, rfl, hs, rs⟩ := rTup r
      exact ⟨a, vs, rfl, hs, by rw [← reps.length rs]; exact c, q vs σ H Q m env hp ds hl er rs ⟨env', e, h⟩⟩
    · cases e
  | _ => cases e

/-! ### what is walked -/
/-- the items, and the live lists that must stay while they are walked -/
abbrev GdL := List (Nat × List D)
abbrev IM := EN → HP → R (List D × GdL)
def Gd (gd : GdL) (hp : HP) : Prop := ∀ p ∈ gd, hp[p.1]? = some (.lst p.2)
/-- the iterator J gives the items while the guard holds -/
structure Foll (g : G) (m0 : AM) (H0 : Hp) (J : It) (items : List D) (gd : GdL) : Prop where
  go : ∀ i m H hp, i < items.length → Ex m0 H0 m H → HL g m H hp → Gd gd hp → J.go i H
  yld : ∀ i m H hp x H', i < items.length → Ex m0 H0 m H → HL g m H hp → Gd gd hp → J.yld i H x H' → ∃ d, items[i]? = some d ∧ Ex m H m H' ∧ HL g m H' hp ∧ rep g m H' d x
  stop : ∀ m H hp, Ex m0 H0 m H → HL g m H hp → Gd gd hp → J.stop items.length H
def IPO (g : G) (m : AM) (H : Hp) (E : XK) (Rr : It → Hp → Prop) : R (List D × GdL) → Prop
  | .ok d hp' => ∀ m' H' J, Ex m H m' H' → HL g m' H' hp' → Foll g m' H' J d.1 d.2 → Rr J H'
  | .exc c fs hp' => ∀ m' H' d ws, Ex m H m' H' → HL g m' H' hp' → H' d = some (.xd ws) → some d ∉ m' → repf g m' H' fs ws → E (.ref (g.cA c)) (some d) H'
  | .stuck => False
structure IV (g : G) (X : Cx) (E : XK) (tg it : Expr) (f : IM) : Prop where
  ex : ∃ wi, PI X tg it wi ∧ ∀ σ H Rr m env hp, HL g m H hp → ER g m H σ env → IPO g m H E Rr (f env hp) → wi σ H Rr
theorem IPO.bind {α β : Type} {m : AM} {H : Hp} {rp : AM → Hp → α → β → Prop} {Rr : It → Hp → Prop} {Q : β → Hp → Prop} {r : R α} {f : α → HP → R (List D × GdL)}
    (h : IPO g m H E Rr (r.bind f)) (k : ∀ d hp' m' H' v, Ex m H m' H' → HL g m' H' hp' → rp m' H' d v → IPO g m' H' E Rr (f d hp') → Q v H') : PO g m H E rp Q r := by
  cases r with
  | ok d hp' =>
    intro m' H' v x hl rv
    refine k d hp' m' H' v x hl rv ?_
    simp only [R.bind] at h
    revert h
    cases f d hp' with
    | ok e h2 => exact fun h m2 H2 w x2 hl2 r2 => h m2 H2 w (x.trans x2) hl2 r2
    | exc c fs h2 => exact fun h m2 H2 d2 ws x2 hl2 e2 n2 r2 => h m2 H2 d2 ws (x.trans x2) hl2 e2 n2 r2
    | stuck => exact fun h => h
  | exc c fs hp' => exact h
  | stuck => exact h
/-- a list as a source -/
@[simp] def lviewO (n : Nat) : Option O → Option (List D × GdL)
  | some (.lst ds) => some (ds, [(n, ds)])
  | _ => none
@[simp] def lview (h : HP) : D → Option (List D × GdL)
  | .lst ds => some (ds, [])
  | .klst ds => some (ds, [])
  | .ref n => lviewO n h[n]?
  | _ => none
def LSrc (g : G) (m0 : AM) (H0 : Hp) (a : Addr) (ds : List D) (gd : GdL) : Prop := ∀ m H hp, Ex m0 H0 m H → HL g m H hp → Gd gd hp → ∃ vs, SqL g.K H a vs ∧ reps g m H ds vs
def TSrc (g : G) (m0 : AM) (H0 : Hp) (a : Addr) (ds : List D) : Prop := ∀ m H, Ex m0 H0 m H → ∃ vs, SqT g.K H a vs ∧ reps g m H ds vs
theorem lview_ok {m : AM} {H : Hp} {hp : HP} {d : D} {v : V} {p : List D × GdL} (hl : HL g m H hp) (r : rep g m H d v) (e : lview hp d = some p) : ∃ a, v = .ref a ∧ LSrc g m H a p.1 p.2 ∧ Gd p.2 hp := by
  cases d with
  | lst ds =>
    cases e
    simp only [rep] at r
    obtain ⟨a, vs, rfl, f, k, rs⟩ := r
    exact ⟨a, rfl, fun m2 H2 hp2 x _ _ => ⟨vs, .of (x.fz _ _ f k).1, reps.ext x _ _ rs⟩, fun p hp => by cases hp⟩
  | klst ds =>
    cases e
    simp only [rep] at r
    obtain ⟨a, vs, rfl, f, rs⟩ := r
    exact ⟨a, rfl, fun m2 H2 hp2 x _ _ => ⟨vs, (f.ext x).sq, reps.ext x _ _ rs⟩, fun p hp => by cases hp⟩
  | ref n =>
    simp only [lview] at e
    unfold lviewO at e
    split at e
    · rename_i ds q
      cases e
      simp only [rep] at r
      obtain ⟨a, ea, vs, ha, rs⟩ := hl.at q (by simp)
      refine ⟨a, r.2 a ea, fun m2 H2 hp2 x hl2 gd => ?_, fun p hp => ?_⟩
      · obtain ⟨b, eb, us, hb, rr⟩ := hl2.at (gd (n, ds) (List.mem_singleton.mpr rfl)) (by simp)
        have := x.mp n b eb r.1
        rw [ea] at this
        cases this
        exact ⟨us, .of hb, rr⟩
      · cases List.mem_singleton.mp hp
        exact q
    · cases e
  | _ => cases e
theorem tview_ok {m : AM} {H : Hp} {ds : List D} {v : V} (r : rep g m H (.tup ds) v) : ∃ a, v = .ref a ∧ TSrc g m H a ds := by
  simp only [rep] at r
  obtain ⟨a, vs, rfl, f, rs⟩ := r
  exact ⟨a, rfl, fun m2 H2 x => ⟨vs, (f.ext x).sq, reps.ext x _ _ rs⟩⟩
@[simp] def seqO : Option (List D × GdL) → HP → R (List D × GdL)
  | some p, h => .ok p h
  | none, _ => .stuck
@[simp] def kSeq (x : D) (h : HP) : R (List D × GdL) := seqO (lview h x) h
@[simp] def iSeq (a : M D) (env : EN) (hp : HP) : R (List D × GdL) := (a env hp).bind kSeq
@[simp] def kTupS : D → HP → R (List D × GdL)
  | .tup ds, h => .ok (ds, []) h
  | _, _ => .stuck
@[simp] def iTupS (a : M D) (env : EN) (hp : HP) : R (List D × GdL) := (a env hp).bind kTupS
theorem foll_list {m0 : AM} {H0 : Hp} {a : Addr} {ds : List D} {gd : GdL} (s : LSrc g m0 H0 a ds gd) : Foll g m0 H0 (Itl g.K a) ds gd := by
  refine ⟨fun i m H hp hi x hl gd => ?_, fun i m H hp v H' hi x hl gd y => ?_, fun m H hp x hl gd => ?_⟩
  · obtain ⟨vs, s, rr⟩ := s m H hp x hl gd
    obtain ⟨w, ew, _⟩ := rr.get (List.getElem?_eq_getElem hi)
    exact ⟨vs, w, s, ew⟩
  · obtain ⟨vs, s, rr⟩ := s m H hp x hl gd
    obtain ⟨e, y⟩ := y
    subst e
    obtain ⟨w, ew, rw'⟩ := rr.get (List.getElem?_eq_getElem hi)
    have := y vs s
    rw [ew] at this
    cases this
    exact ⟨_, List.getElem?_eq_getElem hi, .refl _ _, hl, rw'⟩
  · obtain ⟨vs, s, rr⟩ := s m H hp x hl gd
    exact ⟨vs, s, by rw [reps.length rr]; exact Nat.le_refl _⟩
theorem foll_tup {m0 : AM} {H0 : Hp} {a : Addr} {ds : List D} (s : TSrc g m0 H0 a ds) : Foll g m0 H0 (Itt g.K a) ds [] := by
  refine ⟨fun i m H hp hi x hl gd => ?_, fun i m H hp v H' hi x hl gd y => ?_, fun m H hp x hl gd => ?_⟩
  · obtain ⟨vs, s, rr⟩ := s m H x
    obtain ⟨w, ew, _⟩ := rr.get (List.getElem?_eq_getElem hi)
    exact ⟨vs, w, s, ew⟩
  · obtain ⟨vs, s, rr⟩ := s m H x
    obtain ⟨e, y⟩ := y
    subst e
    obtain ⟨w, ew, rw'⟩ := rr.get (List.getElem?_eq_getElem hi)
    have := y vs s
    rw [ew] at this
    cases this
    exact ⟨_, List.getElem?_eq_getElem hi, .refl _ _, hl, rw'⟩
  · obtain ⟨vs, s, rr⟩ := s m H x
    exact ⟨vs, s, by rw [reps.length rr]; exact Nat.le_refl _⟩
def zipD (xs ys : List D) : List D := List.zipWith (fun a b => .tup [a, b]) xs ys
theorem new_pair {m : AM} {H : Hp} {hp : HP} {T : Addr} {x y : V} {a b : D} (hl : HL g m H hp) (np : H T = none) (ra : rep g m H a x) (rb : rep g m H b y) :
    Ex m H m (upd H T (.tup [x, y])) ∧ HL g m (upd H T (.tup [x, y])) hp ∧ rep g m (upd H T (.tup [x, y])) (.tup [a, b]) (.ref T) := by
  obtain ⟨x', hl2, pm⟩ := hl.new (o := .tup [x, y]) np
  refine ⟨x', hl2, ?_⟩
  simp only [rep]
  refine ⟨T, [x, y], rfl, .inl ⟨.inl upd_same, pm⟩, ?_⟩
  simp only [reps]
  exact ⟨x, [y], rfl, rep.ext x' _ _ ra, y, [], rfl, rep.ext x' _ _ rb, rfl⟩
theorem zip_at {xs ys : List D} {i : Nat} (h : i < (zipD xs ys).length) : ∃ (h1 : i < xs.length) (h2 : i < ys.length), (zipD xs ys)[i]? = some (.tup [xs[i], ys[i]]) := by
  have h' := h
  simp only [zipD, List.length_zipWith] at h'
  refine ⟨by omega, by omega, ?_⟩
  rw [List.getElem?_eq_getElem h]
  simp [zipD]
theorem foll_zip {m0 : AM} {H0 : Hp} {a b : Addr} {xs ys : List D} {gd gd' : GdL} (s : LSrc g m0 H0 a xs gd) (s' : LSrc g m0 H0 b ys gd') : Foll g m0 H0 (Itz g.K a b) (zipD xs ys) (gd ++ gd') := by
  have q : ∀ {m H hp}, Ex m0 H0 m H → HL g m H hp → Gd (gd ++ gd') hp → (∃ vs, SqL g.K H a vs ∧ reps g m H xs vs) ∧ ∃ us, SqL g.K H b us ∧ reps g m H ys us := fun x hl h =>
    ⟨s _ _ _ x hl fun p hp => h p (List.mem_append_left _ hp), s' _ _ _ x hl fun p hp => h p (List.mem_append_right _ hp)⟩
  refine ⟨fun i m H hp hi x hl gd => ?_, fun i m H hp v H' hi x hl gd y => ?_, fun m H hp x hl gd => ?_⟩
  · obtain ⟨⟨vs, s1, r1⟩, us, s2, r2⟩ := q x hl gd
    obtain ⟨h1, h2, _⟩ := zip_at hi
    obtain ⟨w, ew, _⟩ := r1.get (List.getElem?_eq_getElem h1)
    obtain ⟨w2, ew2, _⟩ := r2.get (List.getElem?_eq_getElem h2)
    exact ⟨vs, us, w, w2, s1, s2, ew, ew2⟩
  · obtain ⟨⟨vs, s1, r1⟩, us, s2, r2⟩ := q x hl gd
    obtain ⟨h1, h2, e⟩ := zip_at hi
    obtain ⟨T, x1, y1, rfl, nT, rfl, k1, k2⟩ := y
    obtain ⟨w, ew, rw1⟩ := r1.get (List.getElem?_eq_getElem h1)
    obtain ⟨w2, ew2, rw2⟩ := r2.get (List.getElem?_eq_getElem h2)
    have z1 := k1 vs s1
    have z2 := k2 us s2
    rw [ew] at z1
    rw [ew2] at z2
    cases z1
    cases z2
    obtain ⟨x', hl2, rr⟩ := new_pair hl nT rw1 rw2
    exact ⟨_, e, x', hl2, rr⟩
  · obtain ⟨⟨vs, s1, r1⟩, us, s2, r2⟩ := q x hl gd
    refine ⟨vs, us, s1, s2, ?_⟩
    simp only [zipD, List.length_zipWith]
    rw [← reps.length r1, ← reps.length r2]
    omega
theorem foll_zipT {m0 : AM} {H0 : Hp} {a b : Addr} {xs ys : List D} (s : TSrc g m0 H0 a xs) (s' : TSrc g m0 H0 b ys) : Foll g m0 H0 (RZ.ItzT g.K a b) (zipD xs ys) [] := by
  refine ⟨fun i m H hp hi x hl gd => ?_, fun i m H hp v H' hi x hl gd y => ?_, fun m H hp x hl gd => ?_⟩
  · obtain ⟨vs, s1, r1⟩ := s _ _ x
    obtain ⟨us, s2, r2⟩ := s' _ _ x
    obtain ⟨h1, h2, _⟩ := zip_at hi
    obtain ⟨w, ew, _⟩ := r1.get (List.getElem?_eq_getElem h1)
    obtain ⟨w2, ew2, _⟩ := r2.get (List.getElem?_eq_getElem h2)
    exact ⟨vs, us, w, w2, s1, s2, ew, ew2⟩
  · obtain ⟨vs, s1, r1⟩ := s _ _ x
    obtain ⟨us, s2, r2⟩ := s' _ _ x
    obtain ⟨h1, h2, e⟩ := zip_at hi
    obtain ⟨T, x1, y1, rfl, nT, rfl, k1, k2⟩ := y
    obtain ⟨w, ew, rw1⟩ := r1.get (List.getElem?_eq_getElem h1)
    obtain ⟨w2, ew2, rw2⟩ := r2.get (List.getElem?_eq_getElem h2)
    have z1 := k1 vs s1
    have z2 := k2 us s2
    rw [ew] at z1
    rw [ew2] at z2
    cases z1
    cases z2
    obtain ⟨x', hl2, rr⟩ := new_pair hl nT rw1 rw2
    exact ⟨_, e, x', hl2, rr⟩
  · obtain ⟨vs, s1, r1⟩ := s _ _ x
    obtain ⟨us, s2, r2⟩ := s' _ _ x
    refine ⟨vs, us, s1, s2, ?_⟩
    simp only [zipD, List.length_zipWith]
    rw [← reps.length r1, ← reps.length r2]
    omega
theorem IV.seq {tg e : Expr} {f : M D} (hK : X.K = g.K) (h : EV g X E e f) : IV g X E tg e (iSeq f) := by
  obtain ⟨t, p, q⟩ := h
  refine ⟨_, pi_list p, fun σ H Rr m env hp hl er h => ?_⟩
  refine q σ H _ m env hp hl er (IPO.bind h fun x h1 m1 H1 v x1 hl1 r1 h => ?_)
  rw [hK]
  unfold kSeq seqO at h
  split at h
  · rename_i p e
    obtain ⟨a, rfl, s, gd⟩ := lview_ok hl1 r1 e
    obtain ⟨vs, sq, _⟩ := s _ _ _ (.refl _ _) hl1 gd
    exact ⟨a, rfl, ⟨vs, sq⟩, h m1 H1 _ (.refl _ _) hl1 (foll_list s)⟩
  · exact h.elim
theorem IV.tupS {tg e : Expr} {f : M D} (hK : X.K = g.K) (h : EV g X E e f) : IV g X E tg e (iTupS f) := by
  obtain ⟨t, p, q⟩ := h
  refine ⟨_, pi_tup p, fun σ H Rr m env hp hl er h => ?_⟩
  refine q σ H _ m env hp hl er (IPO.bind h fun x h1 m1 H1 v x1 hl1 r1 h => ?_)
  rw [hK]
  cases x with
  | tup ds =>
    obtain ⟨a, rfl, s⟩ := tview_ok r1
    obtain ⟨vs, sq, _⟩ := s _ _ (.refl _ _)
    exact ⟨a, rfl, ⟨vs, sq⟩, h m1 H1 _ (.refl _ _) hl1 (foll_tup s)⟩
  | _ => exact h.elim
/-- range(n), range(a, b) -/
def rngD (lo : Int) (n : Nat) : List D := (List.range n).map fun i => .int (lo + (i : Nat))
theorem rngD_len (lo : Int) (n : Nat) : (rngD lo n).length = n := by simp [rngD]
theorem foll_range {m0 : AM} {H0 : Hp} {lo : Int} {n : Nat} : Foll g m0 H0 (Itr lo n) (rngD lo n) [] := by
  refine ⟨fun i m H hp hi x _ _ => by rw [rngD_len] at hi; exact hi, fun i m H hp v H' hi x hl' _ y => ?_, fun m H hp x _ _ => by rw [rngD_len]; exact Nat.le_refl _⟩
  obtain ⟨e, y⟩ := y
  subst e
  subst y
  rw [rngD_len] at hi
  exact ⟨.int (lo + (i : Nat)), by simp [rngD, hi], .refl _ _, hl', by simp [rep]⟩
/-- a range's bounds -/
def Rg (n : Int) : Prop := -(2 ^ 62) ≤ n ∧ n < 2 ^ 62
open Classical in
@[simp] noncomputable def kRange1 : List D → HP → R (List D × GdL)
  | [.int n], h => if Rg n then .ok (rngD 0 n.toNat, []) h else .stuck
  | _, _ => .stuck
@[simp] noncomputable def iRange1 (a : M (List D)) (env : EN) (hp : HP) : R (List D × GdL) := (a env hp).bind kRange1
open Classical in
@[simp] noncomputable def kRange2 : List D → HP → R (List D × GdL)
  | [.int i, .int j], h => if Rg i ∧ Rg j then .ok (rngD i (j - i).toNat, []) h else .stuck
  | _, _ => .stuck
@[simp] noncomputable def iRange2 (a : M (List D)) (env : EN) (hp : HP) : R (List D × GdL) := (a env hp).bind kRange2
theorem IV.range1 {tg a : Expr} {p pos : Pos} {f : M (List D)} (hm : X.mg "range" = none) (h : AV g X E [a] f) (hg : Gl X "range") (hs : starEach [a] X.env = [(false, eval a X.env)]) : IV g X E tg (.Call (.Name "range" p) [a] [] pos) (iRange1 f) := by
  obtain ⟨t, p, q⟩ := h
  refine ⟨_, pi_range1 hg hm p hs, fun σ H Rr m env hp hl er h => ?_⟩
  refine q σ H _ m env hp hl er (IPO.bind h fun xs h1 m1 H1 vs x1 hl1 r1 h => ?_)
  unfold kRange1 at h
  split at h
  · split at h
    · rename_i c
      obtain ⟨v, rfl, rr⟩ := reps1 r1
      obtain rfl := rInt rr
      exact ⟨_, rfl, c.1, c.2, h m1 H1 _ (.refl _ _) hl1 foll_range⟩
    · exact h.elim
  · exact h.elim
theorem IV.range2 {tg a b : Expr} {p pos : Pos} {f : M (List D)} (hm : X.mg "range" = none) (h : AV g X E [a, b] f) (hg : Gl X "range") (hs : starEach [a, b] X.env = [(false, eval a X.env), (false, eval b X.env)]) (hs2 : starEach [b] X.env = [(false, eval b X.env)]) : IV g X E tg (.Call (.Name "range" p) [a, b] [] pos) (iRange2 f) := by
  obtain ⟨t, p, q⟩ := h
  refine ⟨_, pi_range2 hg hm p hs hs2, fun σ H Rr m env hp hl er h => ?_⟩
  refine q σ H _ m env hp hl er (IPO.bind h fun xs h1 m1 H1 vs x1 hl1 r1 h => ?_)
  unfold kRange2 at h
  split at h
  · split at h
    · rename_i c
      obtain ⟨v, u, rfl, rr, rr2⟩ := reps2 r1
      obtain rfl := rInt rr
      obtain rfl := rInt rr2
      exact ⟨_, _, rfl, ⟨c.1.1, c.1.2, c.2.1, c.2.2⟩, h m1 H1 _ (.refl _ _) hl1 foll_range⟩
    · exact h.elim
  · exact h.elim
/-- zip(a, b): two lists, or two tuples -/
@[simp] def zipO : Option (List D × GdL) → Option (List D × GdL) → HP → R (List D × GdL)
  | some p, some q, h => .ok (zipD p.1 q.1, p.2 ++ q.2) h
  | _, _, _ => .stuck
@[simp] def kZip2 : List D → HP → R (List D × GdL)
  | [.tup ds, .tup es], h => .ok (zipD ds es, []) h
  | [x, y], h => zipO (lview h x) (lview h y) h
  | _, _ => .stuck
@[simp] def iZip2 (a : M (List D)) (env : EN) (hp : HP) : R (List D × GdL) := (a env hp).bind kZip2
theorem IV.zip {e e2 : Expr} {p pos tpos : Pos} {elts : List Expr} {kk : Nat} {f : M (List D)} (hK : X.K = g.K) (hm : X.mg "zip" = none) (h : AV g X E [e, e2] f) (hg : Gl X "zip")
    (hs : starEach [e, e2] X.env = (false, eval e X.env) :: starEach [e2] X.env) (hpl : (backTo pos (starEach [e2] X.env)).any (·.1) = false) : IV g X E (.Tuple elts kk tpos) (.Call (.Name "zip" p) [e, e2] [] pos) (iZip2 f) := by
  obtain ⟨t, p, q⟩ := h
  refine ⟨_, RZ.pi_zipA hg hm p hs hpl, fun σ H Rr m env hp hl er h => ?_⟩
  refine q σ H _ m env hp hl er (IPO.bind h fun xs h1 m1 H1 vs x1 hl1 r1 h => ?_)
  rw [hK]
  unfold kZip2 at h
  split at h
  · obtain ⟨v, u, rfl, rr, rr2⟩ := reps2 r1
    obtain ⟨a, rfl, s⟩ := tview_ok rr
    obtain ⟨b, rfl, s'⟩ := tview_ok rr2
    obtain ⟨vs, sq, _⟩ := s _ _ (.refl _ _)
    obtain ⟨us, sq', _⟩ := s' _ _ (.refl _ _)
    exact ⟨a, b, vs, us, rfl, .inr ⟨sq, sq', h m1 H1 _ (.refl _ _) hl1 (foll_zipT s s')⟩⟩
  · unfold zipO at h
    split at h
    · rename_i p q e1 e2
      obtain ⟨v, u, rfl, rr, rr2⟩ := reps2 r1
      obtain ⟨a, rfl, s, gd⟩ := lview_ok hl1 rr e1
      obtain ⟨b, rfl, s', gd'⟩ := lview_ok hl1 rr2 e2
      obtain ⟨vs, sq, _⟩ := s _ _ _ (.refl _ _) hl1 gd
      obtain ⟨us, sq', _⟩ := s' _ _ _ (.refl _ _) hl1 gd'
      exact ⟨a, b, vs, us, rfl, .inl ⟨sq, sq', h m1 H1 _ (.refl _ _) hl1 (foll_zip s s')⟩⟩
    · exact h.elim
  · exact h.elim
/-- the signs of a text -/
@[simp] def kText : D → HP → R (List D × GdL)
  | .str z, h => .ok (z.cps.toList.map fun c => .str ⟨#[c]⟩, []) h
  | _, _ => .stuck
@[simp] def iText (a : M D) (env : EN) (hp : HP) : R (List D × GdL) := (a env hp).bind kText
theorem foll_text {m0 : AM} {H0 : Hp} {z : Str} : Foll g m0 H0 (Its z) (z.cps.toList.map fun c => .str ⟨#[c]⟩) [] := by
  refine ⟨fun i m H hp hi x _ _ => ?_, fun i m H hp v H' hi x hl' _ y => ?_, fun m H hp x _ _ => ?_⟩
  · show i < z.cps.size; simpa using hi
  · obtain ⟨e, c, ec, y⟩ := y
    subst e
    subst y
    refine ⟨.str ⟨#[c]⟩, ?_, .refl _ _, hl', by simp [rep]⟩
    rw [List.getElem?_map, Array.getElem?_toList, ec]
    rfl
  · show z.cps.size ≤ _
    simp
theorem IV.text {tg e : Expr} {f : M D} (h : EV g X E e f) : IV g X E tg e (iText f) := by
  obtain ⟨t, p, q⟩ := h
  refine ⟨_, pi_str p, fun σ H Rr m env hp hl er h => ?_⟩
  refine q σ H _ m env hp hl er (IPO.bind h fun x h1 m1 H1 v x1 hl1 r1 h => ?_)
  cases x with
  | str z =>
    obtain rfl := rStr r1
    exact ⟨z, rfl, h m1 H1 _ (.refl _ _) hl1 foll_text⟩
  | _ => exact h.elim
/-- a list, a tuple or a text: whatever comes -/
theorem PI.or' {tg it : Expr} {w1 w2 : TI} (h1 : PI X tg it w1) (h2 : PI X tg it w2) : PI X tg it (fun σ H R => w1 σ H R ∨ w2 σ H R) := ⟨fun pins s σ H R I h => h.elim (h1.run pins s σ H R I) (h2.run pins s σ H R I)⟩
@[simp] def kAny : D → HP → R (List D × GdL)
  | .tup ds, h => .ok (ds, []) h
  | .str z, h => .ok (z.cps.toList.map fun c => .str ⟨#[c]⟩, []) h
  | x, h => seqO (lview h x) h
@[simp] def iAny (a : M D) (env : EN) (hp : HP) : R (List D × GdL) := (a env hp).bind kAny
theorem IV.any {tg e : Expr} {f : M D} (hK : X.K = g.K) (h : EV g X E e f) : IV g X E tg e (iAny f) := by
  obtain ⟨w1, p1, q1⟩ := IV.seq (tg := tg) hK h
  obtain ⟨w2, p2, q2⟩ := IV.tupS (tg := tg) hK h
  obtain ⟨w3, p3, q3⟩ := IV.text (tg := tg) h
  refine ⟨_, PI.or' p1 (PI.or' p2 p3), fun σ H Rr m env hp hl er h => ?_⟩
  cases hf : f env hp with
  | ok x h1 =>
    unfold iAny at h
    rw [hf] at h
    cases x with
    | tup ds => exact .inr (.inl (q2 σ H Rr m env hp hl er (by unfold iTupS; rw [hf]; exact h)))
    | str z => exact .inr (.inr (q3 σ H Rr m env hp hl er (by unfold iText; rw [hf]; exact h)))
    | _ => exact .inl (q1 σ H Rr m env hp hl er (by unfold iSeq; rw [hf]; exact h))
  | exc c fs h1 =>
    unfold iAny at h
    rw [hf] at h
    exact .inl (q1 σ H Rr m env hp hl er (by unfold iSeq; rw [hf]; exact h))
  | stuck =>
    unfold iAny at h
    rw [hf] at h
    exact h.elim
end
end Ev
namespace Ev
open PySem PySem.Spec PyProof.Rows L2
section
variable {g : G} {X : Cx} {E : XK}

/-! ### a live list is written -/
theorem liveO.ext {m m' : AM} {H H' : Hp} {b : Addr} {o : O} (x : Ex m H m' H') (e : H' b = H b) (h : liveO g m H b o) : liveO g m' H' b o := by
  cases o with
  | lst ds => obtain ⟨vs, h1, r⟩ := h; exact ⟨vs, by rw [e]; exact h1, reps.ext x _ _ r⟩
  | dic ds => obtain ⟨vs, h1, r⟩ := h; exact ⟨vs, by rw [e]; exact h1, repk.ext x _ _ r⟩
  | ins c fs => obtain ⟨dx, vs, h1, r⟩ := h; exact ⟨dx, vs, by rw [e]; exact h1, repf.ext x _ _ r⟩
  | dead => exact h.elim
theorem HL.write {m : AM} {H : Hp} {hp : HP} (hl : HL g m H hp) {n : Nat} {a : Addr} {u : HO} {ob ob' : O} (ea : m[n]? = some (some a)) (eo : hp[n]? = some ob) (hne : ob' ≠ .dead)
    (hlv : Ex m H m (upd H a u) → liveO g m (upd H a u) a ob') : Ex m H m (upd H a u) ∧ HL g m (upd H a u) (hp.set n ob') := by
  have x : Ex m H m (upd H a u) := ⟨Nat.le_refl _, fun _ _ h _ => h, fun b o e k => ⟨by rw [upd_ne (fun z => by subst z; exact k (List.mem_of_getElem? ea))]; exact e, k⟩⟩
  refine ⟨x, ⟨by simp [hl.len], hl.nd, fun i o h => ?_⟩⟩
  by_cases hi : n = i
  · subst hi
    rw [List.getElem?_set_self (List.getElem?_eq_some_iff.mp eo).1] at h
    cases h
    exact .inr ⟨a, ea, hlv x⟩
  · rw [List.getElem?_set_ne hi] at h
    rcases hl.live i o h with z | ⟨b, eb, lv⟩
    · exact .inl z
    · refine .inr ⟨b, eb, lv.ext x ?_⟩
      rw [upd_ne (fun z => by subst z; exact hi (hl.nd n i b ea eb))]

/-! ### list comprehensions -/
@[reducible] def R.nx {α : Type} (r : R α) : R α := match r with
  | .exc _ _ _ => .stuck
  | r => r
theorem PO.nx {α β : Type} {m : AM} {H : Hp} {E' : XK} {rp : AM → Hp → α → β → Prop} {Q : β → Hp → Prop} {r : R α} (h : PO g m H E rp Q r.nx) : PO g m H E' rp Q r := by
  cases r with
  | ok d h' => exact h
  | exc _ _ _ => exact h.elim
  | stuck => exact h
def appL (n : Nat) (y : D) (h : HP) : R Unit := match h[n]? with
  | some (.lst ds) => if ds.length < sizeLine then .ok () (h.set n (.lst (ds ++ [y]))) else .stuck
  | _ => .stuck
open Classical in
noncomputable def lcE (asg : TF) (cond : M Bool) (elt : M D) (envw : EN) (n : Nat) (gd : GdL) : List D → HP → R Unit
  | [], h => if Gd gd h then .ok () h else .stuck
  | d :: ds, h => if Gd gd h then (match asg d envw h with
      | some e => (cond e h).nx.bind fun b h1 => if b = true then (elt e h1).nx.bind fun y h2 => (appL n y h2).bind fun _ h3 => lcE asg cond elt envw n gd ds h3 else lcE asg cond elt envw n gd ds h1
      | none => .stuck)
    else .stuck
/-- no live thing from n on is in it -/
def rlt (n : Nat) : D → Bool
  | .non => true
  | .bl _ => true
  | .int _ => true
  | .str _ => true
  | .tup ds => rlts n ds
  | .lst ds => rlts n ds
  | .klst ds => rlts n ds
  | .dic ks => rltk n ks
  | .set _ => true
  | .ins _ fs => rltf n fs
  | .ref k => decide (k < n)
where
  rlts (n : Nat) : List D → Bool
  | [] => true
  | d :: ds => rlt n d && rlts n ds
  rltk (n : Nat) : List (Key × D) → Bool
  | [] => true
  | (_, d) :: ds => rlt n d && rltk n ds
  rltf (n : Nat) : List (Str × D) → Bool
  | [] => true
  | (_, d) :: ds => rlt n d && rltf n ds
/-- m1 knows less than m' -/
structure Dn (n : Nat) (m' m1 : AM) : Prop where
  mem : ∀ a, some a ∈ m1 → some a ∈ m'
  at_ : ∀ k a, k < n → m1[k]? = some (some a) → m'[k]? = some (some a)
  le : n ≤ m1.length
theorem FT.down {K : PySem.W.Frag} {n : Nat} {m' m1 : AM} {H : Hp} {a : Addr} {xs : List V} (x : Dn n m' m1) (h : FT K m' H a xs) : FT K m1 H a xs := by
  rcases h with ⟨h, k⟩ | h
  · exact .inl ⟨h, fun z => k (x.mem _ z)⟩
  · exact .inr h
theorem FL.down {K : PySem.W.Frag} {n : Nat} {m' m1 : AM} {H : Hp} {a : Addr} {xs : List V} (x : Dn n m' m1) (h : FL K m' H a xs) : FL K m1 H a xs := by
  rcases h with ⟨h, k⟩ | h
  · exact .inl ⟨h, fun z => k (x.mem _ z)⟩
  · exact .inr h
mutual
theorem rep.down {n : Nat} {m' m1 : AM} {H : Hp} (x : Dn n m' m1) : ∀ (d : D) (v : V), rlt n d = true → rep g m' H d v → rep g m1 H d v
  | .non, v, _, h => by simpa [rep] using h
  | .bl b, v, _, h => by simpa [rep] using h
  | .int i, v, _, h => by simpa [rep] using h
  | .str s, v, _, h => by simpa [rep] using h
  | .tup ds, v, q, h => by
    simp only [rep] at h ⊢
    simp only [rlt] at q
    obtain ⟨a, vs, e, f, r⟩ := h
    exact ⟨a, vs, e, f.down x, reps.down x ds vs q r⟩
  | .lst ds, v, q, h => by
    simp only [rep] at h ⊢
    simp only [rlt] at q
    obtain ⟨a, vs, e, f, k, r⟩ := h
    exact ⟨a, vs, e, f, fun z => k (x.mem _ z), reps.down x ds vs q r⟩
  | .klst ds, v, q, h => by
    simp only [rep] at h ⊢
    simp only [rlt] at q
    obtain ⟨a, vs, e, f, r⟩ := h
    exact ⟨a, vs, e, f.down x, reps.down x ds vs q r⟩
  | .dic ks, v, q, h => by
    simp only [rep] at h ⊢
    simp only [rlt] at q
    obtain ⟨a, vs, e, f, k, r⟩ := h
    exact ⟨a, vs, e, f, fun z => k (x.mem _ z), repk.down x ks vs q r⟩
  | .set ks, v, q, h => by
    simp only [rep] at h ⊢
    obtain ⟨a, n, e, f, k⟩ := h
    exact ⟨a, n, e, f, fun z => k (x.mem _ z)⟩
  | .ins c fs, v, q, h => by
    simp only [rep] at h ⊢
    simp only [rlt] at q
    obtain ⟨a, dx, vs, e, f, k, r⟩ := h
    exact ⟨a, dx, vs, e, f, fun z => k (x.mem _ z), repf.down x fs vs q r⟩
  | .ref k, v, q, h => by
    simp only [rep] at h ⊢
    simp only [rlt, decide_eq_true_eq] at q
    exact ⟨Nat.lt_of_lt_of_le q x.le, fun a e => h.2 a (x.at_ k a q e)⟩
theorem reps.down {n : Nat} {m' m1 : AM} {H : Hp} (x : Dn n m' m1) : ∀ (ds : List D) (vs : List V), rlt.rlts n ds = true → reps g m' H ds vs → reps g m1 H ds vs
  | [], vs, _, h => by simpa [reps] using h
  | d :: ds, vs, q, h => by
    simp only [reps] at h ⊢
    simp only [rlt.rlts, Bool.and_eq_true] at q
    obtain ⟨v, r, e, h1, h2⟩ := h
    exact ⟨v, r, e, rep.down x d v q.1 h1, reps.down x ds r q.2 h2⟩
theorem repk.down {n : Nat} {m' m1 : AM} {H : Hp} (x : Dn n m' m1) : ∀ (ds : List (Key × D)) (vs : List (Key × V)), rlt.rltk n ds = true → repk g m' H ds vs → repk g m1 H ds vs
  | [], vs, _, h => by simpa [repk] using h
  | (k, d) :: ds, vs, q, h => by
    simp only [repk] at h ⊢
    simp only [rlt.rltk, Bool.and_eq_true] at q
    obtain ⟨v, r, e, h1, h2⟩ := h
    exact ⟨v, r, e, rep.down x d v q.1 h1, repk.down x ds r q.2 h2⟩
theorem repf.down {n : Nat} {m' m1 : AM} {H : Hp} (x : Dn n m' m1) : ∀ (ds : List (Str × D)) (vs : List (Str × V)), rlt.rltf n ds = true → repf g m' H ds vs → repf g m1 H ds vs
  | [], vs, _, h => by simpa [repf] using h
  | (k, d) :: ds, vs, q, h => by
    simp only [repf] at h ⊢
    simp only [rlt.rltf, Bool.and_eq_true] at q
    obtain ⟨v, r, e, h1, h2⟩ := h
    exact ⟨v, r, e, rep.down x d v q.1 h1, repf.down x ds r q.2 h2⟩
end
/-! what is represented speaks of what is there -/
mutual
theorem rep.rlt {m : AM} {H : Hp} : ∀ (d : D) (v : V), rep g m H d v → Ev.rlt m.length d = true
  | .non, v, h => rfl
  | .bl b, v, h => rfl
  | .int i, v, h => rfl
  | .str s, v, h => rfl
  | .tup ds, v, h => by simp only [rep] at h; obtain ⟨a, vs, e, f, r⟩ := h; simp only [Ev.rlt]; exact reps.rlt ds vs r
  | .lst ds, v, h => by simp only [rep] at h; obtain ⟨a, vs, e, f, k, r⟩ := h; simp only [Ev.rlt]; exact reps.rlt ds vs r
  | .klst ds, v, h => by simp only [rep] at h; obtain ⟨a, vs, e, f, r⟩ := h; simp only [Ev.rlt]; exact reps.rlt ds vs r
  | .dic ks, v, h => by simp only [rep] at h; obtain ⟨a, vs, e, f, k, r⟩ := h; simp only [Ev.rlt]; exact repk.rlt ks vs r
  | .set ks, v, h => rfl
  | .ins c fs, v, h => by simp only [rep] at h; obtain ⟨a, dx, vs, e, f, k, r⟩ := h; simp only [Ev.rlt]; exact repf.rlt fs vs r
  | .ref k, v, h => by simp only [rep] at h; simp only [Ev.rlt, decide_eq_true_eq]; exact h.1
theorem reps.rlt {m : AM} {H : Hp} : ∀ (ds : List D) (vs : List V), reps g m H ds vs → Ev.rlt.rlts m.length ds = true
  | [], vs, h => rfl
  | d :: ds, vs, h => by
    simp only [reps] at h
    obtain ⟨v, r, e, h1, h2⟩ := h
    simp only [Ev.rlt.rlts, Bool.and_eq_true]
    exact ⟨rep.rlt d v h1, reps.rlt ds r h2⟩
theorem repk.rlt {m : AM} {H : Hp} : ∀ (ds : List (Key × D)) (vs : List (Key × V)), repk g m H ds vs → Ev.rlt.rltk m.length ds = true
  | [], vs, h => rfl
  | (k, d) :: ds, vs, h => by
    simp only [repk] at h
    obtain ⟨v, r, e, h1, h2⟩ := h
    simp only [Ev.rlt.rltk, Bool.and_eq_true]
    exact ⟨rep.rlt d v h1, repk.rlt ds r h2⟩
theorem repf.rlt {m : AM} {H : Hp} : ∀ (ds : List (Str × D)) (vs : List (Str × V)), repf g m H ds vs → Ev.rlt.rltf m.length ds = true
  | [], vs, h => rfl
  | (k, d) :: ds, vs, h => by
    simp only [repf] at h
    obtain ⟨v, r, e, h1, h2⟩ := h
    simp only [Ev.rlt.rltf, Bool.and_eq_true]
    exact ⟨rep.rlt d v h1, repf.rlt ds r h2⟩
end
/-! the heap cut back to what was there -/
def sameO (o o' : O) : Prop := o = o'
theorem HL.lookup {m : AM} {H : Hp} {hp : HP} (hl : HL g m H hp) {n : Nat} {a : Addr} (e : m[n]? = some (some a)) : ∃ o, hp[n]? = some o ∧ liveO g m H a o := by
  have l : n < hp.length := by rw [← hl.len]; exact (List.getElem?_eq_some_iff.mp e).1
  refine ⟨_, List.getElem?_eq_getElem l, ?_⟩
  rcases hl.live n _ (List.getElem?_eq_getElem l) with ⟨_, z⟩ | ⟨b, eb, lv⟩
  · rw [e] at z; cases z
  · rw [e] at eb; cases eb; exact lv
/-- the objects of before are as they were (as data): the state is one of the old live map -/
theorem HL.back {m m' : AM} {H H' : Hp} {hp hp' : HP} (hl : HL g m H hp) (x : Ex m H m' H') (hl' : HL g m' H' hp') (e : hp'.take hp.length = hp) : Ex m H m H' ∧ HL g m H' hp ∧ Dn m.length m' m := by
  have same : ∀ k a, k < m.length → m[k]? = some (some a) → m'[k]? = some (some a) := fun k a lk ek => by
    obtain ⟨o, eo, lv⟩ := hl.lookup ek
    have e2 : hp'[k]? = some o := by
      have : (hp'.take hp.length)[k]? = some o := by rw [e]; exact eo
      rw [List.getElem?_take] at this
      split at this
      · exact this
      · cases this
    rcases hl'.live k o e2 with ⟨z, _⟩ | ⟨b, eb, _⟩
    · subst z; exact lv.elim
    · rw [x.mp k b eb lk] at ek
      cases ek
      exact eb
  have dn : Dn m.length m' m := ⟨fun a z => by
      obtain ⟨k, lk, ek⟩ := List.getElem_of_mem z
      exact List.mem_of_getElem? (same k a lk (by rw [List.getElem?_eq_getElem lk, ek])), same, Nat.le_refl _⟩
  refine ⟨⟨Nat.le_refl _, fun _ _ h _ => h, fun a o h k => ⟨(x.fz a o h k).1, k⟩⟩, ⟨hl.len, hl.nd, fun i o h => ?_⟩, dn⟩
  rcases hl.live i o h with z | ⟨b, eb, lv⟩
  · exact .inl z
  · refine .inr ⟨b, eb, ?_⟩
    have li : i < m.length := (List.getElem?_eq_some_iff.mp eb).1
    have e2 : hp'[i]? = some o := by
      have : (hp'.take hp.length)[i]? = some o := by rw [e]; exact h
      rw [List.getElem?_take] at this
      split at this
      · exact this
      · cases this
    rcases hl'.live i o e2 with ⟨z, _⟩ | ⟨b', eb', lv'⟩
    · subst z; exact lv.elim
    · have := same i b li eb
      rw [eb'] at this
      cases this
      cases o with
      | lst ds =>
        obtain ⟨vs, _, r0⟩ := lv
        obtain ⟨us, h1, r⟩ := lv'
        exact ⟨us, h1, reps.down dn _ _ (reps.rlt _ _ r0) r⟩
      | dic ds =>
        obtain ⟨vs, _, r0⟩ := lv
        obtain ⟨us, h1, r⟩ := lv'
        exact ⟨us, h1, repk.down dn _ _ (repk.rlt _ _ r0) r⟩
      | ins c fs =>
        obtain ⟨_, vs, _, r0⟩ := lv
        obtain ⟨dx, us, h1, r⟩ := lv'
        exact ⟨dx, us, h1, repf.down dn _ _ (repf.rlt _ _ r0) r⟩
      | dead => exact lv.elim
/-- a value frozen: what is younger than n becomes a value of its own -/
def fz (n : Nat) (h : HP) (d : D) : Option D := if rlt n d = true then some d else match d with
  | .ref k => match h[k]? with
    | some (.lst ds) => if rlt.rlts n ds = true then some (.lst ds) else none
    | some (.dic ks) => if rlt.rltk n ks = true then some (.dic ks) else none
    | some (.ins c fs) => if rlt.rltf n fs = true then some (.ins c fs) else none
    | _ => none
  | _ => none
theorem fz_ok {m m' : AM} {H' : Hp} {hp' : HP} {d d' : D} {v : V} (hl' : HL g m' H' hp') (dn : Dn m.length m' m) (lm : m.length ≤ m'.length) (r : rep g m' H' d v) (e : fz m.length hp' d = some d') : rep g m H' d' v := by
  unfold fz at e
  split at e
  · rename_i c
    cases e
    exact rep.down dn _ _ c r
  · rename_i c
    split at e
    · rename_i k
      simp only [rlt, decide_eq_true_eq] at c
      simp only [rep] at r
      have nm : ∀ a, m'[k]? = some (some a) → some a ∉ m := fun a ea z => by
        obtain ⟨j, lj, ej⟩ := List.getElem_of_mem z
        have := dn.at_ j a lj (by rw [List.getElem?_eq_getElem lj, ej])
        have := hl'.nd j k a this ea
        omega
      split at e
      · rename_i ds q
        split at e
        · rename_i c2
          cases e
          obtain ⟨a, ea, vs, ha, rs⟩ := hl'.at q (by simp)
          simp only [rep]
          exact ⟨a, vs, r.2 a ea, ha, nm a ea, reps.down dn _ _ c2 rs⟩
        · cases e
      · rename_i ds q
        split at e
        · rename_i c2
          cases e
          obtain ⟨a, ea, vs, ha, rs⟩ := hl'.at q (by simp)
          simp only [rep]
          exact ⟨a, vs, r.2 a ea, ha, nm a ea, repk.down dn _ _ c2 rs⟩
        · cases e
      · rename_i c0 ds q
        split at e
        · rename_i c2
          cases e
          obtain ⟨a, ea, dx, vs, ha, rs⟩ := hl'.at q (by simp)
          simp only [rep]
          exact ⟨a, dx, vs, r.2 a ea, ha, nm a ea, repf.down dn _ _ c2 rs⟩
        · cases e
      · cases e
    · cases e
/-! behind a pure thing: the heap as it was ahead, the value frozen -/
open Classical in
noncomputable def pure_ (h0 : HP) (d : D) (h : HP) : R D := if h.take h0.length = h0 then (match fz h0.length h d with
    | some d' => .ok d' h0
    | none => .stuck) else .stuck
theorem PO.pure_ {m m' : AM} {H H' : Hp} {hp hp' : HP} {d : D} {v : V} {Q : V → Hp → Prop} (hl : HL g m H hp) (x : Ex m H m' H') (hl' : HL g m' H' hp') (r : rep g m' H' d v) (h : PO g m H E (rep g) Q (Ev.pure_ hp d hp')) : Q v H' := by
  unfold Ev.pure_ at h
  split at h
  · rename_i c
    split at h
    · rename_i d' e
      obtain ⟨x2, hl2, dn⟩ := hl.back x hl' c
      rw [← hl.len] at e
      exact h m H' v x2 hl2 (fz_ok hl' dn x.le r e)
    · exact h.elim
  · exact h.elim
end
end Ev
namespace Ev
open PySem PySem.Spec PyProof.Rows L2
section
variable {g : G} {X : Cx} {E : XK}
theorem wipe_get (σ : L2.St) (j : Nat) : ∀ vs : List Nat, (wipe σ vs)[j]? = if j ∈ vs then (if j < σ.length then some none else none) else σ[j]?
  | [] => by simp [wipe]
  | v :: vs => by
    unfold wipe
    have ih := wipe_get σ j vs
    by_cases e : v = j
    · subst e
      rw [List.getElem?_set_self', ih]
      simp only [List.mem_cons, true_or, if_true]
      by_cases h : v < σ.length
      · by_cases hv : v ∈ vs
        · simp [hv, h]
        · simp [hv, h, List.getElem?_eq_getElem h]
      · have : σ[v]? = none := List.getElem?_eq_none (by omega)
        by_cases hv : v ∈ vs
        · simp [hv, h]
        · simp [hv, h, this]
    · rw [List.getElem?_set_ne e, ih]
      have : j ≠ v := fun z => e z.symm
      simp [List.mem_cons, this]
theorem wipe_turned {is vs : List Nat} {a b : L2.St} (t : Turned is a b) (h : ∀ i ∈ is, i ∈ vs) : wipe b vs = wipe a vs := by
  refine List.ext_getElem? fun j => ?_
  rw [wipe_get, wipe_get, t.1]
  split
  · rfl
  · rename_i hj
    exact t.2 j fun z => hj (h j z)
theorem wipe_wipe (σ : L2.St) (vs : List Nat) : wipe (wipe σ vs) vs = wipe σ vs := by
  refine List.ext_getElem? fun j => ?_
  rw [wipe_get, wipe_get, wipe_length]
  split
  · rfl
  · rfl
@[simp] def wipeE (env : EN) : List Nat → EN
  | [] => env
  | v :: vs => (wipeE env vs).set v none
theorem ER.unset {m : AM} {H : Hp} {σ : L2.St} {env : EN} {i : Nat} (er : ER g m H σ env) : ER g m H (σ.set i none) (env.set i none) := by
  refine ⟨by simp [er.len], fun j e h => ?_⟩
  by_cases hj : i = j
  · subst hj
    rw [List.getElem?_set_self'] at h
    cases q : env[i]? with
    | none => rw [q] at h; cases h
    | some z => rw [q] at h; cases h
  · rw [List.getElem?_set_ne hj] at h
    obtain ⟨w, e1, r1⟩ := er.at_ j e h
    exact ⟨w, by rw [List.getElem?_set_ne hj]; exact e1, r1⟩
theorem ER.wipe {m : AM} {H : Hp} {σ : L2.St} {env : EN} (er : ER g m H σ env) : ∀ vs, ER g m H (L2.wipe σ vs) (wipeE env vs)
  | [] => er
  | v :: vs => (ER.wipe er vs).unset
noncomputable def outL (live : Bool) (h0 : HP) (h : HP) : R D := if live = true then .ok (.ref h0.length) h else pure_ h0 (.ref h0.length) h
noncomputable def mLc (live : Bool) (it : IM) (own : List Nat) (asg : TF) (cond : M Bool) (elt : M D) : M D := fun env hp => (it env hp).bind fun p h =>
  (lcE asg cond elt (wipeE env own) h.length p.2 p.1 (h ++ [.lst []])).bind fun _ h' => outL live h h'
theorem PO.mono {α β : Type} {rp : AM → Hp → α → β → Prop} {m m1 : AM} {H H1 : Hp} {Q : β → Hp → Prop} {r : R α} (x : Ex m H m1 H1) (h : PO g m H E rp Q r) : PO g m1 H1 E rp Q r := by
  cases r with
  | ok d h2 => exact fun m2 H2 w x3 hl3 r3 => h m2 H2 w (x.trans x3) hl3 r3
  | exc c fs h2 => exact fun m2 H2 d2 ws x3 hl3 e2 n2 r2 => h m2 H2 d2 ws (x.trans x3) hl3 e2 n2 r2
  | stuck => exact h
theorem PO.bindB {α β γ δ : Type} {m0 m : AM} {H0 H : Hp} {rp : AM → Hp → α → β → Prop} {rq : AM → Hp → γ → δ → Prop} {Q : β → Hp → Prop} {Q' : δ → Hp → Prop} {r : R α} {f : α → HP → R γ}
    (h : PO g m0 H0 E rq Q' (r.bind f)) (x0 : Ex m0 H0 m H) (k : ∀ d hp' m' H' v, Ex m H m' H' → HL g m' H' hp' → rp m' H' d v → PO g m0 H0 E rq Q' (f d hp') → Q v H') : PO g m H E rp Q r := by
  cases r with
  | ok d hp' => exact fun m' H' v x hl rv => k d hp' m' H' v x hl rv h
  | exc c fs hp' => exact fun m2 H2 d2 ws x3 hl3 e2 n2 r2 => h m2 H2 d2 ws (x0.trans x3) hl3 e2 n2 r2
  | stuck => exact h
/-- the reading of a comprehension follows from the evaluation -/
theorem lc_sem {wi : TI} {gt : TG} {tt : TT} {te : TE} {fi : IM} {own is : List Nat} {asg : TF} {cond : M Bool} {elt : M D} (live : Bool)
    (hi : ∀ σ H Rr m env hp, HL g m H hp → ER g m H σ env → IPO g m H E Rr (fi env hp) → wi σ H Rr)
    (hg : ∀ v σ H Q m env hp d, HL g m H hp → ER g m H σ env → rep g m H d v → (∃ env', asg d env hp = some env' ∧ ∀ σ', Turned is σ σ' → ER g m H σ' env' → Q σ' H) → gt v σ H Q)
    (ht : ∀ σ H Q m env hp, HL g m H hp → ER g m H σ env → PO g m H E0 rB Q (cond env hp) → tt σ H Q)
    (he : ∀ σ H Q m env hp, HL g m H hp → ER g m H σ env → PO g m H E0 (rep g) Q (elt env hp) → te σ H Q)
    (hsub : ∀ i ∈ is, i ∈ own)
    {σ : L2.St} {H : Hp} {Q : VK} {m : AM} {env : EN} {hp : HP} (hl : HL g m H hp) (er : ER g m H σ env) (h : PO g m H E (rep g) Q (mLc live fi own asg cond elt env hp)) : tLc wi gt tt te own σ H Q := by
  unfold mLc at h
  refine hi σ H _ m env hp hl er ?_
  revert h
  cases fi env hp with
  | exc c fs h1 => exact fun h => h
  | stuck => exact fun h => h
  | ok p h1 =>
    obtain ⟨items, gd⟩ := p
    intro h m1 H1 J x1 hl1 fo D hD
    have h : PO g m H E (rep g) Q ((lcE asg cond elt (wipeE env own) h1.length gd items (h1 ++ [.lst []])).bind fun _ h' => outL live h1 h') := h
    obtain ⟨x2, hl2⟩ := hl1.push (o := .lst []) (ob := .lst []) hD (by simp) fun x => ⟨[], upd_same, by simp [reps]⟩
    have er1 := (er.ext x1).wipe own
    have eD : ∀ {m' : AM} {H' : Hp} {b : Addr}, Ex (m1 ++ [some D]) (upd H1 D (.lst [])) m' H' → m'[h1.length]? = some (some b) → b = D := fun {m' H' b} x e => by
      have := x.mp h1.length b e (by simp [hl1.len])
      rw [← hl1.len, List.getElem?_append_right (Nat.le_refl _)] at this
      simp at this
      exact this.symm
    refine ⟨fun i k H' => k = items.length - i ∧ i ≤ items.length ∧ ∃ m' hp', Ex (m1 ++ [some D]) (upd H1 D (.lst [])) m' H' ∧ HL g m' H' hp' ∧
        PO g m1 H1 E (rep g) Q ((lcE asg cond elt (wipeE env own) h1.length gd (items.drop i) hp').bind fun _ h' => outL live h1 h'),
      ⟨items.length, rfl, Nat.zero_le _, m1 ++ [some D], h1 ++ [.lst []], .refl _ _, hl2, by rw [List.drop_zero]; exact PO.mono x1 h⟩, ?_⟩
    rintro i k H' ⟨rfl, hi', m', hp', x', hl', po⟩
    have xm1 : Ex m1 H1 m' H' := x2.trans x'
    by_cases hlt : i < items.length
    · have ed : items.drop i = items[i] :: items.drop (i + 1) := List.drop_eq_getElem_cons hlt
      rw [ed] at po
      unfold lcE at po
      by_cases hgd : Gd gd hp'
      · rw [if_pos hgd] at po
        refine .inr ⟨fo.go i m' H' hp' hlt xm1 hl' hgd, fun H'' => ∃ k', k' < items.length - i ∧ (k' = items.length - (i + 1) ∧ i + 1 ≤ items.length ∧ ∃ m' hp', Ex (m1 ++ [some D]) (upd H1 D (.lst [])) m' H'' ∧ HL g m' H'' hp' ∧
          PO g m1 H1 E (rep g) Q ((lcE asg cond elt (wipeE env own) h1.length gd (items.drop (i + 1)) hp').bind fun _ h' => outL live h1 h')), fun H'' z => z, fun x H'' y => ?_⟩
        obtain ⟨d, ed', xe, hl3, rd⟩ := fo.yld i m' H' hp' x H'' hlt xm1 hl' hgd y
        rw [List.getElem?_eq_getElem hlt] at ed'
        cases ed'
        split at po
        · rename_i env' easg
          have erw : ER g m' H'' (L2.wipe σ own) (wipeE env own) := er1.ext (xm1.trans xe)
          refine hg x (L2.wipe σ own) H'' _ m' (wipeE env own) hp' _ hl3 erw rd ⟨env', easg, fun σ' tn er' => ?_⟩
          refine ⟨by rw [wipe_turned tn hsub, wipe_wipe], ?_⟩
          rw [R.bind_assoc] at po
          refine ht σ' H'' _ m' env' hp' hl3 er' (PO.nx (E := E) (PO.bindB po (xm1.trans xe) fun b h4 m4 H4 v4 x4 hl4 r4 po => ?_))
          cases (show b = v4 from r4)
          cases b with
          | true =>
            rw [if_pos rfl] at po ⊢
            rw [R.bind_assoc] at po
            refine he σ' H4 _ m4 env' h4 hl4 (er'.ext x4) (PO.nx (E := E) (PO.bindB po ((xm1.trans xe).trans x4) fun y' h5 m5 H5 v5 x5 hl5 r5 po => ?_))
            rw [R.bind_assoc] at po
            unfold appL at po
            split at po
            · rename_i acc eacc
              split at po
              · rename_i hz
                obtain ⟨b, eb, vs, hb, rs⟩ := hl5.at eacc (by simp)
                have x5' := ((x'.trans xe).trans (x4.trans x5))
                obtain rfl := eD x5' eb
                refine ⟨vs, hb, by rw [← reps.length rs]; exact hz, ?_⟩
                obtain ⟨x6, hl6⟩ := hl5.write (u := .lst (vs ++ [v5])) (ob' := .lst (acc ++ [y'])) eb eacc (by simp) fun x6 => ⟨vs ++ [v5], upd_same, reps.ext x6 _ _ (reps.append rs (by simp only [reps]; exact ⟨v5, [], rfl, r5, rfl⟩))⟩
                exact ⟨items.length - (i + 1), by omega, rfl, hlt, m5, _, x5'.trans x6, hl6, po⟩
              · exact po.elim
            · exact po.elim
          | false =>
            rw [if_neg Bool.false_ne_true] at po ⊢
            exact ⟨items.length - (i + 1), by omega, rfl, hlt, m4, h4, (x'.trans xe).trans x4, hl4, po⟩
        · exact po.elim
      · rw [if_neg hgd] at po
        exact po.elim
    · have e : i = items.length := by omega
      subst e
      rw [List.drop_length] at po
      unfold lcE at po
      by_cases hgd : Gd gd hp'
      · rw [if_pos hgd] at po
        refine .inl ⟨fo.stop m' H' hp' xm1 hl' hgd, ?_⟩
        have po : PO g m1 H1 E (rep g) Q (outL live h1 hp') := po
        have rr : rep g m' H' (.ref h1.length) (.ref D) := by
          simp only [rep]
          refine ⟨Nat.lt_of_lt_of_le (by simp [hl1.len]) x'.le, fun a ea => ?_⟩
          rw [eD x' ea]
        unfold outL at po
        cases live with
        | true =>
          rw [if_pos rfl] at po
          exact po m' H' _ xm1 hl' rr
        | false =>
          rw [if_neg Bool.false_ne_true] at po
          exact PO.pure_ hl1 xm1 hl' rr po
      · rw [if_neg hgd] at po
        exact po.elim
end
end Ev
namespace Ev
open PySem PySem.Spec PyProof.Rows L2
section
variable {g : G} {X : Cx} {E : XK}
/-- contexts of a comprehension's block -/
abbrev Blk (X : Cx) (scope : Scope) (s : Shared) (H : Hp) (C : Addr) (cl : List (Str × Addr)) (fp : List Addr) : Cx := X.blk s H scope (compEnvC scope cl C X.env) fp
/-- the parts of a comprehension -/
structure LCV (g : G) (X : Cx) (E : XK) (elt tg it : Expr) (ifs : List Expr) (scope : Scope) (own : List (Str × Nat)) (f : Bool → M D) : Prop where
  ok : BlkOk X.N X.env.scope scope own
  ex : ∃ wi gt tt te, PI X tg it wi ∧ (∀ s H C cl fp, PG (Blk X scope s H C cl fp) tg gt) ∧ (∀ s H C cl fp, PTs (Blk X scope s H C cl fp) ifs tt) ∧ (∀ s H C cl fp, PE (Blk X scope s H C cl fp) elt te) ∧
    ∀ live σ H Q m env hp, HL g m H hp → ER g m H σ env → PO g m H E (rep g) Q (f live env hp) → tLc wi gt tt te (own.map (·.2)) σ H Q
structure CV1 (g : G) (X : Cx) (ifs : List Expr) (f : M Bool) : Prop where
  ex : ∃ t, PTs X ifs t ∧ ∀ σ H Q m env hp, HL g m H hp → ER g m H σ env → PO g m H E0 rB Q (f env hp) → t σ H Q
@[simp] def cYes (_ : EN) (h : HP) : R Bool := .ok true h
theorem CV1.nil : CV1 g X [] cYes := ⟨_, pts_nil, fun σ H Q m env hp hl er h => h m H true (.refl _ _) hl rfl⟩
theorem CV1.one {c : Expr} {f : M Bool} (h : TV g X E0 c f) : CV1 g X [c] f := by
  obtain ⟨t, p, q⟩ := h
  exact ⟨_, pts_one p, q⟩
theorem PE.weak {e : Expr} {t t' : TE} (h : PE X e t) (w : ∀ σ H Q, t' σ H Q → t σ H Q) : PE X e t' := ⟨fun pins s σ H Q I q => h.run pins s σ H Q I (w σ H Q q)⟩
theorem PG.weak {e : Expr} {t t' : TG} (h : PG X e t) (w : ∀ v σ H Q, t' v σ H Q → t v σ H Q) : PG X e t' := ⟨fun pins s σ H v u Q I r q => h.run pins s σ H v u Q I r (w v σ H Q q)⟩
theorem PTs.weak {e : List Expr} {t t' : TT} (h : PTs X e t) (w : ∀ σ H Q, t' σ H Q → t σ H Q) : PTs X e t' := ⟨fun pins s σ H Q I q => h.run pins s σ H Q I (w σ H Q q)⟩
theorem LCV.mk' {elt tg it : Expr} {ifs : List Expr} {scope : Scope} {own : List (Str × Nat)} {is : List Nat} {fi : IM} {asg : TF} {cond : M Bool} {fe : M D}
    (ok : blkC X.N X.env.scope scope own = true) (hi : IV g X E tg it fi) (hg : ∀ s H C cl fp, GV g (Blk X scope s H C cl fp) tg is asg) (ht : ∀ s H C cl fp, CV1 g (Blk X scope s H C cl fp) ifs cond)
    (he : ∀ s H C cl fp, EV g (Blk X scope s H C cl fp) E0 elt fe) (hs : ∀ i ∈ is, i ∈ own.map (·.2)) : LCV g X E elt tg it ifs scope own (fun live => mLc live fi (own.map (·.2)) asg cond fe) := by
  obtain ⟨wi, pi, qi⟩ := hi
  refine ⟨blkOk_by ok, wi, fun v σ H Q => ∀ s H' C cl fp, Classical.choose (hg s H' C cl fp).ex v σ H Q, fun σ H Q => ∀ s H' C cl fp, Classical.choose (ht s H' C cl fp).ex σ H Q,
    fun σ H Q => ∀ s H' C cl fp, Classical.choose (he s H' C cl fp).ex σ H Q, pi, fun s H C cl fp => ?_, fun s H C cl fp => ?_, fun s H C cl fp => ?_, fun live σ H Q m env hp hl er h => ?_⟩
  · exact PG.weak (Classical.choose_spec (hg s H C cl fp).ex).1 fun v σ H' Q q => q s H C cl fp
  · exact PTs.weak (Classical.choose_spec (ht s H C cl fp).ex).1 fun σ H' Q q => q s H C cl fp
  · exact PE.weak (Classical.choose_spec (he s H C cl fp).ex).1 fun σ H' Q q => q s H C cl fp
  · refine lc_sem live qi (fun v σ H Q m env hp d hl er r h s H' C cl fp => ?_) (fun σ H Q m env hp hl er h s H' C cl fp => ?_) (fun σ H Q m env hp hl er h s H' C cl fp => ?_) hs hl er h
    · exact (Classical.choose_spec (hg s H' C cl fp).ex).2 v σ H Q m env hp d hl er r h
    · exact (Classical.choose_spec (ht s H' C cl fp).ex).2 σ H Q m env hp hl er h
    · exact (Classical.choose_spec (he s H' C cl fp).ex).2 σ H Q m env hp hl er h
theorem EV.lc {elt tg it : Expr} {ifs : List Expr} {scope : Scope} {own : List (Str × Nat)} {pos : Pos} {f : Bool → M D} (live : Bool) (hc : X.calm = true) (hN : X.N.Nodup) (h : LCV g X E elt tg it ifs scope own f) (hs : ∀ x, foldedSetIterable it X.env x = pure x) :
    EV g X E (.ListComp elt [⟨tg, it, ifs, 0⟩] scope pos) (f live) := by
  obtain ⟨ok, wi, gt, tt, te, p1, p2, p3, p4, q⟩ := h
  exact ⟨_, pe_lc hc hN p1 ok p2 p3 p4 hs, fun σ H Q m env hp hl er h => q live σ H Q m env hp hl er h⟩

/-! ### statements -/
inductive SR where
  | nx (e : EN) (h : HP)
  | rt (d : D) (h : HP)
  | bk (e : EN) (h : HP)
  | ct (e : EN) (h : HP)
  | exc (c : Nat) (fs : List (Str × D)) (h : HP)
  | stuck
abbrev SM := EN → HP → SR
def SPO (g : G) (m : AM) (H : Hp) (E : XK) (K : Ends) : SR → Prop
  | .nx e hp' => ∀ m' H' σ', Ex m H m' H' → HL g m' H' hp' → ER g m' H' σ' e → K.nx σ' H'
  | .rt d hp' => ∀ m' H' v, Ex m H m' H' → HL g m' H' hp' → rep g m' H' d v → K.rt v H'
  | .bk e hp' => ∀ m' H' σ', Ex m H m' H' → HL g m' H' hp' → ER g m' H' σ' e → K.bk σ' H'
  | .ct e hp' => ∀ m' H' σ', Ex m H m' H' → HL g m' H' hp' → ER g m' H' σ' e → K.ct σ' H'
  | .exc c fs hp' => ∀ m' H' d ws, Ex m H m' H' → HL g m' H' hp' → H' d = some (.xd ws) → some d ∉ m' → repf g m' H' fs ws → E (.ref (g.cA c)) (some d) H'
  | .stuck => False
theorem SPO.mono {m m1 : AM} {H H1 : Hp} {K : Ends} {r : SR} (x : Ex m H m1 H1) (h : SPO g m H E K r) : SPO g m1 H1 E K r := by
  cases r with
  | nx e h2 => exact fun m2 H2 w x3 hl3 r3 => h m2 H2 w (x.trans x3) hl3 r3
  | rt e h2 => exact fun m2 H2 w x3 hl3 r3 => h m2 H2 w (x.trans x3) hl3 r3
  | bk e h2 => exact fun m2 H2 w x3 hl3 r3 => h m2 H2 w (x.trans x3) hl3 r3
  | ct e h2 => exact fun m2 H2 w x3 hl3 r3 => h m2 H2 w (x.trans x3) hl3 r3
  | exc c fs h2 => exact fun m2 H2 d2 ws x3 hl3 e2 n2 r2 => h m2 H2 d2 ws (x.trans x3) hl3 e2 n2 r2
  | stuck => exact h
@[simp] def R.sbind {α : Type} : R α → (α → HP → SR) → SR
  | .ok a h, f => f a h
  | .exc c fs h, _ => .exc c fs h
  | .stuck, _ => .stuck
theorem SPO.bind {α β : Type} {m : AM} {H : Hp} {rp : AM → Hp → α → β → Prop} {K : Ends} {Q : β → Hp → Prop} {r : R α} {f : α → HP → SR}
    (h : SPO g m H E K (r.sbind f)) (k : ∀ d hp' m' H' v, Ex m H m' H' → HL g m' H' hp' → rp m' H' d v → SPO g m' H' E K (f d hp') → Q v H') : PO g m H E rp Q r := by
  cases r with
  | ok d hp' => exact fun m' H' v x hl rv => k d hp' m' H' v x hl rv (SPO.mono x h)
  | exc c fs hp' => exact h
  | stuck => exact h
theorem SPO.bindB {α β : Type} {m0 m : AM} {H0 H : Hp} {rp : AM → Hp → α → β → Prop} {K : Ends} {Q : β → Hp → Prop} {r : R α} {f : α → HP → SR}
    (h : SPO g m0 H0 E K (r.sbind f)) (x0 : Ex m0 H0 m H) (k : ∀ d hp' m' H' v, Ex m H m' H' → HL g m' H' hp' → rp m' H' d v → SPO g m0 H0 E K (f d hp') → Q v H') : PO g m H E rp Q r := by
  cases r with
  | ok d hp' => exact fun m' H' v x hl rv => k d hp' m' H' v x hl rv h
  | exc c fs hp' => exact fun m2 H2 d2 ws x3 hl3 e2 n2 r2 => h m2 H2 d2 ws (x0.trans x3) hl3 e2 n2 r2
  | stuck => exact h
structure SV (g : G) (X : Cx) (E : XK) (st : Stmt) (f : SM) : Prop where
  ex : ∃ t, PS X st t ∧ ∀ K σ H m env hp, HL g m H hp → ER g m H σ env → SPO g m H E K (f env hp) → t K σ H
structure SVs (g : G) (X : Cx) (E : XK) (st : List Stmt) (f : SM) : Prop where
  ex : ∃ t, PSs X st t ∧ ∀ K σ H m env hp, HL g m H hp → ER g m H σ env → SPO g m H E K (f env hp) → t K σ H
@[simp] def sNil (env : EN) (hp : HP) : SR := .nx env hp
@[simp] def SR.andThen : SR → SM → SR
  | .nx e h, fs => fs e h
  | .rt d h, _ => .rt d h
  | .bk e h, _ => .bk e h
  | .ct e h, _ => .ct e h
  | .exc c fs h, _ => .exc c fs h
  | .stuck, _ => .stuck
@[simp] def sSeq (f fs : SM) (env : EN) (hp : HP) : SR := (f env hp).andThen fs
theorem SVs.nil : SVs g X E [] sNil := ⟨_, pss_nil, fun K σ H m env hp hl er h => h m H σ (.refl _ _) hl er⟩
theorem SVs.cons {st : Stmt} {rest : List Stmt} {f fs : SM} (h1 : SV g X E st f) (h2 : SVs g X E rest fs) : SVs g X E (st :: rest) (sSeq f fs) := by
  obtain ⟨t, p, q⟩ := h1
  obtain ⟨u, p2, q2⟩ := h2
  refine ⟨_, pss_cons p p2, fun K σ H m env hp hl er h => ?_⟩
  refine q { K with nx := u K } σ H m env hp hl er ?_
  unfold sSeq at h
  revert h
  cases f env hp with
  | nx e h1 => exact fun h m' H' σ' x hl' er' => q2 K σ' H' m' e h1 hl' er' (SPO.mono x h)
  | rt e h2 => exact fun h => h
  | bk e h2 => exact fun h => h
  | ct e h2 => exact fun h => h
  | exc c fs h2 => exact fun h => h
  | stuck => exact fun h => h
theorem SVs.one {st : Stmt} {f : SM} (h1 : SV g X E st f) : SVs g X E [st] f := by
  obtain ⟨t, p, q⟩ := h1
  exact ⟨_, pss_one p, q⟩
/-- code that is never come to -/
@[simp] def sNever (_ : EN) (_ : HP) : SR := .stuck
theorem SV.never {st : Stmt} : SV g X E st sNever := ⟨_, ps_never, fun K σ H m env hp hl er h => h.elim⟩
theorem SVs.never {st : List Stmt} : SVs g X E st sNever := ⟨_, pss_never, fun K σ H m env hp hl er h => h.elim⟩
@[simp] def kRet (d : D) (h : HP) : SR := .rt d h
@[simp] def sRet (a : M D) (env : EN) (hp : HP) : SR := (a env hp).sbind kRet
theorem SV.ret {e : Expr} {pos : Pos} {f : M D} (h : EV g X E e f) : SV g X E (.Return (some e) pos) (sRet f) := by
  obtain ⟨t, p, q⟩ := h
  refine ⟨_, ps_ret p, fun K σ H m env hp hl er h => ?_⟩
  exact q σ H _ m env hp hl er (SPO.bind h fun x h1 m1 H1 v x1 hl1 r1 h => h m1 H1 v (.refl _ _) hl1 r1)
@[simp] def sRetN (_ : EN) (hp : HP) : SR := .rt .non hp
theorem SV.retN {pos : Pos} : SV g X E (.Return none pos) sRetN := ⟨_, ps_retN, fun K σ H m env hp hl er h => h m H _ (.refl _ _) hl (by simp [rep])⟩
theorem SV.pass {pos : Pos} : SV g X E (.Pass pos) sNil := ⟨_, ps_pass, fun K σ H m env hp hl er h => h m H σ (.refl _ _) hl er⟩
@[simp] def sBrk (env : EN) (hp : HP) : SR := .bk env hp
@[simp] def sCnt (env : EN) (hp : HP) : SR := .ct env hp
theorem SV.brk {pos : Pos} : SV g X E (.Break pos) sBrk := ⟨_, ps_break, fun K σ H m env hp hl er h => h m H σ (.refl _ _) hl er⟩
theorem SV.cnt {pos : Pos} : SV g X E (.Continue pos) sCnt := ⟨_, ps_continue, fun K σ H m env hp hl er h => h m H σ (.refl _ _) hl er⟩
@[simp] def kExp (env : EN) (_ : D) (h : HP) : SR := .nx env h
@[simp] def sExp (a : M D) (env : EN) (hp : HP) : SR := (a env hp).sbind (kExp env)
theorem SV.exp {e : Expr} {pos : Pos} {f : M D} (h : EV g X E e f) (hs : swapsWith e none pos.line X.env = pure false) : SV g X E (.Expr e pos) (sExp f) := by
  obtain ⟨t, p, q⟩ := h
  refine ⟨_, ps_expr p hs, fun K σ H m env hp hl er h => ?_⟩
  exact q σ H _ m env hp hl er (SPO.bind h fun x h1 m1 H1 v x1 hl1 r1 h => h m1 H1 σ (.refl _ _) hl1 (er.ext x1))
theorem SV.doc {x : Str} {j : Nat} {pos pos' : Pos} : SV g X E (.Expr (.Constant (.str x) j pos) pos') sNil := ⟨_, ps_doc, fun K σ H m env hp hl er h => h m H σ (.refl _ _) hl er⟩
@[simp] def kSIf (a b : SM) (env : EN) (k : Bool) (h : HP) : SR := if k = true then a env h else b env h
@[simp] def sIf (c : M Bool) (a b : SM) (env : EN) (hp : HP) : SR := (c env hp).sbind (kSIf a b env)
theorem SV.if_ {c : Expr} {a b : List Stmt} {pos : Pos} {fc : M Bool} {fa fb : SM} (hc : TV g X E c fc) (ha : SVs g X E a fa) (hb : SVs g X E b fb) : SV g X E (.If c a b pos) (sIf fc fa fb) := by
  obtain ⟨tc, pc, qc⟩ := hc
  obtain ⟨ta, pa, qa⟩ := ha
  obtain ⟨tb, pb, qb⟩ := hb
  refine ⟨_, ps_if pc pa pb, fun K σ H m env hp hl er h => ?_⟩
  refine qc σ H _ m env hp hl er (SPO.bind h fun x h1 m1 H1 v x1 hl1 r1 h => ?_)
  cases (show x = v from r1)
  unfold kSIf at h
  cases x with
  | true =>
    rw [if_pos rfl] at h ⊢
    exact qa K σ H1 m1 env h1 hl1 (er.ext x1) h
  | false =>
    rw [if_neg Bool.false_ne_true] at h ⊢
    exact qb K σ H1 m1 env h1 hl1 (er.ext x1) h
/-- target = value -/
@[simp] def asgO : Option EN → HP → SR
  | some e, h => .nx e h
  | none, _ => .stuck
@[simp] def kAsg (t : TF) (env : EN) (d : D) (h : HP) : SR := asgO (t d env h) h
@[simp] def sAsg (a : M D) (t : TF) (env : EN) (hp : HP) : SR := (a env hp).sbind (kAsg t env)
theorem asg_sem {te : TE} {gt : TG} {f : M D} {is : List Nat} {tf : TF} (q : ∀ σ H Q m env hp, HL g m H hp → ER g m H σ env → PO g m H E (rep g) Q (f env hp) → te σ H Q)
    (qg : ∀ v σ H Q m env hp d, HL g m H hp → ER g m H σ env → rep g m H d v → (∃ env', tf d env hp = some env' ∧ ∀ σ', Turned is σ σ' → ER g m H σ' env' → Q σ' H) → gt v σ H Q)
    {K : Ends} {σ : L2.St} {H : Hp} {m : AM} {env : EN} {hp : HP} (hl : HL g m H hp) (er : ER g m H σ env) (h : SPO g m H E K (sAsg f tf env hp)) : tAsg te gt K σ H := by
  refine q σ H _ m env hp hl er (SPO.bind h fun x h1 m1 H1 v x1 hl1 r1 h => ?_)
  unfold kAsg asgO at h
  split at h
  · rename_i e _ ee
    exact qg v σ H1 _ m1 env _ x hl1 (er.ext x1) r1 ⟨_, ee, fun σ' t er' => h m1 H1 σ' (.refl _ _) hl1 er'⟩
  · exact h.elim
theorem SV.set {i : Nat} {x : Str} {e : Expr} {pos pos' : Pos} {f : M D} (h : EV g X E e f) (hN : X.N.Nodup) (hi : X.N[i]? = some x) (hx : Loc X.env.scope x) (hs : swapsWith e (some (.Name x pos')) pos.line X.env = pure false) (hf : X.fn x = true ∨ X.env.scope.names.lookup x = some .local) :
    SV g X E (.Assign [.Name x pos'] e pos) (sAsg f (gNm i)) := by
  obtain ⟨t, p, q⟩ := h
  obtain ⟨gt, pg, qg⟩ := (GV.name (g := g) (pos := pos') hN hi hx hf).ex
  refine ⟨_, ps_set hN hi hx p hs hf, fun K σ H m env hp hl er h => ?_⟩
  refine q σ H _ m env hp hl er (SPO.bind h fun x h1 m1 H1 v x1 hl1 r1 h => ?_)
  exact h m1 H1 _ (.refl _ _) hl1 ((er.ext x1).set r1)
theorem SV.asg {tg e : Expr} {pos : Pos} {f : M D} {is : List Nat} {tf : TF} (h : EV g X E e f) (hg : GV g X tg is tf) (hs : swapsWithSole [tg] e pos.line X.env = pure false) (hw : swappedStores [tg] e X.env = pure none)
    (h1 : (assignEach [tg] X.env).map (·.2) = [assign tg X.env]) : SV g X E (.Assign [tg] e pos) (sAsg f tf) := by
  obtain ⟨t, p, q⟩ := h
  obtain ⟨gt, pg, qg⟩ := hg
  exact ⟨_, ps_asg p pg hs hw h1, fun K σ H m env hp hl er h => asg_sem q qg hl er h⟩
/-- name = [..] on one line, the name a local -/
theorem SV.setLc {i : Nat} {y : Str} {py : Pos} {elt tg it : Expr} {ifs : List Expr} {scope : Scope} {own : List (Str × Nat)} {pos spos : Pos} {f : Bool → M D} (live : Bool) (hc : X.calm = true) (hN : X.N.Nodup) (h : LCV g X E elt tg it ifs scope own f)
    (hy : X.N[i]? = some y) (hyl : X.env.scope.names.lookup y = some .local) (hsw : swapsWith (.ListComp elt [⟨tg, it, ifs, 0⟩] scope pos) (some (.Name y py)) spos.line X.env = pure true) (hs : ∀ x, foldedSetIterable it X.env x = pure x) :
    SV g X E (.Assign [.Name y py] (.ListComp elt [⟨tg, it, ifs, 0⟩] scope pos) spos) (sAsg (f live) (gNm i)) := by
  obtain ⟨ok, wi, gt, tt, te, p1, p2, p3, p4, q⟩ := h
  refine ⟨_, ps_setLc hc hN hy hyl hsw p1 ok p2 p3 p4 hs, fun K σ H m env hp hl er h => ?_⟩
  refine q live σ H _ m env hp hl er (SPO.bind h fun x h1 m1 H1 v x1 hl1 r1 h => ?_)
  exact h m1 H1 _ (.refl _ _) hl1 ((er.ext x1).set r1)
/-! for -/
open Classical in
noncomputable def forE (asg : TF) (body : SM) (gd : GdL) : List D → SM
  | [], env, h => if Gd gd h then .nx env h else .stuck
  | d :: ds, env, h => if Gd gd h then (match asg d env h with
      | some e => (match body e h with
        | .nx e h => forE asg body gd ds e h
        | .ct e h => forE asg body gd ds e h
        | .bk e h => .nx e h
        | .rt d h => .rt d h
        | .exc c fs h => .exc c fs h
        | .stuck => .stuck)
      | none => .stuck) else .stuck
@[simp] noncomputable def kFor (asg : TF) (body : SM) (env : EN) (p : List D × GdL) (h : HP) : SR := forE asg body p.2 p.1 env h
@[simp] noncomputable def sFor (it : IM) (asg : TF) (body : SM) (env : EN) (hp : HP) : SR := (it env hp).sbind (kFor asg body env)
theorem SV.for_ {tg it : Expr} {body : List Stmt} {pos : Pos} {fi : IM} {is : List Nat} {tf : TF} {fb : SM} (hp : PassesOwn (model X.prog X.w) X.A X.env X.xe) (hc : X.calm = true) (hi : IV g X E tg it fi) (hg : GV g X tg is tf) (hb : SVs g X E body fb) (hs : ∀ x, foldedSetIterable it X.env x = pure x) :
    SV g X E (.For tg it body [] pos) (sFor fi tf fb) := by
  obtain ⟨wi, pi, qi⟩ := hi
  obtain ⟨gt, pg, qg⟩ := hg
  obtain ⟨tb, pb, qb⟩ := hb
  refine ⟨_, ps_for hp hc pi pg pb hs, fun K σ H m env hp hl er h => ?_⟩
  refine qi σ H _ m env hp hl er ?_
  unfold sFor at h
  revert h
  cases fi env hp with
  | exc c fs h1 => exact fun h => h
  | stuck => exact fun h => h
  | ok p h1 =>
    obtain ⟨items, gd⟩ := p
    intro h m1 H1 J x1 hl1 fo
    have h : SPO g m H E K (forE tf fb gd items env h1) := h
    refine ⟨fun i k σ' H' => k = items.length - i ∧ i ≤ items.length ∧ ∃ m' env' hp', Ex m1 H1 m' H' ∧ HL g m' H' hp' ∧ ER g m' H' σ' env' ∧ SPO g m H E K (forE tf fb gd (items.drop i) env' hp'),
      ⟨items.length, rfl, Nat.zero_le _, m1, env, h1, .refl _ _, hl1, er.ext x1, by rw [List.drop_zero]; exact h⟩, ?_⟩
    rintro i k σ' H' ⟨rfl, hi', m', env', hp', x', hl', er', po⟩
    by_cases hlt : i < items.length
    · rw [List.drop_eq_getElem_cons hlt] at po
      unfold forE at po
      by_cases hgd : Gd gd hp'
      · rw [if_pos hgd] at po
        refine .inr ⟨fo.go i m' H' hp' hlt x' hl' hgd, fun σ2 H2 => ∃ k', k' < items.length - i ∧ k' = items.length - (i + 1) ∧ i + 1 ≤ items.length ∧ ∃ m' env' hp', Ex m1 H1 m' H2 ∧ HL g m' H2 hp' ∧ ER g m' H2 σ2 env' ∧ SPO g m H E K (forE tf fb gd (items.drop (i + 1)) env' hp'),
          fun σ2 H2 z => z, fun v H2 y => ?_⟩
        obtain ⟨d, ed, xe, hl2, rd⟩ := fo.yld i m' H' hp' v H2 hlt x' hl' hgd y
        rw [List.getElem?_eq_getElem hlt] at ed
        cases ed
        split at po
        · rename_i e2 ea
          refine qg v σ' H2 _ m' env' hp' _ hl2 (er'.ext xe) rd ⟨e2, ea, fun σ3 tn er3 => ?_⟩
          refine qb _ σ3 H2 m' e2 hp' hl2 er3 ?_
          have xx := x'.trans xe
          revert po
          cases fb e2 hp' with
          | nx e3 h3 => exact fun po m3 H3 σ4 x3 hl3 er4 => ⟨items.length - (i + 1), by omega, rfl, hlt, m3, e3, h3, xx.trans x3, hl3, er4, po⟩
          | ct e3 h3 => exact fun po m3 H3 σ4 x3 hl3 er4 => ⟨items.length - (i + 1), by omega, rfl, hlt, m3, e3, h3, xx.trans x3, hl3, er4, po⟩
          | bk e3 h3 => exact fun po m3 H3 σ4 x3 hl3 er4 => po m3 H3 σ4 ((x1.trans xx).trans x3) hl3 er4
          | rt d h3 => exact fun po m3 H3 v3 x3 hl3 r3 => po m3 H3 v3 ((x1.trans xx).trans x3) hl3 r3
          | exc c fs h3 => exact fun po m3 H3 d2 ws x3 hl3 e2 n2 r2 => po m3 H3 d2 ws ((x1.trans xx).trans x3) hl3 e2 n2 r2
          | stuck => exact fun po => po.elim
        · exact po.elim
      · rw [if_neg hgd] at po
        exact po.elim
    · have e : i = items.length := by omega
      subst e
      rw [List.drop_length] at po
      unfold forE at po
      by_cases hgd : Gd gd hp'
      · rw [if_pos hgd] at po
        exact .inl ⟨fo.stop m' H' hp' x' hl' hgd, po m' H' σ' (x1.trans x') hl' er'⟩
      · rw [if_neg hgd] at po
        exact po.elim
/-! while, with fuel -/
def whE (c : M Bool) (body : SM) : Nat → SM
  | 0, _, _ => .stuck
  | n + 1, env, h => (c env h).sbind fun k h1 => if k = true then (match body env h1 with
        | .nx e h => whE c body n e h
        | .ct e h => whE c body n e h
        | .bk e h => .nx e h
        | .rt d h => .rt d h
        | .exc c fs h => .exc c fs h
        | .stuck => .stuck) else .nx env h1
theorem SV.while_ {c : Expr} {body : List Stmt} {pos : Pos} {fc : M Bool} {fb : SM} (n : Nat) (hp : PassesOwn (model X.prog X.w) X.A X.env X.xe) (hc : TV g X E c fc) (hb : SVs g X E body fb) : SV g X E (.While c body [] pos) (whE fc fb n) := by
  obtain ⟨tc, pc, qc⟩ := hc
  obtain ⟨tb, pb, qb⟩ := hb
  refine ⟨_, ps_while hp pc pb, fun K σ H m env hp hl er h => ?_⟩
  refine ⟨fun k σ' H' => ∃ m' env' hp', Ex m H m' H' ∧ HL g m' H' hp' ∧ ER g m' H' σ' env' ∧ SPO g m H E K (whE fc fb k env' hp'), ⟨n, m, env, hp, .refl _ _, hl, er, h⟩, ?_⟩
  rintro k σ' H' ⟨m', env', hp', x', hl', er', po⟩
  cases k with
  | zero => exact po.elim
  | succ k =>
    unfold whE at po
    refine qc σ' H' _ m' env' hp' hl' er' (SPO.bindB po x' fun b h1 m1 H1 v x1 hl1 r1 po1 => ?_)
    cases (show b = v from r1)
    cases b with
    | true =>
      rw [if_pos rfl] at po1 ⊢
      refine ⟨fun σ2 H2 => ∃ k', k' < k + 1 ∧ ∃ m' env' hp', Ex m H m' H2 ∧ HL g m' H2 hp' ∧ ER g m' H2 σ2 env' ∧ SPO g m H E K (whE fc fb k' env' hp'), fun σ2 H2 z => z, ?_⟩
      refine qb _ σ' H1 m1 env' h1 hl1 (er'.ext x1) ?_
      have xx := x'.trans x1
      revert po1
      cases fb env' h1 with
      | nx e3 h3 => exact fun po m3 H3 σ4 x3 hl3 er4 => ⟨k, by omega, m3, e3, h3, xx.trans x3, hl3, er4, po⟩
      | ct e3 h3 => exact fun po m3 H3 σ4 x3 hl3 er4 => ⟨k, by omega, m3, e3, h3, xx.trans x3, hl3, er4, po⟩
      | bk e3 h3 => exact fun po m3 H3 σ4 x3 hl3 er4 => po m3 H3 σ4 (xx.trans x3) hl3 er4
      | rt d h3 => exact fun po m3 H3 v3 x3 hl3 r3 => po m3 H3 v3 (xx.trans x3) hl3 r3
      | exc c fs h3 => exact fun po m3 H3 d2 ws x3 hl3 e2 n2 r2 => po m3 H3 d2 ws (xx.trans x3) hl3 e2 n2 r2
      | stuck => exact fun po => po.elim
    | false =>
      rw [if_neg Bool.false_ne_true] at po1 ⊢
      exact po1 m1 H1 σ' (x'.trans x1) hl1 (er'.ext x1)
end
end Ev
namespace Ev
open PySem PySem.Spec PyProof.Rows L2
section
variable {g : G} {X : Cx} {E : XK}
/-- a def's promise, by its function on data -/
def spF (g : G) (n : Nat) (F : FA) : Sp := fun vs H Q E => vs.length = n ∧ ∃ m hp ds, HL g m H hp ∧ reps g m H ds vs ∧ PO g m H E (rep g) Q (F ds hp)
@[simp] def startE (N : Nat) (ds : List D) : EN := ds.map some ++ List.replicate (N - ds.length) none
open Classical in
noncomputable def excP (h0 : HP) (c : Nat) (fs : List (Str × D)) (h : HP) : R D := if h.take h0.length = h0 ∧ rlt.rltf h0.length fs = true then .exc c fs h0 else .stuck
/-- a pure def -/
@[simp] noncomputable def kFnP (h : HP) : SR → R D
  | .nx _ h' => pure_ h .non h'
  | .rt d h' => pure_ h d h'
  | .exc c fs h' => excP h c fs h'
  | .bk _ _ => .stuck
  | .ct _ _ => .stuck
  | .stuck => .stuck
@[simp] noncomputable def fnP (N : Nat) (body : SM) (ds : List D) (h : HP) : R D := kFnP h (body (startE N ds) h)
/-- a def that turns live things, or hands one back -/
@[simp] def kFnR : SR → R D
  | .nx _ h' => .ok .non h'
  | .rt d h' => .ok d h'
  | .exc c fs h' => .exc c fs h'
  | .bk _ _ => .stuck
  | .ct _ _ => .stuck
  | .stuck => .stuck
@[simp] def fnR (N : Nat) (body : SM) (ds : List D) (h : HP) : R D := kFnR (body (startE N ds) h)
theorem ER.start {m : AM} {H : Hp} {ds : List D} {vs : List V} (r : reps g m H ds vs) (N : List Str) : ER g m H (L2.start N vs) (startE N.length ds) := by
  have hl := reps.length r
  refine ⟨by simp [L2.start, startE, hl], fun i d e => ?_⟩
  unfold startE at e
  by_cases h : i < ds.length
  · rw [List.getElem?_append_left (by simpa using h), List.getElem?_map, List.getElem?_eq_getElem h] at e
    simp at e
    obtain ⟨v, ev, rv⟩ := reps.get r (List.getElem?_eq_getElem h)
    rw [e] at rv
    refine ⟨v, ?_, rv⟩
    unfold L2.start
    rw [List.getElem?_append_left (by rw [List.length_map, ← hl]; exact h), List.getElem?_map, ev]
    rfl
  · rw [List.getElem?_append_right (by simpa using Nat.le_of_not_lt h), List.getElem?_replicate] at e
    split at e <;> cases e
theorem fnP_ends {m : AM} {H : Hp} {hp : HP} {N : Nat} {fb : SM} {ds : List D} {Q : VK} (hl : HL g m H hp) (h : PO g m H E (rep g) Q (fnP N fb ds hp)) :
    SPO g m H E { nx := fun _ H' => Q .non H', rt := Q } (fb (startE N ds) hp) := by
  unfold fnP at h
  revert h
  cases fb (startE N ds) hp with
  | nx e h' => exact fun h m' H' σ' x hl' _ => PO.pure_ hl x hl' (d := .non) (by simp [rep]) h
  | rt d h' => exact fun h m' H' v x hl' r => PO.pure_ hl x hl' r h
  | exc c fs h' =>
    intro h m' H' d ws x hl' hd nd r
    have h : PO g m H E (rep g) Q (excP hp c fs h') := h
    unfold excP at h
    split at h
    · rename_i cnd
      obtain ⟨x2, hl2, dn⟩ := hl.back x hl' cnd.1
      rw [← hl.len] at cnd
      exact h m H' d ws x2 hl2 hd (fun z => nd (dn.mem _ z)) (repf.down dn _ _ cnd.2 r)
    · exact h.elim
  | bk e h' => exact fun h => h.elim
  | ct e h' => exact fun h => h.elim
  | stuck => exact fun h => h.elim
theorem fnR_ends {m : AM} {H : Hp} {hp : HP} {N : Nat} {fb : SM} {ds : List D} {Q : VK} (h : PO g m H E (rep g) Q (fnR N fb ds hp)) :
    SPO g m H E { nx := fun _ H' => Q .non H', rt := Q } (fb (startE N ds) hp) := by
  unfold fnR at h
  revert h
  cases fb (startE N ds) hp with
  | nx e h' => exact fun h m' H' σ' x hl' _ => h m' H' _ x hl' (by simp [rep])
  | rt d h' => exact fun h => h
  | exc c fs h' => exact fun h => h
  | bk e h' => exact fun h => h.elim
  | ct e h' => exact fun h => h.elim
  | stuck => exact fun h => h.elim
section
variable {P : Program} {w : World} {K : PySem.W.Frag} {mg : Str → Option Value} {base : Heap}
/-- a def that raises nothing -/
theorem Fn0 {x qual : Str} {st : Stmt} {f : Addr} {fd : FuncData} {N ps : List Str} {k : Nat} {fb : SM} {Fa : FA} (F : Fun K x qual st f fd) (S : FnScope N ps (defScope st))
    (hF : ∀ {E : XK} {m : AM} {H : Hp} {hp : HP} {ds : List D} {Q : VK}, HL g m H hp → PO g m H E (rep g) Q (Fa ds hp) → SPO g m H E { nx := fun _ H' => Q .non H', rt := Q } (fb (startE N.length ds) hp))
    (hb : ∀ (cdv : Value) (A : Around) (outer : List Env) (s : Shared) (H : Hp) (E : XK), Room k (A.deeper (envOfC qual (defScope st) s.heap.objs.size f cdv)) →
      SVs g (cxOf CX0 P w K mg base N qual (defScope st) f cdv A outer s H E).nox E (defBody st) fb) :
    FnOk P w K mg base CX0 (k + 1) f fd ps (spF g ps.length Fa) := by
  refine F.ok S (fun vs H Q E h => h.1) (fun cdv A outer s H vs Q E hr h => ?_)
  obtain ⟨_, m, hp, ds, hl, r, po⟩ := h
  obtain ⟨t, p, q⟩ := hb cdv A outer s H E hr
  exact ⟨t, p, q _ _ _ m _ hp hl (ER.start r N) (hF hl po)⟩
end
@[simp] def kFn (n : Nat) (F : FA) (xs : List D) (h : HP) : R D := if xs.length = n then F xs h else .stuck
@[simp] def mFn (n : Nat) (F : FA) (a : M (List D)) (env : EN) (hp : HP) : R D := (a env hp).bind (kFn n F)
/-- f(e, ..) -/
theorem EV.call {CX : CXT} {k n : Nat} {f : Addr} {fd : FuncData} {ps : List Str} {Fa : FA} {x : Str} {p pos : Pos} {e : Expr} {es : List Expr} {fs : M (List D)}
    (F : FnOk X.prog X.w X.K X.mg X.base CX k f fd ps (spF g n Fa)) (hr : Room k X.A) (hm : X.mg x = some (.ref f)) (hk : PySem.W.keepIn X.K (.ref f) = true) (hb : Binds X.K fd ps []) (hx : Passes CX X E) (ha : AV g X E (e :: es) fs)
    (hg : Gl X x) (hdb : (x == ("__debug__" : Str)) = false) (he : starEach (e :: es) X.env = (false, eval e X.env) :: starEach es X.env) (hpl : (backTo pos (starEach es X.env)).any (·.1) = false) :
    EV g X E (.Call (.Name x p) (e :: es) [] pos) (mFn n Fa fs) := by
  obtain ⟨t, pa, qa⟩ := ha
  refine ⟨_, pe_call F hr hg hm hk hb .nil hx pa hdb he hpl, fun σ H Q m env hp hl er h => ?_⟩
  refine qa σ H _ m env hp hl er (PO.bind h fun xs h1 m1 H1 vs x1 hl1 r1 h => ?_)
  unfold kFn at h
  split at h
  · rename_i c
    rw [List.append_nil]
    exact ⟨by rw [← reps.length r1]; exact c, m1, h1, xs, hl1, r1, h⟩
  · exact h.elim
theorem EV.call0 {CX : CXT} {k : Nat} {f : Addr} {fd : FuncData} {ps : List Str} {Fa : FA} {x : Str} {p pos : Pos}
    (F : FnOk X.prog X.w X.K X.mg X.base CX k f fd ps (spF g 0 Fa)) (hr : Room k X.A) (hm : X.mg x = some (.ref f)) (hk : PySem.W.keepIn X.K (.ref f) = true) (hb : Binds X.K fd ps []) (hx : Passes CX X E)
    (hg : Gl X x) (hdb : (x == ("__debug__" : Str)) = false) : EV g X E (.Call (.Name x p) [] [] pos) (mFn 0 Fa aNil) := by
  refine ⟨_, pe_call0 F hr hg hm hk hb .nil hx hdb, fun σ H Q m env hp hl er h => ?_⟩
  exact ⟨rfl, m, hp, [], hl, by simp [reps], h⟩

/-! ### methods of built-in types -/
abbrev FM := D → List D → HP → R D
structure BM (X : Cx) (g : G) (E : XK) (T id : String) (ty : HP → D → Bool) (F : FM) : Prop where
  ty_ : ∀ m H hp d v, HL g m H hp → rep g m H d v → ty hp d = true → tyV g.K T v H
  ex : ∃ r, MtR X id r ∧ ∀ m H hp d ds v vs Q, HL g m H hp → rep g m H d v → reps g m H ds vs → PO g m H E (rep g) Q (F d ds hp) → r v vs H Q
@[simp] def kBm (ty : HP → D → Bool) (F : FM) (args : M (List D)) (env : EN) (x : D) (h : HP) : R D := if ty h x = true then (args env h).bind (F x) else .stuck
@[simp] def mBm (ty : HP → D → Bool) (F : FM) (a : M D) (args : M (List D)) (env : EN) (hp : HP) : R D := (a env hp).bind (kBm ty F args env)
section
variable {T id : String} {name : Str} {o e : Expr} {es : List Expr} {apos cpos : Pos} {ty : HP → D → Bool} {F : FM} {fo : M D} {fs : M (List D)}
theorem EV.bm (hK : X.K = g.K) (pa : PlainAttrs T) (slot : Slot T name id) (hty : typeOf (.builtin id) = pure (.type "method_descriptor")) (hm : BM X g E T id ty F) (ho : EV g X E o fo) (ha : AV g X E (e :: es) fs)
    (hbase : attributeBase o name X.env (eval o X.env) = eval o X.env)
    (hfew : ((backTo cpos (starEach (e :: es) X.env)).all (fun x => !x.1) && (backToKw cpos (keywordEach [] X.env)).all (fun x => x.1.isSome)
      && decide ((e :: es).length + ([] : List Keyword).length + (if ([] : List Keyword).isEmpty then 0 else 1) < 30)) = true)
    (hline : (apos.endLine == cpos.line) = true) (hs : starEach (e :: es) X.env = (false, eval e X.env) :: starEach es X.env) (hplain : (backTo cpos (starEach es X.env)).any (·.1) = false) :
    EV g X E (.Call (.Attribute o name apos) (e :: es) [] cpos) (mBm ty F fo fs) := by
  obtain ⟨hty2, r, hr, hm⟩ := hm
  obtain ⟨t, p, q⟩ := ho
  obtain ⟨ta, pa', qa⟩ := ha
  refine ⟨_, pe_bm pa slot hty hr p pa' hbase hfew hline hs hplain, fun σ H Q m env hp hl er h => ?_⟩
  refine q σ H _ m env hp hl er (PO.bind h fun x h1 m1 H1 v x1 hl1 r1 h => ?_)
  unfold kBm at h
  split at h
  · rename_i c
    refine ⟨by rw [hK]; exact hty2 m1 H1 h1 x v hl1 r1 c, ?_⟩
    refine qa σ H1 _ m1 env h1 hl1 (er.ext x1) (PO.bind h fun ds h2 m2 H2 vs x2 hl2 r2 h => ?_)
    exact hm m2 H2 h2 x ds v vs Q hl2 (rep.ext x2 _ _ r1) r2 h
  · exact h.elim
theorem EV.bm0 (hK : X.K = g.K) (pa : PlainAttrs T) (slot : Slot T name id) (hty : typeOf (.builtin id) = pure (.type "method_descriptor")) (hm : BM X g E T id ty F) (ho : EV g X E o fo)
    (hbase : attributeBase o name X.env (eval o X.env) = eval o X.env) (hline : (apos.endLine == cpos.line) = true) : EV g X E (.Call (.Attribute o name apos) [] [] cpos) (mBm ty F fo aNil) := by
  obtain ⟨hty2, r, hr, hm⟩ := hm
  obtain ⟨t, p, q⟩ := ho
  refine ⟨_, pe_bm0 pa slot hty hr p hbase hline, fun σ H Q m env hp hl er h => ?_⟩
  refine q σ H _ m env hp hl er (PO.bind h fun x h1 m1 H1 v x1 hl1 r1 h => ?_)
  unfold kBm at h
  split at h
  · rename_i c
    exact ⟨by rw [hK]; exact hty2 m1 H1 h1 x v hl1 r1 c, hm m1 H1 h1 x [] v [] Q hl1 r1 (by simp [reps]) h⟩
  · exact h.elim
end
@[simp] def tyLO : Option O → Bool
  | some (.lst _) => true
  | _ => false
@[simp] def tyL (h : HP) : D → Bool
  | .ref n => tyLO h[n]?
  | _ => false
theorem tyL_ok {m : AM} {H : Hp} {hp : HP} {d : D} {v : V} (hl : HL g m H hp) (r : rep g m H d v) (e : tyL hp d = true) : tyV g.K "list" v H := by
  cases d with
  | ref n =>
    simp only [tyL] at e
    unfold tyLO at e
    split at e
    · rename_i ds q
      simp only [rep] at r
      obtain ⟨a, ea, vs, ha, _⟩ := hl.at q (by simp)
      rw [r.2 a ea]
      exact .inl ⟨rfl, vs, .of ha⟩
    · cases e
  | _ => cases e
@[simp] def kUnit (_ : Unit) (h : HP) : R D := .ok .non h
@[simp] def lAppend : D → List D → HP → R D
  | .ref n, [y], h => (appL n y h).bind kUnit
  | _, _, _ => .stuck
theorem bm_append : BM X g E "list" "list.append" tyL lAppend := by
  refine ⟨fun m H hp d v hl r e => tyL_ok hl r e, _, mt_append, fun m H hp d ds v vs Q hl r rs h => ?_⟩
  unfold lAppend at h
  split at h
  · rename_i n y
    unfold appL at h
    split at h
    · rename_i acc e
      split at h
      · rename_i hz
        obtain ⟨u, rfl, ru⟩ := reps1 rs
        simp only [rep] at r
        obtain ⟨a, ea, us, ha, rr⟩ := hl.at e (by simp)
        obtain ⟨x6, hl6⟩ := hl.write (u := .lst (us ++ [u])) (ob' := .lst (acc ++ [y])) ea e (by simp) fun x6 => ⟨us ++ [u], upd_same, reps.ext x6 _ _ (reps.append rr (by simp only [reps]; exact ⟨u, [], rfl, ru, rfl⟩))⟩
        exact ⟨a, us, u, r.2 a ea, rfl, ha, by rw [← reps.length rr]; exact hz, h m _ _ x6 hl6 (by simp [rep])⟩
      · exact h.elim
    · exact h.elim
  · exact h.elim
theorem reps.dropLast {m : AM} {H : Hp} {ds : List D} {vs : List V} (r : reps g m H ds vs) : reps g m H ds.dropLast vs.dropLast := by
  rw [List.dropLast_eq_take, List.dropLast_eq_take, ← reps.length r]
  exact r.take _
@[simp] def popO (n : Nat) (ds : List D) : Option D → HP → R D
  | some y, h => .ok y (h.set n (.lst ds.dropLast))
  | none, _ => .stuck
@[simp] def popL (n : Nat) : Option O → HP → R D
  | some (.lst ds), h => popO n ds ds[ds.length - 1]? h
  | _, _ => .stuck
@[simp] def lPop : D → List D → HP → R D
  | .ref n, [], h => popL n h[n]? h
  | _, _, _ => .stuck
theorem bm_pop : BM X g E "list" "list.pop" tyL lPop := by
  refine ⟨fun m H hp d v hl r e => tyL_ok hl r e, _, mt_pop, fun m H hp d ds v vs Q hl r rs h => ?_⟩
  unfold lPop at h
  split at h
  · rename_i n
    unfold popL at h
    split at h
    · rename_i acc e
      unfold popO at h
      split at h
      · rename_i y ey
        simp only [reps] at rs
        subst rs
        simp only [rep] at r
        obtain ⟨a, ea, us, ha, rr⟩ := hl.at e (by simp)
        obtain ⟨u, eu, ru⟩ := rr.get ey
        obtain ⟨x6, hl6⟩ := hl.write (u := .lst us.dropLast) (ob' := .lst acc.dropLast) ea e (by simp) fun x6 => ⟨us.dropLast, upd_same, reps.ext x6 _ _ rr.dropLast⟩
        exact ⟨a, us, u, r.2 a ea, rfl, ha, by rw [← reps.length rr]; exact eu, h m _ _ x6 hl6 (rep.ext x6 _ _ ru)⟩
      · exact h.elim
    · exact h.elim
  · exact h.elim
end
/-- the script -/
theorem rep_script {g : G} {m : AM} {H : Hp} {a : Addr} {ns : List Int} (h : SqL g.K H a (ns.map V.int)) (hm : some a ∉ m) : rep g m H (.klst (ns.map D.int)) (.ref a) := by
  simp only [rep]
  refine ⟨a, ns.map V.int, rfl, ?_, ?_⟩
  · rcases h with h | h
    · exact .inl ⟨h, hm⟩
    · exact .inr h
  · clear h
    induction ns with
    | nil => simp [reps]
    | cons n ns ih =>
      simp only [List.map_cons, reps]
      exact ⟨.int n, _, rfl, by simp [rep], ih⟩
theorem law_sp {g : G} {F : FA} {ns : List Int} (h : F [.klst (ns.map D.int)] [] = .ok (.bl true) []) {H : Hp} {a : Addr} (hS : SqL g.K H a (ns.map V.int)) : spF g 1 F [.ref a] H (fun v _ => v = .bl true) (fun _ _ _ => False) := by
  refine ⟨rfl, [], [], [.klst (ns.map D.int)], ⟨rfl, fun i j a e => by simp at e, fun i o e => by simp at e⟩, ?_, ?_⟩
  · simp only [reps]
    exact ⟨_, [], rfl, rep_script hS (by simp), rfl⟩
  · rw [h]
    intro m' H' v x hl r
    simpa [rep] using r
end Ev
namespace Ev
open PySem PySem.Spec PyProof.Rows L2

/-! ### simp set -/
@[simp] theorem bind_ok {α β : Type} (a : α) (h : HP) (f : α → HP → R β) : (R.ok a h).bind f = f a h := rfl
@[simp] theorem sbind_ok {α : Type} (a : α) (h : HP) (f : α → HP → SR) : (R.ok a h).sbind f = f a h := rfl
@[simp] theorem Gd_nil (h : HP) : Gd [] h = True := by simp [Gd]
theorem Gd_one (n : Nat) (ds : List D) (h : HP) : Gd [(n, ds)] h = (h[n]? = some (.lst ds)) := by simp [Gd]
theorem rlts_eq {n : Nat} {ds : List D} : rlt.rlts n ds = ds.all (rlt n) := by
  induction ds with
  | nil => rfl
  | cons d ds ih => simp [rlt.rlts, ih]
/-- a value without live things -/
def clean (d : D) : Prop := ∀ n, rlt n d = true
theorem clean_int (i : Int) : clean (.int i) := fun _ => rfl
theorem clean_bl (i : Bool) : clean (.bl i) := fun _ => rfl
theorem clean_str (i : Str) : clean (.str i) := fun _ => rfl
theorem clean_non : clean .non := fun _ => rfl
theorem clean_tup {ds : List D} (h : ∀ d ∈ ds, clean d) : clean (.tup ds) := fun n => by
  simp only [rlt, rlts_eq, List.all_eq_true]
  exact fun d hd => h d hd n
theorem clean_lst {ds : List D} (h : ∀ d ∈ ds, clean d) : clean (.lst ds) := fun n => by
  simp only [rlt, rlts_eq, List.all_eq_true]
  exact fun d hd => h d hd n
theorem clean_klst {ds : List D} (h : ∀ d ∈ ds, clean d) : clean (.klst ds) := fun n => by
  simp only [rlt, rlts_eq, List.all_eq_true]
  exact fun d hd => h d hd n
theorem pure_same {d : D} (h : HP) (c : rlt h.length d = true) : pure_ h d h = .ok d h := by
  unfold pure_
  rw [if_pos (List.take_length)]
  simp [fz, c]
theorem pure_junk {d : D} (h x : HP) (c : rlt h.length d = true) : pure_ h d (h ++ x) = .ok d h := by
  unfold pure_
  rw [if_pos (by simp)]
  simp [fz, c]
theorem pure_list {ds : List D} (h : HP) (c : ∀ d ∈ ds, clean d) : pure_ h (.ref h.length) (h ++ [.lst ds]) = .ok (.lst ds) h := by
  unfold pure_
  rw [if_pos (by simp)]
  have : rlt.rlts h.length ds = true := by
    rw [rlts_eq, List.all_eq_true]
    exact fun d hd => c d hd _
  simp [fz, rlt, this]
theorem pure_clean {d : D} (h : HP) (c : clean d) : pure_ h d h = .ok d h := pure_same h (c _)
theorem pure_cleanJ {d : D} (h x : HP) (c : clean d) : pure_ h d (h ++ x) = .ok d h := pure_junk h x (c _)
theorem appL_last {y : D} {ds : List D} (h : HP) (c : ds.length < sizeLine) : appL h.length y (h ++ [.lst ds]) = .ok () (h ++ [.lst (ds ++ [y])]) := by
  unfold appL
  simp [c]

@[simp] theorem le_line {n : Nat} (h : n ≤ 16000000) : (n ≤ sizeLine) = True := by
  rw [sizeLine_eq]
  exact eq_true (by omega)
@[simp] theorem lt_line {n : Nat} (h : n ≤ 16000000) : (n < sizeLine) = True := by
  rw [sizeLine_eq]
  exact eq_true (by omega)
theorem rg_of {n : Int} (h1 : -1000000000000000000 ≤ n) (h2 : n ≤ 1000000000000000000) : Rg n := by
  unfold Rg
  omega
@[simp] theorem rg_nat {n : Nat} (h2 : n ≤ 1000000000000000000) : Rg (n : Int) := rg_of (by omega) (by omega)
@[simp] theorem rg_lit {n : Nat} (h2 : OfNat.ofNat n ≤ 1000000000000000000) : Rg (OfNat.ofNat n : Int) := by
  have := rg_nat h2
  exact this
/-! ### pure comprehensions -/
theorem lcE_map (asg : TF) (cond : M Bool) (elt : M D) (envw : EN) (h : HP) (F : D → D) (p : D → Bool) : ∀ (items : List D) (acc : List D), acc.length + items.length ≤ sizeLine →
    (∀ d ∈ items, ∀ h' : HP, ∃ e, asg d envw h' = some e ∧ cond e h' = .ok (p d) h' ∧ (p d = true → elt e h' = .ok (F d) h')) →
    lcE asg cond elt envw h.length [] items (h ++ [.lst acc]) = .ok () (h ++ [.lst (acc ++ (items.filter p).map F)])
  | [], acc, _, _ => by
    unfold lcE
    rw [if_pos (by simp [Gd])]
    simp
  | d :: ds, acc, hz, H => by
    unfold lcE
    rw [if_pos (by simp [Gd])]
    obtain ⟨e, e1, e2, e3⟩ := H d (List.mem_cons_self ..) (h ++ [.lst acc])
    simp only [e1, e2, R.nx, R.bind]
    cases q : p d with
    | true =>
      have hz' : acc.length < sizeLine := by simp only [List.length_cons] at hz; omega
      simp only [if_true, e3 q, R.nx, R.bind, appL_last h hz']
      rw [lcE_map asg cond elt envw h F p ds (acc ++ [F d]) (by simp only [List.length_append, List.length_cons, List.length_nil] at hz ⊢; omega) fun d' hd h' => H d' (List.mem_cons_of_mem _ hd) h']
      simp [List.filter_cons, q]
    | false =>
      simp only [if_neg Bool.false_ne_true]
      rw [lcE_map asg cond elt envw h F p ds acc (by simp only [List.length_cons] at hz; omega) fun d' hd h' => H d' (List.mem_cons_of_mem _ hd) h']
      simp [List.filter_cons, q]
theorem mLc_filter {it : IM} {own : List Nat} {asg : TF} {cond : M Bool} {elt : M D} {env : EN} {h h1 : HP} {items : List D} (F : D → D) (p : D → Bool) (hi : it env h = .ok (items, []) h1) (hz : items.length ≤ sizeLine)
    (H : ∀ d ∈ items, ∀ h' : HP, ∃ e, asg d (wipeE env own) h' = some e ∧ cond e h' = .ok (p d) h' ∧ (p d = true → elt e h' = .ok (F d) h')) (c : ∀ d ∈ items, p d = true → clean (F d)) :
    mLc false it own asg cond elt env h = .ok (.lst ((items.filter p).map F)) h1 := by
  unfold mLc
  rw [hi]
  simp only [R.bind]
  rw [lcE_map asg cond elt _ h1 F p items [] (by simpa using hz) H]
  simp only [List.nil_append, outL, if_neg Bool.false_ne_true]
  exact pure_list h1 (by
    intro d hd
    obtain ⟨x, hx, rfl⟩ := List.mem_map.mp hd
    obtain ⟨h1, h2⟩ := List.mem_filter.mp hx
    exact c x h1 h2)
theorem mLc_map {it : IM} {own : List Nat} {asg : TF} {elt : M D} {env : EN} {h h1 : HP} {items : List D} (F : D → D) (hi : it env h = .ok (items, []) h1) (hz : items.length ≤ sizeLine)
    (H : ∀ d ∈ items, ∀ h' : HP, ∃ e, asg d (wipeE env own) h' = some e ∧ elt e h' = .ok (F d) h') (c : ∀ d ∈ items, clean (F d)) :
    mLc false it own asg cYes elt env h = .ok (.lst (items.map F)) h1 := by
  have := mLc_filter (cond := cYes) F (fun _ => true) hi hz (fun d hd h' => let ⟨e, e1, e2⟩ := H d hd h'; ⟨e, e1, rfl, fun _ => e2⟩) fun d hd _ => c d hd
  rw [this, List.filter_eq_self.mpr (fun _ _ => rfl)]
theorem mLc_live {it : IM} {own : List Nat} {asg : TF} {elt : M D} {env : EN} {h h1 : HP} {items : List D} (F : D → D) (hi : it env h = .ok (items, []) h1) (hz : items.length ≤ sizeLine)
    (H : ∀ d ∈ items, ∀ h' : HP, ∃ e, asg d (wipeE env own) h' = some e ∧ elt e h' = .ok (F d) h') :
    mLc true it own asg cYes elt env h = .ok (.ref h1.length) (h1 ++ [.lst (items.map F)]) := by
  unfold mLc
  rw [hi]
  simp only [R.bind]
  rw [lcE_map asg cYes elt _ h1 F (fun _ => true) items [] (by simpa using hz) fun d hd h' => let ⟨e, e1, e2⟩ := H d hd h'; ⟨e, e1, rfl, fun _ => e2⟩, List.filter_eq_self.mpr (fun _ _ => rfl)]
  simp [outL]
/-! ### loops by an invariant -/
theorem forE_inv {asg : TF} {body : SM} {gd : GdL} (I : Nat → EN → HP → Prop) {items : List D} (hg : ∀ i env h, I i env h → Gd gd h)
    (hs : ∀ i env h (hi : i < items.length), I i env h → ∃ e, asg items[i] env h = some e ∧ ∃ env' h', (body e h = .nx env' h' ∨ body e h = .ct env' h') ∧ I (i + 1) env' h')
    {env : EN} {h : HP} (h0 : I 0 env h) : ∃ env' h', forE asg body gd items env h = .nx env' h' ∧ I items.length env' h' := by
  have key : ∀ k i env h, i + k = items.length → I i env h → ∃ env' h', forE asg body gd (items.drop i) env h = .nx env' h' ∧ I items.length env' h' := by
    intro k
    induction k with
    | zero =>
      intro i env h e hI
      have e : i = items.length := by omega
      subst e
      refine ⟨env, h, ?_, hI⟩
      rw [List.drop_length]
      unfold forE
      rw [if_pos (hg _ _ _ hI)]
    | succ k ih =>
      intro i env h e hI
      have hi : i < items.length := by omega
      obtain ⟨e1, ea, env', h', eb, hI'⟩ := hs i env h hi hI
      obtain ⟨env2, h2, e2, hI2⟩ := ih (i + 1) env' h' (by omega) hI'
      refine ⟨env2, h2, ?_, hI2⟩
      rw [List.drop_eq_getElem_cons hi]
      unfold forE
      rw [if_pos (hg _ _ _ hI)]
      simp only [ea]
      rcases eb with eb | eb <;> simp only [eb, e2]
  exact key items.length 0 env h (by omega) h0
/-! ### sizes -/
abbrev sz (i : Int) : Nat := i.natAbs.log2
theorem sz_lt {i : Int} {n : Nat} (h0 : 0 < n) (h : i.natAbs < 2 ^ n) : sz i < n := PySem.Flt.log2_lt_of h0 h
theorem lt_sz (i : Int) : i.natAbs < 2 ^ (sz i + 1) := Nat.lt_log2_self
theorem mulX {i j : Int} (a b : Nat) (hi : sz i ≤ a) (hj : sz j ≤ b) (h : a + b < 100000000) : CMulE i j := by
  unfold CMulE
  show sz i + sz j < _
  omega
theorem sz_mul (i j : Int) : sz (i * j) ≤ sz i + sz j + 1 := by
  have h : (i * j).natAbs < 2 ^ (sz i + sz j + 2) := by
    rw [Int.natAbs_mul, show sz i + sz j + 2 = (sz i + 1) + (sz j + 1) by omega, Nat.pow_add]
    exact Nat.mul_lt_mul'' (lt_sz i) (lt_sz j)
  have := sz_lt (by omega) h
  omega
theorem sz_add (i j : Int) : sz (i + j) ≤ max (sz i) (sz j) + 1 := by
  have h1 := lt_sz i
  have h2 := lt_sz j
  have p1 : 2 ^ (sz i + 1) ≤ 2 ^ (max (sz i) (sz j) + 1) := Nat.pow_le_pow_right (by decide) (by omega)
  have p2 : 2 ^ (sz j + 1) ≤ 2 ^ (max (sz i) (sz j) + 1) := Nat.pow_le_pow_right (by decide) (by omega)
  have h : (i + j).natAbs < 2 ^ (max (sz i) (sz j) + 2) := by
    rw [show max (sz i) (sz j) + 2 = (max (sz i) (sz j) + 1) + 1 by omega, Nat.pow_succ]
    omega
  have := sz_lt (by omega) h
  omega
theorem sz_neg (i : Int) : sz (-i) = sz i := by unfold sz; rw [Int.natAbs_neg]
theorem sz_sub (i j : Int) : sz (i - j) ≤ max (sz i) (sz j) + 1 := by
  have := sz_add i (-j)
  rw [sz_neg] at this
  rw [Int.sub_eq_add_neg]
  exact this
theorem sz_mono {i j : Int} (h : i.natAbs ≤ j.natAbs) : sz i ≤ sz j := by
  by_cases z : sz i = 0
  · omega
  · have h1 := lt_sz j
    have := sz_lt (i := i) (n := sz j + 1) (by omega) (by omega)
    omega
theorem sz_div {i j : Int} (hj : 0 < j) : sz (i / j) ≤ sz i := by
  apply sz_mono
  by_cases h : 0 ≤ i
  · have h1 : 0 ≤ i / j := Int.ediv_nonneg h (by omega)
    have h2 : i / j ≤ i := Int.ediv_le_self _ h
    omega
  · have h1 : i / j < 0 := Int.ediv_neg_of_neg_of_pos (by omega) hj
    have h2 : i ≤ i / j := by
      have := Int.mul_ediv_add_emod i j
      have h3 := Int.emod_nonneg i (show j ≠ 0 by omega)
      have h4 := Int.emod_lt_of_pos i hj
      have h5 : i / j * (j - 1) ≤ 0 := Int.mul_nonpos_of_nonpos_of_nonneg (by omega) (by omega)
      have : j * (i / j) = i / j * (j - 1) + i / j := by
        rw [Int.mul_sub, Int.mul_one, Int.mul_comm]
        omega
      -- i = j * q + r with 0 ≤ r
      have h6 : i / j * (j - 1) ≤ 0 := h5
      have h7 : i = i / j * (j - 1) + i / j + i % j := by omega
      have h8 : i / j * (j - 1) ≤ -1 * (j - 1) := Int.mul_le_mul_of_nonneg_right (by omega) (by omega)
      omega
    omega
theorem sz_small {i : Int} {n : Nat} (h0 : 0 < n) (h : i.natAbs < 2 ^ n) : sz i ≤ n := Nat.le_of_lt (sz_lt h0 h)
end Ev
namespace Ev
open PySem PySem.Spec PyProof.Rows L2
section
variable {g : G} {X : Cx} {E : XK}
/-! x[k] = v, x a live list -/
@[simp] def setJ (n : Nat) (ds : List D) (y : D) : Option Nat → HP → R Unit
  | some j, h => .ok () (h.set n (.lst (ds.set j y)))
  | none, _ => .stuck
@[simp] def setL (n : Nat) (k : Int) (y : D) : Option O → HP → R Unit
  | some (.lst ds), h => setJ n ds y (ixN ds.length k) h
  | _, _ => .stuck
@[simp] def setD (y : D) : D → D → HP → R Unit
  | .ref n, .int k, h => setL n k y h[n]? h
  | _, _, _ => .stuck
@[simp] def kNx (env : EN) (_ : Unit) (h : HP) : SR := .nx env h
@[simp] def kSetIx2 (env : EN) (y o : D) (k : D) (h : HP) : SR := (setD y o k h).sbind (kNx env)
@[simp] def kSetIx1 (fi : M D) (env : EN) (y : D) (o : D) (h : HP) : SR := (fi env h).sbind (kSetIx2 env y o)
@[simp] def kSetIx (fo fi : M D) (env : EN) (y : D) (h : HP) : SR := (fo env h).sbind (kSetIx1 fi env y)
@[simp] def sSetIx (fv fo fi : M D) (env : EN) (hp : HP) : SR := (fv env hp).sbind (kSetIx fo fi env)
theorem reps.set {m : AM} {H : Hp} {y : D} {v : V} (rv : rep g m H y v) : ∀ {ds : List D} {vs : List V} {j : Nat}, reps g m H ds vs → reps g m H (ds.set j y) (vs.set j v)
  | [], vs, j, h => by
    simp only [reps] at h
    subst h
    simp [reps]
  | d :: ds, vs, 0, h => by
    simp only [reps] at h
    obtain ⟨w, r, rfl, h1, h2⟩ := h
    simp only [List.set_cons_zero, reps]
    exact ⟨v, r, rfl, rv, h2⟩
  | d :: ds, vs, j + 1, h => by
    simp only [reps] at h
    obtain ⟨w, r, rfl, h1, h2⟩ := h
    simp only [List.set_cons_succ, reps]
    exact ⟨w, _, rfl, h1, reps.set rv h2⟩
theorem SV.setIx {o i e : Expr} {pos pos' : Pos} {fv fo fi : M D} (hv : EV g X E e fv) (ho : EV g X E o fo) (hi : EV g X E i fi)
    (ha : ∀ v, assign (.Subscript o i pos') X.env v = (do
      let ov ← holding [v] (eval o X.env)
      let iv ← holding [v, ov] (eval i X.env)
      standAt pos'
      holding [v, ov, iv] (setItem ov iv v)
      release [v, ov, iv] []))
    (hs : swapsWithSole [.Subscript o i pos'] e pos.line X.env = pure false) (hw : swappedStores [.Subscript o i pos'] e X.env = pure none)
    (h1 : (assignEach [.Subscript o i pos'] X.env).map (·.2) = [assign (.Subscript o i pos') X.env]) : SV g X E (.Assign [.Subscript o i pos'] e pos) (sSetIx fv fo fi) := by
  obtain ⟨tv, pv, qv⟩ := hv
  obtain ⟨to, po, qo⟩ := ho
  obtain ⟨ti, pi, qi⟩ := hi
  refine ⟨_, ps_asg pv (pg_sub po pi set_list ha) hs hw h1, fun K σ H m env hp hl er h => ?_⟩
  refine qv σ H _ m env hp hl er (SPO.bind h fun y h1 m1 H1 v x1 hl1 r1 h => ?_)
  refine qo σ H1 _ m1 env h1 hl1 (er.ext x1) (SPO.bind h fun od h2 m2 H2 u x2 hl2 r2 h => ?_)
  refine qi σ H2 _ m2 env h2 hl2 ((er.ext x1).ext x2) (SPO.bind h fun k h3 m3 H3 w x3 hl3 r3 h => ?_)
  unfold kSetIx2 at h
  cases od with
  | ref n =>
    cases k with
    | int k =>
      simp only [setD] at h
      cases eo : h3[n]? with
      | none => rw [eo] at h; exact h.elim
      | some ob =>
        rw [eo] at h
        cases ob with
        | lst ds =>
          simp only [setL] at h
          cases ej : ixN ds.length k with
          | none => rw [ej] at h; exact h.elim
          | some j =>
            rw [ej] at h
            simp only [setJ, R.sbind, kNx] at h
            have r2' := rep.ext x3 _ _ r2
            simp only [rep] at r2'
            obtain ⟨a, ea, us, hA, rr⟩ := hl3.at eo (by simp)
            have ry := rep.ext (x2.trans x3) _ _ r1
            obtain ⟨x6, hl6⟩ := hl3.write (u := .lst (us.set j v)) (ob' := .lst (ds.set j y)) ea eo (by simp) fun x6 => ⟨us.set j v, upd_same, reps.ext x6 _ _ (reps.set ry rr)⟩
            exact ⟨a, us, k, j, r2'.2 a ea, rInt r3, hA, by rw [← reps.length rr]; exact ej, h m3 _ σ x6 hl6 (((er.ext x1).ext x2).ext x3 |>.ext x6)⟩
        | _ => exact h.elim
    | _ => exact h.elim
  | _ => exact h.elim
/-! x.bit_length() -/
@[simp] def kBits : D → HP → R D
  | .int i, h => .ok (.int (Builtin.Int.intBits i : Nat)) h
  | _, _ => .stuck
@[simp] def mBits (f : M D) (env : EN) (hp : HP) : R D := (f env hp).bind kBits
theorem EV.bits {o : Expr} {apos pos : Pos} {f : M D} (ho : EV g X E o f) (hbase : attributeBase o "bit_length" X.env (eval o X.env) = eval o X.env) (hline : (apos.endLine == pos.line) = true) :
    EV g X E (.Call (.Attribute o "bit_length" apos) [] [] pos) (mBits f) := by
  obtain ⟨t, p, q⟩ := ho
  refine ⟨_, pe_bits p hbase hline, fun σ H Q m env hp hl er h => q σ H _ m env hp hl er (PO.bind h fun x h1 m1 H1 v x1 hl1 r1 h => ?_)⟩
  cases x with
  | int i => exact ⟨i, rInt r1, PO.here hl1 h (by simp [rep])⟩
  | _ => exact h.elim
/-! l.index(x), flat items -/
@[simp] def tyLs (h : HP) (d : D) : Bool := (asL h d).isSome
@[simp] def idxN (n : Nat) (j : Nat) (h : HP) : R D := if j < n then .ok (.int (j : Nat)) h else .stuck
@[simp] def idxO (y : D) : Option (List D) → HP → R D
  | some ds, h => if flatD y = true ∧ ds.all flatD = true then idxN ds.length (ds.findIdx fun z => eqD z y) h else .stuck
  | none, _ => .stuck
@[simp] def lIndex : D → List D → HP → R D
  | d, [y], h => idxO y (asL h d) h
  | _, _, _ => .stuck
theorem reps.back {m : AM} {H : Hp} : ∀ {ds : List D} {vs : List V} {i : Nat} {v : V}, reps g m H ds vs → vs[i]? = some v → ∃ d, ds[i]? = some d ∧ rep g m H d v
  | [], vs, i, v, h, e => by
    simp only [reps] at h
    subst h
    simp at e
  | d :: ds, vs, 0, v, h, e => by
    simp only [reps] at h
    obtain ⟨w, r, rfl, h1, h2⟩ := h
    cases e
    exact ⟨d, rfl, h1⟩
  | d :: ds, vs, i + 1, v, h, e => by
    simp only [reps] at h
    obtain ⟨w, r, rfl, h1, h2⟩ := h
    obtain ⟨d', e', r'⟩ := reps.back (ds := ds) (i := i) h2 (by simpa using e)
    exact ⟨d', by simpa using e', r'⟩
theorem bm_index (hK : X.K = g.K) : BM X g E "list" "list.index" tyLs lIndex := by
  refine ⟨fun m H hp d v hl r e => ?_, _, mt_index, fun m H hp d ds v vs Q hl r rs h => ?_⟩
  · unfold tyLs at e
    obtain ⟨es, ee⟩ := Option.isSome_iff_exists.mp e
    obtain ⟨a, us, rfl, hs, _⟩ := asL_ok hl r ee
    exact .inl ⟨rfl, us, hs⟩
  · rw [hK]
    unfold lIndex at h
    split at h
    · rename_i y
      unfold idxO at h
      split at h
      · rename_i es ee
        obtain ⟨a, us, rfl, hs, ru⟩ := asL_ok hl r ee
        obtain ⟨u, rfl, ry⟩ := reps1 rs
        split at h
        · rename_i c
          unfold idxN at h
          split at h
          · rename_i c2
            obtain ⟨z, hz, rz⟩ := reps.get ru (List.getElem?_eq_getElem c2)
            have fl : ∀ d ∈ es, flatD d = true := List.all_eq_true.mp c.2
            refine ⟨a, us, u, es.findIdx fun z => eqD z y, z, rfl, rfl, hs, flatD_ok _ _ ry c.1, reps.mem ru _ _ (fun d v => flatD_ok d v) c.2, hz, ?_, fun k z' hk hz' => ?_, PO.here hl h (by simp [rep])⟩
            · rw [eqD_ok rz ry (fl _ (List.getElem_mem c2)) c.1]
              exact List.findIdx_getElem (w := c2)
            · obtain ⟨d', hd', rd'⟩ := reps.back ru hz'
              have hm := List.mem_of_getElem? hd'
              rw [eqD_ok rd' ry (fl _ hm) c.1]
              have hk' := List.not_of_lt_findIdx hk
              have e' : es[k]? = some d' := hd'
              obtain ⟨hlt, e2⟩ := List.getElem?_eq_some_iff.mp e'
              rw [e2] at hk'
              simpa using hk'
          · exact h.elim
        · exact h.elim
      · exact h.elim
    · exact h.elim
/-! range(i, j, -1) -/
def rngN (lo : Int) (n : Nat) : List D := (List.range n).map fun i => .int (lo + (i : Nat) * (-1))
theorem rngN_len (lo : Int) (n : Nat) : (rngN lo n).length = n := by simp [rngN]
theorem foll_rangeN {m0 : AM} {H0 : Hp} {lo : Int} {n : Nat} : Foll g m0 H0 (Itc lo (-1) n) (rngN lo n) [] := by
  refine ⟨fun i m H hp hi x _ _ => by rw [rngN_len] at hi; exact hi, fun i m H hp v H' hi x hl' _ y => ?_, fun m H hp x _ _ => by rw [rngN_len]; exact Nat.le_refl _⟩
  obtain ⟨e, y⟩ := y
  subst e
  subst y
  rw [rngN_len] at hi
  exact ⟨.int (lo + (i : Nat) * (-1)), by simp [rngN, hi], .refl _ _, hl', by simp [rep]⟩
open Classical in
@[simp] noncomputable def kRange3 : List D → HP → R (List D × GdL)
  | [.int i, .int j, .int c], h => if c = -1 ∧ Rg i ∧ Rg j then .ok (rngN i (i - j).toNat, []) h else .stuck
  | _, _ => .stuck
@[simp] noncomputable def iRange3 (a : M (List D)) (env : EN) (hp : HP) : R (List D × GdL) := (a env hp).bind kRange3
theorem IV.range3 {tg a b c : Expr} {p pos : Pos} {f : M (List D)} (hm : X.mg "range" = none) (h : AV g X E [a, b, c] f) (hg : Gl X "range")
    (hs : starEach [a, b, c] X.env = (false, eval a X.env) :: starEach [b, c] X.env) (hpl : (backTo pos (starEach [b, c] X.env)).any (·.1) = false) : IV g X E tg (.Call (.Name "range" p) [a, b, c] [] pos) (iRange3 f) := by
  obtain ⟨t, p, q⟩ := h
  refine ⟨_, pi_range3 hg hm p hs hpl, fun σ H Rr m env hp hl er h => ?_⟩
  refine q σ H _ m env hp hl er (IPO.bind h fun xs h1 m1 H1 vs x1 hl1 r1 h => ?_)
  unfold kRange3 at h
  split at h
  · split at h
    · rename_i c
      obtain ⟨v, vs2, rfl, rr, r2⟩ := reps_cons r1
      obtain ⟨u, w, rfl, rr2, rr3⟩ := reps2 r2
      obtain rfl := rInt rr
      obtain rfl := rInt rr2
      obtain rfl := rInt rr3
      obtain ⟨rfl, c1, c2⟩ := c
      exact ⟨_, _, _, _, rfl, RgC.neg c1.1 c1.2 c2.1 c2.2, h m1 H1 _ (.refl _ _) hl1 foll_rangeN⟩
    · exact h.elim
  · exact h.elim
end
end Ev
namespace Ev
open PySem PySem.Spec PyProof.Rows L2
section
variable {g : G} {X : Cx} {E : XK}

/-! ### a < b < c < d -/
section
variable {a b c d : Expr} {pos : Pos} {ta tb tc td : TE}
def tChain3 (r r' r'' : R2) (ta tb tc td : TE) : TE := fun σ H Q => ta σ H fun x H1 => tb σ H1 fun y H2 => r x y H2 fun z H3 => ∃ k, z = .bl k ∧
  (if k = true then tc σ H3 fun w' H4 => r' y w' H4 fun z2 H5 => ∃ k2, z2 = .bl k2 ∧ (if k2 = true then td σ H5 fun w2 H6 => r'' w' w2 H6 Q else Q (.bl false) H5) else Q (.bl false) H3)
theorem pe_chain3 {op op' op'' : CmpOp} {r r' r'' : R2} (ho : OpR X (compareOp op) r) (ho' : OpR X (compareOp op') r') (ho'' : OpR X (compareOp op'') r'') (ha : PE X a ta) (hb : PE X b tb) (hc : PE X c tc) (hd : PE X d td)
    (hm : lastMarks [op, op', op''] [b, c, d] = false) : PE X (.Compare a [op, op', op''] [b, c, d] pos) (tChain3 r r' r'' ta tb tc td) := by
  refine ⟨fun pins s σ H Q I h => ?_⟩
  refine Compare_chain (thn (ha.run pins s σ H _ I h) fun v s1 ⟨x, H1, I1, r1, q1⟩ => chain_link (thn (hb.run pins s1 σ H1 _ I1 q1) fun u s2 ⟨y, H2, I2, r2, q2⟩ =>
    thn (ho pins s2 σ H2 x y v u _ I2 r1 r2 q2) fun d s3 ⟨z, H3, I3, r3, k, e, q3⟩ => ?_)) hm
  subst e
  cases r3
  refine wpAny_truthy_bool ?_
  cases k with
  | false => exact ite_ff ⟨.bl false, H3, I3, rfl, q3⟩
  | true =>
    refine ite_tt (chain_link (thn (hc.run pins s3 σ H3 _ I3 q3) fun w' s4 ⟨z', H4, I4, r4, q4⟩ => thn (ho' pins s4 σ H4 y z' u w' _ I4 r2 r4 q4) fun d s5 ⟨z2, H5, I5, r5, k2, e2, q5⟩ => ?_))
    subst e2
    cases r5
    refine wpAny_truthy_bool ?_
    cases k2 with
    | false => exact ite_ff ⟨.bl false, H5, I5, rfl, q5⟩
    | true => exact ite_tt (chain_last (thn (hd.run pins s5 σ H5 _ I5 q5) fun w2 s6 ⟨z3, H6, I6, r6, q6⟩ => ho'' pins s6 σ H6 z' z3 w' w2 Q I6 r4 r6 q6))
theorem pt_chain3 {op op' op'' : CmpOp} {r r' r'' : R2} (ho : OpR X (compareOp op) r) (ho' : OpR X (compareOp op') r') (ho'' : OpR X (compareOp op'') r'') (ha : PE X a ta) (hb : PE X b tb) (hc : PE X c tc) (hd : PE X d td)
    (hm : lastMarks [op, op', op''] [b, c, d] = false) : PT X (.Compare a [op, op', op''] [b, c, d] pos) (tTest (tChain3 r r' r'' ta tb tc td)) := by
  refine ⟨fun pins s σ H Q I h => ?_⟩
  refine isTrue_chain (thn (ha.run pins s σ H _ I h) fun v s1 ⟨x, H1, I1, r1, q1⟩ => test_link (thn (hb.run pins s1 σ H1 _ I1 q1) fun u s2 ⟨y, H2, I2, r2, q2⟩ =>
    thn (ho pins s2 σ H2 x y v u _ I2 r1 r2 q2) fun d s3 ⟨z, H3, I3, r3, k, e, q3⟩ => ?_)) hm
  subst e
  cases r3
  refine wpAny_truthy_bool ?_
  cases k with
  | false =>
    obtain ⟨k', e', q'⟩ := q3
    cases e'
    exact ite_ff ⟨H3, I3, q'⟩
  | true =>
    refine ite_tt (test_link (thn (hc.run pins s3 σ H3 _ I3 q3) fun w' s4 ⟨z', H4, I4, r4, q4⟩ => thn (ho' pins s4 σ H4 y z' u w' _ I4 r2 r4 q4) fun d s5 ⟨z2, H5, I5, r5, k2, e2, q5⟩ => ?_))
    subst e2
    cases r5
    refine wpAny_truthy_bool ?_
    cases k2 with
    | false =>
      obtain ⟨k', e', q'⟩ := q5
      cases e'
      exact ite_ff ⟨H5, I5, q'⟩
    | true =>
      refine ite_tt (test_last (thn (hd.run pins s5 σ H5 _ I5 q5) fun w2 s6 ⟨z3, H6, I6, r6, q6⟩ => thn (ho'' pins s6 σ H6 z' z3 w' w2 _ I6 r4 r6 q6) fun d' s7 ⟨z4, H7, I7, r7, k3, e3, q7⟩ => ?_))
      subst e3
      cases r7
      exact wpAny_truthy_bool ⟨H7, I7, q7⟩
end
@[simp] def kC3g (f3 : F2) (d : M D) (env : EN) (w : D) (k : Bool) (h : HP) : R D := if k = true then (d env h).bind (f3 w) else .ok (.bl false) h
@[simp] def kC3f (f3 : F2) (d : M D) (env : EN) (w : D) (z : D) (h : HP) : R D := (isB z h).bind (kC3g f3 d env w)
@[simp] def kC3e (f2 f3 : F2) (d : M D) (env : EN) (y : D) (w : D) (h : HP) : R D := (f2 y w h).bind (kC3f f3 d env w)
@[simp] def kC3d (f2 f3 : F2) (c d : M D) (env : EN) (y : D) (k : Bool) (h : HP) : R D := if k = true then (c env h).bind (kC3e f2 f3 d env y) else .ok (.bl false) h
@[simp] def kC3c (f2 f3 : F2) (c d : M D) (env : EN) (y : D) (z : D) (h : HP) : R D := (isB z h).bind (kC3d f2 f3 c d env y)
@[simp] def kC3b (f f2 f3 : F2) (c d : M D) (env : EN) (x y : D) (h2 : HP) : R D := (f x y h2).bind (kC3c f2 f3 c d env y)
@[simp] def kC3a (f f2 f3 : F2) (b c d : M D) (env : EN) (x : D) (h1 : HP) : R D := (b env h1).bind (kC3b f f2 f3 c d env x)
@[simp] def mCh3 (f f2 f3 : F2) (a b c d : M D) (env : EN) (hp : HP) : R D := (a env hp).bind (kC3a f f2 f3 b c d env)
theorem EV.ch3 {op op2 op3 : CmpOp} {a b c d : Expr} {pos : Pos} {fa fb fc fd : M D} {f f2 f3 : F2} (ho : OKS X g E (compareOp op) f) (ho2 : OKS X g E (compareOp op2) f2) (ho3 : OKS X g E (compareOp op3) f3) (ha : EV g X E a fa) (hb : EV g X E b fb) (hc : EV g X E c fc) (hd : EV g X E d fd) (hm : lastMarks [op, op2, op3] [b, c, d] = false) :
    EV g X E (.Compare a [op, op2, op3] [b, c, d] pos) (mCh3 f f2 f3 fa fb fc fd) := by
  obtain ⟨r, hr, ho⟩ := ho
  obtain ⟨r2, hr2, ho2⟩ := ho2
  obtain ⟨r3, hr3, ho3⟩ := ho3
  obtain ⟨ta, pa, qa⟩ := ha
  obtain ⟨tb, pb, qb⟩ := hb
  obtain ⟨tc, pc, qc⟩ := hc
  obtain ⟨td, pd, qd⟩ := hd
  refine ⟨_, pe_chain3 hr hr2 hr3 pa pb pc pd hm, fun σ H Q m env hp hl er h => ?_⟩
  refine qa σ H _ m env hp hl er (PO.bind h fun x h1 m1 H1 v x1 hl1 r1 h => ?_)
  refine qb σ H1 _ m1 env h1 hl1 (er.ext x1) (PO.bind h fun y h2 m2 H2 u x2 hl2 r2 h => ?_)
  refine ho m2 H2 h2 x y v u _ hl2 (rep.ext x2 _ _ r1) r2 (PO.bind h fun z h3 m3 H3 w x3 hl3 r3 h => ?_)
  obtain ⟨k, e, h⟩ := PO.isBk r3 h
  refine ⟨k, e, ?_⟩
  unfold kC3d at h
  cases k with
  | true =>
    rw [if_pos rfl] at h ⊢
    refine qc σ H3 _ m3 env h3 hl3 ((er.ext x1).ext (x2.trans x3)) (PO.bind h fun z h4 m4 H4 w4 x4 hl4 r4 h => ?_)
    refine ho2 m4 H4 h4 y z u w4 _ hl4 (rep.ext (x3.trans x4) _ _ r2) r4 (PO.bind h fun z5 h5 m5 H5 w5 x5 hl5 r5 h => ?_)
    obtain ⟨k2, e2, h⟩ := PO.isBk r5 h
    refine ⟨k2, e2, ?_⟩
    unfold kC3g at h
    cases k2 with
    | true =>
      rw [if_pos rfl] at h ⊢
      refine qd σ H5 _ m5 env h5 hl5 ((er.ext x1).ext (x2.trans (x3.trans (x4.trans x5)))) (PO.bind h fun z6 h6 m6 H6 w6 x6 hl6 r6 h => ?_)
      exact ho3 m6 H6 h6 z z6 w4 w6 Q hl6 (rep.ext (x5.trans x6) _ _ r4) r6 h
    | false =>
      rw [if_neg Bool.false_ne_true] at h ⊢
      exact h m5 H5 _ (.refl _ _) hl5 (by simp [rep])
  | false =>
    rw [if_neg Bool.false_ne_true] at h ⊢
    exact h m3 H3 _ (.refl _ _) hl3 (by simp [rep])

theorem TV.ch3 {op op2 op3 : CmpOp} {a b c d : Expr} {pos : Pos} {fa fb fc fd : M D} {f f2 f3 : F2} (ho : OKS X g E (compareOp op) f) (ho2 : OKS X g E (compareOp op2) f2) (ho3 : OKS X g E (compareOp op3) f3) (ha : EV g X E a fa) (hb : EV g X E b fb) (hc : EV g X E c fc) (hd : EV g X E d fd) (hm : lastMarks [op, op2, op3] [b, c, d] = false) :
    TV g X E (.Compare a [op, op2, op3] [b, c, d] pos) (mB (mCh3 f f2 f3 fa fb fc fd)) := by
  obtain ⟨r, hr, ho⟩ := ho
  obtain ⟨r2, hr2, ho2⟩ := ho2
  obtain ⟨r3, hr3, ho3⟩ := ho3
  obtain ⟨ta, pa, qa⟩ := ha
  obtain ⟨tb, pb, qb⟩ := hb
  obtain ⟨tc, pc, qc⟩ := hc
  obtain ⟨td, pd, qd⟩ := hd
  refine ⟨_, pt_chain3 hr hr2 hr3 pa pb pc pd hm, fun σ H Q m env hp hl er h => ?_⟩
  simp only [mB, mCh3, R.bind_assoc] at h
  unfold kC3a kC3b kC3c at h
  simp only [R.bind_assoc] at h
  refine qa σ H _ m env hp hl er (PO.bind h fun x h1 m1 H1 v x1 hl1 r1 h => ?_)
  refine qb σ H1 _ m1 env h1 hl1 (er.ext x1) (PO.bind h fun y h2 m2 H2 u x2 hl2 r2 h => ?_)
  refine ho m2 H2 h2 x y v u _ hl2 (rep.ext x2 _ _ r1) r2 (PO.bind h fun z h3 m3 H3 w x3 hl3 r3 h => ?_)
  obtain ⟨k, e, h⟩ := PO.isBk r3 h
  refine ⟨k, e, ?_⟩
  unfold kC3d at h
  cases k with
  | true =>
    rw [if_pos rfl] at h ⊢
    rw [R.bind_assoc] at h
    unfold kC3e kC3f at h
    simp only [R.bind_assoc] at h
    refine qc σ H3 _ m3 env h3 hl3 ((er.ext x1).ext (x2.trans x3)) (PO.bind h fun z h4 m4 H4 w4 x4 hl4 r4 h => ?_)
    refine ho2 m4 H4 h4 y z u w4 _ hl4 (rep.ext (x3.trans x4) _ _ r2) r4 (PO.bind h fun z5 h5 m5 H5 w5 x5 hl5 r5 h => ?_)
    obtain ⟨k2, e2, h⟩ := PO.isBk r5 h
    refine ⟨k2, e2, ?_⟩
    unfold kC3g at h
    cases k2 with
    | true =>
      rw [if_pos rfl] at h ⊢
      rw [R.bind_assoc] at h
      refine qd σ H5 _ m5 env h5 hl5 ((er.ext x1).ext (x2.trans (x3.trans (x4.trans x5)))) (PO.bind h fun z6 h6 m6 H6 w6 x6 hl6 r6 h => ?_)
      refine ho3 m6 H6 h6 z z6 w4 w6 _ hl6 (rep.ext (x5.trans x6) _ _ r4) r6 (PO.bind h fun z7 h7 m7 H7 w7 x7 hl7 r7 h => ?_)
      exact PO.toB hl7 r7 h
    | false =>
      rw [if_neg Bool.false_ne_true] at h ⊢
      exact PO.toB (d := .bl false) (v := .bl false) hl5 (by simp [rep]) h
  | false =>
    rw [if_neg Bool.false_ne_true] at h ⊢
    exact PO.toB (d := .bl false) (v := .bl false) hl3 (by simp [rep]) h
/-! ### own classes -/
/-- what is asked of a class: plain, and none of the names of its fields is one of its attributes -/
structure ClsT (K : PySem.W.Frag) (C : Addr) (fs : List Str) : Prop where
  cl : Cls K C
  na : ∀ f ∈ fs, NoAttr K C f
def CsOk (g : G) (f : Str) : Prop := ∀ c, Cls g.K (g.cA c) ∧ NoAttr g.K (g.cA c) f
theorem CsOk.of {f : Str} {fs : List Str} (t : ∀ c, ClsT g.K (g.cA c) fs) (hf : f ∈ fs) : CsOk g f := fun c => ⟨(t c).cl, (t c).na f hf⟩
@[simp] def insO : Option O → Option (Nat × List (Str × D))
  | some (.ins c fs) => some (c, fs)
  | _ => none
def asI (h : HP) : D → Option (Nat × List (Str × D))
  | .ins c fs => some (c, fs)
  | .ref n => insO h[n]?
  | _ => none
@[simp] theorem asI_ins (h : HP) (c : Nat) (fs : List (Str × D)) : asI h (.ins c fs) = some (c, fs) := rfl
@[simp] theorem asI_ref (h : HP) (n : Nat) : asI h (.ref n) = insO h[n]? := rfl
theorem asI_ok {m : AM} {H : Hp} {hp : HP} {d : D} {v : V} {c : Nat} {fs : List (Str × D)} (hl : HL g m H hp) (r : rep g m H d v) (e : asI hp d = some (c, fs)) : ∃ a dx vs, v = .ref a ∧ H a = some (.ins (g.cA c) dx vs) ∧ repf g m H fs vs := by
  cases d with
  | ins c' fs' =>
    simp only [asI] at e
    cases e
    simp only [rep] at r
    obtain ⟨a, dx, vs, e1, e2, _, e3⟩ := r
    exact ⟨a, dx, vs, e1, e2, e3⟩
  | ref n =>
    simp only [asI] at e
    unfold insO at e
    split at e
    · rename_i c' fs' q
      cases e
      simp only [rep] at r
      obtain ⟨a, ea, dx, vs, ha, rv⟩ := hl.at q (by simp)
      exact ⟨a, dx, vs, r.2 a ea, ha, rv⟩
    · cases e
  | _ => cases e
theorem repf.lookup {m : AM} {H : Hp} {f : Str} : ∀ {fs : List (Str × D)} {vs : List (Str × V)}, repf g m H fs vs → (∀ d, fs.lookup f = some d → ∃ v, vs.lookup f = some v ∧ rep g m H d v) ∧ (fs.lookup f = none → vs.lookup f = none)
  | [], vs, h => by
    simp only [repf] at h
    subst h
    exact ⟨fun d e => (by cases e), fun _ => rfl⟩
  | (k, d) :: fs, vs, h => by
    simp only [repf] at h
    obtain ⟨v, r, rfl, h1, h2⟩ := h
    have ih := repf.lookup (f := f) h2
    simp only [List.lookup_cons]
    cases q : f == k with
    | true => exact ⟨fun d' e => ⟨v, rfl, by cases e; exact h1⟩, fun e => by cases e⟩
    | false => exact ih
@[simp] def optR : Option D → HP → R D
  | some d, h => .ok d h
  | none, _ => .stuck
@[simp] def fldI (f : Str) : Option (Nat × List (Str × D)) → HP → R D
  | some (_, fs), h => optR (fs.lookup f) h
  | none, _ => .stuck
@[simp] def kFld (f : Str) (x : D) (h : HP) : R D := fldI f (asI h x) h
@[simp] def mFld (f : Str) (a : M D) (env : EN) (hp : HP) : R D := (a env hp).bind (kFld f)
/-- e.f -/
theorem EV.fld {e : Expr} {f : Str} {pos : Pos} {fe : M D} (hK : X.K = g.K) (hcs : CsOk g f) (h : EV g X E e fe) (hb : attributeBase e f X.env (eval e X.env) = eval e X.env) : EV g X E (.Attribute e f pos) (mFld f fe) := by
  obtain ⟨t, p, q⟩ := h
  refine ⟨_, pe_fld p hb, fun σ H Q m env hp hl er h => q σ H _ m env hp hl er (PO.bind h fun x h1 m1 H1 v x1 hl1 r1 h => ?_)⟩
  unfold kFld fldI at h
  split at h
  · rename_i c fs e
    unfold optR at h
    split at h
    · rename_i d el
      obtain ⟨a, dx, vs, rfl, ea, rf⟩ := asI_ok hl1 r1 e
      obtain ⟨u, eu, ru⟩ := rf.lookup.1 d el
      rw [hK]
      exact ⟨a, _, dx, vs, u, rfl, ea, (hcs c).1, (hcs c).2, eu, PO.here hl1 h ru⟩
    · exact h.elim
  · exact h.elim
/-! o.f = e -/
@[simp] def putD (f : Str) (d : D) : List (Str × D) → List (Str × D)
  | [] => [(f, d)]
  | (k, x) :: r => if k = f then (k, d) :: r else (k, x) :: putD f d r
theorem repf.put {m : AM} {H : Hp} {f : Str} {d : D} {v : V} (rv : rep g m H d v) : ∀ {fs : List (Str × D)} {vs : List (Str × V)}, repf g m H fs vs → repf g m H (putD f d fs) (putF f v vs)
  | [], vs, h => by
    simp only [repf] at h
    subst h
    simp only [putD, putF, repf]
    exact ⟨v, [], rfl, rv, rfl⟩
  | (k, x) :: fs, vs, h => by
    simp only [repf] at h
    obtain ⟨w, r, rfl, h1, h2⟩ := h
    simp only [putD, putF]
    by_cases q : k = f
    · rw [if_pos q, if_pos q]
      simp only [repf]
      exact ⟨v, r, rfl, rv, h2⟩
    · rw [if_neg q, if_neg q]
      simp only [repf]
      exact ⟨w, _, rfl, h1, repf.put rv h2⟩
theorem repf.length {m : AM} {H : Hp} : ∀ {ds : List (Str × D)} {vs : List (Str × V)}, repf g m H ds vs → ds.length = vs.length
  | [], vs, h => by simp only [repf] at h; subst h; rfl
  | (k, d) :: ds, vs, h => by
    simp only [repf] at h
    obtain ⟨v, r, rfl, _, h2⟩ := h
    simp [repf.length h2]
@[simp] def putI (f : Str) (y : D) (n : Nat) : Option O → HP → R Unit
  | some (.ins c fs), h => if fs.length < 1000 then .ok () (h.set n (.ins c (putD f y fs))) else .stuck
  | _, _ => .stuck
@[simp] def putR (f : Str) (y : D) : D → HP → R Unit
  | .ref n, h => putI f y n h[n]? h
  | _, _ => .stuck
@[simp] def kPut2 (f : Str) (env : EN) (y o : D) (h : HP) : SR := (putR f y o h).sbind (kNx env)
@[simp] def kPut1 (f : Str) (fo : M D) (env : EN) (y : D) (h : HP) : SR := (fo env h).sbind (kPut2 f env y)
@[simp] def sPut (f : Str) (fv fo : M D) (env : EN) (hp : HP) : SR := (fv env hp).sbind (kPut1 f fo env)
theorem SV.put {o e : Expr} {f : Str} {pos pos' : Pos} {fv fo : M D} (hK : X.K = g.K) (hcs : CsOk g f) (hv : EV g X E e fv) (ho : EV g X E o fo) (hs : swapsWith e (some (.Attribute o f pos')) pos.line X.env = pure false) :
    SV g X E (.Assign [.Attribute o f pos'] e pos) (sPut f fv fo) := by
  obtain ⟨tv, pv, qv⟩ := hv
  obtain ⟨to, po, qo⟩ := ho
  refine ⟨_, ps_fld po pv hs, fun K σ H m env hp hl er h => ?_⟩
  refine qv σ H _ m env hp hl er (SPO.bind h fun y h1 m1 H1 v x1 hl1 r1 h => ?_)
  refine qo σ H1 _ m1 env h1 hl1 (er.ext x1) (SPO.bind h fun od h2 m2 H2 u x2 hl2 r2 h => ?_)
  unfold kPut2 at h
  cases od with
  | ref n =>
    simp only [putR] at h
    cases eo : h2[n]? with
    | none => rw [eo] at h; exact h.elim
    | some ob =>
      rw [eo] at h
      cases ob with
      | ins c fs =>
        simp only [putI] at h
        split at h
        · rename_i hc
          simp only [R.sbind, kNx] at h
          simp only [rep] at r2
          obtain ⟨a, ea, dx, vs, hA, rr⟩ := hl2.at eo (by simp)
          have ry := rep.ext x2 _ _ r1
          obtain ⟨x6, hl6⟩ := hl2.write (u := .ins (g.cA c) dx (putF f v vs)) (ob' := .ins c (putD f y fs)) ea eo (by simp) fun x6 => ⟨dx, _, upd_same, repf.ext x6 _ _ (repf.put ry rr)⟩
          rw [hK]
          exact ⟨a, _, dx, vs, r2.2 a ea, hA, (hcs c).1, (hcs c).2, by rw [← repf.length rr]; exact hc, h m2 _ σ x6 hl6 ((er.ext x1).ext x2 |>.ext x6)⟩
        · exact h.elim
      | _ => exact h.elim
  | _ => exact h.elim
/-! a statement that is never run -/
@[simp] def sStuck (_ : EN) (_ : HP) : SR := .stuck
theorem SV.no {s : Stmt} : SV g X E s sStuck := ⟨fun _ _ _ => False, ⟨fun _ _ _ _ _ _ h => h.elim⟩, fun _ _ _ _ _ _ _ _ h => h⟩

/-! ### keywords -/
structure KwV (g : G) (X : Cx) (E : XK) (ks : List Keyword) (f : M (List D)) : Prop where
  ex : ∃ t, PK X ks t ∧ ∀ σ H Q m env hp, HL g m H hp → ER g m H σ env → PO g m H E (reps g) Q (f env hp) → t σ H Q
theorem KwV.nil : KwV g X E [] aNil := ⟨_, pk_nil, fun σ H Q m env hp hl er h => h m H [] (.refl _ _) hl (by simp [reps])⟩
theorem KwV.cons {nm : Option Str} {kpos : Pos} {e : Expr} {es : List Keyword} {f : M D} {fs : M (List D)} (ha : EV g X E e f) (hr : KwV g X E es fs) : KwV g X E (⟨nm, e, kpos⟩ :: es) (aCons f fs) := by
  obtain ⟨ta, pa, qa⟩ := ha
  obtain ⟨tr, pr, qr⟩ := hr
  refine ⟨_, pk_cons pa pr, fun σ H Q m env hp hl er h => ?_⟩
  refine qa σ H _ m env hp hl er (PO.bind h fun x h1 m1 H1 v x1 hl1 r1 h => ?_)
  refine qr σ H1 _ m1 env h1 hl1 (er.ext x1) (PO.bind h fun xs h2 m2 H2 vs x2 hl2 r2 h => ?_)
  exact h m2 H2 _ (.refl _ _) hl2 (by simp only [reps]; exact ⟨v, vs, rfl, rep.ext x2 _ _ r1, r2⟩)
/-- how values of a call are put in the parameters' order -/
def ArgO (g : G) (gD : List D → List D → List D) (gV : List V → List V → List V) : Prop := ∀ m H xs vs ys ws, reps g m H xs vs → reps g m H ys ws → reps g m H (gD xs ys) (gV vs ws)
@[simp] def gApp (xs ys : List D) : List D := xs ++ ys
theorem ArgO.app : ArgO g gApp fun vs ws => vs ++ ws := fun m H xs vs ys ws h1 h2 => reps.append h1 h2
/-- .. defaults behind -/
@[simp] def gAppD (ds : List D) (xs ys : List D) : List D := xs ++ (ys ++ ds)
theorem ArgO.appD {ds : List D} {us : List V} (hd : ∀ m H, reps g m H ds us) : ArgO g (gAppD ds) fun vs ws => vs ++ (ws ++ us) := fun m H xs vs ys ws h1 h2 => reps.append h1 (reps.append h2 (hd m H))
@[simp] def kCallN (n k : Nat) (gD : List D → List D → List D) (F : FA) (xs ys : List D) (h : HP) : R D := if xs.length = n ∧ ys.length = k then F (gD xs ys) h else .stuck
@[simp] def kCallN1 (n k : Nat) (gD : List D → List D → List D) (F : FA) (ks : M (List D)) (env : EN) (xs : List D) (h : HP) : R D := (ks env h).bind (kCallN n k gD F xs)
@[simp] def mCallN (n k : Nat) (gD : List D → List D → List D) (F : FA) (a ks : M (List D)) (env : EN) (hp : HP) : R D := (a env hp).bind (kCallN1 n k gD F ks env)
section
variable {CX : CXT} {k n np : Nat} {f : Addr} {fd : FuncData} {ps ks : List Str} {Fa : FA} {x : Str} {p pos : Pos} {e : Expr} {es : List Expr} {kws : List Keyword} {fs fk : M (List D)} {gv : List Value → List Value → List Value} {gV : List V → List V → List V} {gD : List D → List D → List D}
/-- f(e, .., k = v, ..) -/
theorem EV.callN (F : FnOk X.prog X.w X.K X.mg X.base CX k f fd ps (spF g np Fa)) (hr : Room k X.A) (hm : X.mg x = some (.ref f)) (hk : PySem.W.keepIn X.K (.ref f) = true) (hb : KBn X.K fd ps n ks gv gV) (hD : ArgO g gD gV) (hnp : ∀ xs ys : List D, xs.length = n → ys.length = ks.length → (gD xs ys).length = np) (hx : Passes CX X E)
    (ha : AV g X E (e :: es) fs) (hkw : KwV g X E kws fk) (hg : Gl X x) (hall : (backToKw pos (keywordEach kws X.env)).all (·.1.isSome) = true) (hks : (backToKw pos (keywordEach kws X.env)).filterMap (·.1) = ks)
    (hdb : (x == ("__debug__" : Str)) = false) (he : starEach (e :: es) X.env = (false, eval e X.env) :: starEach es X.env)
    (hpl : ((backTo pos (starEach (e :: es) X.env)).any (·.1) || (backToKw pos (keywordEach kws X.env)).any (·.1.isNone)) = false) :
    EV g X E (.Call (.Name x p) (e :: es) kws pos) (mCallN n ks.length gD Fa fs fk) := by
  obtain ⟨t, pa, qa⟩ := ha
  obtain ⟨tk, pk, qk⟩ := hkw
  refine ⟨_, pe_callN F hr hg hm hk hb hx pa pk hall hks hdb he hpl, fun σ H Q m env hp hl er h => ?_⟩
  refine qa σ H _ m env hp hl er (PO.bind h fun xs h1 m1 H1 vs x1 hl1 r1 h => ?_)
  refine qk σ H1 _ m1 env h1 hl1 (er.ext x1) (PO.bind h fun ys h2 m2 H2 ws x2 hl2 r2 h => ?_)
  unfold kCallN at h
  split at h
  · rename_i c
    have rr := hD m2 H2 _ _ _ _ (reps.ext x2 _ _ r1) r2
    exact ⟨(reps.length r1).symm.trans c.1, (reps.length r2).symm.trans c.2, by rw [← reps.length rr]; exact hnp _ _ c.1 c.2, m2, h2, _, hl2, rr, h⟩
  · exact h.elim
/-! C(..): a new instance, then __init__; what it leaves is a value (frozen) -/
noncomputable def mkR (h0 : HP) : R D → R D
  | .ok .non h => pure_ h0 (.ref h0.length) h
  | _ => .stuck
@[simp] def gMk (gD : List D → List D → List D) (h : HP) (xs ys : List D) : List D := gD (.ref h.length :: xs) ys
@[simp] noncomputable def kMkN (c n k : Nat) (gD : List D → List D → List D) (F : FA) (xs ys : List D) (h : HP) : R D := if xs.length = n ∧ ys.length = k then mkR h (F (gMk gD h xs ys) (h ++ [.ins c []])) else .stuck
@[simp] noncomputable def kMkN1 (c n k : Nat) (gD : List D → List D → List D) (F : FA) (ks : M (List D)) (env : EN) (xs : List D) (h : HP) : R D := (ks env h).bind (kMkN c n k gD F xs)
@[simp] noncomputable def mMkN (c n k : Nat) (gD : List D → List D → List D) (F : FA) (a ks : M (List D)) (env : EN) (hp : HP) : R D := (a env hp).bind (kMkN1 c n k gD F ks env)
theorem mk_sp {c : Nat} {m : AM} {H : Hp} {hp : HP} {xs ys : List D} {vs ws : List V} {Q : VK} (hl : HL g m H hp) (r1 : reps g m H xs vs) (r2 : reps g m H ys ws) (hD : ArgO g gD gV) (hnp : (gMk gD hp xs ys).length = np)
    (h : PO g m H E (rep g) Q (mkR hp (Fa (gMk gD hp xs ys) (hp ++ [.ins c []])))) :
    ∀ x dx, H x = none → H dx = none → dx ≠ x → spF g np Fa (gV (.ref x :: vs) ws) (upd (upd H dx (.own x)) x (.ins (g.cA c) dx [])) (fun v H3 => v = .non ∧ Q (.ref x) H3) E := by
  intro x dx nx ndx ne
  obtain ⟨x1, hl1, _⟩ := hl.new (o := .own x) ndx
  have nx1 : (upd H dx (.own x)) x = none := by rw [upd_ne (Ne.symm ne)]; exact nx
  obtain ⟨x2, hl2⟩ := hl1.push (o := .ins (g.cA c) dx []) (ob := .ins c []) nx1 (by simp) fun x2 => ⟨dx, [], upd_same, by simp [repf]⟩
  have rx : rep g (m ++ [some x]) (upd (upd H dx (.own x)) x (.ins (g.cA c) dx [])) (.ref hp.length) (.ref x) := by
    simp only [rep]
    refine ⟨by simp [hl.len], fun a e => ?_⟩
    rw [← hl.len, List.getElem?_append_right (Nat.le_refl _)] at e
    simp at e
    rw [e]
  have rr := hD _ _ (.ref hp.length :: xs) (.ref x :: vs) ys ws (by simp only [reps]; exact ⟨_, _, rfl, rx, reps.ext (x1.trans x2) _ _ r1⟩) (reps.ext (x1.trans x2) _ _ r2)
  refine ⟨by rw [← reps.length rr]; exact hnp, _, _, _, hl2, rr, ?_⟩
  have e : gD (.ref hp.length :: xs) ys = gMk gD hp xs ys := rfl
  rw [e]
  revert h
  cases Fa (gMk gD hp xs ys) (hp ++ [.ins c []]) with
  | ok d h' =>
    cases d with
    | non =>
      intro h m' H' v x3 hl3 rv
      refine ⟨by simpa [rep] using rv, ?_⟩
      exact PO.pure_ hl ((x1.trans x2).trans x3) hl3 (rep.ext x3 _ _ rx) h
    | _ => exact fun h => h.elim
  | exc _ _ _ => exact fun h => h.elim
  | stuck => exact fun h => h.elim
theorem EV.mkN {c : Nat} (M : Mk X.K (g.cA c) f) (F : FnOk X.prog X.w X.K X.mg X.base CX k f fd ps (spF g np Fa)) (hr : Room (k + 1) X.A) (hm : X.mg x = some (.ref (g.cA c))) (hb : KBn X.K fd ps (n + 1) ks gv gV) (hD : ArgO g gD gV) (hnp : ∀ xs ys : List D, xs.length = n + 1 → ys.length = ks.length → (gD xs ys).length = np) (hx : Passes CX X E)
    (ha : AV g X E (e :: es) fs) (hkw : KwV g X E kws fk) (hg : Gl X x) (hall : (backToKw pos (keywordEach kws X.env)).all (·.1.isSome) = true) (hks : (backToKw pos (keywordEach kws X.env)).filterMap (·.1) = ks)
    (hdb : (x == ("__debug__" : Str)) = false) (he : starEach (e :: es) X.env = (false, eval e X.env) :: starEach es X.env)
    (hpl : ((backTo pos (starEach (e :: es) X.env)).any (·.1) || (backToKw pos (keywordEach kws X.env)).any (·.1.isNone)) = false) :
    EV g X E (.Call (.Name x p) (e :: es) kws pos) (mMkN c n ks.length gD Fa fs fk) := by
  obtain ⟨t, pa, qa⟩ := ha
  obtain ⟨tk, pk, qk⟩ := hkw
  refine ⟨_, pe_makeK M F hr hg hm hb hx pa pk hall hks hdb he hpl, fun σ H Q m env hp hl er h => ?_⟩
  refine qa σ H _ m env hp hl er (PO.bind h fun xs h1 m1 H1 vs x1 hl1 r1 h => ?_)
  refine qk σ H1 _ m1 env h1 hl1 (er.ext x1) (PO.bind h fun ys h2 m2 H2 ws x2 hl2 r2 h => ?_)
  unfold kMkN at h
  split at h
  · rename_i cnd
    exact ⟨(reps.length r1).symm.trans cnd.1, (reps.length r2).symm.trans cnd.2, mk_sp hl2 (reps.ext x2 _ _ r1) r2 hD (hnp _ _ (by simp [cnd.1]) cnd.2) h⟩
  · exact h.elim
/-- C(e, ..) -/
@[simp] noncomputable def kMkP (c n : Nat) (F : FA) (xs : List D) (h : HP) : R D := if xs.length = n then mkR h (F (gMk gApp h xs []) (h ++ [.ins c []])) else .stuck
@[simp] noncomputable def mMkP (c n : Nat) (F : FA) (a : M (List D)) (env : EN) (hp : HP) : R D := (a env hp).bind (kMkP c n F)
theorem EV.mkP {c : Nat} (M : Mk X.K (g.cA c) f) (F : FnOk X.prog X.w X.K X.mg X.base CX k f fd ps (spF g (n + 1) Fa)) (hr : Room (k + 1) X.A) (hm : X.mg x = some (.ref (g.cA c))) (hb : Binds X.K fd ps []) (hx : Passes CX X E)
    (ha : AV g X E (e :: es) fs) (hg : Gl X x) (hdb : (x == ("__debug__" : Str)) = false) (he : starEach (e :: es) X.env = (false, eval e X.env) :: starEach es X.env) (hpl : (backTo pos (starEach es X.env)).any (·.1) = false) :
    EV g X E (.Call (.Name x p) (e :: es) [] pos) (mMkP c n Fa fs) := by
  obtain ⟨t, pa, qa⟩ := ha
  refine ⟨_, pe_make M F hr hg hm hb .nil hx pa hdb he hpl, fun σ H Q m env hp hl er h => ?_⟩
  refine qa σ H _ m env hp hl er (PO.bind h fun xs h1 m1 H1 vs x1 hl1 r1 h => ?_)
  unfold kMkP at h
  split at h
  · rename_i cnd
    have := mk_sp (gV := fun vs ws => vs ++ ws) (gD := gApp) (ys := []) (ws := []) (np := n + 1) (Fa := Fa) (c := c) hl1 r1 (by simp [reps]) ArgO.app (by simp [cnd]) h
    intro y dy n1 n2 n3
    have := this y dy n1 n2 n3
    simpa using this
  · exact h.elim
/-! o.m(e, ..) -/
@[simp] def methI (c : Nat) (nm : Str) : Option (Nat × List (Str × D)) → Bool
  | some (c', fs) => decide (c' = c) && (fs.lookup nm).isNone
  | none => false
@[simp] def kMeth2 (n : Nat) (F : FA) (x : D) (xs : List D) (h : HP) : R D := if xs.length = n then F (x :: xs) h else .stuck
@[simp] def kMeth (c n : Nat) (nm : Str) (F : FA) (a : M (List D)) (env : EN) (x : D) (h : HP) : R D := if methI c nm (asI h x) = true then (a env h).bind (kMeth2 n F x) else .stuck
@[simp] def mMeth (c n : Nat) (nm : Str) (F : FA) (o : M D) (a : M (List D)) (env : EN) (hp : HP) : R D := (o env hp).bind (kMeth c n nm F a env)
theorem EV.meth {c : Nat} {nm : Str} {o : Expr} {apos : Pos} {fo : M D} {pl : Sem Bool} (t : Cls X.K (g.cA c)) (hmt : Meth X.K (g.cA c) nm f) (F : FnOk X.prog X.w X.K X.mg X.base CX k f fd ps (spF g (n + 1) Fa)) (hr : Room k X.A) (hb : Binds X.K fd ps []) (hx : Passes CX X E)
    (ho : EV g X E o fo) (ha : AV g X E (e :: es) fs) (hst : starEach (e :: es) X.env = (false, eval e X.env) :: starEach es X.env) (hpl : (backTo pos (starEach es X.env)).any (·.1) = false)
    (ht : eval (.Call (.Attribute o nm apos) (e :: es) [] pos) X.env = (do
      let ov ← eval o X.env
      standAt apos.atName
      let (f, first) ← holding [ov] (getMethod ov nm pl)
      callWith pos f first (backTo pos (starEach (e :: es) X.env)) (backToKw pos (keywordEach [] X.env)))) :
    EV g X E (.Call (.Attribute o nm apos) (e :: es) [] pos) (mMeth c n nm Fa fo fs) := by
  obtain ⟨to, po, qo⟩ := ho
  obtain ⟨ta, pa, qa⟩ := ha
  refine ⟨_, pe_meth po t hmt F hr hb .nil hx pa hst hpl ht, fun σ H Q m env hp hl er h => ?_⟩
  refine qo σ H _ m env hp hl er (PO.bind h fun x h1 m1 H1 v x1 hl1 r1 h => ?_)
  unfold kMeth at h
  split at h
  · rename_i cnd
    unfold methI at cnd
    split at cnd
    · rename_i c' fs' e
      rw [Bool.and_eq_true] at cnd
      obtain ⟨a, dx, vs, rfl, ea, rf⟩ := asI_ok hl1 r1 e
      have ec := of_decide_eq_true cnd.1
      rw [ec] at ea
      refine ⟨a, dx, vs, rfl, ea, rf.lookup.2 (Option.isNone_iff_eq_none.mp cnd.2), ?_⟩
      refine qa σ H1 _ m1 env h1 hl1 (er.ext x1) (PO.bind h fun xs h2 m2 H2 ws x2 hl2 r2 h => ?_)
      unfold kMeth2 at h
      split at h
      · rename_i cn
        rw [List.append_nil]
        refine ⟨by rw [List.length_cons, ← reps.length r2, cn], m2, h2, x :: xs, hl2, ?_, h⟩
        simp only [reps]
        exact ⟨_, _, rfl, rep.ext x2 _ _ r1, r2⟩
      · exact h.elim
    · cases cnd
  · exact h.elim
end
/-- how a def without defaults binds n values and the keywords ks, all in the parameters' order -/
theorem kbA {K : PySem.W.Frag} {x qual : Str} {st : Stmt} {f : Addr} {fd : FuncData} {ps : List Str} (F : Fun K x qual st f fd) (n : Nat) (ks : List Str)
    (h : ∀ (kV doc pm : Value) (an : Option Addr) (cdv ct : Value) (us ws : List Value), us.length = n → ws.length = ks.length → bindArgs (PySem.W.fnOf x qual (defArgs st) (defBody st) (defScope st) .none kV doc pm an cdv ct) ⟨us, ks.zip ws⟩ = pure (ps.zip (us ++ ws))) :
    KBn K fd ps n ks (fun us ws => us ++ ws) (fun vs zs => vs ++ zs) := by
  obtain ⟨oc, od, kV, doc, pm, an, cdv, ct, osl, rfl, lk, hcd⟩ := F.ex
  exact ⟨fun s us ws X l1 l2 => .of_eq (h kV doc pm an cdv ct us ws l1 l2), fun r1 r2 => r1.append r2⟩
end
end Ev
namespace Ev
open PySem PySem.Spec PyProof.Rows L2
/-- the law's own promise: no class is named in it -/
def spL (K : PySem.W.Frag) (F : FA) : Sp := fun vs H Q _ => ∃ (a : Addr) (ns : List Int), vs = [.ref a] ∧ SqL K H a (ns.map V.int) ∧ F [.klst (ns.map D.int)] [] = .ok (.bl true) [] ∧ ∀ H', Q (.bl true) H'
theorem spL_imp {g : G} {F : FA} {vs : List V} {H : Hp} {Q : VK} {E : XK} (h : spL g.K F vs H Q E) : spF g 1 F vs H Q E := by
  obtain ⟨a, ns, rfl, hS, e, k⟩ := h
  refine ⟨rfl, [], [], [.klst (ns.map D.int)], ⟨rfl, fun i j a e => by simp at e, fun i o e => by simp at e⟩, ?_, ?_⟩
  · simp only [reps]
    exact ⟨_, [], rfl, rep_script hS (by simp), rfl⟩
  · rw [e]
    intro m' H' v x hl r
    have : v = .bl true := by simpa [rep] using r
    rw [this]
    exact k H'
end Ev
namespace Ev
open PySem PySem.Spec PyProof.Rows L2
/-! ### keyword-only defaults -/
theorem fund_mk {K : PySem.W.Frag} {x qual : Str} {st : Stmt} {f D : Addr} {oc : Value} {od an : Option Addr} {osl : Array (Option Value)} {doc pm cdv ct : Value} {kws : List (Str × V)} (l : K.lookup f = some ⟨oc, od, .func (PySem.W.fnOf x qual (defArgs st) (defBody st) (defScope st) .none (.ref D) doc pm an cdv ct), osl⟩)
    (c : PySem.W.codeIn K cdv qual = true) (k : PySem.W.keepIn K (.ref f) = true) (hd : ∀ q ∈ kws, ∃ u, PySem.W.nsIn K D q.1 = some (some u) ∧ RelV q.2 u) :
    FunD K x qual (defArgs st) (defBody st) (defScope st) [] kws f (PySem.W.fnOf x qual (defArgs st) (defBody st) (defScope st) .none (.ref D) doc pm an cdv ct) :=
  ⟨⟨oc, od, .none, .ref D, doc, pm, an, cdv, ct, osl, rfl, l, c, .inl ⟨rfl, rfl⟩, .inr ⟨D, rfl, hd⟩⟩, k⟩
theorem kbD {K : PySem.W.Frag} {x qual : Str} {params : Arguments} {body : List Stmt} {scope : Scope} {kws : List (Str × V)} {f : Addr} {fd : FuncData} {ps : List Str} (F : FunD K x qual params body scope [] kws f fd) (n : Nat) (ks : List Str) (hk : kws ≠ [])
    (h : ∀ (D : Addr) (doc pm : Value) (an : Option Addr) (cdv ct : Value) (us mv ws : List Value), us.length = n → mv.length = kws.length → ws.length = ks.length →
      KwChain D ((kws.map (·.1)).zip mv) (bindArgs (PySem.W.fnOf x qual params body scope .none (.ref D) doc pm an cdv ct) ⟨us, ks.zip ws⟩) (ps.zip (us ++ (ws ++ mv)))) :
    ∃ mv : List Value, KBn K fd ps n ks (fun us ws => us ++ (ws ++ mv)) (fun vs zs => vs ++ (zs ++ kws.map (·.2))) :=
  FunD.kbinds0 F n ks kws (fun a b c => a ++ (c ++ b)) hk (fun _ h => h) (fun r1 r2 r3 => r1.append (r3.append r2)) h
section
variable {g : G} {X : Cx} {E : XK}
/-! str(i) -/
@[simp] def bStr : List D → HP → R D
  | [.int i], h => if i.natAbs.log2 < 1920 then .ok (.str (toString i)) h else .stuck
  | _, _ => .stuck
theorem cv_str : CV X g E (.type "str") bStr := by
  refine ⟨_, call_str_int, fun m H hp ds vs Q hl r h => ?_⟩
  unfold bStr at h
  split at h
  · obtain ⟨v, rfl, rr⟩ := reps1 r
    obtain rfl := rInt rr
    split at h
    · rename_i c
      exact ⟨_, rfl, c, PO.here hl h (by simp [rep])⟩
    · exact h.elim
  · exact h.elim
end
end Ev
namespace Lib
open PySem PySem.Spec PyProof.Rows L2 Ev
@[simp] theorem nb_dims_speed : (("dims" : Str) == ("speed" : Str)) = false := by decide +kernel
@[simp] theorem ne_dims_speed : (("dims" : Str) = ("speed" : Str)) = False := eq_false (by decide +kernel)
@[simp] theorem nb_dims_drift : (("dims" : Str) == ("drift" : Str)) = false := by decide +kernel
@[simp] theorem ne_dims_drift : (("dims" : Str) = ("drift" : Str)) = False := eq_false (by decide +kernel)
@[simp] theorem nb_dims_per : (("dims" : Str) == ("per" : Str)) = false := by decide +kernel
@[simp] theorem ne_dims_per : (("dims" : Str) = ("per" : Str)) = False := eq_false (by decide +kernel)
@[simp] theorem nb_speed_dims : (("speed" : Str) == ("dims" : Str)) = false := by decide +kernel
@[simp] theorem ne_speed_dims : (("speed" : Str) = ("dims" : Str)) = False := eq_false (by decide +kernel)
@[simp] theorem nb_speed_drift : (("speed" : Str) == ("drift" : Str)) = false := by decide +kernel
@[simp] theorem ne_speed_drift : (("speed" : Str) = ("drift" : Str)) = False := eq_false (by decide +kernel)
@[simp] theorem nb_speed_per : (("speed" : Str) == ("per" : Str)) = false := by decide +kernel
@[simp] theorem ne_speed_per : (("speed" : Str) = ("per" : Str)) = False := eq_false (by decide +kernel)
@[simp] theorem nb_drift_dims : (("drift" : Str) == ("dims" : Str)) = false := by decide +kernel
@[simp] theorem ne_drift_dims : (("drift" : Str) = ("dims" : Str)) = False := eq_false (by decide +kernel)
@[simp] theorem nb_drift_speed : (("drift" : Str) == ("speed" : Str)) = false := by decide +kernel
@[simp] theorem ne_drift_speed : (("drift" : Str) = ("speed" : Str)) = False := eq_false (by decide +kernel)
@[simp] theorem nb_drift_per : (("drift" : Str) == ("per" : Str)) = false := by decide +kernel
@[simp] theorem ne_drift_per : (("drift" : Str) = ("per" : Str)) = False := eq_false (by decide +kernel)
@[simp] theorem nb_per_dims : (("per" : Str) == ("dims" : Str)) = false := by decide +kernel
@[simp] theorem ne_per_dims : (("per" : Str) = ("dims" : Str)) = False := eq_false (by decide +kernel)
@[simp] theorem nb_per_speed : (("per" : Str) == ("speed" : Str)) = false := by decide +kernel
@[simp] theorem ne_per_speed : (("per" : Str) = ("speed" : Str)) = False := eq_false (by decide +kernel)
@[simp] theorem nb_per_drift : (("per" : Str) == ("drift" : Str)) = false := by decide +kernel
@[simp] theorem ne_per_drift : (("per" : Str) = ("drift" : Str)) = False := eq_false (by decide +kernel)
@[simp] theorem nb_source_moment : (("source" : Str) == ("moment" : Str)) = false := by decide +kernel
@[simp] theorem ne_source_moment : (("source" : Str) = ("moment" : Str)) = False := eq_false (by decide +kernel)
@[simp] theorem nb_source_kind : (("source" : Str) == ("kind" : Str)) = false := by decide +kernel
@[simp] theorem ne_source_kind : (("source" : Str) = ("kind" : Str)) = False := eq_false (by decide +kernel)
@[simp] theorem nb_source_low : (("source" : Str) == ("low" : Str)) = false := by decide +kernel
@[simp] theorem ne_source_low : (("source" : Str) = ("low" : Str)) = False := eq_false (by decide +kernel)
@[simp] theorem nb_source_high : (("source" : Str) == ("high" : Str)) = false := by decide +kernel
@[simp] theorem ne_source_high : (("source" : Str) = ("high" : Str)) = False := eq_false (by decide +kernel)
@[simp] theorem nb_source_late : (("source" : Str) == ("late" : Str)) = false := by decide +kernel
@[simp] theorem ne_source_late : (("source" : Str) = ("late" : Str)) = False := eq_false (by decide +kernel)
@[simp] theorem nb_source_near : (("source" : Str) == ("near" : Str)) = false := by decide +kernel
@[simp] theorem ne_source_near : (("source" : Str) = ("near" : Str)) = False := eq_false (by decide +kernel)
@[simp] theorem nb_moment_source : (("moment" : Str) == ("source" : Str)) = false := by decide +kernel
@[simp] theorem ne_moment_source : (("moment" : Str) = ("source" : Str)) = False := eq_false (by decide +kernel)
@[simp] theorem nb_moment_kind : (("moment" : Str) == ("kind" : Str)) = false := by decide +kernel
@[simp] theorem ne_moment_kind : (("moment" : Str) = ("kind" : Str)) = False := eq_false (by decide +kernel)
@[simp] theorem nb_moment_low : (("moment" : Str) == ("low" : Str)) = false := by decide +kernel
@[simp] theorem ne_moment_low : (("moment" : Str) = ("low" : Str)) = False := eq_false (by decide +kernel)
@[simp] theorem nb_moment_high : (("moment" : Str) == ("high" : Str)) = false := by decide +kernel
@[simp] theorem ne_moment_high : (("moment" : Str) = ("high" : Str)) = False := eq_false (by decide +kernel)
@[simp] theorem nb_moment_late : (("moment" : Str) == ("late" : Str)) = false := by decide +kernel
@[simp] theorem ne_moment_late : (("moment" : Str) = ("late" : Str)) = False := eq_false (by decide +kernel)
@[simp] theorem nb_moment_near : (("moment" : Str) == ("near" : Str)) = false := by decide +kernel
@[simp] theorem ne_moment_near : (("moment" : Str) = ("near" : Str)) = False := eq_false (by decide +kernel)
@[simp] theorem nb_kind_source : (("kind" : Str) == ("source" : Str)) = false := by decide +kernel
@[simp] theorem ne_kind_source : (("kind" : Str) = ("source" : Str)) = False := eq_false (by decide +kernel)
@[simp] theorem nb_kind_moment : (("kind" : Str) == ("moment" : Str)) = false := by decide +kernel
@[simp] theorem ne_kind_moment : (("kind" : Str) = ("moment" : Str)) = False := eq_false (by decide +kernel)
@[simp] theorem nb_kind_low : (("kind" : Str) == ("low" : Str)) = false := by decide +kernel
@[simp] theorem ne_kind_low : (("kind" : Str) = ("low" : Str)) = False := eq_false (by decide +kernel)
@[simp] theorem nb_kind_high : (("kind" : Str) == ("high" : Str)) = false := by decide +kernel
@[simp] theorem ne_kind_high : (("kind" : Str) = ("high" : Str)) = False := eq_false (by decide +kernel)
@[simp] theorem nb_kind_late : (("kind" : Str) == ("late" : Str)) = false := by decide +kernel
@[simp] theorem ne_kind_late : (("kind" : Str) = ("late" : Str)) = False := eq_false (by decide +kernel)
@[simp] theorem nb_kind_near : (("kind" : Str) == ("near" : Str)) = false := by decide +kernel
@[simp] theorem ne_kind_near : (("kind" : Str) = ("near" : Str)) = False := eq_false (by decide +kernel)
@[simp] theorem nb_low_source : (("low" : Str) == ("source" : Str)) = false := by decide +kernel
@[simp] theorem ne_low_source : (("low" : Str) = ("source" : Str)) = False := eq_false (by decide +kernel)
@[simp] theorem nb_low_moment : (("low" : Str) == ("moment" : Str)) = false := by decide +kernel
@[simp] theorem ne_low_moment : (("low" : Str) = ("moment" : Str)) = False := eq_false (by decide +kernel)
@[simp] theorem nb_low_kind : (("low" : Str) == ("kind" : Str)) = false := by decide +kernel
@[simp] theorem ne_low_kind : (("low" : Str) = ("kind" : Str)) = False := eq_false (by decide +kernel)
@[simp] theorem nb_low_high : (("low" : Str) == ("high" : Str)) = false := by decide +kernel
@[simp] theorem ne_low_high : (("low" : Str) = ("high" : Str)) = False := eq_false (by decide +kernel)
@[simp] theorem nb_low_late : (("low" : Str) == ("late" : Str)) = false := by decide +kernel
@[simp] theorem ne_low_late : (("low" : Str) = ("late" : Str)) = False := eq_false (by decide +kernel)
@[simp] theorem nb_low_near : (("low" : Str) == ("near" : Str)) = false := by decide +kernel
@[simp] theorem ne_low_near : (("low" : Str) = ("near" : Str)) = False := eq_false (by decide +kernel)
@[simp] theorem nb_high_source : (("high" : Str) == ("source" : Str)) = false := by decide +kernel
@[simp] theorem ne_high_source : (("high" : Str) = ("source" : Str)) = False := eq_false (by decide +kernel)
@[simp] theorem nb_high_moment : (("high" : Str) == ("moment" : Str)) = false := by decide +kernel
@[simp] theorem ne_high_moment : (("high" : Str) = ("moment" : Str)) = False := eq_false (by decide +kernel)
@[simp] theorem nb_high_kind : (("high" : Str) == ("kind" : Str)) = false := by decide +kernel
@[simp] theorem ne_high_kind : (("high" : Str) = ("kind" : Str)) = False := eq_false (by decide +kernel)
@[simp] theorem nb_high_low : (("high" : Str) == ("low" : Str)) = false := by decide +kernel
@[simp] theorem ne_high_low : (("high" : Str) = ("low" : Str)) = False := eq_false (by decide +kernel)
@[simp] theorem nb_high_late : (("high" : Str) == ("late" : Str)) = false := by decide +kernel
@[simp] theorem ne_high_late : (("high" : Str) = ("late" : Str)) = False := eq_false (by decide +kernel)
@[simp] theorem nb_high_near : (("high" : Str) == ("near" : Str)) = false := by decide +kernel
@[simp] theorem ne_high_near : (("high" : Str) = ("near" : Str)) = False := eq_false (by decide +kernel)
@[simp] theorem nb_late_source : (("late" : Str) == ("source" : Str)) = false := by decide +kernel
@[simp] theorem ne_late_source : (("late" : Str) = ("source" : Str)) = False := eq_false (by decide +kernel)
@[simp] theorem nb_late_moment : (("late" : Str) == ("moment" : Str)) = false := by decide +kernel
@[simp] theorem ne_late_moment : (("late" : Str) = ("moment" : Str)) = False := eq_false (by decide +kernel)
@[simp] theorem nb_late_kind : (("late" : Str) == ("kind" : Str)) = false := by decide +kernel
@[simp] theorem ne_late_kind : (("late" : Str) = ("kind" : Str)) = False := eq_false (by decide +kernel)
@[simp] theorem nb_late_low : (("late" : Str) == ("low" : Str)) = false := by decide +kernel
@[simp] theorem ne_late_low : (("late" : Str) = ("low" : Str)) = False := eq_false (by decide +kernel)
@[simp] theorem nb_late_high : (("late" : Str) == ("high" : Str)) = false := by decide +kernel
@[simp] theorem ne_late_high : (("late" : Str) = ("high" : Str)) = False := eq_false (by decide +kernel)
@[simp] theorem nb_late_near : (("late" : Str) == ("near" : Str)) = false := by decide +kernel
@[simp] theorem ne_late_near : (("late" : Str) = ("near" : Str)) = False := eq_false (by decide +kernel)
@[simp] theorem nb_near_source : (("near" : Str) == ("source" : Str)) = false := by decide +kernel
@[simp] theorem ne_near_source : (("near" : Str) = ("source" : Str)) = False := eq_false (by decide +kernel)
@[simp] theorem nb_near_moment : (("near" : Str) == ("moment" : Str)) = false := by decide +kernel
@[simp] theorem ne_near_moment : (("near" : Str) = ("moment" : Str)) = False := eq_false (by decide +kernel)
@[simp] theorem nb_near_kind : (("near" : Str) == ("kind" : Str)) = false := by decide +kernel
@[simp] theorem ne_near_kind : (("near" : Str) = ("kind" : Str)) = False := eq_false (by decide +kernel)
@[simp] theorem nb_near_low : (("near" : Str) == ("low" : Str)) = false := by decide +kernel
@[simp] theorem ne_near_low : (("near" : Str) = ("low" : Str)) = False := eq_false (by decide +kernel)
@[simp] theorem nb_near_high : (("near" : Str) == ("high" : Str)) = false := by decide +kernel
@[simp] theorem ne_near_high : (("near" : Str) = ("high" : Str)) = False := eq_false (by decide +kernel)
@[simp] theorem nb_near_late : (("near" : Str) == ("late" : Str)) = false := by decide +kernel
@[simp] theorem ne_near_late : (("near" : Str) = ("late" : Str)) = False := eq_false (by decide +kernel)
@[simp] theorem nb_moment_root : (("moment" : Str) == ("root" : Str)) = false := by decide +kernel
@[simp] theorem ne_moment_root : (("moment" : Str) = ("root" : Str)) = False := eq_false (by decide +kernel)
@[simp] theorem nb_moment_liars : (("moment" : Str) == ("liars" : Str)) = false := by decide +kernel
@[simp] theorem ne_moment_liars : (("moment" : Str) = ("liars" : Str)) = False := eq_false (by decide +kernel)
@[simp] theorem nb_moment_share : (("moment" : Str) == ("share" : Str)) = false := by decide +kernel
@[simp] theorem ne_moment_share : (("moment" : Str) = ("share" : Str)) = False := eq_false (by decide +kernel)
@[simp] theorem nb_moment_earliest : (("moment" : Str) == ("earliest" : Str)) = false := by decide +kernel
@[simp] theorem ne_moment_earliest : (("moment" : Str) = ("earliest" : Str)) = False := eq_false (by decide +kernel)
@[simp] theorem nb_moment_latest : (("moment" : Str) == ("latest" : Str)) = false := by decide +kernel
@[simp] theorem ne_moment_latest : (("moment" : Str) = ("latest" : Str)) = False := eq_false (by decide +kernel)
@[simp] theorem nb_root_moment : (("root" : Str) == ("moment" : Str)) = false := by decide +kernel
@[simp] theorem ne_root_moment : (("root" : Str) = ("moment" : Str)) = False := eq_false (by decide +kernel)
@[simp] theorem nb_root_liars : (("root" : Str) == ("liars" : Str)) = false := by decide +kernel
@[simp] theorem ne_root_liars : (("root" : Str) = ("liars" : Str)) = False := eq_false (by decide +kernel)
@[simp] theorem nb_root_share : (("root" : Str) == ("share" : Str)) = false := by decide +kernel
@[simp] theorem ne_root_share : (("root" : Str) = ("share" : Str)) = False := eq_false (by decide +kernel)
@[simp] theorem nb_root_earliest : (("root" : Str) == ("earliest" : Str)) = false := by decide +kernel
@[simp] theorem ne_root_earliest : (("root" : Str) = ("earliest" : Str)) = False := eq_false (by decide +kernel)
@[simp] theorem nb_root_latest : (("root" : Str) == ("latest" : Str)) = false := by decide +kernel
@[simp] theorem ne_root_latest : (("root" : Str) = ("latest" : Str)) = False := eq_false (by decide +kernel)
@[simp] theorem nb_liars_moment : (("liars" : Str) == ("moment" : Str)) = false := by decide +kernel
@[simp] theorem ne_liars_moment : (("liars" : Str) = ("moment" : Str)) = False := eq_false (by decide +kernel)
@[simp] theorem nb_liars_root : (("liars" : Str) == ("root" : Str)) = false := by decide +kernel
@[simp] theorem ne_liars_root : (("liars" : Str) = ("root" : Str)) = False := eq_false (by decide +kernel)
@[simp] theorem nb_liars_share : (("liars" : Str) == ("share" : Str)) = false := by decide +kernel
@[simp] theorem ne_liars_share : (("liars" : Str) = ("share" : Str)) = False := eq_false (by decide +kernel)
@[simp] theorem nb_liars_earliest : (("liars" : Str) == ("earliest" : Str)) = false := by decide +kernel
@[simp] theorem ne_liars_earliest : (("liars" : Str) = ("earliest" : Str)) = False := eq_false (by decide +kernel)
@[simp] theorem nb_liars_latest : (("liars" : Str) == ("latest" : Str)) = false := by decide +kernel
@[simp] theorem ne_liars_latest : (("liars" : Str) = ("latest" : Str)) = False := eq_false (by decide +kernel)
@[simp] theorem nb_share_moment : (("share" : Str) == ("moment" : Str)) = false := by decide +kernel
@[simp] theorem ne_share_moment : (("share" : Str) = ("moment" : Str)) = False := eq_false (by decide +kernel)
@[simp] theorem nb_share_root : (("share" : Str) == ("root" : Str)) = false := by decide +kernel
@[simp] theorem ne_share_root : (("share" : Str) = ("root" : Str)) = False := eq_false (by decide +kernel)
@[simp] theorem nb_share_liars : (("share" : Str) == ("liars" : Str)) = false := by decide +kernel
@[simp] theorem ne_share_liars : (("share" : Str) = ("liars" : Str)) = False := eq_false (by decide +kernel)
@[simp] theorem nb_share_earliest : (("share" : Str) == ("earliest" : Str)) = false := by decide +kernel
@[simp] theorem ne_share_earliest : (("share" : Str) = ("earliest" : Str)) = False := eq_false (by decide +kernel)
@[simp] theorem nb_share_latest : (("share" : Str) == ("latest" : Str)) = false := by decide +kernel
@[simp] theorem ne_share_latest : (("share" : Str) = ("latest" : Str)) = False := eq_false (by decide +kernel)
@[simp] theorem nb_earliest_moment : (("earliest" : Str) == ("moment" : Str)) = false := by decide +kernel
@[simp] theorem ne_earliest_moment : (("earliest" : Str) = ("moment" : Str)) = False := eq_false (by decide +kernel)
@[simp] theorem nb_earliest_root : (("earliest" : Str) == ("root" : Str)) = false := by decide +kernel
@[simp] theorem ne_earliest_root : (("earliest" : Str) = ("root" : Str)) = False := eq_false (by decide +kernel)
@[simp] theorem nb_earliest_liars : (("earliest" : Str) == ("liars" : Str)) = false := by decide +kernel
@[simp] theorem ne_earliest_liars : (("earliest" : Str) = ("liars" : Str)) = False := eq_false (by decide +kernel)
@[simp] theorem nb_earliest_share : (("earliest" : Str) == ("share" : Str)) = false := by decide +kernel
@[simp] theorem ne_earliest_share : (("earliest" : Str) = ("share" : Str)) = False := eq_false (by decide +kernel)
@[simp] theorem nb_earliest_latest : (("earliest" : Str) == ("latest" : Str)) = false := by decide +kernel
@[simp] theorem ne_earliest_latest : (("earliest" : Str) = ("latest" : Str)) = False := eq_false (by decide +kernel)
@[simp] theorem nb_latest_moment : (("latest" : Str) == ("moment" : Str)) = false := by decide +kernel
@[simp] theorem ne_latest_moment : (("latest" : Str) = ("moment" : Str)) = False := eq_false (by decide +kernel)
@[simp] theorem nb_latest_root : (("latest" : Str) == ("root" : Str)) = false := by decide +kernel
@[simp] theorem ne_latest_root : (("latest" : Str) = ("root" : Str)) = False := eq_false (by decide +kernel)
@[simp] theorem nb_latest_liars : (("latest" : Str) == ("liars" : Str)) = false := by decide +kernel
@[simp] theorem ne_latest_liars : (("latest" : Str) = ("liars" : Str)) = False := eq_false (by decide +kernel)
@[simp] theorem nb_latest_share : (("latest" : Str) == ("share" : Str)) = false := by decide +kernel
@[simp] theorem ne_latest_share : (("latest" : Str) = ("share" : Str)) = False := eq_false (by decide +kernel)
@[simp] theorem nb_latest_earliest : (("latest" : Str) == ("earliest" : Str)) = false := by decide +kernel
@[simp] theorem ne_latest_earliest : (("latest" : Str) = ("earliest" : Str)) = False := eq_false (by decide +kernel)
@[simp] theorem nb_moment_cover : (("moment" : Str) == ("cover" : Str)) = false := by decide +kernel
@[simp] theorem ne_moment_cover : (("moment" : Str) = ("cover" : Str)) = False := eq_false (by decide +kernel)
@[simp] theorem nb_moment_used : (("moment" : Str) == ("used" : Str)) = false := by decide +kernel
@[simp] theorem ne_moment_used : (("moment" : Str) = ("used" : Str)) = False := eq_false (by decide +kernel)
@[simp] theorem nb_cover_moment : (("cover" : Str) == ("moment" : Str)) = false := by decide +kernel
@[simp] theorem ne_cover_moment : (("cover" : Str) = ("moment" : Str)) = False := eq_false (by decide +kernel)
@[simp] theorem nb_cover_used : (("cover" : Str) == ("used" : Str)) = false := by decide +kernel
@[simp] theorem ne_cover_used : (("cover" : Str) = ("used" : Str)) = False := eq_false (by decide +kernel)
@[simp] theorem nb_used_moment : (("used" : Str) == ("moment" : Str)) = false := by decide +kernel
@[simp] theorem ne_used_moment : (("used" : Str) = ("moment" : Str)) = False := eq_false (by decide +kernel)
@[simp] theorem nb_used_cover : (("used" : Str) == ("cover" : Str)) = false := by decide +kernel
@[simp] theorem ne_used_cover : (("used" : Str) = ("cover" : Str)) = False := eq_false (by decide +kernel)
@[simp] theorem nb_setting_table : (("setting" : Str) == ("table" : Str)) = false := by decide +kernel
@[simp] theorem ne_setting_table : (("setting" : Str) = ("table" : Str)) = False := eq_false (by decide +kernel)
@[simp] theorem nb_setting_held : (("setting" : Str) == ("held" : Str)) = false := by decide +kernel
@[simp] theorem ne_setting_held : (("setting" : Str) = ("held" : Str)) = False := eq_false (by decide +kernel)
@[simp] theorem nb_setting_keep : (("setting" : Str) == ("keep" : Str)) = false := by decide +kernel
@[simp] theorem ne_setting_keep : (("setting" : Str) = ("keep" : Str)) = False := eq_false (by decide +kernel)
@[simp] theorem nb_setting_moment : (("setting" : Str) == ("moment" : Str)) = false := by decide +kernel
@[simp] theorem ne_setting_moment : (("setting" : Str) = ("moment" : Str)) = False := eq_false (by decide +kernel)
@[simp] theorem nb_table_setting : (("table" : Str) == ("setting" : Str)) = false := by decide +kernel
@[simp] theorem ne_table_setting : (("table" : Str) = ("setting" : Str)) = False := eq_false (by decide +kernel)
@[simp] theorem nb_table_held : (("table" : Str) == ("held" : Str)) = false := by decide +kernel
@[simp] theorem ne_table_held : (("table" : Str) = ("held" : Str)) = False := eq_false (by decide +kernel)
@[simp] theorem nb_table_keep : (("table" : Str) == ("keep" : Str)) = false := by decide +kernel
@[simp] theorem ne_table_keep : (("table" : Str) = ("keep" : Str)) = False := eq_false (by decide +kernel)
@[simp] theorem nb_table_moment : (("table" : Str) == ("moment" : Str)) = false := by decide +kernel
@[simp] theorem ne_table_moment : (("table" : Str) = ("moment" : Str)) = False := eq_false (by decide +kernel)
@[simp] theorem nb_held_setting : (("held" : Str) == ("setting" : Str)) = false := by decide +kernel
@[simp] theorem ne_held_setting : (("held" : Str) = ("setting" : Str)) = False := eq_false (by decide +kernel)
@[simp] theorem nb_held_table : (("held" : Str) == ("table" : Str)) = false := by decide +kernel
@[simp] theorem ne_held_table : (("held" : Str) = ("table" : Str)) = False := eq_false (by decide +kernel)
@[simp] theorem nb_held_keep : (("held" : Str) == ("keep" : Str)) = false := by decide +kernel
@[simp] theorem ne_held_keep : (("held" : Str) = ("keep" : Str)) = False := eq_false (by decide +kernel)
@[simp] theorem nb_held_moment : (("held" : Str) == ("moment" : Str)) = false := by decide +kernel
@[simp] theorem ne_held_moment : (("held" : Str) = ("moment" : Str)) = False := eq_false (by decide +kernel)
@[simp] theorem nb_keep_setting : (("keep" : Str) == ("setting" : Str)) = false := by decide +kernel
@[simp] theorem ne_keep_setting : (("keep" : Str) = ("setting" : Str)) = False := eq_false (by decide +kernel)
@[simp] theorem nb_keep_table : (("keep" : Str) == ("table" : Str)) = false := by decide +kernel
@[simp] theorem ne_keep_table : (("keep" : Str) = ("table" : Str)) = False := eq_false (by decide +kernel)
@[simp] theorem nb_keep_held : (("keep" : Str) == ("held" : Str)) = false := by decide +kernel
@[simp] theorem ne_keep_held : (("keep" : Str) = ("held" : Str)) = False := eq_false (by decide +kernel)
@[simp] theorem nb_keep_moment : (("keep" : Str) == ("moment" : Str)) = false := by decide +kernel
@[simp] theorem ne_keep_moment : (("keep" : Str) = ("moment" : Str)) = False := eq_false (by decide +kernel)
@[simp] theorem nb_moment_setting : (("moment" : Str) == ("setting" : Str)) = false := by decide +kernel
@[simp] theorem ne_moment_setting : (("moment" : Str) = ("setting" : Str)) = False := eq_false (by decide +kernel)
@[simp] theorem nb_moment_table : (("moment" : Str) == ("table" : Str)) = false := by decide +kernel
@[simp] theorem ne_moment_table : (("moment" : Str) = ("table" : Str)) = False := eq_false (by decide +kernel)
@[simp] theorem nb_moment_held : (("moment" : Str) == ("held" : Str)) = false := by decide +kernel
@[simp] theorem ne_moment_held : (("moment" : Str) = ("held" : Str)) = False := eq_false (by decide +kernel)
@[simp] theorem nb_moment_keep : (("moment" : Str) == ("keep" : Str)) = false := by decide +kernel
@[simp] theorem ne_moment_keep : (("moment" : Str) = ("keep" : Str)) = False := eq_false (by decide +kernel)
@[simp] theorem nb_liars_points : (("liars" : Str) == ("points" : Str)) = false := by decide +kernel
@[simp] theorem ne_liars_points : (("liars" : Str) = ("points" : Str)) = False := eq_false (by decide +kernel)
@[simp] theorem nb_points_liars : (("points" : Str) == ("liars" : Str)) = false := by decide +kernel
@[simp] theorem ne_points_liars : (("points" : Str) = ("liars" : Str)) = False := eq_false (by decide +kernel)
noncomputable def F_root_down : FA := fnP 1 (sRet (mCall bIsqrt (aCons (mVar 0) aNil)))
noncomputable def F_root_up : FA := fnP 2 (sSeq (sAsg (mCall bIsqrt (aCons (mVar 0) aNil)) (gNm 1))
  (sSeq (sIf (mB (mBin fLt (mBin fMul (mVar 1) (mVar 1)) (mVar 0))) (sRet (mBin fAdd (mVar 1) (mCst (.int 1)))) sNil)
  (sRet (mVar 1))))
noncomputable def F__law_number : FA := fnP 5 (sSeq (sAsg (mBin fAdd (mBin fMul (mCst (.int 104729)) (mVar 1)) (mCst (.int 7919))) (gNm 2))
  (sSeq (sIf (mB (mBin fLt (mVar 1) (mCall bLen (aCons (mVar 0) aNil)))) (sAsg (mCall bInt (aCons (mBin fIx (mVar 0) (mVar 1)) aNil)) (gNm 2)) sNil)
  (sSeq (sIf (mB (mBin fLt (mVar 2) (mCst (.int 0)))) (sAsg (mBin fSub (mCst (.int 1)) (mBin fMul (mCst (.int 2)) (mVar 2))) (gNm 2)) sNil)
  (sSeq (sIf (mB (mBin fLt (mVar 2) (mCst (.int 1000000000)))) (sSeq (sAsg (mBin fMod (mCall bInt (aCons (mBin fAdd (mBin fAdd (mBin fMul (mVar 2) (mCst (.int 48271))) (mBin fMul (mVar 1) (mCst (.int 69621)))) (mCst (.int 7))) aNil)) (mCst (.int 2147483647))) (gNm 3))
  (sSeq (sAsg (mBin fMod (mCall bInt (aCons (mBin fAdd (mBin fAdd (mBin fMul (mVar 3) (mCst (.int 16807))) (mBin fMul (mVar 1) (mCst (.int 40692)))) (mCst (.int 13))) aNil)) (mCst (.int 2147483563))) (gNm 4))
  (sAsg (mBin fAdd (mBin fMul (mVar 3) (mCst (.int 2147483563))) (mVar 4)) (gNm 2)))) sNil)
  (sRet (mVar 2))))))
noncomputable def F__law_integer : FA := fnP 1 (sRet (mAnd (mIsi "int" (mVar 0)) (mNot (mIsi "bool" (mVar 0)))))
noncomputable abbrev C_middle_1 (live : Bool) : M D := mLc live (iAny (mVar 0)) [1, 2] (gTp 2 (gsCons (gNm 1) (gsCons (gNm 2) gsNil))) cYes (mBin fDiv (mBin fAdd (mVar 1) (mVar 2)) (mCst (.int 2)))
noncomputable def F_middle : FA := fnP 3 (sRet (mCall bTuple (aCons (C_middle_1 false) aNil)))
noncomputable def F_half_side : FA := fnP 3 (sSeq (sAsg (mVar 0) (gTp 2 (gsCons (gNm 1) (gsCons (gNm 2) gsNil))))
  (sRet (mBin fDiv (mBin fAdd (mBin fSub (mVar 2) (mVar 1)) (mCst (.int 1))) (mCst (.int 2)))))
noncomputable def F__law_near : FA := fnP 3 (sSeq (sAsg (mBin fMod (mCall bInt (aCons (mVar 0) aNil)) (mCst (.int 9))) (gNm 1))
  (sSeq (sAsg (mBin fDiv (mVar 0) (mCst (.int 9))) (gNm 2))
  (sSeq (sIf (mB (mBin fEq (mVar 1) (mCst (.int 0)))) (sRet (mBin fSub (mBin fMod (mCall bInt (aCons (mVar 2) aNil)) (mCst (.int 2000000000001))) (mCst (.int 1000000000000)))) sNil)
  (sSeq (sIf (mB (mBin fLt (mVar 1) (mCst (.int 3)))) (sRet (mBin fSub (mBin fMod (mCall bInt (aCons (mVar 2) aNil)) (mCst (.int 2001))) (mCst (.int 1000)))) sNil)
  (sRet (mBin fSub (mBin fMod (mCall bInt (aCons (mVar 2) aNil)) (mCst (.int 41))) (mCst (.int 20))))))))
noncomputable def F__law_length : FA := fnP 3 (sSeq (sAsg (mBin fMod (mCall bInt (aCons (mVar 0) aNil)) (mCst (.int 7))) (gNm 1))
  (sSeq (sAsg (mBin fDiv (mVar 0) (mCst (.int 7))) (gNm 2))
  (sSeq (sIf (mB (mBin fEq (mVar 1) (mCst (.int 0)))) (sRet (mCst (.int 0))) sNil)
  (sSeq (sIf (mB (mBin fEq (mVar 1) (mCst (.int 1)))) (sRet (mBin fMod (mCall bInt (aCons (mVar 2) aNil)) (mCst (.int 1000000000)))) sNil)
  (sRet (mBin fMod (mCall bInt (aCons (mVar 2) aNil)) (mCst (.int 13))))))))
noncomputable abbrev B__law_box_1 : SM := (sSeq (sAsg (mFn 1 F__law_near (aCons (mFn 2 F__law_number (aCons (mVar 0) (aCons (mBin fAdd (mVar 1) (mBin fMul (mCst (.int 2)) (mVar 4))) aNil))) aNil)) (gNm 5))
  (sExp (mBm tyL lAppend (mVar 3) (aCons (mTup (aCons (mVar 5) (aCons (mBin fAdd (mVar 5) (mFn 1 F__law_length (aCons (mFn 2 F__law_number (aCons (mVar 0) (aCons (mBin fAdd (mBin fAdd (mVar 1) (mBin fMul (mCst (.int 2)) (mVar 4))) (mCst (.int 1))) aNil))) aNil))) aNil))) aNil))))
noncomputable def F__law_box : FA := fnP 6 (sSeq (sAsg (mLst true aNil) (gNm 3))
  (sSeq (sFor (iRange1 (aCons (mVar 2) aNil)) (gNm 4) B__law_box_1)
  (sRet (mCall bTuple (aCons (mVar 3) aNil)))))
noncomputable abbrev C_radius_1 (live : Bool) : M D := mLc live (iAny (mSl (mVar 0) pNo (pYes (mNeg (mCst (.int 1)))))) [1] (gNm 1) cYes (mBin fPow (mFn 1 F_half_side (aCons (mVar 1) aNil)) (mCst (.int 2)))
noncomputable def F_radius : FA := fnP 2 (sRet (mFn 1 F_root_up (aCons (mCall bSum (aCons (C_radius_1 false) aNil)) aNil)))
noncomputable abbrev C_inside_1 (live : Bool) : M D := mLc live (iZip2 (aCons (mVar 0) (aCons (mVar 1) aNil))) [2, 3, 4, 5] (gTp 2 (gsCons (gTp 2 (gsCons (gNm 2) (gsCons (gNm 3) gsNil))) (gsCons (gTp 2 (gsCons (gNm 4) (gsCons (gNm 5) gsNil))) gsNil))) cYes (mAnd (mBin fLe (mVar 4) (mVar 2)) (mBin fLe (mVar 3) (mVar 5)))
noncomputable def F_inside : FA := fnP 6 (sRet (mCall bAll (aCons (C_inside_1 false) aNil)))
noncomputable def F__law_truth : FA := fnP 2 (sRet (mAnd (mIsi "bool" (mVar 0)) (mBin fEq (mVar 0) (mVar 1))))
noncomputable def F_cut : FA := fnP 7 (sSeq (sIf (tmNot (mB (mCh2 fLe fLt (mCst (.int 0)) (mVar 1) (mCall bLen (aCons (mVar 0) aNil))))) (sRet (mCst .non)) sNil)
  (sSeq (sAsg (mBin fIx (mVar 0) (mVar 1)) (gTp 2 (gsCons (gNm 3) (gsCons (gNm 4) gsNil))))
  (sSeq (sIf (tmNot (mB (mCh2 fLt fLt (mVar 3) (mVar 2) (mVar 4)))) (sRet (mCst .non)) sNil)
  (sSeq (sAsg (mBin fAdd (mBin fAdd (mSl (mVar 0) pNo (pYes (mVar 1))) (mTup (aCons (mTup (aCons (mVar 3) (aCons (mVar 2) aNil))) aNil))) (mSl (mVar 0) (pYes (mBin fAdd (mVar 1) (mCst (.int 1)))) pNo)) (gNm 5))
  (sSeq (sAsg (mBin fAdd (mBin fAdd (mSl (mVar 0) pNo (pYes (mVar 1))) (mTup (aCons (mTup (aCons (mVar 2) (aCons (mVar 4) aNil))) aNil))) (mSl (mVar 0) (pYes (mBin fAdd (mVar 1) (mCst (.int 1)))) pNo)) (gNm 6))
  (sRet (mTup (aCons (mVar 5) (aCons (mVar 6) aNil)))))))))
noncomputable abbrev B__law_is_box_1 : SM := (sSeq (sIf (tmOr (tmNot (mTru (mIsi "tuple" (mVar 2)))) (mB (mBin fNe (mCall bLen (aCons (mVar 2) aNil)) (mCst (.int 2))))) (sRet (mCst (.bl false))) sNil)
  (sIf (tmOr (tmNot (mTru (mFn 1 F__law_integer (aCons (mBin fIx (mVar 2) (mCst (.int 0))) aNil)))) (tmNot (mTru (mFn 1 F__law_integer (aCons (mBin fIx (mVar 2) (mCst (.int 1))) aNil))))) (sRet (mCst (.bl false))) sNil))
noncomputable def F__law_is_box : FA := fnP 3 (sSeq (sIf (tmOr (tmNot (mTru (mIsi "tuple" (mVar 0)))) (mB (mBin fNe (mCall bLen (aCons (mVar 0) aNil)) (mCall bLen (aCons (mVar 1) aNil))))) (sRet (mCst (.bl false))) sNil)
  (sSeq (sFor (iAny (mVar 0)) (gNm 2) B__law_is_box_1)
  (sRet (mBin fEq (mVar 0) (mVar 1)))))
noncomputable abbrev C_widest_1 (live : Bool) : M D := mLc live (iAny (mVar 0)) [2, 3] (gTp 2 (gsCons (gNm 2) (gsCons (gNm 3) gsNil))) cYes (mBin fSub (mVar 3) (mVar 2))
noncomputable def F_widest : FA := fnP 4 (sSeq (sAsg (C_widest_1 false) (gNm 1))
  (sRet (mBm tyLs lIndex (mVar 1) (aCons (mCall bMax (aCons (mVar 1) aNil)) aNil))))
noncomputable def F_halves : FA := fnP 4 (sSeq (sAsg (mFn 1 F_widest (aCons (mVar 0) aNil)) (gNm 1))
  (sSeq (sAsg (mBin fIx (mVar 0) (mVar 1)) (gTp 2 (gsCons (gNm 2) (gsCons (gNm 3) gsNil))))
  (sRet (mFn 3 F_cut (aCons (mVar 0) (aCons (mVar 1) (aCons (mBin fDiv (mBin fAdd (mVar 2) (mVar 3)) (mCst (.int 2))) aNil)))))))
noncomputable abbrev C_is_name_1 (live : Bool) : M D := mLc live (iAny (mVar 0)) [1] (gNm 1) cYes (mBin (fIn false) (mVar 1) (mCst (.str "abcdefghijklmnopqrstuvwxyz0123456789_-")))
noncomputable def F_is_name : FA := fnP 2 (sRet (mAnd (mCh2 fLe fLe (mCst (.int 1)) (mCall bLen (aCons (mVar 0) aNil)) (mCst (.int 64))) (mCall bAll (aCons (C_is_name_1 false) aNil))))
noncomputable abbrev C_all_within_1 (live : Bool) : M D := mLc live (iAny (mVar 0)) [3] (gNm 3) cYes (mCh2 fLe fLe (mVar 1) (mVar 3) (mVar 2))
noncomputable def F_all_within : FA := fnP 4 (sRet (mCall bAll (aCons (C_all_within_1 false) aNil)))
noncomputable def F_Setting__init__ : FA := fnR 5 (sSeq (sIf (tmNot (mB (mCh2 fLe fLe (mCst (.int 2)) (mVar 1) (mCst (.int 3))))) sStuck sNil)
  (sSeq (sIf (tmNot (mTru (mFn 3 F_all_within (aCons (mTup (aCons (mVar 2) (aCons (mVar 3) aNil))) (aCons (mCst (.int 0)) (aCons (mCst (.int 1000000000000)) aNil)))))) sStuck sNil)
  (sSeq (sIf (tmNot (mB (mCh2 fLe fLe (mCst (.int 1)) (mVar 4) (mCst (.int 1000000000000))))) sStuck sNil)
  (sSeq (sPut "dims" (mVar 1) (mVar 0))
  (sSeq (sPut "speed" (mVar 2) (mVar 0))
  (sSeq (sPut "drift" (mVar 3) (mVar 0))
  (sPut "per" (mVar 4) (mVar 0))))))))
noncomputable def F_Setting__eq__ : FA := fnP 2 (sRet (mAnd (mIsi "Setting" (mVar 1)) (mAnd (mBin fEq (mFld "dims" (mVar 0)) (mFld "dims" (mVar 1))) (mAnd (mBin fEq (mFld "speed" (mVar 0)) (mFld "speed" (mVar 1))) (mAnd (mBin fEq (mFld "drift" (mVar 0)) (mFld "drift" (mVar 1))) (mBin fEq (mFld "per" (mVar 0)) (mFld "per" (mVar 1))))))))
noncomputable abbrev C_sides_within_1 (live : Bool) : M D := mLc live (iAny (mVar 0)) [2, 3] (gTp 2 (gsCons (gNm 2) (gsCons (gNm 3) gsNil))) cYes (mCh3 fLe fLe fLe (mNeg (mVar 1)) (mVar 2) (mVar 3) (mVar 1))
noncomputable def F_sides_within : FA := fnP 4 (sRet (mCall bAll (aCons (C_sides_within_1 false) aNil)))
noncomputable abbrev C__direction_holds_1 (live : Bool) : M D := mLc live (iAny (mVar 0)) [1] (gNm 1) cYes (mBin fNe (mVar 1) (mCst (.int 0)))
noncomputable def F__direction_holds : FA := fnP 2 (sRet (mAnd (mFn 3 F_all_within (aCons (mVar 0) (aCons (mNeg (mCst (.int 1000))) (aCons (mCst (.int 1000)) aNil)))) (mCall bAny (aCons (C__direction_holds_1 false) aNil))))
noncomputable abbrev C__boxes_hold_1 (live : Bool) : M D := mLc live (iAny (mVar 0)) [1] (gNm 1) cYes (mFn 2 F_sides_within (aCons (mVar 1) (aCons (mCst (.int 1000000000000)) aNil)))
noncomputable def F__boxes_hold : FA := fnP 2 (sRet (mAnd (mCh2 fLe fLe (mCst (.int 1)) (mCall bLen (aCons (mVar 0) aNil)) (mCst (.int 16))) (mCall bAll (aCons (C__boxes_hold_1 false) aNil))))
noncomputable abbrev C__kind_holds_1 (live : Bool) : M D := mLc live (iAny (mSl (mVar 0) (pYes (mCst (.int 1))) pNo)) [1] (gNm 1) cYes (mFn 3 F_all_within (aCons (mVar 1) (aCons (mNeg (mCst (.int 1000000000000))) (aCons (mCst (.int 1000000000000)) aNil))))
noncomputable def F__kind_holds : FA := fnP 2 (sSeq (sIf (mB (mBin (fIn false) (mBin fIx (mVar 0) (mCst (.int 0))) (mTup (aCons (mCst (.str "range")) (aCons (mCst (.str "clocked")) (aCons (mCst (.str "differ")) (aCons (mCst (.str "piece")) aNil))))))) (sRet (mCall bAll (aCons (C__kind_holds_1 false) aNil))) sNil)
  (sSeq (sIf (mB (mBin fEq (mBin fIx (mVar 0) (mCst (.int 0))) (mCst (.str "side")))) (sRet (mFn 1 F__direction_holds (aCons (mBin fIx (mVar 0) (mCst (.int 1))) aNil))) sNil)
  (sRet (mAnd (mBin fEq (mBin fIx (mVar 0) (mCst (.int 0))) (mCst (.str "boxes"))) (mFn 1 F__boxes_hold (aCons (mBin fIx (mVar 0) (mCst (.int 1))) aNil))))))
noncomputable def F_Reading__init__ : FA := fnR 8 (sSeq (sIf (tmNot (mTru (mFn 1 F_is_name (aCons (mVar 1) aNil)))) sStuck sNil)
  (sSeq (sIf (tmNot (mB (mCh2 fLe fLe (mNeg (mCst (.int 1000000000000))) (mVar 2) (mCst (.int 1000000000000))))) sStuck sNil)
  (sSeq (sIf (tmNot (mTru (mFn 1 F__kind_holds (aCons (mVar 3) aNil)))) sStuck sNil)
  (sSeq (sIf (tmNot (mB (mCh3 fLe fLe fLe (mNeg (mCst (.int 1000000000000000))) (mVar 4) (mVar 5) (mCst (.int 1000000000000000))))) sStuck sNil)
  (sSeq (sIf (tmNot (mTru (mFn 3 F_all_within (aCons (mTup (aCons (mVar 6) (aCons (mVar 7) aNil))) (aCons (mCst (.int 0)) (aCons (mCst (.int 1000000000000)) aNil)))))) sStuck sNil)
  (sSeq (sPut "source" (mVar 1) (mVar 0))
  (sSeq (sPut "moment" (mVar 2) (mVar 0))
  (sSeq (sPut "kind" (mVar 3) (mVar 0))
  (sSeq (sPut "low" (mVar 4) (mVar 0))
  (sSeq (sPut "high" (mVar 5) (mVar 0))
  (sSeq (sPut "late" (mVar 6) (mVar 0))
  (sPut "near" (mVar 7) (mVar 0)))))))))))))
noncomputable def F_Reading__eq__ : FA := fnP 2 (sRet (mAnd (mIsi "Reading" (mVar 1)) (mAnd (mBin fEq (mFld "source" (mVar 0)) (mFld "source" (mVar 1))) (mAnd (mBin fEq (mFld "moment" (mVar 0)) (mFld "moment" (mVar 1))) (mAnd (mBin fEq (mFld "kind" (mVar 0)) (mFld "kind" (mVar 1))) (mAnd (mBin fEq (mFld "low" (mVar 0)) (mFld "low" (mVar 1))) (mAnd (mBin fEq (mFld "high" (mVar 0)) (mFld "high" (mVar 1))) (mAnd (mBin fEq (mFld "late" (mVar 0)) (mFld "late" (mVar 1))) (mBin fEq (mFld "near" (mVar 0)) (mFld "near" (mVar 1)))))))))))
noncomputable abbrev C__law_point_1 (live : Bool) : M D := mLc live (iRange1 (aCons (mVar 2) aNil)) [3] (gNm 3) cYes (mFn 1 F__law_near (aCons (mFn 2 F__law_number (aCons (mVar 0) (aCons (mBin fAdd (mVar 1) (mVar 3)) aNil))) aNil))
noncomputable def F__law_point : FA := fnP 4 (sRet (mCall bTuple (aCons (C__law_point_1 false) aNil)))
noncomputable def F__law_slope : FA := fnP 2 (sSeq (sIf (mB (mBin fEq (mVar 1) (mCst (.int 0)))) (sRet (mBin fAdd (mCst (.int 1)) (mBin fMod (mCall bInt (aCons (mVar 0) aNil)) (mCst (.int 4))))) sNil)
  (sSeq (sIf (mB (mBin fEq (mBin fMod (mCall bInt (aCons (mBin fDiv (mVar 0) (mCst (.int 4))) aNil)) (mCst (.int 5))) (mCst (.int 0)))) (sRet (mBin fSub (mBin fMod (mCall bInt (aCons (mBin fDiv (mBin fDiv (mVar 0) (mCst (.int 20))) (mBin fMul (mVar 1) (mCst (.int 7)))) aNil)) (mCst (.int 2001))) (mCst (.int 1000)))) sNil)
  (sRet (mBin fSub (mBin fMod (mCall bInt (aCons (mBin fDiv (mBin fDiv (mVar 0) (mCst (.int 20))) (mBin fMul (mVar 1) (mCst (.int 7)))) aNil)) (mCst (.int 9))) (mCst (.int 4))))))
noncomputable abbrev B__law_plain_box_1 : SM := (sSeq (sAsg (mFn 2 F__law_number (aCons (mVar 0) (aCons (mBin fAdd (mVar 1) (mVar 4)) aNil))) (gNm 5))
  (sSeq (sAsg (mFn 1 F__law_near (aCons (mBin fDiv (mVar 5) (mCst (.int 14))) aNil)) (gNm 6))
  (sExp (mBm tyL lAppend (mVar 3) (aCons (mTup (aCons (mCall bMax (aCons (mBin fSub (mVar 6) (mFn 1 F__law_length (aCons (mVar 5) aNil))) (aCons (mNeg (mCst (.int 1000000000000))) aNil))) (aCons (mVar 6) aNil))) aNil)))))
noncomputable def F__law_plain_box : FA := fnP 7 (sSeq (sAsg (mLst true aNil) (gNm 3))
  (sSeq (sFor (iRange1 (aCons (mVar 2) aNil)) (gNm 4) B__law_plain_box_1)
  (sRet (mCall bTuple (aCons (mVar 3) aNil)))))
noncomputable abbrev C__law_kind_1 (live : Bool) : M D := mLc live (iRange1 (aCons (mVar 2) aNil)) [6] (gNm 6) cYes (mFn 2 F__law_slope (aCons (mVar 4) (aCons (mVar 6) aNil)))
noncomputable def F__law_kind : FA := fnP 7 (sSeq (sAsg (mBin fMod (mCall bInt (aCons (mFn 2 F__law_number (aCons (mVar 0) (aCons (mVar 1) aNil))) aNil)) (mCst (.int 6))) (gNm 3))
  (sSeq (sAsg (mBin fDiv (mFn 2 F__law_number (aCons (mVar 0) (aCons (mVar 1) aNil))) (mCst (.int 6))) (gNm 4))
  (sSeq (sIf (mB (mBin fEq (mVar 3) (mCst (.int 0)))) (sRet (mTup (aCons (mCst (.str "range")) (aCons (mFn 3 F__law_point (aCons (mVar 0) (aCons (mBin fAdd (mVar 1) (mCst (.int 1))) (aCons (mVar 2) aNil)))) aNil)))) sNil)
  (sSeq (sIf (mB (mBin fEq (mVar 3) (mCst (.int 1)))) (sRet (mTup (aCons (mCst (.str "clocked")) (aCons (mFn 3 F__law_point (aCons (mVar 0) (aCons (mBin fAdd (mVar 1) (mCst (.int 1))) (aCons (mVar 2) aNil)))) aNil)))) sNil)
  (sSeq (sIf (mB (mBin fEq (mVar 3) (mCst (.int 2)))) (sRet (mTup (aCons (mCst (.str "differ")) (aCons (mFn 3 F__law_point (aCons (mVar 0) (aCons (mBin fAdd (mVar 1) (mCst (.int 1))) (aCons (mVar 2) aNil)))) (aCons (mFn 3 F__law_point (aCons (mVar 0) (aCons (mBin fAdd (mVar 1) (mCst (.int 4))) (aCons (mVar 2) aNil)))) aNil))))) sNil)
  (sSeq (sIf (mB (mBin fEq (mVar 3) (mCst (.int 3)))) (sRet (mTup (aCons (mCst (.str "piece")) (aCons (mFn 3 F__law_point (aCons (mVar 0) (aCons (mBin fAdd (mVar 1) (mCst (.int 1))) (aCons (mVar 2) aNil)))) (aCons (mFn 3 F__law_point (aCons (mVar 0) (aCons (mBin fAdd (mVar 1) (mCst (.int 4))) (aCons (mVar 2) aNil)))) aNil))))) sNil)
  (sSeq (sIf (mB (mBin fEq (mVar 3) (mCst (.int 4)))) (sRet (mTup (aCons (mCst (.str "side")) (aCons (mCall bTuple (aCons (C__law_kind_1 false) aNil)) aNil)))) sNil)
  (sSeq (sAsg (mLst true (aCons (mFn 3 F__law_plain_box (aCons (mVar 0) (aCons (mBin fAdd (mVar 1) (mCst (.int 1))) (aCons (mVar 2) aNil)))) aNil)) (gNm 5))
  (sSeq (sIf (mB (mBin fEq (mBin fMod (mCall bInt (aCons (mVar 4) aNil)) (mCst (.int 2))) (mCst (.int 1)))) (sExp (mBm tyL lAppend (mVar 5) (aCons (mFn 3 F__law_plain_box (aCons (mVar 0) (aCons (mBin fAdd (mVar 1) (mCst (.int 4))) (aCons (mVar 2) aNil)))) aNil))) sNil)
  (sRet (mTup (aCons (mCst (.str "boxes")) (aCons (mCall bTuple (aCons (mVar 5) aNil)) aNil)))))))))))))
noncomputable def F_Question__init__ : FA := fnR 7 (sSeq (sIf (tmNot (mTru (mFn 3 F_all_within (aCons (mTup (aCons (mVar 1) (aCons (mVar 5) (aCons (mVar 6) aNil)))) (aCons (mNeg (mCst (.int 1000000000000))) (aCons (mCst (.int 1000000000000)) aNil)))))) sStuck sNil)
  (sSeq (sIf (mB (mBin fGt (mVar 5) (mVar 6))) sStuck sNil)
  (sSeq (sIf (tmNot (mTru (mFn 2 F_sides_within (aCons (mVar 2) (aCons (mCst (.int 1000000000000)) aNil))))) sStuck sNil)
  (sSeq (sIf (tmNot (mB (mCh2 fLe fLe (mCst (.int 0)) (mVar 3) (mCst (.int 3))))) sStuck sNil)
  (sSeq (sIf (tmNot (mB (mCh2 fLe fLe (mCst (.int 1)) (mVar 4) (mCst (.int 1000000000000))))) sStuck sNil)
  (sSeq (sPut "moment" (mVar 1) (mVar 0))
  (sSeq (sPut "root" (mVar 2) (mVar 0))
  (sSeq (sPut "liars" (mVar 3) (mVar 0))
  (sSeq (sPut "share" (mVar 4) (mVar 0))
  (sSeq (sPut "earliest" (mVar 5) (mVar 0))
  (sPut "latest" (mVar 6) (mVar 0))))))))))))
noncomputable def F_Question__eq__ : FA := fnP 2 (sRet (mAnd (mIsi "Question" (mVar 1)) (mAnd (mBin fEq (mFld "moment" (mVar 0)) (mFld "moment" (mVar 1))) (mAnd (mBin fEq (mFld "root" (mVar 0)) (mFld "root" (mVar 1))) (mAnd (mBin fEq (mFld "liars" (mVar 0)) (mFld "liars" (mVar 1))) (mAnd (mBin fEq (mFld "share" (mVar 0)) (mFld "share" (mVar 1))) (mAnd (mBin fEq (mFld "earliest" (mVar 0)) (mFld "earliest" (mVar 1))) (mBin fEq (mFld "latest" (mVar 0)) (mFld "latest" (mVar 1))))))))))
noncomputable abbrev C_asked_1 (live : Bool) : M D := mLc live (iAny (mVar 1)) [2, 3] (gTp 2 (gsCons (gNm 2) (gsCons (gNm 3) gsNil))) (mB (mCh2 fLe fLe (mFld "earliest" (mVar 0)) (mFld "moment" (mVar 3)) (mFld "latest" (mVar 0)))) (mTup (aCons (mVar 2) (aCons (mVar 3) aNil)))
noncomputable def F_asked : FA := fnP 4 (sRet (C_asked_1 false))
noncomputable def F_gap : FA := fnP 2 (sRet (mCall bMax (aCons (mCst (.int 0)) (aCons (mBin fSub (mBin fIx (mVar 1) (mCst (.int 0))) (mBin fIx (mVar 0) (mCst (.int 1)))) (aCons (mBin fSub (mBin fIx (mVar 0) (mCst (.int 0))) (mBin fIx (mVar 1) (mCst (.int 1)))) aNil)))))
noncomputable abbrev C_nearest_1 (live : Bool) : M D := mLc live (iZip2 (aCons (mVar 0) (aCons (mVar 1) aNil))) [2, 3] (gTp 2 (gsCons (gNm 2) (gsCons (gNm 3) gsNil))) cYes (mBin fPow (mFn 2 F_gap (aCons (mTup (aCons (mVar 2) (aCons (mVar 2) aNil))) (aCons (mVar 3) aNil))) (mCst (.int 2)))
noncomputable def F_nearest : FA := fnP 4 (sRet (mCall bSum (aCons (C_nearest_1 false) aNil)))
noncomputable abbrev C_farthest_1 (live : Bool) : M D := mLc live (iZip2 (aCons (mVar 0) (aCons (mVar 1) aNil))) [2, 3, 4] (gTp 2 (gsCons (gNm 2) (gsCons (gTp 2 (gsCons (gNm 3) (gsCons (gNm 4) gsNil))) gsNil))) cYes (mBin fPow (mCall bMax (aCons (mBin fSub (mVar 2) (mVar 3)) (aCons (mBin fSub (mVar 4) (mVar 2)) aNil))) (mCst (.int 2)))
noncomputable def F_farthest : FA := fnP 5 (sRet (mCall bSum (aCons (C_farthest_1 false) aNil)))
noncomputable def F_distances : FA := fnP 2 (sRet (mTup (aCons (mFn 1 F_root_down (aCons (mFn 2 F_nearest (aCons (mVar 0) (aCons (mVar 1) aNil))) aNil)) (aCons (mFn 1 F_root_up (aCons (mFn 2 F_farthest (aCons (mVar 0) (aCons (mVar 1) aNil))) aNil)) aNil))))
noncomputable def F__law_pair : FA := fnP 1 (sSeq (sIf (tmOr (tmNot (mTru (mIsi "tuple" (mVar 0)))) (mB (mBin fNe (mCall bLen (aCons (mVar 0) aNil)) (mCst (.int 2))))) (sRet (mCst (.bl false))) sNil)
  (sRet (mAnd (mFn 1 F__law_integer (aCons (mBin fIx (mVar 0) (mCst (.int 0))) aNil)) (mFn 1 F__law_integer (aCons (mBin fIx (mVar 0) (mCst (.int 1))) aNil)))))
noncomputable abbrev B__law_root_1 : SM := (sSeq (sAsg (mBin fAdd (mVar 1) (mBin fShl (mCst (.int 1)) (mVar 2))) (gNm 3))
  (sIf (mB (mBin fLe (mBin fMul (mVar 3) (mVar 3)) (mVar 0))) (sAsg (mVar 3) (gNm 1)) sNil))
noncomputable def F__law_root : FA := fnP 4 (sSeq (sAsg (mCst (.int 0)) (gNm 1))
  (sSeq (sFor (iRange3 (aCons (mBin fAdd (mBin fDiv (mBits (mVar 0)) (mCst (.int 2))) (mCst (.int 1))) (aCons (mNeg (mCst (.int 1))) (aCons (mNeg (mCst (.int 1))) aNil)))) (gNm 2) B__law_root_1)
  (sRet (mVar 1))))
noncomputable def F__law_root_up : FA := fnP 2 (sSeq (sAsg (mFn 1 F__law_root (aCons (mVar 0) aNil)) (gNm 1))
  (sSeq (sIf (mB (mBin fLt (mBin fMul (mVar 1) (mVar 1)) (mVar 0))) (sRet (mBin fAdd (mVar 1) (mCst (.int 1)))) sNil)
  (sRet (mVar 1))))
noncomputable abbrev B__law_corners_1 : SM := (sSeq (sExp (mBm tyL lAppend (mVar 3) (aCons (mBin fAdd (mVar 4) (mLst false (aCons (mBin fIx (mVar 2) (mCst (.int 0))) aNil))) aNil)))
  (sExp (mBm tyL lAppend (mVar 3) (aCons (mBin fAdd (mVar 4) (mLst false (aCons (mBin fIx (mVar 2) (mCst (.int 1))) aNil))) aNil))))
noncomputable abbrev B__law_corners_2 : SM := (sSeq (sAsg (mLst true aNil) (gNm 3))
  (sSeq (sFor (iAny (mCall (bList false) (aCons (mVar 1) aNil))) (gNm 4) B__law_corners_1)
  (sAsg (mVar 3) (gNm 1))))
noncomputable def F__law_corners : FA := fnP 5 (sSeq (sAsg (mLst false (aCons (mLst false aNil) aNil)) (gNm 1))
  (sSeq (sFor (iAny (mVar 0)) (gNm 2) B__law_corners_2)
  (sRet (mVar 1))))
noncomputable abbrev C__law_square_1 (live : Bool) : M D := mLc live (iRange1 (aCons (mCall bLen (aCons (mVar 0) aNil)) aNil)) [2] (gNm 2) cYes (mBin fMul (mBin fSub (mBin fIx (mVar 0) (mVar 2)) (mBin fIx (mVar 1) (mVar 2))) (mBin fSub (mBin fIx (mVar 0) (mVar 2)) (mBin fIx (mVar 1) (mVar 2))))
noncomputable def F__law_square : FA := fnP 3 (sRet (mCall bSum (aCons (C__law_square_1 false) aNil)))
noncomputable def F_quotient_up : FA := fnP 2 (sRet (mNeg (mBin fDiv (mNeg (mVar 0)) (mVar 1))))
noncomputable abbrev C_dot_1 (live : Bool) : M D := mLc live (iZip2 (aCons (mVar 0) (aCons (mVar 1) aNil))) [2, 3] (gTp 2 (gsCons (gNm 2) (gsCons (gNm 3) gsNil))) cYes (mBin fMul (mVar 2) (mVar 3))
noncomputable def F_dot : FA := fnP 4 (sRet (mCall bSum (aCons (C_dot_1 false) aNil)))
noncomputable abbrev C__minus_1 (live : Bool) : M D := mLc live (iZip2 (aCons (mVar 0) (aCons (mVar 1) aNil))) [2, 3] (gTp 2 (gsCons (gNm 2) (gsCons (gNm 3) gsNil))) cYes (mBin fSub (mVar 2) (mVar 3))
noncomputable def F__minus : FA := fnP 4 (sRet (mCall bTuple (aCons (C__minus_1 false) aNil)))
noncomputable def F_from_piece : FA := fnP 9 (sSeq (sAsg (mFn 2 F__minus (aCons (mVar 2) (aCons (mVar 1) aNil))) (gNm 3))
  (sSeq (sAsg (mFn 2 F__minus (aCons (mVar 0) (aCons (mVar 1) aNil))) (gNm 4))
  (sSeq (sAsg (mFn 2 F_dot (aCons (mVar 3) (aCons (mVar 3) aNil))) (gNm 5))
  (sSeq (sAsg (mFn 2 F_dot (aCons (mVar 3) (aCons (mVar 4) aNil))) (gNm 6))
  (sSeq (sIf (mB (mBin fLe (mVar 6) (mCst (.int 0)))) (sRet (mTup (aCons (mFn 2 F_dot (aCons (mVar 4) (aCons (mVar 4) aNil))) (aCons (mFn 2 F_dot (aCons (mVar 4) (aCons (mVar 4) aNil))) aNil)))) sNil)
  (sSeq (sIf (mB (mBin fGe (mVar 6) (mVar 5))) (sSeq (sAsg (mFn 2 F__minus (aCons (mVar 0) (aCons (mVar 2) aNil))) (gNm 7))
  (sRet (mTup (aCons (mFn 2 F_dot (aCons (mVar 7) (aCons (mVar 7) aNil))) (aCons (mFn 2 F_dot (aCons (mVar 7) (aCons (mVar 7) aNil))) aNil))))) sNil)
  (sSeq (sAsg (mBin fSub (mBin fMul (mFn 2 F_dot (aCons (mVar 4) (aCons (mVar 4) aNil))) (mVar 5)) (mBin fMul (mVar 6) (mVar 6))) (gNm 8))
  (sRet (mTup (aCons (mBin fDiv (mVar 8) (mVar 5)) (aCons (mFn 2 F_quotient_up (aCons (mVar 8) (aCons (mVar 5) aNil))) aNil)))))))))))
noncomputable abbrev C__law_dot_1 (live : Bool) : M D := mLc live (iRange1 (aCons (mCall bLen (aCons (mVar 0) aNil)) aNil)) [2] (gNm 2) cYes (mBin fMul (mBin fIx (mVar 0) (mVar 2)) (mBin fIx (mVar 1) (mVar 2)))
noncomputable def F__law_dot : FA := fnP 3 (sRet (mCall bSum (aCons (C__law_dot_1 false) aNil)))
noncomputable abbrev C__law_minus_1 (live : Bool) : M D := mLc live (iRange1 (aCons (mCall bLen (aCons (mVar 0) aNil)) aNil)) [2] (gNm 2) cYes (mBin fSub (mBin fIx (mVar 0) (mVar 2)) (mBin fIx (mVar 1) (mVar 2)))
noncomputable def F__law_minus : FA := fnP 3 (sRet (mCall bTuple (aCons (C__law_minus_1 false) aNil)))
noncomputable def F__law_from_piece : FA := fnP 8 (sSeq (sAsg (mFn 2 F__law_minus (aCons (mVar 2) (aCons (mVar 1) aNil))) (gNm 3))
  (sSeq (sAsg (mFn 2 F__law_minus (aCons (mVar 0) (aCons (mVar 1) aNil))) (gNm 4))
  (sSeq (sAsg (mFn 2 F__law_dot (aCons (mVar 4) (aCons (mVar 3) aNil))) (gNm 5))
  (sSeq (sAsg (mFn 2 F__law_dot (aCons (mVar 3) (aCons (mVar 3) aNil))) (gNm 6))
  (sSeq (sIf (mB (mBin fLe (mVar 5) (mCst (.int 0)))) (sRet (mTup (aCons (mFn 2 F__law_dot (aCons (mVar 4) (aCons (mVar 4) aNil))) (aCons (mCst (.int 1)) aNil)))) sNil)
  (sSeq (sIf (mB (mBin fGe (mVar 5) (mVar 6))) (sSeq (sAsg (mFn 2 F__law_minus (aCons (mVar 0) (aCons (mVar 2) aNil))) (gNm 7))
  (sRet (mTup (aCons (mFn 2 F__law_dot (aCons (mVar 7) (aCons (mVar 7) aNil))) (aCons (mCst (.int 1)) aNil))))) sNil)
  (sRet (mTup (aCons (mBin fSub (mBin fMul (mFn 2 F__law_dot (aCons (mVar 4) (aCons (mVar 4) aNil))) (mVar 6)) (mBin fMul (mVar 5) (mVar 5))) (aCons (mVar 6) aNil))))))))))
noncomputable abbrev C_between_1 (live : Bool) : M D := mLc live (iZip2 (aCons (mVar 0) (aCons (mVar 1) aNil))) [2, 3] (gTp 2 (gsCons (gNm 2) (gsCons (gNm 3) gsNil))) cYes (mBin fPow (mFn 2 F_gap (aCons (mVar 2) (aCons (mVar 3) aNil))) (mCst (.int 2)))
noncomputable def F_between : FA := fnP 4 (sRet (mCall bSum (aCons (C_between_1 false) aNil)))
noncomputable abbrev C_greatest_from_1 (live : Bool) : M D := mLc live (iZip2 (aCons (mVar 0) (aCons (mVar 1) aNil))) [2, 3, 4] (gTp 2 (gsCons (gTp 2 (gsCons (gNm 3) (gsCons (gNm 4) gsNil))) (gsCons (gNm 2) gsNil))) cYes (mBin fPow (mCall bMax (aCons (mFn 2 F_gap (aCons (mTup (aCons (mVar 3) (aCons (mVar 3) aNil))) (aCons (mVar 2) aNil))) (aCons (mFn 2 F_gap (aCons (mTup (aCons (mVar 4) (aCons (mVar 4) aNil))) (aCons (mVar 2) aNil))) aNil))) (mCst (.int 2)))
noncomputable def F_greatest_from : FA := fnP 5 (sRet (mCall bSum (aCons (C_greatest_from_1 false) aNil)))
noncomputable abbrev C__side_span_1 (live : Bool) : M D := mLc live (iZip2 (aCons (mVar 0) (aCons (mVar 1) aNil))) [3, 4, 5] (gTp 2 (gsCons (gNm 3) (gsCons (gTp 2 (gsCons (gNm 4) (gsCons (gNm 5) gsNil))) gsNil))) cYes (mTup (aCons (mBin fMul (mVar 3) (mVar 4)) (aCons (mBin fMul (mVar 3) (mVar 5)) aNil)))
noncomputable abbrev C__side_span_2 (live : Bool) : M D := mLc live (iAny (mVar 2)) [6] (gNm 6) cYes (mCall bMax (aCons (mVar 6) aNil))
noncomputable abbrev C__side_span_3 (live : Bool) : M D := mLc live (iAny (mVar 2)) [6] (gNm 6) cYes (mCall bMin (aCons (mVar 6) aNil))
noncomputable def F__side_span : FA := fnP 7 (sSeq (sAsg (C__side_span_1 false) (gNm 2))
  (sRet (mTup (aCons (mCall bSum (aCons (C__side_span_3 false) aNil)) (aCons (mCall bSum (aCons (C__side_span_2 false) aNil)) aNil)))))
noncomputable def F__piece_span : FA := fnP 6 (sSeq (sAsg (mFn 3 F_from_piece (aCons (mFn 1 F_middle (aCons (mSl (mVar 2) pNo (pYes (mNeg (mCst (.int 1))))) aNil)) (aCons (mVar 0) (aCons (mVar 1) aNil)))) (gTp 2 (gsCons (gNm 3) (gsCons (gNm 4) gsNil))))
  (sSeq (sAsg (mFn 1 F_radius (aCons (mVar 2) aNil)) (gNm 5))
  (sRet (mTup (aCons (mBin fSub (mFn 1 F_root_down (aCons (mVar 3) aNil)) (mVar 5)) (aCons (mBin fAdd (mFn 1 F_root_up (aCons (mVar 4) aNil)) (mVar 5)) aNil))))))
noncomputable abbrev C__boxes_span_1 (live : Bool) : M D := mLc live (iAny (mVar 0)) [4] (gNm 4) cYes (mFn 2 F_between (aCons (mVar 1) (aCons (mVar 4) aNil)))
noncomputable abbrev C__boxes_span_2 (live : Bool) : M D := mLc live (iAny (mVar 0)) [4] (gNm 4) cYes (mFn 2 F_greatest_from (aCons (mVar 1) (aCons (mVar 4) aNil)))
noncomputable def F__boxes_span : FA := fnP 5 (sSeq (sAsg (mCall bMin (aCons (C__boxes_span_1 false) aNil)) (gNm 2))
  (sSeq (sAsg (mCall bMin (aCons (C__boxes_span_2 false) aNil)) (gNm 3))
  (sRet (mTup (aCons (mFn 1 F_root_down (aCons (mVar 2) aNil)) (aCons (mFn 1 F_root_up (aCons (mVar 3) aNil)) aNil))))))
noncomputable def F_span : FA := fnP 9 (sSeq (sAsg (mTup (aCons (mSl (mVar 1) pNo (pYes (mNeg (mCst (.int 1))))) (aCons (mBin fIx (mVar 1) (mNeg (mCst (.int 1)))) aNil))) (gTp 2 (gsCons (gNm 2) (gsCons (gTp 2 (gsCons (gNm 3) (gsCons (gNm 4) gsNil))) gsNil))))
  (sSeq (sIf (mB (mBin fEq (mBin fIx (mVar 0) (mCst (.int 0))) (mCst (.str "side")))) (sRet (mFn 2 F__side_span (aCons (mBin fIx (mVar 0) (mCst (.int 1))) (aCons (mVar 2) aNil)))) sNil)
  (sSeq (sIf (mB (mBin fEq (mBin fIx (mVar 0) (mCst (.int 0))) (mCst (.str "piece")))) (sRet (mFn 3 F__piece_span (aCons (mBin fIx (mVar 0) (mCst (.int 1))) (aCons (mBin fIx (mVar 0) (mCst (.int 2))) (aCons (mVar 1) aNil))))) sNil)
  (sSeq (sIf (mB (mBin fEq (mBin fIx (mVar 0) (mCst (.int 0))) (mCst (.str "boxes")))) (sRet (mFn 2 F__boxes_span (aCons (mBin fIx (mVar 0) (mCst (.int 1))) (aCons (mVar 2) aNil)))) sNil)
  (sSeq (sAsg (mFn 2 F_distances (aCons (mBin fIx (mVar 0) (mCst (.int 1))) (aCons (mVar 2) aNil))) (gTp 2 (gsCons (gNm 5) (gsCons (gNm 6) gsNil))))
  (sSeq (sIf (mB (mBin fEq (mBin fIx (mVar 0) (mCst (.int 0))) (mCst (.str "clocked")))) (sRet (mTup (aCons (mBin fAdd (mVar 5) (mVar 3)) (aCons (mBin fAdd (mVar 6) (mVar 4)) aNil)))) sNil)
  (sSeq (sIf (mB (mBin fEq (mBin fIx (mVar 0) (mCst (.int 0))) (mCst (.str "differ")))) (sSeq (sAsg (mFn 2 F_distances (aCons (mBin fIx (mVar 0) (mCst (.int 2))) (aCons (mVar 2) aNil))) (gTp 2 (gsCons (gNm 7) (gsCons (gNm 8) gsNil))))
  (sRet (mTup (aCons (mBin fSub (mVar 5) (mVar 8)) (aCons (mBin fSub (mVar 6) (mVar 7)) aNil))))) sNil)
  (sRet (mTup (aCons (mVar 5) (aCons (mVar 6) aNil)))))))))))
noncomputable abbrev B__law_from_boxes_1 : SM := (sSeq (sAsg (mCall bMax (aCons (mBin fSub (mBin fIx (mBin fIx (mVar 3) (mVar 5)) (mCst (.int 0))) (mBin fIx (mVar 0) (mVar 5))) (aCons (mBin fSub (mBin fIx (mVar 0) (mVar 5)) (mBin fIx (mBin fIx (mVar 3) (mVar 5)) (mCst (.int 1)))) (aCons (mCst (.int 0)) aNil)))) (gNm 6))
  (sAsg (mBin fAdd (mVar 4) (mBin fMul (mVar 6) (mVar 6))) (gNm 4)))
noncomputable abbrev B__law_from_boxes_2 : SM := (sSeq (sAsg (mCst (.int 0)) (gNm 4))
  (sSeq (sFor (iRange1 (aCons (mCall bLen (aCons (mVar 0) aNil)) aNil)) (gNm 5) B__law_from_boxes_1)
  (sExp (mBm tyL lAppend (mVar 2) (aCons (mVar 4) aNil)))))
noncomputable def F__law_from_boxes : FA := fnP 7 (sSeq (sAsg (mLst true aNil) (gNm 2))
  (sSeq (sFor (iAny (mVar 1)) (gNm 3) B__law_from_boxes_2)
  (sRet (mCall bMin (aCons (mVar 2) aNil)))))
noncomputable def F_rate : FA := fnP 1 (sSeq (sIf (mB (mBin fEq (mBin fIx (mVar 0) (mCst (.int 0))) (mCst (.str "differ")))) (sRet (mCst (.int 2))) sNil)
  (sSeq (sIf (mB (mBin fEq (mBin fIx (mVar 0) (mCst (.int 0))) (mCst (.str "side")))) (sRet (mFn 1 F_root_up (aCons (mFn 2 F_dot (aCons (mBin fIx (mVar 0) (mCst (.int 1))) (aCons (mBin fIx (mVar 0) (mCst (.int 1))) aNil))) aNil))) sNil)
  (sRet (mCst (.int 1)))))
noncomputable def F_clock_rate : FA := fnP 1 (sRet (mIf (mB (mBin fEq (mBin fIx (mVar 0) (mCst (.int 0))) (mCst (.str "clocked")))) (mCst (.int 1)) (mCst (.int 0))))
noncomputable def F_moved : FA := fnP 1 (sSeq (sIf (mB (mBin fEq (mBin fIx (mVar 0) (mCst (.int 0))) (mCst (.str "differ")))) (sRet (mCst (.int 2))) sNil)
  (sRet (mIf (mB (mBin fEq (mBin fIx (mVar 0) (mCst (.int 0))) (mCst (.str "side")))) (mCst (.int 0)) (mCst (.int 1)))))
noncomputable def F_reach : FA := fnP 2 (sRet (mFn 2 F_quotient_up (aCons (mBin fMul (mFld "speed" (mVar 0)) (mVar 1)) (aCons (mFld "per" (mVar 0)) aNil))))
noncomputable def F_slip : FA := fnP 2 (sRet (mFn 2 F_quotient_up (aCons (mBin fMul (mFld "drift" (mVar 0)) (mVar 1)) (aCons (mFld "per" (mVar 0)) aNil))))
noncomputable def F__law_setting : FA := fnP 7 (sSeq (sAsg (mFn 2 F__law_number (aCons (mVar 0) (aCons (mVar 1) aNil))) (gNm 2))
  (sSeq (sAsg (mFn 2 F__law_number (aCons (mVar 0) (aCons (mBin fAdd (mVar 1) (mCst (.int 1))) aNil))) (gNm 3))
  (sSeq (sAsg (mBin fAdd (mCst (.int 2)) (mBin fMod (mCall bInt (aCons (mVar 2) aNil)) (mCst (.int 2)))) (gNm 4))
  (sSeq (sAsg (mBin fAdd (mCst (.int 1)) (mBin fMod (mCall bInt (aCons (mBin fDiv (mVar 2) (mCst (.int 2))) aNil)) (mCst (.int 5)))) (gNm 5))
  (sSeq (sAsg (mBin fMod (mCall bInt (aCons (mBin fDiv (mVar 2) (mCst (.int 10))) aNil)) (mCst (.int 23))) (gNm 6))
  (sSeq (sIf (mB (mBin fEq (mBin fMod (mCall bInt (aCons (mBin fDiv (mVar 2) (mCst (.int 230))) aNil)) (mCst (.int 8))) (mCst (.int 0)))) (sSeq (sAsg (mBin fAdd (mCst (.int 1)) (mBin fMod (mCall bInt (aCons (mVar 3) aNil)) (mCst (.int 1000000000000)))) (gNm 5))
  (sAsg (mBin fMod (mCall bInt (aCons (mBin fDiv (mVar 3) (mCst (.int 1000000000000))) aNil)) (mCst (.int 1000000000001))) (gNm 6))) sNil)
  (sRet (mMkN 0 1 3 gApp F_Setting__init__ (aCons (mVar 4) aNil) (aCons (mVar 6) (aCons (mBin fMod (mCall bInt (aCons (mBin fDiv (mVar 2) (mCst (.int 1840))) aNil)) (mCst (.int 7))) (aCons (mVar 5) aNil)))))))))))
noncomputable def F_farther : FA := fnP 6 (sSeq (sAsg (mBin fMul (mBin fPow (mFld "per" (mVar 0)) (mCst (.int 2))) (mFn 2 F_between (aCons (mSl (mVar 2) pNo (pYes (mNeg (mCst (.int 1))))) (aCons (mSl (mVar 3) pNo (pYes (mNeg (mCst (.int 1))))) aNil)))) (gNm 4))
  (sSeq (sAsg (mBin fMul (mFld "per" (mVar 0)) (mFn 2 F_gap (aCons (mBin fIx (mVar 2) (mNeg (mCst (.int 1)))) (aCons (mBin fIx (mVar 3) (mNeg (mCst (.int 1)))) aNil)))) (gNm 5))
  (sRet (mOr (mBin fGt (mVar 4) (mBin fPow (mBin fMul (mFld "speed" (mVar 0)) (mVar 1)) (mCst (.int 2)))) (mBin fGt (mVar 5) (mBin fMul (mFld "drift" (mVar 0)) (mVar 1)))))))
noncomputable def F_carried : FA := fnP 7 (sSeq (sAsg (mFld "kind" (mVar 1)) (gNm 3))
  (sSeq (sAsg (mBin fAdd (mFld "late" (mVar 1)) (mCall bAbs (aCons (mBin fSub (mVar 2) (mFld "moment" (mVar 1))) aNil))) (gNm 4))
  (sSeq (sAsg (mBin fMul (mFn 1 F_rate (aCons (mVar 3) aNil)) (mFn 2 F_reach (aCons (mVar 0) (aCons (mVar 4) aNil)))) (gNm 5))
  (sSeq (sAsg (mBin fMul (mFn 1 F_clock_rate (aCons (mVar 3) aNil)) (mFn 2 F_slip (aCons (mVar 0) (aCons (mVar 4) aNil)))) (gNm 6))
  (sRet (mBin fAdd (mBin fAdd (mBin fMul (mFn 1 F_moved (aCons (mVar 3) aNil)) (mFld "near" (mVar 1))) (mVar 5)) (mVar 6)))))))
noncomputable def F_allowed : FA := fnP 4 (sSeq (sAsg (mFn 3 F_carried (aCons (mVar 0) (aCons (mVar 1) (aCons (mVar 2) aNil)))) (gNm 3))
  (sRet (mTup (aCons (mBin fSub (mFld "low" (mVar 1)) (mVar 3)) (aCons (mBin fAdd (mFld "high" (mVar 1)) (mVar 3)) aNil)))))
noncomputable def F_misses : FA := fnP 7 (sSeq (sAsg (mVar 1) (gTp 2 (gsCons (gNm 3) (gsCons (gNm 4) gsNil))))
  (sSeq (sAsg (mFn 2 F_span (aCons (mVar 0) (aCons (mVar 2) aNil))) (gTp 2 (gsCons (gNm 5) (gsCons (gNm 6) gsNil))))
  (sRet (mOr (mBin fLt (mVar 6) (mVar 3)) (mBin fGt (mVar 5) (mVar 4))))))
noncomputable def F_excludes : FA := fnP 4 (sRet (mFn 3 F_misses (aCons (mFld "kind" (mVar 1)) (aCons (mFn 3 F_allowed (aCons (mVar 0) (aCons (mVar 1) (aCons (mVar 2) aNil)))) (aCons (mVar 3) aNil)))))
noncomputable abbrev C__next_steps_right_1 (live : Bool) : M D := mLc live (iAny (mVar 3)) [5] (gNm 5) cYes (mCh2 fLt fLt (mVar 0) (mVar 5) (mVar 1))
noncomputable def F__next_steps_right : FA := fnP 6 (sSeq (sIf (mB (mBin fEq (mVar 4) (mCst (.int 0)))) (sRet (mBin fEq (mCall bLen (aCons (mVar 3) aNil)) (mCst (.int 0)))) sNil)
  (sRet (mAnd (mBin fEq (mCall bLen (aCons (mVar 3) aNil)) (mCall bLen (aCons (mVar 2) aNil))) (mCall bAll (aCons (C__next_steps_right_1 false) aNil)))))
noncomputable abbrev C__law_used_1 (live : Bool) : M D := mLc live (iRange1 (aCons (mVar 7) aNil)) [10] (gNm 10) cYes (mBin fIx (mVar 3) (mBin fMod (mBin fAdd (mVar 8) (mBin fMul (mVar 9) (mVar 10))) (mCst (.int 4))))
noncomputable abbrev B__law_used_1 : SM := (sSeq (sAsg (mFn 2 F__law_number (aCons (mVar 0) (aCons (mBin fAdd (mVar 1) (mVar 5)) aNil))) (gNm 6))
  (sIf (mB (mBin fEq (mBin fMod (mCall bInt (aCons (mVar 6) aNil)) (mCst (.int 7))) (mCst (.int 0)))) (sExp (mBm tyL lAppend (mVar 4) (aCons (mCst .non) aNil))) (sSeq (sAsg (mBin fIx (mLst false (aCons (mCst (.int 1)) (aCons (mCst (.int 2)) (aCons (mCst (.int 2)) (aCons (mCst (.int 3)) (aCons (mCst (.int 0)) (aCons (mCst (.int 1)) aNil))))))) (mBin fMod (mCall bInt (aCons (mBin fDiv (mVar 6) (mCst (.int 7))) aNil)) (mCst (.int 6)))) (gNm 7))
  (sSeq (sAsg (mBin fMod (mCall bInt (aCons (mBin fDiv (mVar 6) (mCst (.int 42))) aNil)) (mCst (.int 4))) (gNm 8))
  (sSeq (sAsg (mBin fAdd (mCst (.int 1)) (mBin fMul (mCst (.int 2)) (mCall bInt (aCons (mBin fMod (mCall bInt (aCons (mBin fDiv (mVar 6) (mCst (.int 168))) aNil)) (mCst (.int 2))) aNil)))) (gNm 9))
  (sExp (mBm tyL lAppend (mVar 4) (aCons (mCall bTuple (aCons (C__law_used_1 false) aNil)) aNil))))))))
noncomputable def F__law_used : FA := fnP 11 (sSeq (sAsg (mLst false (aCons (mCst (.str "a")) (aCons (mCst (.str "b")) (aCons (mCst (.str "c")) (aCons (mCst (.str "d")) aNil))))) (gNm 3))
  (sSeq (sAsg (mLst true aNil) (gNm 4))
  (sSeq (sFor (iRange1 (aCons (mVar 2) aNil)) (gNm 5) B__law_used_1)
  (sRet (mVar 4)))))
noncomputable def F__law_honest : FA := fnP 1 (sRet (mBin fIx (mLst false (aCons (mTup aNil) (aCons (mTup aNil) (aCons (mTup (aCons (mCst (.str "a")) aNil)) (aCons (mTup (aCons (mCst (.str "b")) (aCons (mCst (.str "d")) aNil))) (aCons (mTup (aCons (mCst (.str "c")) aNil)) aNil)))))) (mBin fMod (mCall bInt (aCons (mVar 0) aNil)) (mCst (.int 5)))))
noncomputable def F__law_spoilt : FA := fnP 8 (sSeq (sAsg (mBin fMod (mCall bInt (aCons (mVar 1) aNil)) (mCst (.int 6))) (gNm 3))
  (sSeq (sAsg (mBin fDiv (mVar 1) (mCst (.int 6))) (gNm 4))
  (sSeq (sIf (tmOr (mB (mBin fLt (mVar 3) (mCst (.int 2)))) (mB (mBin fEq (mCall bLen (aCons (mVar 0) aNil)) (mCst (.int 0))))) (sRet (mVar 0)) sNil)
  (sSeq (sAsg (mBin fMod (mCall bInt (aCons (mVar 4) aNil)) (mCall bLen (aCons (mVar 0) aNil))) (gNm 5))
  (sSeq (sAsg (mBin fIx (mVar 0) (mVar 5)) (gTp 2 (gsCons (gNm 6) (gsCons (gNm 7) gsNil))))
  (sSeq (sAsg (mBin fDiv (mVar 4) (mCst (.int 64))) (gNm 4))
  (sSeq (sIf (mB (mBin fEq (mVar 3) (mCst (.int 2)))) (sRet (mBin fAdd (mBin fAdd (mSl (mVar 0) pNo (pYes (mVar 5))) (mLst false (aCons (mTup (aCons (mBin fSub (mBin fMod (mCall bInt (aCons (mVar 4) aNil)) (mBin fAdd (mVar 2) (mCst (.int 2)))) (mCst (.int 1))) (aCons (mVar 7) aNil))) aNil))) (mSl (mVar 0) (pYes (mBin fAdd (mVar 5) (mCst (.int 1)))) pNo))) sNil)
  (sSeq (sIf (mB (mBin fEq (mVar 3) (mCst (.int 3)))) (sRet (mBin fAdd (mBin fAdd (mSl (mVar 0) pNo (pYes (mVar 5))) (mLst false (aCons (mTup (aCons (mVar 6) (aCons (mBin fAdd (mVar 7) (mTup (aCons (mBin fSub (mBin fMod (mCall bInt (aCons (mVar 4) aNil)) (mBin fAdd (mCall bLen (aCons (mVar 0) aNil)) (mCst (.int 2)))) (mCst (.int 1))) aNil))) aNil))) aNil))) (mSl (mVar 0) (pYes (mBin fAdd (mVar 5) (mCst (.int 1)))) pNo))) sNil)
  (sSeq (sIf (tmAnd (mB (mBin fEq (mVar 3) (mCst (.int 4)))) (mB (mBin fGt (mCall bLen (aCons (mVar 7) aNil)) (mCst (.int 0))))) (sRet (mBin fAdd (mBin fAdd (mSl (mVar 0) pNo (pYes (mVar 5))) (mLst false (aCons (mTup (aCons (mVar 6) (aCons (mBin fAdd (mSl (mVar 7) pNo (pYes (mNeg (mCst (.int 1))))) (mTup (aCons (mBin fMod (mCall bInt (aCons (mVar 4) aNil)) (mBin fAdd (mCall bLen (aCons (mVar 0) aNil)) (mCst (.int 1)))) aNil))) aNil))) aNil))) (mSl (mVar 0) (pYes (mBin fAdd (mVar 5) (mCst (.int 1)))) pNo))) sNil)
  (sRet (mBin fAdd (mBin fAdd (mSl (mVar 0) pNo (pYes (mVar 5))) (mLst false (aCons (mTup (aCons (mVar 6) (aCons (mTup aNil) aNil))) aNil))) (mSl (mVar 0) (pYes (mBin fAdd (mVar 5) (mCst (.int 1)))) pNo))))))))))))
noncomputable abbrev C__law_drawn_1 (live : Bool) : M D := mLc live (iRange1 (aCons (mBin fMod (mCall bInt (aCons (mBin fDiv (mVar 6) (mCst (.int 8))) aNil)) (mCst (.int 4))) aNil)) [8] (gNm 8) cYes (mBin fAdd (mBin fAdd (mVar 5) (mCst (.int 1))) (mBin fMod (mCall bInt (aCons (mBin fDiv (mVar 6) (mBin fIx (mLst false (aCons (mCst (.int 40)) (aCons (mCst (.int 200)) (aCons (mCst (.int 1000)) aNil)))) (mVar 8))) aNil)) (mCst (.int 3))))
noncomputable abbrev B__law_drawn_1 : SM := (sSeq (sAsg (mFn 2 F__law_number (aCons (mVar 0) (aCons (mBin fAdd (mBin fAdd (mVar 1) (mCst (.int 1))) (mVar 5)) aNil))) (gNm 6))
  (sSeq (sAsg (C__law_drawn_1 false) (gNm 7))
  (sExp (mBm tyL lAppend (mVar 3) (aCons (mTup (aCons (mBin fMod (mCall bInt (aCons (mVar 6) aNil)) (mBin fAdd (mVar 2) (mCst (.int 1)))) (aCons (mCall bTuple (aCons (mVar 7) aNil)) aNil))) aNil)))))
noncomputable def F__law_drawn : FA := fnP 9 (sSeq (sAsg (mLst true aNil) (gNm 3))
  (sSeq (sAsg (mBin fAdd (mCst (.int 1)) (mBin fMod (mCall bInt (aCons (mFn 2 F__law_number (aCons (mVar 0) (aCons (mVar 1) aNil))) aNil)) (mCst (.int 5)))) (gNm 4))
  (sSeq (sFor (iRange1 (aCons (mVar 4) aNil)) (gNm 5) B__law_drawn_1)
  (sRet (mVar 3)))))
noncomputable def F_Held__init__ : FA := fnR 4 (sSeq (sPut "moment" (mVar 1) (mVar 0))
  (sSeq (sPut "cover" (mVar 2) (mVar 0))
  (sPut "used" (mVar 3) (mVar 0))))
noncomputable def F_Held__eq__ : FA := fnP 2 (sRet (mAnd (mIsi "Held" (mVar 1)) (mAnd (mBin fEq (mFld "moment" (mVar 0)) (mFld "moment" (mVar 1))) (mAnd (mBin fEq (mFld "cover" (mVar 0)) (mFld "cover" (mVar 1))) (mBin fEq (mFld "used" (mVar 0)) (mFld "used" (mVar 1)))))))
noncomputable abbrev B_beyond_1 : SM := (sIf (tmNot (mTru (mFn 4 F_farther (aCons (mVar 0) (aCons (mVar 4) (aCons (mVar 3) (aCons (mVar 5) aNil))))))) (sRet (mCst (.bl false))) sNil)
noncomputable def F_beyond : FA := fnP 6 (sSeq (sAsg (mCall bAbs (aCons (mBin fSub (mVar 2) (mFld "moment" (mVar 1))) aNil)) (gNm 4))
  (sSeq (sFor (iAny (mFld "cover" (mVar 1))) (gNm 5) B_beyond_1)
  (sRet (mCst (.bl true)))))
noncomputable def F_Case__init__ : FA := fnR 6 (sSeq (sPut "setting" (mVar 1) (mVar 0))
  (sSeq (sPut "table" (mVar 2) (mVar 0))
  (sSeq (sPut "held" (mVar 3) (mVar 0))
  (sSeq (sPut "keep" (mVar 4) (mVar 0))
  (sPut "moment" (mVar 5) (mVar 0))))))
noncomputable def F_Caseby_known : FA := fnP 4 (sSeq (sIf (tmNot (mB (mCh2 fLe fLt (mCst (.int 0)) (mVar 1) (mCall bLen (aCons (mFld "held" (mVar 0)) aNil))))) (sRet (mCst .non)) sNil)
  (sSeq (sAsg (mBin fIx (mFld "held" (mVar 0)) (mVar 1)) (gNm 3))
  (sRet (mIf (mTru (mFn 4 F_beyond (aCons (mFld "setting" (mVar 0)) (aCons (mVar 3) (aCons (mFld "moment" (mVar 0)) (aCons (mVar 2) aNil)))))) (mFld "used" (mVar 3)) (mCst .non)))))
noncomputable def F_Caseby_kept : FA := fnP 3 (sSeq (sIf (tmAnd (mB (mCh2 fLe fLt (mCst (.int 0)) (mVar 1) (mCall bLen (aCons (mFld "keep" (mVar 0)) aNil)))) (mTru (mFn 2 F_inside (aCons (mVar 2) (aCons (mBin fIx (mFld "keep" (mVar 0)) (mVar 1)) aNil))))) (sRet (mTup aNil)) sNil)
  (sRet (mCst .non)))
noncomputable abbrev B__law_leaf_1 : SM := (sIf (mTru (mFn 4 F_excludes (aCons (mVar 2) (aCons (mBin fIx (mVar 9) (mCst (.int 1))) (aCons (mVar 6) (aCons (mVar 7) aNil)))))) (sRet (mTup (aCons (mCst (.str "reading")) (aCons (mBin fIx (mVar 9) (mCst (.int 0))) aNil)))) sNil)
noncomputable abbrev B__law_leaf_2 : SM := (sIf (mTru (mFn 2 F_inside (aCons (mVar 7) (aCons (mBin fIx (mVar 5) (mVar 10)) aNil)))) (sRet (mTup (aCons (mCst (.str "kept")) (aCons (mVar 10) aNil)))) sNil)
noncomputable def F__law_leaf : FA := fnP 12 (sSeq (sAsg (mFn 2 F__law_number (aCons (mVar 0) (aCons (mVar 1) aNil))) (gNm 8))
  (sSeq (sIf (mB (mBin fGt (mBin fMod (mCall bInt (aCons (mVar 8) aNil)) (mCst (.int 4))) (mCst (.int 0)))) (sSeq (sFor (iAny (mVar 3)) (gNm 9) B__law_leaf_1)
  (sFor (iRange1 (aCons (mCall bLen (aCons (mVar 5) aNil)) aNil)) (gNm 10) B__law_leaf_2)) sNil)
  (sSeq (sAsg (mBin fMod (mCall bInt (aCons (mBin fDiv (mVar 8) (mCst (.int 4))) aNil)) (mCst (.int 3))) (gNm 11))
  (sSeq (sIf (mB (mBin fEq (mVar 11) (mCst (.int 0)))) (sRet (mTup (aCons (mCst (.str "reading")) (aCons (mBin fIx (mLst false (aCons (mCst (.int 3)) (aCons (mCst (.int 8)) (aCons (mCst (.int 5)) (aCons (mCst (.int 4)) (aCons (mCst (.int 7)) aNil)))))) (mBin fMod (mCall bInt (aCons (mBin fDiv (mVar 8) (mCst (.int 12))) aNil)) (mCst (.int 5)))) aNil)))) sNil)
  (sSeq (sIf (mB (mBin fEq (mVar 11) (mCst (.int 1)))) (sRet (mTup (aCons (mCst (.str "known")) (aCons (mBin fSub (mBin fMod (mCall bInt (aCons (mBin fDiv (mVar 8) (mCst (.int 12))) aNil)) (mBin fAdd (mCall bLen (aCons (mVar 4) aNil)) (mCst (.int 2)))) (mCst (.int 1))) aNil)))) sNil)
  (sRet (mTup (aCons (mCst (.str "kept")) (aCons (mBin fSub (mBin fMod (mCall bInt (aCons (mBin fDiv (mVar 8) (mCst (.int 12))) aNil)) (mBin fAdd (mCall bLen (aCons (mVar 5) aNil)) (mCst (.int 2)))) (mCst (.int 1))) aNil)))))))))
noncomputable abbrev B__law_tree_1 : SM := (sSeq (sIf (mB (mBin fEq (mCall bLen (aCons (mVar 9) aNil)) (mCst (.int 0)))) sBrk sNil)
  (sSeq (sAsg (mBm tyL lPop (mVar 9) aNil) (gNm 11))
  (sSeq (sAsg (mFn 2 F__law_number (aCons (mVar 0) (aCons (mBin fAdd (mVar 1) (mVar 10)) aNil))) (gNm 12))
  (sIf (tmAnd (mB (mBin fLt (mVar 10) (mCst (.int 6)))) (mB (mBin fLt (mBin fMod (mCall bInt (aCons (mVar 12) aNil)) (mCst (.int 5))) (mCst (.int 2))))) (sSeq (sAsg (mBin fMod (mCall bInt (aCons (mBin fDiv (mVar 12) (mCst (.int 5))) aNil)) (mBin fAdd (mCall bLen (aCons (mVar 7) aNil)) (mCst (.int 1)))) (gNm 13))
  (sSeq (sAsg (mBin fIx (mVar 11) (mCall bMin (aCons (mVar 13) (aCons (mBin fSub (mCall bLen (aCons (mVar 7) aNil)) (mCst (.int 1))) aNil)))) (gNm 14))
  (sSeq (sAsg (mBin fAdd (mBin fDiv (mBin fAdd (mBin fIx (mVar 14) (mCst (.int 0))) (mBin fIx (mVar 14) (mCst (.int 1)))) (mCst (.int 2))) (mCall bInt (aCons (mBin fEq (mBin fMod (mCall bInt (aCons (mBin fDiv (mVar 12) (mCst (.int 20))) aNil)) (mCst (.int 9))) (mCst (.int 0))) aNil))) (gNm 15))
  (sSeq (sExp (mBm tyL lAppend (mVar 8) (aCons (mTup (aCons (mCst (.str "cut")) (aCons (mVar 13) (aCons (mVar 15) aNil)))) aNil)))
  (sSeq (sAsg (mFn 3 F_cut (aCons (mVar 11) (aCons (mVar 13) (aCons (mVar 15) aNil)))) (gNm 16))
  (sIf (mB (mBin fNotN (mVar 16) (mCst .non))) (sSeq (sExp (mBm tyL lAppend (mVar 9) (aCons (mBin fIx (mVar 16) (mCst (.int 1))) aNil)))
  (sExp (mBm tyL lAppend (mVar 9) (aCons (mBin fIx (mVar 16) (mCst (.int 0))) aNil)))) sNil)))))) (sExp (mBm tyL lAppend (mVar 8) (aCons (mFn 8 F__law_leaf (aCons (mVar 0) (aCons (mBin fAdd (mBin fAdd (mVar 1) (mVar 10)) (mCst (.int 1))) (aCons (mVar 2) (aCons (mVar 3) (aCons (mVar 4) (aCons (mVar 5) (aCons (mVar 6) (aCons (mVar 11) aNil))))))))) aNil)))))))
noncomputable def F__law_tree : FA := fnP 17 (sSeq (sAsg (mLst true aNil) (gNm 8))
  (sSeq (sAsg (mLst true (aCons (mVar 7) aNil)) (gNm 9))
  (sSeq (sFor (iRange1 (aCons (mCst (.int 15)) aNil)) (gNm 10) B__law_tree_1)
  (sSeq (sAsg (mFn 2 F__law_number (aCons (mVar 0) (aCons (mBin fAdd (mVar 1) (mCst (.int 16))) aNil))) (gNm 12))
  (sSeq (sIf (mB (mBin fEq (mBin fMod (mCall bInt (aCons (mVar 12) aNil)) (mCst (.int 9))) (mCst (.int 0)))) (sRet (mCall bTuple (aCons (mSl (mVar 8) pNo (pYes (mNeg (mCst (.int 1))))) aNil))) sNil)
  (sSeq (sIf (mB (mBin fEq (mBin fMod (mCall bInt (aCons (mVar 12) aNil)) (mCst (.int 9))) (mCst (.int 1)))) (sRet (mCall bTuple (aCons (mBin fAdd (mVar 8) (mLst false (aCons (mBin fIx (mVar 8) (mNeg (mCst (.int 1)))) aNil))) aNil))) sNil)
  (sRet (mCall bTuple (aCons (mVar 8) aNil)))))))))
noncomputable abbrev C_ascending_1 (live : Bool) : M D := mLc live (iZip2 (aCons (mVar 0) (aCons (mSl (mVar 0) (pYes (mCst (.int 1))) pNo) aNil))) [1, 2] (gTp 2 (gsCons (gNm 1) (gsCons (gNm 2) gsNil))) cYes (mBin fLt (mVar 1) (mVar 2))
noncomputable def F_ascending : FA := fnP 3 (sRet (mCall bAll (aCons (C_ascending_1 false) aNil)))
noncomputable def F_Witness__init__ : FA := fnR 3 (sSeq (sPut "liars" (mVar 1) (mVar 0))
  (sPut "points" (mVar 2) (mVar 0)))
noncomputable def F_Witness__eq__ : FA := fnP 2 (sRet (mAnd (mIsi "Witness" (mVar 1)) (mAnd (mBin fEq (mFld "liars" (mVar 0)) (mFld "liars" (mVar 1))) (mBin fEq (mFld "points" (mVar 0)) (mFld "points" (mVar 1))))))
noncomputable abbrev C_ascend_1 (live : Bool) : M D := mLc live (iAny (mVar 0)) [1] (gNm 1) cYes (mBin fIx (mVar 1) (mCst (.int 0)))
noncomputable def F_ascend : FA := fnP 2 (sRet (mFn 1 F_ascending (aCons (C_ascend_1 false) aNil)))
noncomputable abbrev C__at_1 (live : Bool) : M D := mLc live (iAny (mSl (mVar 0) (pYes (mCst (.int 1))) pNo)) [1] (gNm 1) cYes (mTup (aCons (mVar 1) (aCons (mVar 1) aNil)))
noncomputable def F__at : FA := fnP 2 (sRet (mCall bTuple (aCons (C__at_1 false) aNil)))
noncomputable abbrev B__law_rows_1 : SM := (sSeq (sAsg (mCst (.int 0)) (gNm 4))
  (sSeq (sIf (mB (mBin fGt (mCall bLen (aCons (mVar 0) aNil)) (mCst (.int 0)))) (sAsg (mCall bInt (aCons (mBin fIx (mVar 0) (mBin fMod (mCall bInt (aCons (mVar 3) aNil)) (mCall bLen (aCons (mVar 0) aNil)))) aNil)) (gNm 4)) sNil)
  (sSeq (sIf (mB (mBin fLt (mVar 4) (mCst (.int 0)))) (sAsg (mBin fSub (mCst (.int 1)) (mBin fMul (mCst (.int 2)) (mVar 4))) (gNm 4)) sNil)
  (sSeq (sIf (tmOr (mB (mBin fGe (mVar 3) (mCall bLen (aCons (mVar 0) aNil)))) (mB (mBin fLt (mVar 4) (mCst (.int 1000000000))))) (sSeq (sAsg (mBin fMod (mCall bInt (aCons (mBin fAdd (mBin fMul (mBin fAdd (mBin fAdd (mVar 4) (mBin fMul (mCst (.int 131)) (mVar 3))) (mCst (.int 7))) (mCst (.int 48271))) (mBin fMul (mBin fMul (mVar 3) (mVar 3)) (mCst (.int 69621)))) aNil)) (mCst (.int 1000000007))) (gNm 4))
  (sAsg (mBin fMod (mCall bInt (aCons (mBin fMul (mBin fAdd (mBin fAdd (mVar 4) (mBin fMul (mCst (.int 17)) (mVar 3))) (mCst (.int 3))) (mCst (.int 2862933555777941757))) aNil)) (mCst (.int 18446744073709551557))) (gNm 4))) sNil)
  (sExp (mBm tyL lAppend (mVar 2) (aCons (mVar 4) aNil)))))))
noncomputable def F__law_rows : FA := fnP 5 (sSeq (sAsg (mLst true aNil) (gNm 2))
  (sSeq (sFor (iRange1 (aCons (mVar 1) aNil)) (gNm 3) B__law_rows_1)
  (sRet (mVar 2))))
noncomputable abbrev B__law_digits_1 : SM := (sSeq (sExp (mBm tyL lAppend (mVar 3) (aCons (mBin fMod (mCall bInt (aCons (mVar 0) aNil)) (mVar 1)) aNil)))
  (sAsg (mBin fDiv (mVar 0) (mVar 1)) (gNm 0)))
noncomputable def F__law_digits : FA := fnP 5 (sSeq (sAsg (mLst true aNil) (gNm 3))
  (sSeq (sFor (iRange1 (aCons (mVar 2) aNil)) (gNm 4) B__law_digits_1)
  (sRet (mVar 3))))
noncomputable def F_cell_radius : FA := fnP 3 (sSeq (sAsg (mFn 1 F_half_side (aCons (mTup (aCons (mCst (.int 0)) (aCons (mVar 1) aNil))) aNil)) (gNm 2))
  (sRet (mFn 1 F_root_up (aCons (mBin fMul (mBin fMul (mFld "dims" (mVar 0)) (mVar 2)) (mVar 2)) aNil))))
noncomputable def F_spread : FA := fnP 3 (sRet (mBin fAdd (mBin fMul (mFn 1 F_rate (aCons (mVar 2) aNil)) (mBin fAdd (mBin fMul (mCst (.int 2)) (mFn 2 F_cell_radius (aCons (mVar 0) (aCons (mVar 1) aNil)))) (mCst (.int 2)))) (mBin fMul (mFn 1 F_clock_rate (aCons (mVar 2) aNil)) (mVar 1))))
noncomputable def F_margin : FA := fnP 5 (sSeq (sAsg (mFld "kind" (mVar 2)) (gNm 3))
  (sSeq (sAsg (mBin fAdd (mBin fMul (mFn 1 F_rate (aCons (mVar 3) aNil)) (mFn 2 F_reach (aCons (mVar 0) (aCons (mFld "late" (mVar 2)) aNil)))) (mBin fMul (mFn 1 F_clock_rate (aCons (mVar 3) aNil)) (mFn 2 F_slip (aCons (mVar 0) (aCons (mFld "late" (mVar 2)) aNil))))) (gNm 4))
  (sRet (mBin fAdd (mBin fAdd (mBin fMul (mFn 1 F_moved (aCons (mVar 3) aNil)) (mFld "near" (mVar 2))) (mVar 4)) (mFn 3 F_spread (aCons (mVar 0) (aCons (mFld "share" (mVar 1)) (aCons (mVar 3) aNil))))))))
noncomputable abbrev C__law_velocity_1 (live : Bool) : M D := mLc live (iAny (mFn 3 F__law_digits (aCons (mVar 1) (aCons (mCst (.int 7)) (aCons (mFld "dims" (mVar 0)) aNil))))) [5] (gNm 5) cYes (mBin fSub (mVar 5) (mCst (.int 3)))
noncomputable abbrev C__law_velocity_2 (live : Bool) : M D := mLc live (iAny (mVar 2)) [6] (gNm 6) cYes (mBin fMul (mVar 6) (mVar 6))
noncomputable abbrev C__law_velocity_3 (live : Bool) : M D := mLc live (iAny (mVar 2)) [6] (gNm 6) cYes (mBin fMul (mBin fDiv (mCall bAbs (aCons (mVar 6) aNil)) (mCst (.int 2))) (mBin fSub (mCst (.int 1)) (mBin fMul (mCst (.int 2)) (mCall bInt (aCons (mBin fLt (mVar 6) (mCst (.int 0))) aNil)))))
noncomputable abbrev B__law_velocity_1 : SM := (sSeq (sAsg (mCall bSum (aCons (C__law_velocity_2 false) aNil)) (gNm 4))
  (sSeq (sIf (mB (mBin fLe (mBin fMul (mBin fMul (mFld "per" (mVar 0)) (mFld "per" (mVar 0))) (mVar 4)) (mBin fMul (mFld "speed" (mVar 0)) (mFld "speed" (mVar 0))))) sBrk sNil)
  (sAsg (C__law_velocity_3 false) (gNm 2))))
noncomputable def F__law_velocity : FA := fnP 7 (sSeq (sAsg (C__law_velocity_1 false) (gNm 2))
  (sSeq (sFor (iRange1 (aCons (mCst (.int 8)) aNil)) (gNm 3) B__law_velocity_1)
  (sRet (mVar 2))))
noncomputable abbrev C__law_way_1 (live : Bool) : M D := mLc live (iAny (mFn 3 F__law_digits (aCons (mBin fIx (mVar 1) (mCst (.int 0))) (aCons (mCst (.int 31)) (aCons (mFld "dims" (mVar 0)) aNil))))) [8] (gNm 8) cYes (mBin fSub (mVar 8) (mCst (.int 15)))
noncomputable def F__law_way : FA := fnP 9 (sSeq (sAsg (C__law_way_1 false) (gNm 2))
  (sSeq (sAsg (mBin fDiv (mFld "drift" (mVar 0)) (mFld "per" (mVar 0))) (gNm 3))
  (sSeq (sAsg (mBin fSub (mBin fMod (mCall bInt (aCons (mBin fIx (mVar 1) (mCst (.int 1))) aNil)) (mBin fAdd (mBin fMul (mCst (.int 2)) (mVar 3)) (mCst (.int 1)))) (mVar 3)) (gNm 4))
  (sSeq (sAsg (mBin fSub (mBin fMod (mCall bInt (aCons (mBin fDiv (mBin fIx (mVar 1) (mCst (.int 1))) (mCst (.int 16))) aNil)) (mBin fAdd (mBin fMul (mCst (.int 2)) (mVar 3)) (mCst (.int 1)))) (mVar 3)) (gNm 5))
  (sSeq (sAsg (mFn 2 F__law_velocity (aCons (mVar 0) (aCons (mBin fIx (mVar 1) (mCst (.int 2))) aNil))) (gNm 6))
  (sSeq (sAsg (mFn 2 F__law_velocity (aCons (mVar 0) (aCons (mBin fDiv (mBin fIx (mVar 1) (mCst (.int 2))) (mCst (.int 2401))) aNil))) (gNm 7))
  (sRet (mTup (aCons (mVar 2) (aCons (mBin fSub (mBin fMod (mCall bInt (aCons (mBin fDiv (mBin fIx (mVar 1) (mCst (.int 1))) (mCst (.int 256))) aNil)) (mCst (.int 9))) (mCst (.int 4))) (aCons (mBin fSub (mBin fMod (mCall bInt (aCons (mBin fDiv (mBin fIx (mVar 1) (mCst (.int 1))) (mCst (.int 4096))) aNil)) (mCst (.int 9))) (mCst (.int 4))) (aCons (mVar 6) (aCons (mVar 7) (aCons (mVar 4) (aCons (mVar 5) aNil)))))))))))))))
noncomputable abbrev C__law_piece_1 (live : Bool) : M D := mLc live (iRange1 (aCons (mCall bLen (aCons (mVar 1) aNil)) aNil)) [8] (gNm 8) cYes (mBin fSub (mBin fIx (mVar 2) (mVar 8)) (mBin fIx (mVar 1) (mVar 8)))
noncomputable abbrev C__law_piece_2 (live : Bool) : M D := mLc live (iRange1 (aCons (mCall bLen (aCons (mVar 1) aNil)) aNil)) [8] (gNm 8) cYes (mBin fSub (mBin fIx (mVar 0) (mVar 8)) (mBin fIx (mVar 1) (mVar 8)))
noncomputable abbrev C__law_piece_3 (live : Bool) : M D := mLc live (iAny (mVar 3)) [9] (gNm 9) cYes (mBin fMul (mVar 9) (mVar 9))
noncomputable abbrev C__law_piece_4 (live : Bool) : M D := mLc live (iRange1 (aCons (mCall bLen (aCons (mVar 1) aNil)) aNil)) [8] (gNm 8) cYes (mBin fMul (mBin fIx (mVar 4) (mVar 8)) (mBin fIx (mVar 3) (mVar 8)))
noncomputable abbrev C__law_piece_5 (live : Bool) : M D := mLc live (iAny (mVar 4)) [9] (gNm 9) cYes (mBin fMul (mVar 9) (mVar 9))
noncomputable def F__law_piece : FA := fnP 10 (sSeq (sAsg (C__law_piece_1 false) (gNm 3))
  (sSeq (sAsg (C__law_piece_2 false) (gNm 4))
  (sSeq (sAsg (mCall bSum (aCons (C__law_piece_3 false) aNil)) (gNm 5))
  (sSeq (sAsg (mCall bSum (aCons (C__law_piece_4 false) aNil)) (gNm 6))
  (sSeq (sIf (mB (mBin fLe (mVar 6) (mCst (.int 0)))) (sRet (mTup (aCons (mFn 2 F__law_square (aCons (mVar 0) (aCons (mVar 1) aNil))) (aCons (mFn 2 F__law_square (aCons (mVar 0) (aCons (mVar 1) aNil))) aNil)))) sNil)
  (sSeq (sIf (mB (mBin fGe (mVar 6) (mVar 5))) (sRet (mTup (aCons (mFn 2 F__law_square (aCons (mVar 0) (aCons (mVar 2) aNil))) (aCons (mFn 2 F__law_square (aCons (mVar 0) (aCons (mVar 2) aNil))) aNil)))) sNil)
  (sSeq (sAsg (mBin fSub (mBin fMul (mCall bSum (aCons (C__law_piece_5 false) aNil)) (mVar 5)) (mBin fMul (mVar 6) (mVar 6))) (gNm 7))
  (sRet (mTup (aCons (mBin fDiv (mVar 7) (mVar 5)) (aCons (mBin fSub (mCst (.int 0)) (mBin fDiv (mBin fSub (mCst (.int 0)) (mVar 7)) (mVar 5))) aNil)))))))))))
noncomputable abbrev C__law_moved_1 (live : Bool) : M D := mLc live (iRange1 (aCons (mCall bLen (aCons (mVar 3) aNil)) aNil)) [5] (gNm 5) cYes (mTup (aCons (mBin fAdd (mBin fIx (mBin fIx (mVar 3) (mVar 5)) (mCst (.int 0))) (mBin fIx (mVar 1) (mVar 5))) (aCons (mBin fAdd (mBin fIx (mBin fIx (mVar 3) (mVar 5)) (mCst (.int 1))) (mBin fIx (mVar 1) (mVar 5))) aNil)))
noncomputable abbrev B__law_moved_1 : SM := (sExp (mBm tyL lAppend (mVar 2) (aCons (mCall bTuple (aCons (C__law_moved_1 false) aNil)) aNil)))
noncomputable abbrev C__law_moved_2 (live : Bool) : M D := mLc live (iRange1 (aCons (mCall bLen (aCons (mVar 6) aNil)) aNil)) [5] (gNm 5) cYes (mBin fAdd (mBin fIx (mVar 6) (mVar 5)) (mBin fIx (mVar 1) (mVar 5)))
noncomputable abbrev C__law_moved_3 (live : Bool) : M D := mLc live (iAny (mSl (mVar 0) (pYes (mCst (.int 1))) pNo)) [6] (gNm 6) cYes (mCall bTuple (aCons (C__law_moved_2 false) aNil))
noncomputable def F__law_moved : FA := fnP 7 (sSeq (sIf (mB (mBin fEq (mBin fIx (mVar 0) (mCst (.int 0))) (mCst (.str "side")))) (sRet (mVar 0)) sNil)
  (sSeq (sIf (mB (mBin fEq (mBin fIx (mVar 0) (mCst (.int 0))) (mCst (.str "boxes")))) (sSeq (sAsg (mLst true aNil) (gNm 2))
  (sSeq (sFor (iAny (mBin fIx (mVar 0) (mCst (.int 1)))) (gNm 3) B__law_moved_1)
  (sRet (mTup (aCons (mBin fIx (mVar 0) (mCst (.int 0))) (aCons (mCall bTuple (aCons (mVar 2) aNil)) aNil)))))) sNil)
  (sSeq (sAsg (C__law_moved_3 false) (gNm 4))
  (sRet (mCall bTuple (aCons (mBin fAdd (mLst false (aCons (mBin fIx (mVar 0) (mCst (.int 0))) aNil)) (mVar 4)) aNil))))))
end Lib
namespace Lib
open PySem PySem.Spec PyProof.Rows L2 Ev
theorem sz64 {i : Int} (h : i.natAbs < 18446744073709551616) : sz i ≤ 64 := sz_small (n := 64) (by omega) h
/-- the k-th cell of the script -/
def cell0 (ns : List Int) (k : Nat) : Int := if k < ns.length then ns.getD k 0 else 104729 * k + 7919
def cell1 (ns : List Int) (k : Nat) : Int := if cell0 ns k < 0 then 1 - 2 * cell0 ns k else cell0 ns k
def numC (k : Int) (c : Int) : Int := if c < 1000000000 then ((c * 48271 + k * 69621 + 7) % 2147483647) * 2147483563 + ((((c * 48271 + k * 69621 + 7) % 2147483647) * 16807 + k * 40692 + 13) % 2147483563) else c
def num (ns : List Int) (k : Nat) : Int := numC k (cell1 ns k)
def Sc (ns : List Int) : D := .klst (ns.map D.int)
/-- scripts of the law -/
def Okn (ns : List Int) : Prop := ns.length ≤ 63 ∧ ∀ z ∈ ns, sz z ≤ 1048576
theorem sz_cell0 {ns : List Int} (hn : Okn ns) {k : Nat} (hk : k ≤ 1000) : sz (cell0 ns k) ≤ 1048576 := by
  unfold cell0
  split
  · rename_i hk
    rw [List.getD_eq_getElem?_getD, List.getElem?_eq_getElem hk]
    exact hn.2 _ (List.getElem_mem hk)
  · have := sz64 (i := 104729 * (k : Int) + 7919) (by omega)
    omega
theorem lit2 : sz 2 = 1 := by decide
theorem lit1 : sz 1 = 0 := by decide
theorem sz_cell1 {ns : List Int} (hn : Okn ns) {k : Nat} (hk : k ≤ 1000) : sz (cell1 ns k) ≤ 1048580 := by
  have h0 := sz_cell0 hn hk
  unfold cell1
  split
  · have h1 := sz_mul 2 (cell0 ns k)
    have h2 := sz_sub 1 (2 * cell0 ns k)
    rw [lit2] at h1
    rw [lit1] at h2
    omega
  · omega
theorem cell1_nn {ns : List Int} {k : Nat} : 0 ≤ cell1 ns k := by
  unfold cell1
  split <;> omega
theorem sz_num {ns : List Int} (hn : Okn ns) {k : Nat} (hk : k ≤ 1000) : sz (num ns k) ≤ 1048580 := by
  unfold num numC
  split
  · have h1 := Int.emod_lt_of_pos (cell1 ns k * 48271 + (k : Int) * 69621 + 7) (show (0 : Int) < 2147483647 by decide)
    have h2 := Int.emod_nonneg (cell1 ns k * 48271 + (k : Int) * 69621 + 7) (show (2147483647 : Int) ≠ 0 by decide)
    have h3 := Int.emod_lt_of_pos ((cell1 ns k * 48271 + (k : Int) * 69621 + 7) % 2147483647 * 16807 + (k : Int) * 40692 + 13) (show (0 : Int) < 2147483563 by decide)
    have h4 := Int.emod_nonneg ((cell1 ns k * 48271 + (k : Int) * 69621 + 7) % 2147483647 * 16807 + (k : Int) * 40692 + 13) (show (2147483563 : Int) ≠ 0 by decide)
    have := sz64 (i := (cell1 ns k * 48271 + (k : Int) * 69621 + 7) % 2147483647 * 2147483563 + ((cell1 ns k * 48271 + (k : Int) * 69621 + 7) % 2147483647 * 16807 + (k : Int) * 40692 + 13) % 2147483563) (by omega)
    omega
  · exact sz_cell1 hn hk
theorem num_nn {ns : List Int} {k : Nat} : 0 ≤ num ns k := by
  unfold num numC
  split
  · have h2 := Int.emod_nonneg (cell1 ns k * 48271 + (k : Int) * 69621 + 7) (show (2147483647 : Int) ≠ 0 by decide)
    have h4 := Int.emod_nonneg ((cell1 ns k * 48271 + (k : Int) * 69621 + 7) % 2147483647 * 16807 + (k : Int) * 40692 + 13) (show (2147483563 : Int) ≠ 0 by decide)
    omega
  · exact cell1_nn
theorem F_number {ns : List Int} (hn : Okn ns) {k : Nat} (hk : k ≤ 1000) (h : HP) : F__law_number [Sc ns, .int k] h = .ok (.int (num ns k)) h := by
  have c0 := sz_cell0 hn hk
  have hz : ns.length ≤ sizeLine := by have := hn.1; rw [sizeLine_eq]; omega
  have m1 : CMulE 104729 k := mulX 64 64 (sz64 (by decide)) (sz64 (by omega)) (by decide)
  have m2 : CMulE 2 (cell0 ns k) := mulX 64 1048576 (sz64 (by decide)) c0 (by decide)
  have m3 : CMulE (cell1 ns k) 48271 := mulX 1048580 64 (sz_cell1 hn hk) (sz64 (by decide)) (by decide)
  have m4 : CMulE k 69621 := mulX 64 64 (sz64 (by omega)) (sz64 (by decide)) (by decide)
  have m6 : CMulE k 40692 := mulX 64 64 (sz64 (by omega)) (sz64 (by decide)) (by decide)
  have h1 := Int.emod_lt_of_pos (cell1 ns k * 48271 + (k : Int) * 69621 + 7) (show (0 : Int) < 2147483647 by decide)
  have h2 := Int.emod_nonneg (cell1 ns k * 48271 + (k : Int) * 69621 + 7) (show (2147483647 : Int) ≠ 0 by decide)
  have m5 : CMulE ((cell1 ns k * 48271 + (k : Int) * 69621 + 7) % 2147483647) 16807 := mulX 64 64 (sz64 (by omega)) (sz64 (by decide)) (by decide)
  have m7 : CMulE ((cell1 ns k * 48271 + (k : Int) * 69621 + 7) % 2147483647) 2147483563 := mulX 64 64 (sz64 (by omega)) (sz64 (by decide)) (by decide)
  have p : ∀ z : Int, pure_ h (.int z) h = .ok (.int z) h := fun z => pure_clean h (clean_int z)
  have a4 : ¬ cell1 ns k < 0 := by have := @cell1_nn ns k; omega
  by_cases a1 : k < ns.length
  · have e0 : ns[k] = cell0 ns k := by unfold cell0; rw [if_pos a1]; simp [a1]
    by_cases a2 : cell0 ns k < 0
    · have e1 : 1 - 2 * cell0 ns k = cell1 ns k := by unfold cell1; rw [if_pos a2]
      by_cases a3 : cell1 ns k < 1000000000
      · simp [F__law_number, Sc, num, numC, m1, a1, atI, ixN, p, e0, a2, m2, e1, a3, m3, m4, m5, m6, m7]
      · simp [F__law_number, Sc, num, numC, m1, a1, atI, ixN, p, e0, a2, m2, e1, a3, m3, m4, m5, m6, m7]
    · have e1 : cell0 ns k = cell1 ns k := by unfold cell1; rw [if_neg a2]
      by_cases a3 : cell1 ns k < 1000000000
      · simp [F__law_number, Sc, num, numC, m1, a1, atI, ixN, p, e0, a4, e1, a3, m3, m4, m5, m6, m7]
      · simp [F__law_number, Sc, num, numC, m1, a1, atI, ixN, p, e0, a4, e1, a3, m3, m4, m5, m6, m7]
  · have e0 : 104729 * (k : Int) + 7919 = cell0 ns k := by unfold cell0; rw [if_neg a1]
    have a2 : ¬ cell0 ns k < 0 := by rw [← e0]; omega
    have e1 : cell0 ns k = cell1 ns k := by unfold cell1; rw [if_neg a2]
    by_cases a3 : cell1 ns k < 1000000000
    · simp [F__law_number, Sc, num, numC, m1, a1, atI, ixN, p, e0, a4, e1, a3, m3, m4, m5, m6, m7]
    · simp [F__law_number, Sc, num, numC, m1, a1, atI, ixN, p, e0, a4, e1, a3, m3, m4, m5, m6, m7]


theorem bits_sz {z : Int} (h : Builtin.Int.intBits z ≤ 1048576) : sz z ≤ 1048576 := by
  unfold Builtin.Int.intBits at h
  unfold sz
  split at h
  · rename_i c
    have : z.natAbs = 0 := by
      first | omega | simpa using c
    rw [this]
    decide
  · omega
/-! near -/
def near (c : Int) : Int := if c % 9 = 0 then c / 9 % 2000000000001 - 1000000000000 else if c % 9 < 3 then c / 9 % 2001 - 1000 else c / 9 % 41 - 20
theorem near_bd (c : Int) : -1000000000000 ≤ near c ∧ near c ≤ 1000000000000 := by
  unfold near
  split
  · omega
  · split <;> omega
theorem l9 : Nat.log2 9 < 9000 := by decide
theorem l7 : Nat.log2 7 < 9000 := by decide
theorem l2 : Nat.log2 2 < 9000 := by decide
theorem lg {n : Nat} (h : n < 18446744073709551616) : Nat.log2 n < 9000 := by
  have := sz64 (i := (n : Int)) (by omega)
  unfold sz at this
  simp at this
  omega
theorem F_near (c : Int) (h : HP) : F__law_near [.int c] h = .ok (.int (near c)) h := by
  have p : ∀ z : Int, pure_ h (.int z) h = .ok (.int z) h := fun z => pure_clean h (clean_int z)
  by_cases a1 : c % 9 = 0
  · simp [F__law_near, near, a1, p, lg, SeqAt.shaped, PyData.canLay0, PyData.depth, PyData.eqv]
  · by_cases a2 : c % 9 < 3
    · simp [F__law_near, near, a1, a2, p, lg, SeqAt.shaped, PyData.canLay0, PyData.depth, PyData.eqv]
    · simp [F__law_near, near, a1, a2, p, lg, SeqAt.shaped, PyData.canLay0, PyData.depth, PyData.eqv]
def len7 (c : Int) : Int := if c % 7 = 0 then 0 else if c % 7 = 1 then c / 7 % 1000000000 else c / 7 % 13
theorem len7_bd (c : Int) : 0 ≤ len7 c ∧ len7 c < 1000000000 := by
  unfold len7
  split
  · omega
  · split <;> omega
theorem F_length (c : Int) (h : HP) : F__law_length [.int c] h = .ok (.int (len7 c)) h := by
  have p : ∀ z : Int, pure_ h (.int z) h = .ok (.int z) h := fun z => pure_clean h (clean_int z)
  by_cases a1 : c % 7 = 0
  · simp [F__law_length, len7, a1, p, lg, SeqAt.shaped, PyData.canLay0, PyData.depth, PyData.eqv]
  · by_cases a2 : c % 7 = 1
    · simp [F__law_length, len7, a1, a2, p, lg, SeqAt.shaped, PyData.canLay0, PyData.depth, PyData.eqv]
    · simp [F__law_length, len7, a1, a2, p, lg, SeqAt.shaped, PyData.canLay0, PyData.depth, PyData.eqv]
/-- sides, boxes -/
def sideD (s : Int × Int) : D := .tup [.int s.1, .int s.2]
def boxD (b : List (Int × Int)) : D := .tup (b.map sideD)
theorem clean_side (s : Int × Int) : clean (sideD s) := clean_tup (by simp [clean_int])
theorem clean_box (b : List (Int × Int)) : clean (boxD b) := clean_tup fun d hd => by
  obtain ⟨s, _, rfl⟩ := List.mem_map.mp hd
  exact clean_side s
def mkSide (ns : List Int) (k i : Nat) : Int × Int := (near (num ns (k + 2 * i)), near (num ns (k + 2 * i)) + len7 (num ns (k + 2 * i + 1)))
def mkBox (ns : List Int) (k n : Nat) : List (Int × Int) := (List.range n).map (mkSide ns k)
noncomputable abbrev boxBody : SM := (sSeq (sAsg (mFn 1 F__law_near (aCons (mFn 2 F__law_number (aCons (mVar 0) (aCons (mBin fAdd (mVar 1) (mBin fMul (mCst (.int 2)) (mVar 4))) aNil))) aNil)) (gNm 5))
  (sExp (mBm tyL lAppend (mVar 3) (aCons (mTup (aCons (mVar 5) (aCons (mBin fAdd (mVar 5) (mFn 1 F__law_length (aCons (mFn 2 F__law_number (aCons (mVar 0) (aCons (mBin fAdd (mBin fAdd (mVar 1) (mBin fMul (mCst (.int 2)) (mVar 4))) (mCst (.int 1))) aNil))) aNil))) aNil))) aNil))))
theorem rng_get {n i : Nat} (h : i < (rngD 0 n).length) : (rngD 0 n)[i] = .int (i : Nat) := by simp [rngD]
theorem box_turn {ns : List Int} (hn : Okn ns) {k n i : Nat} (hk : k ≤ 100) (hi : i ≤ 10) (x y : Option D) (h : HP) (acc : List D) (ha : acc.length ≤ 100) :
    boxBody [some (Sc ns), some (.int k), some (.int n), some (.ref h.length), some (.int i), y] (h ++ [.lst acc]) =
      .nx [some (Sc ns), some (.int k), some (.int n), some (.ref h.length), some (.int i), some (.int (near (num ns (k + 2 * i))))] (h ++ [.lst (acc ++ [sideD (mkSide ns k i)])]) := by
  have m1 : CMulE 2 (i : Nat) := mulX 64 64 (sz64 (by decide)) (sz64 (by omega)) (by decide)
  have n1 := fun h => F_number hn (k := k + 2 * i) (by omega) h
  have n2 := fun h => F_number hn (k := k + 2 * i + 1) (by omega) h
  push_cast at n1 n2
  have ap := fun y => appL_last (y := y) (ds := acc) h (by rw [sizeLine_eq]; omega)
  simp [m1, n1, n2, F_near, F_length, ap, sideD, mkSide]
theorem box_loop {ns : List Int} (hn : Okn ns) {k n : Nat} (hk : k ≤ 100) (hs : n ≤ 10) (h : HP) : ∃ x y, forE (gNm 4) boxBody [] (rngD 0 n) [some (Sc ns), some (.int k), some (.int n), some (.ref h.length), none, none] (h ++ [.lst []]) =
   .nx [some (Sc ns), some (.int k), some (.int n), some (.ref h.length), x, y] (h ++ [.lst ((mkBox ns k n).map sideD)]) := by
  obtain ⟨env', h', e, ⟨x, y, rfl⟩, rfl⟩ := forE_inv (gd := []) (asg := gNm 4) (items := rngD 0 n) (body := boxBody)
      (fun i env h' => (∃ x y, env = [some (Sc ns), some (.int k), some (.int n), some (.ref h.length), x, y]) ∧ h' = h ++ [.lst ((mkBox ns k i).map sideD)])
      (fun i env h' _ => by simp) (fun i env h' hi hI => (by
        obtain ⟨⟨x, y, rfl⟩, rfl⟩ := hI
        have hi' := hi
        rw [rngD_len] at hi'
        have c1 : mkBox ns k (i + 1) = mkBox ns k i ++ [mkSide ns k i] := by simp [mkBox, List.range_succ]
        refine ⟨[some (Sc ns), some (.int k), some (.int n), some (.ref h.length), some (.int (i : Nat)), y], by rw [rng_get hi]; rfl, _, _, .inl (box_turn hn hk (by omega) x y h ((mkBox ns k i).map sideD) (by simp [mkBox]; omega)), ⟨_, _, rfl⟩, by rw [c1, List.map_append]; rfl⟩))
      (env := [some (Sc ns), some (.int k), some (.int n), some (.ref h.length), none, none]) (h := h ++ [.lst []]) ⟨⟨_, _, rfl⟩, by simp [mkBox]⟩
  rw [rngD_len] at e
  exact ⟨x, y, e⟩
theorem F_box {ns : List Int} (hn : Okn ns) {k n : Nat} (hk : k ≤ 100) (hs : n ≤ 10) (h : HP) : F__law_box [Sc ns, .int k, .int n] h = .ok (boxD (mkBox ns k n)) h := by
  obtain ⟨x, y, e⟩ := box_loop hn hk hs h
  have rg : Rg (n : Int) := rg_nat (by omega)
  have cl : clean (boxD (mkBox ns k n)) := clean_box _
  have p := fun x => pure_cleanJ h x cl
  unfold boxD at p
  simp [F__law_box, rg, e, p, boxD]

def midOf (b : List (Int × Int)) : List Int := b.map fun s => (s.1 + s.2) / 2
theorem F_mid (b : List (Int × Int)) (hb : b.length ≤ 1000) (h : HP) : F_middle [boxD b] h = .ok (.tup ((midOf b).map D.int)) h := by
  have c : clean (.tup ((midOf b).map D.int)) := clean_tup fun d hd => by
    obtain ⟨s, _, rfl⟩ := List.mem_map.mp hd
    exact clean_int s
  have lc := mLc_map (it := iAny (mVar 0)) (own := [1, 2]) (asg := gTp 2 (gsCons (gNm 1) (gsCons (gNm 2) gsNil))) (elt := mBin fDiv (mBin fAdd (mVar 1) (mVar 2)) (mCst (.int 2))) (env := [some (boxD b), none, none]) (h := h) (h1 := h) (items := b.map sideD)
    (fun d => match d with | .tup [.int x, .int y] => .int ((x + y) / 2) | d => .non) (by simp [boxD]) (by rw [List.length_map, sizeLine_eq]; omega)
    (fun d hd h' => by
      obtain ⟨s, _, rfl⟩ := List.mem_map.mp hd
      exact ⟨[some (boxD b), some (.int s.1), some (.int s.2)], by simp [sideD], by simp [sideD, lg]⟩)
    (fun d hd => by
      obtain ⟨s, _, rfl⟩ := List.mem_map.mp hd
      exact clean_int _)
  have e : (b.map sideD).map (fun d => match d with | .tup [.int x, .int y] => D.int ((x + y) / 2) | d => .non) = (midOf b).map D.int := by
    simp [midOf, sideD]
  rw [e] at lc
  simp [F_middle, lc, pure_clean h c]
theorem F_half (s : Int × Int) (h : HP) : F_half_side [sideD s] h = .ok (.int ((s.2 - s.1 + 1) / 2)) h := by
  have p : ∀ z : Int, pure_ h (.int z) h = .ok (.int z) h := fun z => pure_clean h (clean_int z)
  simp [F_half_side, sideD, lg, p]
theorem kit_ii : kitB "int" "int" = some true := by decide +kernel
theorem kit_ib : kitB "int" "bool" = some false := by decide +kernel
theorem kit_tt : kitB "tuple" "tuple" = some true := by decide +kernel
theorem F_integer (i : Int) (h : HP) : F__law_integer [.int i] h = .ok (.bl true) h := by
  have p : ∀ z : Bool, pure_ h (.bl z) h = .ok (.bl z) h := fun z => pure_clean h (clean_bl z)
  simp [F__law_integer, kit_ii, kit_ib, p]

theorem mk_ok {ns : List Int} {k n : Nat} : ∀ s ∈ mkBox ns k n, s.1 ≤ s.2 ∧ s.1.natAbs < 18446744073709551 ∧ s.2.natAbs < 18446744073709551 := fun s hs => by
  obtain ⟨i, _, rfl⟩ := List.mem_map.mp hs
  have h1 := near_bd (num ns (k + 2 * i))
  have h2 := len7_bd (num ns (k + 2 * i + 1))
  simp only [mkSide]
  omega

/-! typed lists -/
theorem lcE_ty {α : Type} (asg : TF) (cond : M Bool) (elt : M D) (envw : EN) (h : HP) (f G : α → D) (p : α → Bool) : ∀ (xs : List α) (acc : List D), acc.length + xs.length ≤ sizeLine →
    (∀ x ∈ xs, ∀ h' : HP, ∃ e, asg (f x) envw h' = some e ∧ cond e h' = .ok (p x) h' ∧ (p x = true → elt e h' = .ok (G x) h')) →
    lcE asg cond elt envw h.length [] (xs.map f) (h ++ [.lst acc]) = .ok () (h ++ [.lst (acc ++ (xs.filter p).map G)])
  | [], acc, _, _ => by
    rw [List.map_nil]
    unfold lcE
    rw [if_pos (by simp [Gd])]
    simp
  | d :: ds, acc, hz, H => by
    rw [List.map_cons]
    unfold lcE
    rw [if_pos (by simp [Gd])]
    obtain ⟨e, e1, e2, e3⟩ := H d (List.mem_cons_self ..) (h ++ [.lst acc])
    simp only [e1, e2, R.nx, R.bind]
    cases q : p d with
    | true =>
      have hz' : acc.length < sizeLine := by simp only [List.length_cons] at hz; omega
      simp only [if_true, e3 q, R.nx, R.bind, appL_last h hz']
      rw [lcE_ty asg cond elt envw h f G p ds (acc ++ [G d]) (by simp only [List.length_append, List.length_cons, List.length_nil] at hz ⊢; omega) fun d' hd h' => H d' (List.mem_cons_of_mem _ hd) h']
      simp [List.filter_cons, q]
    | false =>
      simp only [if_neg Bool.false_ne_true]
      rw [lcE_ty asg cond elt envw h f G p ds acc (by simp only [List.length_cons] at hz; omega) fun d' hd h' => H d' (List.mem_cons_of_mem _ hd) h']
      simp [List.filter_cons, q]
theorem mLc_tyF {α : Type} {it : IM} {own : List Nat} {asg : TF} {cond : M Bool} {elt : M D} {env : EN} {h h1 : HP} (xs : List α) (f G : α → D) (p : α → Bool) (hi : it env h = .ok (xs.map f, []) h1) (hz : xs.length ≤ 16000000)
    (H : ∀ x ∈ xs, ∀ h' : HP, ∃ e, asg (f x) (wipeE env own) h' = some e ∧ cond e h' = .ok (p x) h' ∧ (p x = true → elt e h' = .ok (G x) h')) (c : ∀ x ∈ xs, p x = true → clean (G x)) :
    mLc false it own asg cond elt env h = .ok (.lst ((xs.filter p).map G)) h1 := by
  unfold mLc
  rw [hi]
  simp only [R.bind]
  rw [lcE_ty asg cond elt _ h1 f G p xs [] (by have := sizeLine_eq; simp only [List.length_nil]; omega) H]
  simp only [List.nil_append, outL, if_neg Bool.false_ne_true]
  exact pure_list h1 (by
    intro d hd
    obtain ⟨x, hx, rfl⟩ := List.mem_map.mp hd
    obtain ⟨h1, h2⟩ := List.mem_filter.mp hx
    exact c x h1 h2)
theorem mLc_ty {α : Type} {it : IM} {own : List Nat} {asg : TF} {elt : M D} {env : EN} {h h1 : HP} (xs : List α) (f G : α → D) (hi : it env h = .ok (xs.map f, []) h1) (hz : xs.length ≤ 16000000)
    (H : ∀ x ∈ xs, ∀ h' : HP, ∃ e, asg (f x) (wipeE env own) h' = some e ∧ elt e h' = .ok (G x) h') (c : ∀ x ∈ xs, clean (G x)) :
    mLc false it own asg cYes elt env h = .ok (.lst (xs.map G)) h1 := by
  have := mLc_tyF (cond := cYes) xs f G (fun _ => true) hi hz (fun d hd h' => let ⟨e, e1, e2⟩ := H d hd h'; ⟨e, e1, rfl, fun _ => e2⟩) fun d hd _ => c d hd
  rw [this, List.filter_eq_self.mpr (fun _ _ => rfl)]
/-- a loop over a range -/
theorem for_rng {asg : TF} {body : SM} (I : Nat → EN → HP → Prop) {n : Nat}
    (hs : ∀ i env h, i < n → I i env h → ∃ e, asg (.int (i : Nat)) env h = some e ∧ ∃ env' h', (body e h = .nx env' h' ∨ body e h = .ct env' h') ∧ I (i + 1) env' h')
    {env : EN} {h : HP} (h0 : I 0 env h) : ∃ env' h', forE asg body [] (rngD 0 n) env h = .nx env' h' ∧ I n env' h' := by
  obtain ⟨env', h', e, H⟩ := forE_inv (gd := []) (asg := asg) (items := rngD 0 n) (body := body) I (fun i env h _ => by simp) (fun i env h hi hI => by
    rw [rngD_len] at hi
    obtain ⟨e, e1, e2⟩ := hs i env h hi hI
    exact ⟨e, by rw [rng_get]; exact e1, e2⟩) h0
  rw [rngD_len] at H
  exact ⟨env', h', e, H⟩
/-- a loop over a typed list -/
theorem for_ty {α : Type} {asg : TF} {body : SM} {gd : GdL} (I : Nat → EN → HP → Prop) (xs : List α) (f : α → D) (hg : ∀ i env h, I i env h → Gd gd h)
    (hs : ∀ i env h (hi : i < xs.length), I i env h → ∃ e, asg (f xs[i]) env h = some e ∧ ∃ env' h', (body e h = .nx env' h' ∨ body e h = .ct env' h') ∧ I (i + 1) env' h')
    {env : EN} {h : HP} (h0 : I 0 env h) : ∃ env' h', forE asg body gd (xs.map f) env h = .nx env' h' ∧ I xs.length env' h' := by
  obtain ⟨env', h', e, H⟩ := forE_inv (gd := gd) (asg := asg) (items := xs.map f) (body := body) I hg (fun i env h hi hI => by
    have hi' : i < xs.length := by simpa using hi
    obtain ⟨e, e1, e2⟩ := hs i env h hi' hI
    exact ⟨e, by simpa using e1, e2⟩) h0
  rw [List.length_map] at H
  exact ⟨env', h', e, H⟩
theorem sh_int (k : Int) : SeqAt.shaped (.int k) = true := by simp [SeqAt.shaped, PyData.canLay0, PyData.depth]
theorem sh_bool (k : Bool) : SeqAt.shaped (.bool k) = true := by simp [SeqAt.shaped, PyData.canLay0, PyData.depth]
theorem kit_bb : kitB "bool" "bool" = some true := by decide +kernel
theorem F_truth (b c : Bool) (h : HP) : F__law_truth [.bl b, .bl c] h = .ok (.bl (b == c)) h := by
  have p : ∀ z : Bool, pure_ h (.bl z) h = .ok (.bl z) h := fun z => pure_clean h (clean_bl z)
  cases b <;> cases c <;> simp [F__law_truth, kit_bb, p, sh_bool, PyData.eqv]
theorem at_box {b : List (Int × Int)} {i : Nat} (hi : i < b.length) : atI (b.map sideD) (i : Int) = some (sideD b[i]) := by
  simp [atI, ixN, hi]
theorem at_int {b : List Int} {i : Nat} (hi : i < b.length) : atI (b.map D.int) (i : Int) = some (.int b[i]) := by
  simp [atI, ixN, hi]
@[simp] theorem at2_0 (x y : D) : atI [x, y] 0 = some x := by simp [atI, ixN]
@[simp] theorem at2_1 (x y : D) : atI [x, y] 1 = some y := by simp [atI, ixN]
theorem zip_box (a b : List (Int × Int)) : zipD (a.map sideD) (b.map sideD) = (a.zip b).map fun p => .tup [sideD p.1, sideD p.2] := by
  unfold zipD
  rw [List.zipWith_map, List.zip, List.map_zipWith]
def inP (p : (Int × Int) × (Int × Int)) : Bool := decide (p.2.1 ≤ p.1.1) && decide (p.1.2 ≤ p.2.2)
def insideB (a b : List (Int × Int)) : Bool := ((a.zip b).map inP).all id
theorem F_inside' (a b : List (Int × Int)) (ha : a.length ≤ 1000) (h : HP) : F_inside [boxD a, boxD b] h = .ok (.bl (insideB a b)) h := by
  have p : ∀ z : Bool, pure_ h (.bl z) h = .ok (.bl z) h := fun z => pure_clean h (clean_bl z)
  have lc : C_inside_1 false [some (boxD a), some (boxD b), none, none, none, none] h = _ :=
    mLc_ty (h1 := h) (a.zip b) (fun p => .tup [sideD p.1, sideD p.2]) (fun p => .bl (inP p)) (by simp [boxD, zip_box]) (by simp [List.length_zip]; omega)
      (fun x _ h' => by
        obtain ⟨⟨a1, a2⟩, ⟨b1, b2⟩⟩ := x
        refine ⟨[some (boxD a), some (boxD b), some (.int a1), some (.int a2), some (.int b1), some (.int b2)], by simp [sideD], ?_⟩
        by_cases c : b1 ≤ a1 <;> simp [c, inP]) fun x _ => clean_bl _
  have e : ((a.zip b).map fun p => D.bl (inP p)) = ((a.zip b).map inP).map D.bl := by simp
  rw [e] at lc
  have k := blsD_map ((a.zip b).map inP)
  simp only [List.map_map] at lc k
  simp [F_inside, lc, k, p, insideB]
theorem midE (n : Nat) {α : Type} (xs : List α) (h : n < xs.length) : xs.take (n + 1) = xs.take n ++ [xs[n]] := (List.take_append_getElem h).symm
/-! shapes of values for == -/
def Shp (n : Nat) (p : PyData) : Prop := p.canLay0 = true ∧ p.depth ≤ n
theorem Shp.int (n : Nat) (i : Int) : Shp n (.int i) := ⟨by simp [PyData.canLay0], by simp [PyData.depth]⟩
theorem Shp.bool (n : Nat) (i : Bool) : Shp n (.bool i) := ⟨by simp [PyData.canLay0], by simp [PyData.depth]⟩
theorem Shp.none (n : Nat) : Shp n .none := ⟨by simp [PyData.canLay0], by simp [PyData.depth]⟩
theorem Shp.all {n : Nat} : ∀ {ps : List PyData}, (∀ p ∈ ps, Shp n p) → PyData.canLayAll0 ps = true ∧ PyData.depthAll ps ≤ n
  | [], _ => ⟨by simp [PyData.canLayAll0], by simp [PyData.depthAll]⟩
  | p :: ps, h => by
    have h1 := h p (List.mem_cons_self ..)
    have h2 := Shp.all (ps := ps) fun q hq => h q (List.mem_cons_of_mem _ hq)
    refine ⟨by simp [PyData.canLayAll0, h1.1, h2.1], ?_⟩
    simp only [PyData.depthAll]
    have := h1.2
    have := h2.2
    omega
theorem Shp.tup {n : Nat} {ps : List PyData} (h : ∀ p ∈ ps, Shp n p) : Shp (n + 1) (.tuple ps) := by
  have := Shp.all h
  exact ⟨by simp [PyData.canLay0, this.1], by simp only [PyData.depth]; omega⟩
theorem Shp.list {n : Nat} {ps : List PyData} (h : ∀ p ∈ ps, Shp n p) : Shp (n + 1) (.list ps) := by
  have := Shp.all h
  exact ⟨by simp [PyData.canLay0, this.1], by simp only [PyData.depth]; omega⟩
theorem Shp.ok {n : Nat} {p : PyData} (h : Shp n p) (hn : n ≤ 64) : SeqAt.shaped p = true := by
  unfold SeqAt.shaped
  rw [h.1, decide_eq_true (by have := h.2; omega)]
  rfl
theorem Shp.self {n : Nat} {p : PyData} (h : Shp n p) : PyData.eqv p p = true := PySem.SeqAt.eqv_refl p h.1
theorem toPs_map {α : Type} (f : α → D) (q : α → PyData) : ∀ (xs : List α), (∀ x ∈ xs, toP (f x) = some (q x)) → toPs (xs.map f) = some (xs.map q)
  | [], _ => by simp
  | x :: xs, h => by
    have h1 := h x (List.mem_cons_self ..)
    have h2 := toPs_map f q xs fun y hy => h y (List.mem_cons_of_mem _ hy)
    simp [h1, h2]
def sidePy (s : Int × Int) : PyData := .tuple [.int s.1, .int s.2]
def boxPy (b : List (Int × Int)) : PyData := .tuple (b.map sidePy)
theorem toP_side (s : Int × Int) : toP (sideD s) = some (sidePy s) := by simp [sideD, sidePy]
theorem toP_box (b : List (Int × Int)) : toP (boxD b) = some (boxPy b) := by
  have := toPs_map sideD sidePy b fun s _ => toP_side s
  simp [boxD, boxPy, this]
theorem Shp.side (s : Int × Int) : Shp 1 (sidePy s) := Shp.tup fun p hp => by
  simp only [List.mem_cons, List.not_mem_nil, or_false] at hp
  rcases hp with rfl | rfl <;> exact Shp.int _ _
theorem Shp.box (b : List (Int × Int)) : Shp 2 (boxPy b) := Shp.tup fun p hp => by
  obtain ⟨s, _, rfl⟩ := List.mem_map.mp hp
  exact Shp.side s
theorem F_is_box' (b : List (Int × Int)) (hb : b.length ≤ 1000) (h : HP) : F__law_is_box [boxD b, boxD b] h = .ok (.bl true) h := by
  have p : ∀ z : Bool, pure_ h (.bl z) h = .ok (.bl z) h := fun z => pure_clean h (clean_bl z)
  have L : ∃ x, forE (gNm 2) B__law_is_box_1 [] (b.map sideD) [some (boxD b), some (boxD b), none] h = .nx [some (boxD b), some (boxD b), x] h := by
    obtain ⟨_, h1, e, ⟨x, rfl⟩, hh⟩ := for_ty (asg := gNm 2) (body := B__law_is_box_1) (gd := []) (fun i env h' => (∃ x, env = [some (boxD b), some (boxD b), x]) ∧ h' = h) b sideD (fun _ _ _ _ => by simp)
      (fun i env h' hi hI => by
        obtain ⟨⟨x, rfl⟩, rfl⟩ := hI
        refine ⟨_, rfl, _, _, .inl ?_, ⟨some (sideD b[i]), rfl⟩, rfl⟩
        generalize b[i] = s
        have f1 := F_integer s.1
        have f2 := F_integer s.2
        simp [sideD, kit_tt, f1, f2, sh_int, PyData.eqv])
      (env := [some (boxD b), some (boxD b), none]) (h := h) ⟨⟨_, rfl⟩, rfl⟩
    rw [hh] at e
    exact ⟨x, e⟩
  obtain ⟨x, e⟩ := L
  have t := toPs_map sideD sidePy b fun s _ => toP_side s
  have s1 := (Shp.box b).ok (by omega)
  have s2 := (Shp.box b).self
  unfold boxPy at s1 s2
  have s3 : PyData.eqvAll (b.map sidePy) (b.map sidePy) = true := by simpa [PyData.eqv] using s2
  unfold boxD at e ⊢
  simp [F__law_is_box, kit_tt, sh_int, PyData.eqv, e, t, s1, s3, p]
theorem cut_to {xs : List D} {i : Nat} (hi : i ≤ xs.length) : Ev.cutD xs none (some (i : Int)) = xs.take i := by
  unfold Ev.cutD
  rw [HT.sIx_none, HT.sIx_nat, Nat.min_eq_left hi]
  simp
theorem cut_from {xs : List D} {i : Nat} (hi : i ≤ xs.length) : Ev.cutD xs (some (i : Int)) none = xs.drop i := by
  unfold Ev.cutD
  rw [HT.sIx_none, HT.sIx_nat, Nat.min_eq_left hi]
  exact List.take_of_length_le (by simp)
end Lib
namespace Lib
open PySem PySem.Spec PyProof.Rows L2 Ev
/-! roots -/
def rd (n : Int) : Int := (Float64.isqrt n.toNat : Nat)
def ru (n : Int) : Int := if rd n * rd n < n then rd n + 1 else rd n
theorem rd_spec {n : Int} (h : 0 ≤ n) : 0 ≤ rd n ∧ rd n * rd n ≤ n ∧ n < (rd n + 1) * (rd n + 1) := by
  have := Float64.isqrt_spec n.toNat
  unfold rd
  generalize Float64.isqrt n.toNat = r at this
  obtain ⟨h1, h2⟩ := this
  have h1 : ((r * r : Nat) : Int) ≤ (n.toNat : Int) := by exact_mod_cast h1
  have h2 : (n.toNat : Int) < (((r + 1) * (r + 1) : Nat) : Int) := by exact_mod_cast h2
  rw [Int.toNat_of_nonneg h] at h1 h2
  push_cast at h1 h2
  exact ⟨by omega, h1, h2⟩
theorem ru_spec {n : Int} (h : 0 ≤ n) : 0 ≤ ru n ∧ n ≤ ru n * ru n ∧ (0 < ru n → (ru n - 1) * (ru n - 1) < n) := by
  obtain ⟨h0, h1, h2⟩ := rd_spec h
  unfold ru
  generalize rd n = r at *
  split
  · rename_i c
    refine ⟨by omega, by omega, fun _ => ?_⟩
    rw [Int.add_sub_cancel]
    exact c
  · rename_i c
    refine ⟨h0, by omega, fun hr => ?_⟩
    have : (r - 1) * (r - 1) = r * r - 2 * r + 1 := by
      rw [Int.sub_mul, Int.mul_sub]
      omega
    omega
theorem sz_le {i : Int} {n : Nat} (h : sz i ≤ n) : i.natAbs < 2 ^ (n + 1) := Nat.lt_of_lt_of_le (lt_sz i) (Nat.pow_le_pow_right (by decide) (by omega))
theorem rd_le {n : Int} (h : 0 ≤ n) : rd n ≤ n := by
  obtain ⟨h0, h1, h2⟩ := rd_spec h
  by_cases c : rd n = 0
  · omega
  · have : 1 * rd n ≤ rd n * rd n := Int.mul_le_mul_of_nonneg_right (by omega) h0
    omega
theorem sz_rd {n : Int} (h : 0 ≤ n) : sz (rd n) ≤ sz n := sz_mono (by have := rd_le h; have := (rd_spec h).1; omega)
theorem sz_ru {n : Int} (h : 0 ≤ n) : sz (ru n) ≤ sz n := sz_mono (by
  have := rd_le h
  have := (rd_spec h).1
  have h3 := (ru_spec h)
  unfold ru at *
  split
  · rename_i c
    rw [if_pos c] at h3
    by_cases k : rd n + 1 ≤ n
    · omega
    · have : rd n = n := by omega
      rw [this] at c
      by_cases z : n = 0
      · rw [z] at c; omega
      · have : 1 * n ≤ n * n := Int.mul_le_mul_of_nonneg_right (by omega) h
        omega
  · omega)
theorem F_root_up' {n : Int} (h : 0 ≤ n) (hz : sz n < 6000) (hp : HP) : F_root_up [.int n] hp = .ok (.int (ru n)) hp := by
  have p : ∀ z : Int, pure_ hp (.int z) hp = .ok (.int z) hp := fun z => pure_clean hp (clean_int z)
  have hz' : n.toNat.log2 < 6000 := by
    have : n.toNat = n.natAbs := by omega
    rw [this]
    exact hz
  have s := sz_rd h
  have m : CMulE (rd n) (rd n) := mulX 6000 6000 (by omega) (by omega) (by decide)
  have e : ((Float64.isqrt n.toNat : Nat) : Int) = rd n := rfl
  by_cases c : rd n * rd n < n
  · simp [F_root_up, h, hz', e, m, c, ru, p]
  · simp [F_root_up, h, hz', e, m, c, ru, p]
theorem F_root_down' {n : Int} (h : 0 ≤ n) (hz : sz n < 6000) (hp : HP) : F_root_down [.int n] hp = .ok (.int (rd n)) hp := by
  have p : ∀ z : Int, pure_ hp (.int z) hp = .ok (.int z) hp := fun z => pure_clean hp (clean_int z)
  have hz' : n.toNat.log2 < 6000 := by
    have : n.toNat = n.natAbs := by omega
    rw [this]
    exact hz
  have e : ((Float64.isqrt n.toNat : Nat) : Int) = rd n := rfl
  simp [F_root_down, h, hz', e, p]
/-! the radius -/
def hf (s : Int × Int) : Int := (s.2 - s.1 + 1) / 2
def hq (s : Int × Int) : Int := hf s * hf s
def sq (b : List (Int × Int)) : Int := (b.map hq).sum
/-- sides of a size that the laws draw -/
def Smal (b : List (Int × Int)) : Prop := ∀ s ∈ b, s.1 ≤ s.2 ∧ s.1.natAbs < 18446744073709551 ∧ s.2.natAbs < 18446744073709551
theorem hq_nn (s : Int × Int) : 0 ≤ hq s := by
  by_cases c : 0 ≤ hf s
  · exact Int.mul_nonneg c c
  · exact Int.le_of_lt (Int.mul_pos_of_neg_of_neg (by omega) (by omega))
theorem hq_le {s : Int × Int} (h : s.1 ≤ s.2 ∧ s.1.natAbs < 18446744073709551 ∧ s.2.natAbs < 18446744073709551) : hq s ≤ 340282366920938463463374607431768211456 := by
  have h1 : 0 ≤ hf s := by unfold hf; omega
  have h2 : hf s ≤ 18446744073709551616 := by unfold hf; omega
  exact Int.mul_le_mul h2 h2 h1 (by omega)
theorem sq_bd : ∀ {b : List (Int × Int)}, Smal b → 0 ≤ sq b ∧ sq b ≤ b.length * 340282366920938463463374607431768211456
  | [], _ => by simp [sq]
  | s :: b, h => by
    have h1 := hq_nn s
    have h2 := hq_le (h s (List.mem_cons_self ..))
    have h3 := sq_bd (b := b) fun x hx => h x (List.mem_cons_of_mem _ hx)
    unfold sq at h3 ⊢
    simp only [List.map_cons, List.sum_cons, List.length_cons]
    push_cast
    omega
theorem sq_sz {b : List (Int × Int)} (h : Smal b) (hb : b.length ≤ 1000) : sz (sq b) < 200 := sz_lt (by omega) (by
  have := sq_bd h
  have : sq b ≤ 340282366920938463463374607431768211456000 := by omega
  have e : (2 : Nat) ^ 200 = 1606938044258990275541962092341162602522202993782792835301376 := by decide
  rw [e]
  omega)
theorem cut_init {xs : List D} (h : 0 < xs.length) : Ev.cutD xs none (some (-1)) = xs.take (xs.length - 1) := by
  unfold Ev.cutD
  have : HT.sIx xs.length xs.length (some (-1)) = xs.length - 1 := by
    show (if (-1 : Int) < 0 then ((-1 : Int) + (xs.length : Int)).toNat else min (-1 : Int).toNat xs.length) = _
    rw [if_pos (by omega)]
    omega
  rw [this, HT.sIx_none]
  simp
theorem F_radius' {b : List (Int × Int)} (h0 : 0 < b.length) (hb : b.length ≤ 1000) (hw : Smal (b.take (b.length - 1))) (h : HP) : F_radius [boxD b] h = .ok (.int (ru (sq (b.take (b.length - 1))))) h := by
  have p : ∀ z : Int, pure_ h (.int z) h = .ok (.int z) h := fun z => pure_clean h (clean_int z)
  have ci : Ev.cutD (b.map sideD) none (some (-1)) = (b.take (b.length - 1)).map sideD := by
    rw [cut_init (by simpa using h0), List.map_take, List.length_map]
  have hl : (b.take (b.length - 1)).length ≤ 1000 := by simp; omega
  generalize b.take (b.length - 1) = c at ci hw hl ⊢
  have bd := sq_bd hw
  have ft := F_root_up' bd.1 (by have := sq_sz hw hl; omega) h
  have lc : C_radius_1 false [some (boxD b), none] h = _ :=
    mLc_ty (h1 := h) c sideD (fun s => .int (hq s)) (by simp [boxD, ci]) (by omega)
      (fun s hs h' => by
        refine ⟨[some (boxD b), some (sideD s)], by simp, ?_⟩
        have w := hw s hs
        have f := F_half s h'
        have cp : CPowW (hf s) 2 := by
          refine ⟨by omega, ?_⟩
          have : sz (hf s) ≤ 64 := sz64 (by unfold hf; omega)
          have hh : Builtin.Int.intBits (hf s) ≤ 65 := by
            unfold Builtin.Int.intBits
            split
            · omega
            · unfold sz at this; omega
          have : ((2 : Int) ^ 27) = 134217728 := by decide
          rw [this]
          omega
        have e : hf s ^ 2 = hq s := by
          show hf s ^ 2 = hf s * hf s
          rw [Int.pow_succ, Int.pow_succ, Int.pow_zero, Int.one_mul]
        have e2 : (s.2 - s.1 + 1) / 2 = hf s := rfl
        rw [e2] at f
        simp [f, cp, e]) fun s _ => clean_int _
  have k := intsD_map (c.map hq)
  simp only [List.map_map] at k
  have e : D.int ∘ hq = fun s => D.int (hq s) := rfl
  rw [e] at k
  have e3 : (c.map hq).sum = sq c := rfl
  generalize c.map (fun s => D.int (hq s)) = xs at lc k
  simp [F_radius, lc, k, e3, ft, p]
end Lib
namespace Lib
open PySem PySem.Spec PyProof.Rows L2 Ev
/-! points -/
def vec (n : Nat) (p : Nat → Int) : D := .tup ((List.range n).map fun i => .int (p i))
def sg (n : Nat) (f : Nat → Int) : Int := ((List.range n).map f).sum
theorem sg_zero (f : Nat → Int) : sg 0 f = 0 := rfl
theorem sg_succ (n : Nat) (f : Nat → Int) : sg (n + 1) f = sg n f + f n := by
  unfold sg
  rw [List.range_succ, List.map_append, List.sum_append]
  simp
theorem sg_congr {f k : Nat → Int} : ∀ {n : Nat}, (∀ i < n, f i = k i) → sg n f = sg n k
  | 0, _ => rfl
  | n + 1, h => by rw [sg_succ, sg_succ, sg_congr (fun i hi => h i (by omega)), h n (by omega)]
theorem sg_bd {f : Nat → Int} {B : Int} : ∀ {n : Nat}, (∀ i < n, -B ≤ f i ∧ f i ≤ B) → -(n * B) ≤ sg n f ∧ sg n f ≤ n * B
  | 0, _ => by simp [sg_zero]
  | n + 1, h => by
    have h1 := sg_bd (n := n) fun i hi => h i (by omega)
    have h2 := h n (by omega)
    rw [sg_succ]
    have : ((n + 1 : Nat) : Int) * B = n * B + B := by push_cast; rw [Int.add_mul, Int.one_mul]
    omega
theorem sg_nn {f : Nat → Int} : ∀ {n : Nat}, (∀ i < n, 0 ≤ f i) → 0 ≤ sg n f
  | 0, _ => by simp [sg_zero]
  | n + 1, h => by
    have h1 := sg_nn (n := n) fun i hi => h i (by omega)
    have h2 := h n (by omega)
    rw [sg_succ]
    omega
theorem clean_vec (n : Nat) (p : Nat → Int) : clean (vec n p) := clean_tup fun d hd => by
  obtain ⟨i, _, rfl⟩ := List.mem_map.mp hd
  exact clean_int _
theorem at_vec {n : Nat} {p : Nat → Int} {i : Nat} (hi : i < n) : atI ((List.range n).map fun i => D.int (p i)) (i : Int) = some (.int (p i)) := by
  simp [atI, ixN, hi]
theorem rngD_eq (n : Nat) : rngD 0 n = (List.range n).map fun i => .int (i : Nat) := by
  unfold rngD
  simp
theorem zip_vec (n : Nat) (a b : Nat → D) : zipD ((List.range n).map a) ((List.range n).map b) = (List.range n).map fun i => .tup [a i, b i] := by
  unfold zipD
  rw [List.zipWith_map]
  generalize List.range n = l
  induction l with
  | nil => rfl
  | cons x l ih => simp [ih]
theorem ints_vec (n : Nat) (f : Nat → Int) : intsD ((List.range n).map fun i => D.int (f i)) = some ((List.range n).map f) := by
  have k := intsD_map ((List.range n).map f)
  simp only [List.map_map] at k
  exact k
/-- numbers below 2 ^ 64 -/
def Bd (n : Nat) (p : Nat → Int) : Prop := ∀ i < n, (p i).natAbs < 18446744073709551616
theorem mul64 {x y : Int} (hx : x.natAbs < 18446744073709551616) (hy : y.natAbs < 18446744073709551616) : CMulE x y := mulX 64 64 (sz64 hx) (sz64 hy) (by decide)
theorem abs_mul {x y : Int} (hx : x.natAbs < 18446744073709551616) (hy : y.natAbs < 18446744073709551616) : -340282366920938463463374607431768211456 ≤ x * y ∧ x * y ≤ 340282366920938463463374607431768211456 := by
  have h : (x * y).natAbs ≤ 18446744073709551616 * 18446744073709551616 := by
    rw [Int.natAbs_mul]
    exact Nat.mul_le_mul (by omega) (by omega)
  omega
theorem dot_bd {n : Nat} (hn : n ≤ 10) {p q : Nat → Int} (hp : Bd n p) (hq : Bd n q) : (sg n fun i => p i * q i).natAbs ≤ 3402823669209384634633746074317682114560 := by
  have := sg_bd (f := fun i => p i * q i) (B := 340282366920938463463374607431768211456) (n := n) fun i hi => abs_mul (hp i hi) (hq i hi)
  have e : (n : Int) * 340282366920938463463374607431768211456 ≤ 10 * 340282366920938463463374607431768211456 := Int.mul_le_mul_of_nonneg_right (by omega) (by omega)
  omega
theorem sz140 {x : Int} (h : x.natAbs ≤ 3402823669209384634633746074317682114560) : sz x < 140 := sz_lt (by omega) (by
  have e : (2 : Nat) ^ 140 = 1393796574908163946345982392040522594123776 := by decide
  omega)
theorem F_dot' {n : Nat} (hn : n ≤ 10) {p q : Nat → Int} (hp : Bd n p) (hq : Bd n q) (h : HP) : F_dot [vec n p, vec n q] h = .ok (.int (sg n fun i => p i * q i)) h := by
  have pr : ∀ z : Int, pure_ h (.int z) h = .ok (.int z) h := fun z => pure_clean h (clean_int z)
  have lc : C_dot_1 false [some (vec n p), some (vec n q), none, none] h = _ :=
    mLc_ty (h1 := h) (List.range n) (fun i => .tup [.int (p i), .int (q i)]) (fun i => .int (p i * q i)) (by simp [vec, zip_vec]) (by simp; omega)
      (fun i hi h' => ⟨[some (vec n p), some (vec n q), some (.int (p i)), some (.int (q i))], by simp, by
        have hi' := List.mem_range.mp hi
        simp [mul64 (hp i hi') (hq i hi')]⟩) fun i _ => clean_int _
  have k := ints_vec n fun i => p i * q i
  simp [F_dot, lc, k, sg, pr]
theorem F_minus' {n : Nat} (hn : n ≤ 10) (p q : Nat → Int) (h : HP) : F__minus [vec n p, vec n q] h = .ok (vec n fun i => p i - q i) h := by
  have pr := pure_clean h (clean_vec n fun i => p i - q i)
  have lc : C__minus_1 false [some (vec n p), some (vec n q), none, none] h = _ :=
    mLc_ty (h1 := h) (List.range n) (fun i => .tup [.int (p i), .int (q i)]) (fun i => .int (p i - q i)) (by simp [vec, zip_vec]) (by simp; omega)
      (fun i hi h' => ⟨[some (vec n p), some (vec n q), some (.int (p i)), some (.int (q i))], by simp, by simp⟩) fun i _ => clean_int _
  have ln : ((List.range n).map fun i => D.int (p i - q i)).length ≤ sizeLine := by simp; rw [sizeLine_eq]; omega
  unfold vec at pr lc ⊢
  generalize ((List.range n).map fun i => D.int (p i - q i)) = xs at *
  simp [F__minus, lc, pr, ln]
theorem F_law_dot' {n : Nat} (hn : n ≤ 10) {p q : Nat → Int} (hp : Bd n p) (hq : Bd n q) (h : HP) : F__law_dot [vec n p, vec n q] h = .ok (.int (sg n fun i => p i * q i)) h := by
  have pr : ∀ z : Int, pure_ h (.int z) h = .ok (.int z) h := fun z => pure_clean h (clean_int z)
  have rg : Rg (n : Int) := rg_nat (by omega)
  have lc : C__law_dot_1 false [some (vec n p), some (vec n q), none] h = _ :=
    mLc_ty (h1 := h) (List.range n) (fun i => .int (i : Nat)) (fun i => .int (p i * q i)) (by simp [vec, rg, rngD_eq]) (by simp; omega)
      (fun i hi h' => ⟨[some (vec n p), some (vec n q), some (.int (i : Nat))], by simp, by
        have hi' := List.mem_range.mp hi
        simp [vec, at_vec hi', mul64 (hp i hi') (hq i hi')]⟩) fun i _ => clean_int _
  have k := ints_vec n fun i => p i * q i
  simp [F__law_dot, lc, k, sg, pr]
theorem F_law_minus' {n : Nat} (hn : n ≤ 10) (p q : Nat → Int) (h : HP) : F__law_minus [vec n p, vec n q] h = .ok (vec n fun i => p i - q i) h := by
  have pr := pure_clean h (clean_vec n fun i => p i - q i)
  have rg : Rg (n : Int) := rg_nat (by omega)
  have lc : C__law_minus_1 false [some (vec n p), some (vec n q), none] h = _ :=
    mLc_ty (h1 := h) (List.range n) (fun i => .int (i : Nat)) (fun i => .int (p i - q i)) (by simp [vec, rg, rngD_eq]) (by simp; omega)
      (fun i hi h' => ⟨[some (vec n p), some (vec n q), some (.int (i : Nat))], by simp, by
        have hi' := List.mem_range.mp hi
        simp [vec, at_vec hi']⟩) fun i _ => clean_int _
  have ln : ((List.range n).map fun i => D.int (p i - q i)).length ≤ sizeLine := by simp; rw [sizeLine_eq]; omega
  unfold vec at pr lc ⊢
  generalize ((List.range n).map fun i => D.int (p i - q i)) = xs at *
  simp [F__law_minus, lc, pr, ln]
def pnt (ns : List Int) (k : Nat) (i : Nat) : Int := near (num ns (k + i))
theorem F_point {ns : List Int} (hn : Okn ns) {k n : Nat} (hk : k ≤ 100) (hs : n ≤ 10) (h : HP) : F__law_point [Sc ns, .int k, .int n] h = .ok (vec n (pnt ns k)) h := by
  have pr := pure_clean h (clean_vec n (pnt ns k))
  have rg : Rg (n : Int) := rg_nat (by omega)
  have lc : C__law_point_1 false [some (Sc ns), some (.int k), some (.int n), none] h = _ :=
    mLc_ty (h1 := h) (List.range n) (fun i => .int (i : Nat)) (fun i => .int (pnt ns k i)) (by simp [rg, rngD_eq]) (by simp; omega)
      (fun i hi h' => ⟨[some (Sc ns), some (.int k), some (.int n), some (.int (i : Nat))], by simp, by
        have hi' := List.mem_range.mp hi
        have n1 := fun h => F_number hn (k := k + i) (by omega) h
        push_cast at n1
        simp [n1, F_near, pnt]⟩) fun i _ => clean_int _
  have ln : ((List.range n).map fun i => D.int (pnt ns k i)).length ≤ sizeLine := by simp; rw [sizeLine_eq]; omega
  unfold vec at pr ⊢
  generalize ((List.range n).map fun i => D.int (pnt ns k i)) = xs at *
  simp [F__law_point, lc, pr, ln]
/-! a piece -/
def sub (p q : Nat → Int) : Nat → Int := fun i => p i - q i
def dt (n : Nat) (p q : Nat → Int) : Int := sg n fun i => p i * q i
theorem dt_comm (n : Nat) (p q : Nat → Int) : dt n p q = dt n q p := sg_congr fun i _ => Int.mul_comm _ _
theorem dt_self (n : Nat) (p : Nat → Int) : 0 ≤ dt n p p := sg_nn fun i _ => by
  by_cases c : 0 ≤ p i
  · exact Int.mul_nonneg c c
  · exact Int.le_of_lt (Int.mul_pos_of_neg_of_neg (by omega) (by omega))
/-- square, whole -/
def pc1 (n : Nat) (x a t : Nat → Int) : Int × Int :=
  if dt n (sub x a) (sub t a) ≤ 0 then (dt n (sub x a) (sub x a), 1) else if dt n (sub t a) (sub t a) ≤ dt n (sub x a) (sub t a) then (dt n (sub x t) (sub x t), 1)
  else (dt n (sub x a) (sub x a) * dt n (sub t a) (sub t a) - dt n (sub x a) (sub t a) * dt n (sub x a) (sub t a), dt n (sub t a) (sub t a))
/-- the greatest whole number that is not more, the least that is not less -/
def pc2 (n : Nat) (x a t : Nat → Int) : Int × Int := ((pc1 n x a t).1 / (pc1 n x a t).2, -(-(pc1 n x a t).1 / (pc1 n x a t).2))
theorem mul140 {x y : Int} (hx : sz x < 140) (hy : sz y < 140) : CMulE x y := mulX 140 140 (by omega) (by omega) (by decide)
theorem F_law_piece {n : Nat} (hn : n ≤ 10) {x a t : Nat → Int} (h1 : Bd n (sub x a)) (h2 : Bd n (sub t a)) (h3 : Bd n (sub x t)) (h : HP) :
    F__law_from_piece [vec n x, vec n a, vec n t] h = .ok (.tup [.int (pc1 n x a t).1, .int (pc1 n x a t).2]) h := by
  have pr : ∀ y z : Int, pure_ h (.tup [.int y, .int z]) h = .ok (.tup [.int y, .int z]) h := fun y z => pure_clean h (clean_tup (by simp [clean_int]))
  have e1 : ∀ h, F__law_minus [vec n t, vec n a] h = .ok (vec n (sub t a)) h := fun h => F_law_minus' hn t a h
  have e2 : ∀ h, F__law_minus [vec n x, vec n a] h = .ok (vec n (sub x a)) h := fun h => F_law_minus' hn x a h
  have e3 : ∀ h, F__law_minus [vec n x, vec n t] h = .ok (vec n (sub x t)) h := fun h => F_law_minus' hn x t h
  have d1 : ∀ h, F__law_dot [vec n (sub x a), vec n (sub t a)] h = .ok (.int (dt n (sub x a) (sub t a))) h := fun h => F_law_dot' hn h1 h2 h
  have d2 : ∀ h, F__law_dot [vec n (sub t a), vec n (sub t a)] h = .ok (.int (dt n (sub t a) (sub t a))) h := fun h => F_law_dot' hn h2 h2 h
  have d3 : ∀ h, F__law_dot [vec n (sub x a), vec n (sub x a)] h = .ok (.int (dt n (sub x a) (sub x a))) h := fun h => F_law_dot' hn h1 h1 h
  have d4 : ∀ h, F__law_dot [vec n (sub x t), vec n (sub x t)] h = .ok (.int (dt n (sub x t) (sub x t))) h := fun h => F_law_dot' hn h3 h3 h
  have m1 : CMulE (dt n (sub x a) (sub x a)) (dt n (sub t a) (sub t a)) := mul140 (sz140 (dot_bd hn h1 h1)) (sz140 (dot_bd hn h2 h2))
  have m2 : CMulE (dt n (sub x a) (sub t a)) (dt n (sub x a) (sub t a)) := mul140 (sz140 (dot_bd hn h1 h2)) (sz140 (dot_bd hn h1 h2))
  unfold pc1
  by_cases c1 : dt n (sub x a) (sub t a) ≤ 0
  · simp [F__law_from_piece, e1, e2, d1, d2, d3, c1, pr]
  · by_cases c2 : dt n (sub t a) (sub t a) ≤ dt n (sub x a) (sub t a)
    · simp [F__law_from_piece, e1, e2, d1, d2, c1, c2, e3, d4, pr]
    · simp [F__law_from_piece, e1, e2, d1, d2, d3, c1, c2, m1, m2, pr]
theorem F_piece {n : Nat} (hn : n ≤ 10) {x a t : Nat → Int} (h1 : Bd n (sub x a)) (h2 : Bd n (sub t a)) (h3 : Bd n (sub x t)) (h : HP) :
    F_from_piece [vec n x, vec n a, vec n t] h = .ok (.tup [.int (pc2 n x a t).1, .int (pc2 n x a t).2]) h := by
  have pr : ∀ y z : Int, pure_ h (.tup [.int y, .int z]) h = .ok (.tup [.int y, .int z]) h := fun y z => pure_clean h (clean_tup (by simp [clean_int]))
  have pi : ∀ z : Int, pure_ h (.int z) h = .ok (.int z) h := fun z => pure_clean h (clean_int z)
  have e1 : ∀ h, F__minus [vec n t, vec n a] h = .ok (vec n (sub t a)) h := fun h => F_minus' hn t a h
  have e2 : ∀ h, F__minus [vec n x, vec n a] h = .ok (vec n (sub x a)) h := fun h => F_minus' hn x a h
  have e3 : ∀ h, F__minus [vec n x, vec n t] h = .ok (vec n (sub x t)) h := fun h => F_minus' hn x t h
  have d1 : ∀ h, F_dot [vec n (sub t a), vec n (sub x a)] h = .ok (.int (dt n (sub x a) (sub t a))) h := fun h => by rw [F_dot' hn h2 h1 h]; exact congrArg (fun z => R.ok (D.int z) h) (dt_comm n (sub t a) (sub x a))
  have d2 : ∀ h, F_dot [vec n (sub t a), vec n (sub t a)] h = .ok (.int (dt n (sub t a) (sub t a))) h := fun h => F_dot' hn h2 h2 h
  have d3 : ∀ h, F_dot [vec n (sub x a), vec n (sub x a)] h = .ok (.int (dt n (sub x a) (sub x a))) h := fun h => F_dot' hn h1 h1 h
  have d4 : ∀ h, F_dot [vec n (sub x t), vec n (sub x t)] h = .ok (.int (dt n (sub x t) (sub x t))) h := fun h => F_dot' hn h3 h3 h
  have b2 := sz140 (dot_bd hn h2 h2)
  have m1 : CMulE (dt n (sub x a) (sub x a)) (dt n (sub t a) (sub t a)) := mul140 (sz140 (dot_bd hn h1 h1)) b2
  have m2 : CMulE (dt n (sub x a) (sub t a)) (dt n (sub x a) (sub t a)) := mul140 (sz140 (dot_bd hn h1 h2)) (sz140 (dot_bd hn h1 h2))
  have qu : ∀ (y : Int) h, 0 < dt n (sub t a) (sub t a) → F_quotient_up [.int y, .int (dt n (sub t a) (sub t a))] h = .ok (.int (-(-y / dt n (sub t a) (sub t a)))) h := fun y h c => by
    have pi : ∀ z : Int, pure_ h (.int z) h = .ok (.int z) h := fun z => pure_clean h (clean_int z)
    have b : Nat.log2 (dt n (sub t a) (sub t a)).natAbs < 9000 := by
      have : sz (dt n (sub t a) (sub t a)) < 140 := b2
      unfold sz at this
      omega
    simp [F_quotient_up, c, b, pi]
  have b : Nat.log2 (dt n (sub t a) (sub t a)).natAbs < 9000 := by
    have : sz (dt n (sub t a) (sub t a)) < 140 := b2
    unfold sz at this
    omega
  unfold pc2 pc1
  by_cases c1 : dt n (sub x a) (sub t a) ≤ 0
  · simp [F_from_piece, e1, e2, d1, d2, d3, c1, pr]
  · by_cases c2 : dt n (sub t a) (sub t a) ≤ dt n (sub x a) (sub t a)
    · simp [F_from_piece, e1, e2, d1, d2, c1, c2, e3, d4, pr]
    · have c3 : 0 < dt n (sub t a) (sub t a) := by omega
      simp [F_from_piece, e1, e2, d1, d2, d3, c1, c2, m1, m2, c3, b, qu, pr]
theorem F_pair (x y : Int) (h : HP) : F__law_pair [.tup [.int x, .int y]] h = .ok (.bl true) h := by
  have p : ∀ z : Bool, pure_ h (.bl z) h = .ok (.bl z) h := fun z => pure_clean h (clean_bl z)
  have f1 := F_integer x
  have f2 := F_integer y
  simp [F__law_pair, kit_tt, sh_int, PyData.eqv, f1, f2, p]
theorem pc1_pos (n : Nat) (x a t : Nat → Int) : 0 < (pc1 n x a t).2 := by
  unfold pc1
  have := dt_self n (sub t a)
  split
  · exact Int.one_pos
  · split
    · exact Int.one_pos
    · simp only
      omega
theorem div_facts (S W : Int) (h : 0 < W) : S / W * W ≤ S ∧ S < (S / W + 1) * W ∧ S ≤ -(-S / W) * W ∧ (-(-S / W) - 1) * W < S := by
  have e1 := Int.mul_ediv_add_emod S W
  have e2 := Int.emod_nonneg S (show W ≠ 0 by omega)
  have e3 := Int.emod_lt_of_pos S h
  have f1 := Int.mul_ediv_add_emod (-S) W
  have f2 := Int.emod_nonneg (-S) (show W ≠ 0 by omega)
  have f3 := Int.emod_lt_of_pos (-S) h
  generalize S / W = u at *
  generalize -S / W = v at *
  generalize S % W = r at *
  generalize -S % W = s at *
  have g1 : u * W = W * u := Int.mul_comm _ _
  have g2 : (u + 1) * W = W * u + W := by grind
  have g3 : -v * W = -(W * v) := by grind
  have g4 : (-v - 1) * W = -(W * v) - W := by grind
  rw [g1, g2, g3, g4]
  omega
theorem dt_diff : ∀ (n : Nat) (x a t : Nat → Int), dt n (sub x t) (sub x t) = dt n (sub x a) (sub x a) - 2 * dt n (sub x a) (sub t a) + dt n (sub t a) (sub t a)
  | 0, x, a, t => by simp [dt, sg_zero]
  | n + 1, x, a, t => by
    have ih := dt_diff n x a t
    unfold dt at ih ⊢
    rw [sg_succ, sg_succ, sg_succ, sg_succ, ih]
    simp only [sub]
    grind
/-- no place on the piece lies nearer -/
theorem piece_near {n : Nat} {x a t : Nat → Int} {A P q : Int} (hA : A * (pc1 n x a t).2 ≤ (pc1 n x a t).1) (h0 : 0 ≤ q) (h1 : q ≤ P) :
    A * P * P ≤ q * q * dt n (sub t a) (sub t a) - 2 * q * P * dt n (sub x a) (sub t a) + P * P * dt n (sub x a) (sub x a) := by
  have hW := dt_self n (sub t a)
  have hd := dt_diff n x a t
  unfold pc1 at hA
  generalize dt n (sub t a) (sub t a) = W at *
  generalize dt n (sub x a) (sub t a) = L at *
  generalize dt n (sub x a) (sub x a) = H at *
  have pp : 0 ≤ P * P := Int.mul_nonneg (by omega) (by omega)
  have qq : 0 ≤ q * q := Int.mul_nonneg h0 h0
  split at hA
  · rename_i c
    simp only [Int.mul_one] at hA
    have k1 : A * (P * P) ≤ H * (P * P) := Int.mul_le_mul_of_nonneg_right hA pp
    have k2 : 0 ≤ q * q * W := Int.mul_nonneg qq hW
    have k3 : 0 ≤ q * P * -L := Int.mul_nonneg (Int.mul_nonneg h0 (by omega)) (by omega)
    have e : q * q * W - 2 * q * P * L + P * P * H - A * P * P = q * q * W + 2 * (q * P * -L) + (H * (P * P) - A * (P * P)) := by grind
    omega
  · rename_i c
    split at hA
    · rename_i c2
      simp only [Int.mul_one] at hA
      rw [hd] at hA
      have k1 : A * (P * P) ≤ (H - 2 * L + W) * (P * P) := Int.mul_le_mul_of_nonneg_right hA pp
      have k2 : 0 ≤ (P - q) * (P - q) * W := Int.mul_nonneg (Int.mul_nonneg (by omega) (by omega)) hW
      have k3 : 0 ≤ P * ((P - q) * (L - W)) := Int.mul_nonneg (by omega) (Int.mul_nonneg (by omega) (by omega))
      have e : q * q * W - 2 * q * P * L + P * P * H - A * P * P = (P - q) * (P - q) * W + 2 * (P * ((P - q) * (L - W))) + ((H - 2 * L + W) * (P * P) - A * (P * P)) := by grind
      omega
    · rename_i c2
      simp only at hA
      have hp : 0 < W := by omega
      have k1 : A * W * (P * P) ≤ (H * W - L * L) * (P * P) := Int.mul_le_mul_of_nonneg_right hA pp
      have k2 : 0 ≤ (q * W - P * L) * (q * W - P * L) := by
        by_cases z : 0 ≤ q * W - P * L
        · exact Int.mul_nonneg z z
        · exact Int.le_of_lt (Int.mul_pos_of_neg_of_neg (by omega) (by omega))
      have e : (q * q * W - 2 * q * P * L + P * P * H) * W - A * P * P * W = (q * W - P * L) * (q * W - P * L) + ((H * W - L * L) * (P * P) - A * W * (P * P)) := by grind
      exact Int.le_of_mul_le_mul_right (by omega) hp
end Lib
namespace Lib
open PySem PySem.Spec PyProof.Rows L2 Ev
/-! kinds of reading -/
def slope (c : Int) (at_ : Nat) : Int := if at_ = 0 then 1 + c % 4 else if c / 4 % 5 = 0 then c / 20 / (at_ * 7) % 2001 - 1000 else c / 20 / (at_ * 7) % 9 - 4
theorem slope_bd (c : Int) (k : Nat) : -1000 ≤ slope c k ∧ slope c k ≤ 1000 := by
  unfold slope
  split
  · omega
  · split <;> omega
theorem F_slope (c : Int) {k : Nat} (hk : k ≤ 100) (h : HP) : F__law_slope [.int c, .int k] h = .ok (.int (slope c k)) h := by
  have p : ∀ z : Int, pure_ h (.int z) h = .ok (.int z) h := fun z => pure_clean h (clean_int z)
  have m : CMulE (k : Int) 7 := mul64 (by omega) (by decide)
  by_cases a0 : k = 0
  · subst a0
    simp [F__law_slope, slope, sh_int, PyData.eqv, p]
  · have a1 : ((k : Int) == 0) = false := beq_eq_false_iff_ne.mpr (by omega)
    have a2 : (0 : Int) < (k : Int) * 7 := by omega
    have a3 : Nat.log2 ((k : Int) * 7).natAbs < 9000 := by
      have := sz64 (i := (k : Int) * 7) (by omega)
      unfold sz at this
      omega
    have a4 : 0 < k := by omega
    by_cases a5 : c / 4 % 5 = 0
    · simp [F__law_slope, slope, sh_int, PyData.eqv, p, a0, a1, a2, a3, a4, a5, m, lg]
    · simp [F__law_slope, slope, sh_int, PyData.eqv, p, a0, a1, a2, a3, a4, a5, m, lg]
def plainS (c : Int) : Int × Int := (if -1000000000000 > near (c / 14) - len7 c then -1000000000000 else near (c / 14) - len7 c, near (c / 14))
def plainB (ns : List Int) (k n : Nat) : List (Int × Int) := (List.range n).map fun i => plainS (num ns (k + i))
theorem plain_ok {ns : List Int} {k n : Nat} : ∀ s ∈ plainB ns k n, s.1 ≤ s.2 ∧ s.1.natAbs ≤ 1001000000000 ∧ s.2.natAbs ≤ 1000000000000 := fun s hs => by
  obtain ⟨i, _, rfl⟩ := List.mem_map.mp hs
  have h1 := near_bd (num ns (k + i) / 14)
  have h2 := len7_bd (num ns (k + i))
  simp only [plainS]
  split <;> omega
theorem plain_turn {ns : List Int} (hn : Okn ns) {k n i : Nat} (hk : k ≤ 100) (hi : i ≤ 10) (x5 x6 : Option D) (h : HP) (acc : List D) (ha : acc.length ≤ 100) :
    B__law_plain_box_1 [some (Sc ns), some (.int k), some (.int n), some (.ref h.length), some (.int i), x5, x6] (h ++ [.lst acc]) =
      .nx [some (Sc ns), some (.int k), some (.int n), some (.ref h.length), some (.int i), some (.int (num ns (k + i))), some (.int (near (num ns (k + i) / 14)))] (h ++ [.lst (acc ++ [sideD (plainS (num ns (k + i)))])]) := by
  have n1 : ∀ h, F__law_number [Sc ns, .int ((k : Int) + (i : Int))] h = .ok (.int (num ns (k + i))) h := fun h => F_number hn (k := k + i) (by omega) h
  have ap := fun y => appL_last (y := y) (ds := acc) h (by rw [sizeLine_eq]; omega)
  simp [n1, F_near, F_length, lg, ap, sideD, plainS]
theorem F_plain {ns : List Int} (hn : Okn ns) {k n : Nat} (hk : k ≤ 100) (hs : n ≤ 10) (h : HP) : F__law_plain_box [Sc ns, .int k, .int n] h = .ok (boxD (plainB ns k n)) h := by
  obtain ⟨_, h1, e, ⟨x4, x5, x6, rfl⟩, hh⟩ := for_rng (asg := gNm 4) (body := B__law_plain_box_1) (n := n)
    (fun i env h' => (∃ x4 x5 x6, env = [some (Sc ns), some (.int k), some (.int n), some (.ref h.length), x4, x5, x6]) ∧ h' = h ++ [.lst ((plainB ns k i).map sideD)])
    (fun i env h' hi hI => by
      obtain ⟨⟨x4, x5, x6, rfl⟩, rfl⟩ := hI
      refine ⟨_, rfl, _, _, .inl (plain_turn hn hk (by omega) x5 x6 h _ (by simp [plainB]; omega)), ⟨_, _, _, rfl⟩, ?_⟩
      simp [plainB, List.range_succ])
    (env := [some (Sc ns), some (.int k), some (.int n), some (.ref h.length), none, none, none]) (h := h ++ [.lst []]) ⟨⟨_, _, _, rfl⟩, by simp [plainB]⟩
  rw [hh] at e
  have p := fun x => pure_cleanJ h x (clean_box (plainB ns k n))
  have rg : Rg (n : Int) := rg_nat (by omega)
  generalize plainB ns k n = o at e p ⊢
  unfold boxD at p ⊢
  simp [F__law_plain_box, rg, e, p]
inductive Kd where
  | range (p : Nat → Int)
  | clocked (p : Nat → Int)
  | differ (p q : Nat → Int)
  | piece (p q : Nat → Int)
  | side (p : Nat → Int)
  | boxes (bs : List (List (Int × Int)))
def boxesD (bs : List (List (Int × Int))) : D := .tup (bs.map boxD)
def kdD (n : Nat) : Kd → D
  | .range p => .tup [.str "range", vec n p]
  | .clocked p => .tup [.str "clocked", vec n p]
  | .differ p q => .tup [.str "differ", vec n p, vec n q]
  | .piece p q => .tup [.str "piece", vec n p, vec n q]
  | .side p => .tup [.str "side", vec n p]
  | .boxes bs => .tup [.str "boxes", boxesD bs]
def mkKd (ns : List Int) (k n : Nat) : Kd :=
  if num ns k % 6 = 0 then .range (pnt ns (k + 1)) else if num ns k % 6 = 1 then .clocked (pnt ns (k + 1)) else if num ns k % 6 = 2 then .differ (pnt ns (k + 1)) (pnt ns (k + 4))
  else if num ns k % 6 = 3 then .piece (pnt ns (k + 1)) (pnt ns (k + 4)) else if num ns k % 6 = 4 then .side (slope (num ns k / 6))
  else .boxes (plainB ns (k + 1) n :: if num ns k / 6 % 2 = 1 then [plainB ns (k + 4) n] else [])
theorem clean_boxes (bs : List (List (Int × Int))) : clean (boxesD bs) := clean_tup fun d hd => by
  obtain ⟨s, _, rfl⟩ := List.mem_map.mp hd
  exact clean_box s
theorem clean_kd (n : Nat) (K : Kd) : clean (kdD n K) := by
  cases K <;> exact clean_tup (by simp [clean_str, clean_vec, clean_boxes])
theorem F_kind {ns : List Int} (hn : Okn ns) {k n : Nat} (hk : k ≤ 90) (hs : n ≤ 10) (h : HP) : F__law_kind [Sc ns, .int k, .int n] h = .ok (kdD n (mkKd ns k n)) h := by
  have pr := pure_clean h (clean_kd n (mkKd ns k n))
  have n0 := fun h => F_number hn (k := k) (by omega) h
  have p1 : ∀ h, F__law_point [Sc ns, .int ((k : Int) + 1), .int n] h = .ok (vec n (pnt ns (k + 1))) h := fun h => F_point hn (k := k + 1) (by omega) hs h
  have p4 : ∀ h, F__law_point [Sc ns, .int ((k : Int) + 4), .int n] h = .ok (vec n (pnt ns (k + 4))) h := fun h => F_point hn (k := k + 4) (by omega) hs h
  have b1 : ∀ h, F__law_plain_box [Sc ns, .int ((k : Int) + 1), .int n] h = .ok (boxD (plainB ns (k + 1) n)) h := fun h => F_plain hn (k := k + 1) (by omega) hs h
  have b4 : ∀ h, F__law_plain_box [Sc ns, .int ((k : Int) + 4), .int n] h = .ok (boxD (plainB ns (k + 4) n)) h := fun h => F_plain hn (k := k + 4) (by omega) hs h
  have rg : Rg (n : Int) := rg_nat (by omega)
  unfold mkKd at pr ⊢
  generalize num ns k = c at *
  by_cases q0 : c % 6 = 0
  · simp [q0, kdD] at pr
    simp [F__law_kind, n0, lg, q0, sh_int, PyData.eqv, p1, kdD, pr]
  by_cases q1 : c % 6 = 1
  · simp [q1, kdD] at pr
    simp [F__law_kind, n0, lg, q1, sh_int, PyData.eqv, p1, kdD, pr]
  by_cases q2 : c % 6 = 2
  · simp [q2, kdD] at pr
    simp [F__law_kind, n0, lg, q2, sh_int, PyData.eqv, p1, p4, kdD, pr]
  by_cases q3 : c % 6 = 3
  · simp [q3, kdD] at pr
    simp [F__law_kind, n0, lg, q3, sh_int, PyData.eqv, p1, p4, kdD, pr]
  by_cases q4 : c % 6 = 4
  · have lc : C__law_kind_1 false [some (Sc ns), some (.int k), some (.int n), some (.int 4), some (.int (c / 6)), none, none] h = _ :=
      mLc_ty (h1 := h) (List.range n) (fun i => .int (i : Nat)) (fun i => .int (slope (c / 6) i)) (by simp [rg, rngD_eq]) (by simp; omega)
        (fun i hi h' => ⟨[some (Sc ns), some (.int k), some (.int n), some (.int 4), some (.int (c / 6)), none, some (.int (i : Nat))], by simp, by
          have hi' := List.mem_range.mp hi
          simp [F_slope (c / 6) (k := i) (by omega)]⟩) fun i _ => clean_int _
    have ln : ((List.range n).map fun i => D.int (slope (c / 6) i)).length ≤ sizeLine := by simp; rw [sizeLine_eq]; omega
    simp [q4, kdD, vec] at pr
    obtain ⟨xs, ex⟩ : ∃ xs, xs = ((List.range n).map fun i => D.int (slope (c / 6) i)) := ⟨_, rfl⟩
    rw [← ex] at lc ln pr
    simp [F__law_kind, n0, lg, q4, sh_int, PyData.eqv, lc, ln, pr, kdD, vec]
    exact ex
  · simp [q0, q1, q2, q3, q4, kdD, boxesD] at pr
    have pj := fun x => pure_cleanJ (d := .tup [.str "boxes", .tup ((plainB ns (k + 1) n :: if c / 6 % 2 = 1 then [plainB ns (k + 4) n] else []).map boxD)]) h x (clean_kd n (.boxes (plainB ns (k + 1) n :: if c / 6 % 2 = 1 then [plainB ns (k + 4) n] else [])))
    by_cases q5 : c / 6 % 2 = 1
    · simp [q5] at pj
      simp [F__law_kind, n0, lg, q0, q1, q2, q3, q4, sh_int, PyData.eqv, b1, b4, q5, appL, kdD, boxesD, pj]
    · simp [q5] at pj
      simp [F__law_kind, n0, lg, q0, q1, q2, q3, q4, sh_int, PyData.eqv, b1, b4, q5, kdD, boxesD, pj]
@[simp] theorem shs_range : SeqAt.shaped (.str "range") = true := by decide +kernel
@[simp] theorem eqs_range_range : PyData.eqv (.str "range") (.str "range") = true := by decide +kernel
@[simp] theorem eqs_range_clocked : PyData.eqv (.str "range") (.str "clocked") = false := by decide +kernel
@[simp] theorem eqs_range_differ : PyData.eqv (.str "range") (.str "differ") = false := by decide +kernel
@[simp] theorem eqs_range_piece : PyData.eqv (.str "range") (.str "piece") = false := by decide +kernel
@[simp] theorem eqs_range_side : PyData.eqv (.str "range") (.str "side") = false := by decide +kernel
@[simp] theorem eqs_range_boxes : PyData.eqv (.str "range") (.str "boxes") = false := by decide +kernel
@[simp] theorem shs_clocked : SeqAt.shaped (.str "clocked") = true := by decide +kernel
@[simp] theorem eqs_clocked_range : PyData.eqv (.str "clocked") (.str "range") = false := by decide +kernel
@[simp] theorem eqs_clocked_clocked : PyData.eqv (.str "clocked") (.str "clocked") = true := by decide +kernel
@[simp] theorem eqs_clocked_differ : PyData.eqv (.str "clocked") (.str "differ") = false := by decide +kernel
@[simp] theorem eqs_clocked_piece : PyData.eqv (.str "clocked") (.str "piece") = false := by decide +kernel
@[simp] theorem eqs_clocked_side : PyData.eqv (.str "clocked") (.str "side") = false := by decide +kernel
@[simp] theorem eqs_clocked_boxes : PyData.eqv (.str "clocked") (.str "boxes") = false := by decide +kernel
@[simp] theorem shs_differ : SeqAt.shaped (.str "differ") = true := by decide +kernel
@[simp] theorem eqs_differ_range : PyData.eqv (.str "differ") (.str "range") = false := by decide +kernel
@[simp] theorem eqs_differ_clocked : PyData.eqv (.str "differ") (.str "clocked") = false := by decide +kernel
@[simp] theorem eqs_differ_differ : PyData.eqv (.str "differ") (.str "differ") = true := by decide +kernel
@[simp] theorem eqs_differ_piece : PyData.eqv (.str "differ") (.str "piece") = false := by decide +kernel
@[simp] theorem eqs_differ_side : PyData.eqv (.str "differ") (.str "side") = false := by decide +kernel
@[simp] theorem eqs_differ_boxes : PyData.eqv (.str "differ") (.str "boxes") = false := by decide +kernel
@[simp] theorem shs_piece : SeqAt.shaped (.str "piece") = true := by decide +kernel
@[simp] theorem eqs_piece_range : PyData.eqv (.str "piece") (.str "range") = false := by decide +kernel
@[simp] theorem eqs_piece_clocked : PyData.eqv (.str "piece") (.str "clocked") = false := by decide +kernel
@[simp] theorem eqs_piece_differ : PyData.eqv (.str "piece") (.str "differ") = false := by decide +kernel
@[simp] theorem eqs_piece_piece : PyData.eqv (.str "piece") (.str "piece") = true := by decide +kernel
@[simp] theorem eqs_piece_side : PyData.eqv (.str "piece") (.str "side") = false := by decide +kernel
@[simp] theorem eqs_piece_boxes : PyData.eqv (.str "piece") (.str "boxes") = false := by decide +kernel
@[simp] theorem shs_side : SeqAt.shaped (.str "side") = true := by decide +kernel
@[simp] theorem eqs_side_range : PyData.eqv (.str "side") (.str "range") = false := by decide +kernel
@[simp] theorem eqs_side_clocked : PyData.eqv (.str "side") (.str "clocked") = false := by decide +kernel
@[simp] theorem eqs_side_differ : PyData.eqv (.str "side") (.str "differ") = false := by decide +kernel
@[simp] theorem eqs_side_piece : PyData.eqv (.str "side") (.str "piece") = false := by decide +kernel
@[simp] theorem eqs_side_side : PyData.eqv (.str "side") (.str "side") = true := by decide +kernel
@[simp] theorem eqs_side_boxes : PyData.eqv (.str "side") (.str "boxes") = false := by decide +kernel
@[simp] theorem shs_boxes : SeqAt.shaped (.str "boxes") = true := by decide +kernel
@[simp] theorem eqs_boxes_range : PyData.eqv (.str "boxes") (.str "range") = false := by decide +kernel
@[simp] theorem eqs_boxes_clocked : PyData.eqv (.str "boxes") (.str "clocked") = false := by decide +kernel
@[simp] theorem eqs_boxes_differ : PyData.eqv (.str "boxes") (.str "differ") = false := by decide +kernel
@[simp] theorem eqs_boxes_piece : PyData.eqv (.str "boxes") (.str "piece") = false := by decide +kernel
@[simp] theorem eqs_boxes_side : PyData.eqv (.str "boxes") (.str "side") = false := by decide +kernel
@[simp] theorem eqs_boxes_boxes : PyData.eqv (.str "boxes") (.str "boxes") = true := by decide +kernel
@[simp] theorem at3_0 (x y z : D) : atI [x, y, z] 0 = some x := by simp [atI, ixN]
@[simp] theorem at3_1 (x y z : D) : atI [x, y, z] 1 = some y := by simp [atI, ixN]
@[simp] theorem at3_2 (x y z : D) : atI [x, y, z] 2 = some z := by simp [atI, ixN]
def PtOk (p : Nat → Int) : Prop := ∀ i, (p i).natAbs ≤ 1000000000000
def KdOk (n : Nat) : Kd → Prop
  | .range p => PtOk p
  | .clocked p => PtOk p
  | .differ p q => PtOk p ∧ PtOk q
  | .piece p q => PtOk p ∧ PtOk q
  | .side p => (∀ i, (p i).natAbs ≤ 1000) ∧ 1 ≤ p 0
  | .boxes bs => 0 < bs.length ∧ bs.length ≤ 2 ∧ ∀ b ∈ bs, b.length = n ∧ ∀ s ∈ b, s.1 ≤ s.2 ∧ s.1.natAbs ≤ 1001000000000 ∧ s.2.natAbs ≤ 1000000000000
theorem pnt_ok (ns : List Int) (k : Nat) : PtOk (pnt ns k) := fun i => by
  have := near_bd (num ns (k + i))
  unfold pnt
  omega
theorem mkKd_ok (ns : List Int) (k n : Nat) : KdOk n (mkKd ns k n) := by
  have pl : ∀ k, (plainB ns k n).length = n := fun k => by simp [plainB]
  unfold mkKd
  split
  · exact pnt_ok _ _
  · split
    · exact pnt_ok _ _
    · split
      · exact ⟨pnt_ok _ _, pnt_ok _ _⟩
      · split
        · exact ⟨pnt_ok _ _, pnt_ok _ _⟩
        · split
          · refine ⟨fun i => ?_, ?_⟩
            · have := slope_bd (num ns k / 6) i
              omega
            · unfold slope
              rw [if_pos rfl]
              omega
          · split
            · refine ⟨by simp, by simp, fun b hb => ?_⟩
              simp only [List.mem_cons, List.not_mem_nil, or_false] at hb
              rcases hb with rfl | rfl <;> exact ⟨pl _, plain_ok⟩
            · refine ⟨by simp, by simp, fun b hb => ?_⟩
              simp only [List.mem_cons, List.not_mem_nil, or_false] at hb
              subst hb
              exact ⟨pl _, plain_ok⟩
def rateK (n : Nat) : Kd → Int
  | .differ _ _ => 2
  | .side p => ru (dt n p p)
  | _ => 1
def clockK : Kd → Int
  | .clocked _ => 1
  | _ => 0
def movedK : Kd → Int
  | .differ _ _ => 2
  | .side _ => 0
  | _ => 1
theorem F_rate' {n : Nat} (hn : n ≤ 10) {K : Kd} (hK : KdOk n K) (h : HP) : F_rate [kdD n K] h = .ok (.int (rateK n K)) h := by
  have p : ∀ z : Int, pure_ h (.int z) h = .ok (.int z) h := fun z => pure_clean h (clean_int z)
  cases K with
  | side d =>
    have hb : Bd n d := fun i _ => by have : (d i).natAbs ≤ 1000 := hK.1 i; omega
    have f1 : ∀ h, F_dot [vec n d, vec n d] h = .ok (.int (dt n d d)) h := fun h => F_dot' hn hb hb h
    have f2 := F_root_up' (dt_self n d) (by have := sz140 (dot_bd hn hb hb); exact Nat.lt_trans this (by decide)) h
    simp [F_rate, kdD, f1, f2, rateK, p]
  | _ => simp [F_rate, kdD, rateK, p]
theorem F_clock_rate' (n : Nat) (K : Kd) (h : HP) : F_clock_rate [kdD n K] h = .ok (.int (clockK K)) h := by
  have p : ∀ z : Int, pure_ h (.int z) h = .ok (.int z) h := fun z => pure_clean h (clean_int z)
  cases K <;> simp [F_clock_rate, kdD, clockK, p]
theorem F_moved' (n : Nat) (K : Kd) (h : HP) : F_moved [kdD n K] h = .ok (.int (movedK K)) h := by
  have p : ∀ z : Int, pure_ h (.int z) h = .ok (.int z) h := fun z => pure_clean h (clean_int z)
  cases K <;> simp [F_moved, kdD, movedK, p]
theorem dt_pos {n : Nat} (hn : 0 < n) {p : Nat → Int} (h : 1 ≤ p 0) : 0 < dt n p p := by
  have key : ∀ n, 0 < dt (n + 1) p p := fun n => by
    induction n with
    | zero =>
      unfold dt
      rw [sg_succ, sg_zero]
      have := Int.mul_pos (show 0 < p 0 by omega) (show 0 < p 0 by omega)
      omega
    | succ n ih =>
      have e : dt (n + 1 + 1) p p = dt (n + 1) p p + p (n + 1) * p (n + 1) := sg_succ _ _
      have : 0 ≤ p (n + 1) * p (n + 1) := by
        by_cases c : 0 ≤ p (n + 1)
        · exact Int.mul_nonneg c c
        · exact Int.le_of_lt (Int.mul_pos_of_neg_of_neg (by omega) (by omega))
      omega
  obtain ⟨m, rfl⟩ : ∃ m, n = m + 1 := ⟨n - 1, by omega⟩
  exact key m
end Lib
namespace Lib
open PySem PySem.Spec PyProof.Rows L2 Ev
theorem set_box (b : List (Int × Int)) (i : Nat) (s : Int × Int) : (b.set i s).map sideD = (b.map sideD).set i (sideD s) := by rw [List.map_set]
theorem cut_parts {xs : List D} {i : Nat} (hi : i < xs.length) (d : D) : xs.take i ++ ([d] ++ xs.drop (i + 1)) = xs.set i d := by
  rw [List.set_eq_take_append_cons_drop, if_pos hi]
  rfl
def okC (b : List (Int × Int)) (i : Nat) (p : Int) : Prop := ∃ h : i < b.length, (b[i]).1 < p ∧ p < (b[i]).2
def cutR (b : List (Int × Int)) (i : Nat) (p : Int) : D := .tup [boxD (b.set i ((b.getD i (0, 0)).1, p)), boxD (b.set i (p, (b.getD i (0, 0)).2))]
theorem cut_none {b : List (Int × Int)} {a p : Int} (hc : ¬ ∃ i : Nat, a = i ∧ okC b i p) (h : HP) : F_cut [boxD b, .int a, .int p] h = .ok .non h := by
  have pn : pure_ h .non h = .ok .non h := pure_clean h clean_non
  by_cases c1 : 0 ≤ a
  · by_cases c2 : a < b.length
    · obtain ⟨i, rfl⟩ : ∃ i : Nat, a = i := ⟨a.toNat, by omega⟩
      have hi : i < b.length := by omega
      have a1 := at_box hi
      obtain ⟨l, u, e⟩ : ∃ l u, b[i] = (l, u) := ⟨_, _, rfl⟩
      have nc : ¬ (l < p ∧ p < u) := fun k => hc ⟨i, rfl, hi, by rw [e]; exact k.1, by rw [e]; exact k.2⟩
      rw [e] at a1
      by_cases c3 : l < p
      · have c4 : ¬ p < u := fun k => nc ⟨c3, k⟩
        simp [F_cut, boxD, hi, a1, sideD, c3, c4, pn]
      · simp [F_cut, boxD, hi, a1, sideD, c3, pn]
    · simp [F_cut, boxD, c1, c2, pn]
  · simp [F_cut, boxD, c1, pn]
theorem cut_some {b : List (Int × Int)} (hb : b.length ≤ 100) {i : Nat} {p : Int} (hc : okC b i p) (h : HP) : F_cut [boxD b, .int i, .int p] h = .ok (cutR b i p) h := by
  obtain ⟨hi, h1, h2⟩ := hc
  have a1 := at_box hi
  obtain ⟨l, u, e⟩ : ∃ l u, b[i] = (l, u) := ⟨_, _, rfl⟩
  have e' : b.getD i (0, 0) = (l, u) := by simp [hi, e]
  rw [e] at a1 h1 h2
  unfold cutR
  rw [e']
  have k1 : Ev.cutD (b.map sideD) none (some (i : Int)) = (b.map sideD).take i := cut_to (by simp; omega)
  have k2 : Ev.cutD (b.map sideD) (some ((i : Int) + 1)) none = (b.map sideD).drop (i + 1) := cut_from (i := i + 1) (by simp; omega)
  have cl : ∀ x y : List (Int × Int), clean (.tup [boxD x, boxD y]) := fun x y => clean_tup (by simp [clean_box])
  have pn := pure_clean h (cl (b.set i (l, p)) (b.set i (p, u)))
  have s1 : ∀ d, (b.map sideD).take i ++ d :: (b.map sideD).drop (i + 1) = (b.map sideD).set i d := fun d => cut_parts (by simpa using hi) d
  unfold boxD at pn ⊢
  rw [set_box, set_box] at pn ⊢
  have l1 : ((b.map sideD).take i).length + 1 ≤ 16000000 := by simp; omega
  have l2 : ((b.map sideD).take i).length + 1 + ((b.map sideD).drop (i + 1)).length ≤ 16000000 := by simp; omega
  have lb : (b.map sideD).length = b.length := by simp
  have sd : ∀ x y, sideD (x, y) = .tup [.int x, .int y] := fun _ _ => rfl
  rw [sd, sd] at pn ⊢
  rw [sd] at a1
  generalize b.map sideD = xs at *
  simp [F_cut, hi, lb, a1, h1, h2, k1, k2, s1, pn, l1, l2, -List.length_take, -List.length_drop]

def lenS (s : Int × Int) : Int := s.2 - s.1
/-- the first of the longest sides -/
def wid (b : List (Int × Int)) : Nat := b.findIdx fun s => lenS s == maxL (b.map lenS)
theorem wid_lt {b : List (Int × Int)} (h : b ≠ []) : wid b < b.length := by
  have m := (maxL_mem (ns := b.map lenS) (by simpa using h)).1
  obtain ⟨s, hs, e⟩ := List.mem_map.mp m
  exact List.findIdx_lt_length_of_exists ⟨s, hs, by simp [e]⟩
theorem wid_is {b : List (Int × Int)} (h : b ≠ []) {i : Nat} (hi : i < b.length) (h1 : ∀ j (hj : j < b.length), lenS b[j] ≤ lenS b[i]) (h2 : ∀ j (hj : j < i), lenS (b[j]'(by omega)) < lenS b[i]) : wid b = i := by
  have m := maxL_mem (ns := b.map lenS) (by simpa using h)
  have e : maxL (b.map lenS) = lenS b[i] := by
    apply Int.le_antisymm
    · obtain ⟨s, hs, e⟩ := List.mem_map.mp m.1
      obtain ⟨j, hj, rfl⟩ := List.getElem_of_mem hs
      rw [← e]
      exact h1 j hj
    · exact m.2 _ (List.mem_map.mpr ⟨_, List.getElem_mem hi, rfl⟩)
  unfold wid
  rw [e]
  rw [List.findIdx_eq hi]
  refine ⟨by simp, fun j hj => ?_⟩
  have := h2 j hj
  simp
  omega
theorem F_widest' {b : List (Int × Int)} (h : b ≠ []) (hb : b.length ≤ 1000) (hp : HP) : F_widest [boxD b] hp = .ok (.int (wid b)) hp := by
  have p : ∀ z : Int, pure_ hp (.int z) hp = .ok (.int z) hp := fun z => pure_clean hp (clean_int z)
  have lc : ∀ x3, C_widest_1 false [some (boxD b), x3, none, none] hp = _ := fun x3 =>
    mLc_ty (h1 := hp) b sideD (fun s => .int (lenS s)) (by simp [boxD]) (by omega)
      (fun s _ h' => ⟨[some (boxD b), x3, some (.int s.1), some (.int s.2)], by simp [sideD], by simp [lenS]⟩) fun s _ => clean_int _
  have k := intsD_map (b.map lenS)
  simp only [List.map_map] at k
  have e : D.int ∘ lenS = fun s => D.int (lenS s) := rfl
  rw [e] at k
  have l0 : 0 < (b.map lenS).length := by
    rw [List.length_map]
    exact List.length_pos_iff.mpr h
  have fx : (b.map fun s => D.int (lenS s)).all flatD = true := by simp
  have fi : (b.map fun s => D.int (lenS s)).findIdx (fun z => eqD z (.int (maxL (b.map lenS)))) = wid b := by
    rw [List.findIdx_map]
    rfl
  have wl := wid_lt h
  have ll : (b.map fun s => D.int (lenS s)).length = b.length := by simp
  generalize (b.map fun s => D.int (lenS s)) = xs at *
  generalize b.map lenS = ys at *
  simp [F_widest, lc, k, l0, fx, fi, ll, wl, p]
theorem lcE_tyG {α : Type} (asg : TF) (cond : M Bool) (elt : M D) (envw : EN) (h : HP) (gd : GdL) (hg : ∀ x, Gd gd (h ++ x)) (f G : α → D) (p : α → Bool) : ∀ (xs : List α) (acc : List D), acc.length + xs.length ≤ sizeLine →
    (∀ x ∈ xs, ∀ y : HP, ∃ e, asg (f x) envw (h ++ y) = some e ∧ cond e (h ++ y) = .ok (p x) (h ++ y) ∧ (p x = true → elt e (h ++ y) = .ok (G x) (h ++ y))) →
    lcE asg cond elt envw h.length gd (xs.map f) (h ++ [.lst acc]) = .ok () (h ++ [.lst (acc ++ (xs.filter p).map G)])
  | [], acc, _, _ => by
    rw [List.map_nil]
    unfold lcE
    rw [if_pos (hg _)]
    simp
  | d :: ds, acc, hz, H => by
    rw [List.map_cons]
    unfold lcE
    rw [if_pos (hg _)]
    obtain ⟨e, e1, e2, e3⟩ := H d (List.mem_cons_self ..) [.lst acc]
    simp only [e1, e2, R.nx, R.bind]
    cases q : p d with
    | true =>
      have hz' : acc.length < sizeLine := by simp only [List.length_cons] at hz; omega
      simp only [if_true, e3 q, R.nx, R.bind, appL_last h hz']
      rw [lcE_tyG asg cond elt envw h gd hg f G p ds (acc ++ [G d]) (by simp only [List.length_append, List.length_cons, List.length_nil] at hz ⊢; omega) fun d' hd y => H d' (List.mem_cons_of_mem _ hd) y]
      simp [List.filter_cons, q]
    | false =>
      simp only [if_neg Bool.false_ne_true]
      rw [lcE_tyG asg cond elt envw h gd hg f G p ds acc (by simp only [List.length_cons] at hz; omega) fun d' hd y => H d' (List.mem_cons_of_mem _ hd) y]
      simp [List.filter_cons, q]
theorem mLc_tyL {α : Type} {it : IM} {own : List Nat} {asg : TF} {elt : M D} {env : EN} {h h1 : HP} {gd : GdL} (xs : List α) (f G : α → D) (hi : it env h = .ok (xs.map f, gd) h1) (hg : ∀ x, Gd gd (h1 ++ x)) (hz : xs.length ≤ 16000000)
    (H : ∀ x ∈ xs, ∀ y : HP, ∃ e, asg (f x) (wipeE env own) (h1 ++ y) = some e ∧ elt e (h1 ++ y) = .ok (G x) (h1 ++ y)) :
    mLc true it own asg cYes elt env h = .ok (.ref h1.length) (h1 ++ [.lst (xs.map G)]) := by
  unfold mLc
  rw [hi]
  simp only [R.bind]
  rw [lcE_tyG asg cYes elt _ h1 gd hg f G (fun _ => true) xs [] (by have := sizeLine_eq; simp only [List.length_nil]; omega) fun x hx y => let ⟨e, e1, e2⟩ := H x hx y; ⟨e, e1, rfl, fun _ => e2⟩, List.filter_eq_self.mpr (fun _ _ => rfl)]
  simp [outL]
theorem ixN_nat {n i : Nat} (hi : i < n) : ixN n (i : Int) = some i := by simp [ixN, hi]
theorem set_last (h : HP) (x y : O) : (h ++ [x]).set h.length y = h ++ [y] := by simp
def sd (b : List (Int × Int)) (i : Nat) : Int × Int := b.getD i (0, 0)
theorem sd_get {b : List (Int × Int)} {i : Nat} (hi : i < b.length) : sd b i = b[i] := by simp [sd, hi]
def midS (s : Int × Int) : Int := (s.1 + s.2) / 2
def halvR (b : List (Int × Int)) : D := if lenS (sd b (wid b)) < 2 then .non else cutR b (wid b) (midS (sd b (wid b)))
theorem clean_cutR (b : List (Int × Int)) (i : Nat) (p : Int) : clean (cutR b i p) := clean_tup (by simp [clean_box])
theorem halvR_cut {b : List (Int × Int)} (h : b ≠ []) (hb : b.length ≤ 100) (hp : HP) : F_cut [boxD b, .int (wid b), .int (midS (sd b (wid b)))] hp = .ok (halvR b) hp := by
  have wl := wid_lt h
  have e := sd_get wl
  unfold halvR
  by_cases c : lenS (sd b (wid b)) < 2
  · rw [if_pos c]
    refine cut_none (fun ⟨i, e1, hi, h1, h2⟩ => ?_) hp
    have e2 : i = wid b := by omega
    subst e2
    rw [← e] at h1 h2
    unfold lenS at c
    unfold midS at h1 h2
    omega
  · rw [if_neg c]
    refine cut_some hb ⟨wl, ?_, ?_⟩ hp
    · rw [← e]
      unfold lenS at c
      unfold midS
      omega
    · rw [← e]
      unfold lenS at c
      unfold midS
      omega
theorem clean_halvR (b : List (Int × Int)) : clean (halvR b) := by
  unfold halvR
  split
  · exact clean_non
  · exact clean_cutR _ _ _
theorem F_halves' {b : List (Int × Int)} (h : b ≠ []) (hb : b.length ≤ 100) (hp : HP) : F_halves [boxD b] hp = .ok (halvR b) hp := by
  have wl := wid_lt h
  have f1 := fun hp => F_widest' h (by omega) hp
  have f2 := fun hp => halvR_cut h hb hp
  have a1 := at_box wl
  rw [← sd_get wl] at a1
  have p := pure_clean hp (clean_halvR b)
  generalize halvR b = r at *
  unfold midS at f2
  unfold boxD at *
  simp [F_halves, f1, a1, sideD, lg, f2, p]
end Lib
namespace Lib
open PySem PySem.Spec PyProof.Rows L2 Ev
/-! distances between boxes and points -/
theorem box_fun {b : List (Int × Int)} {n : Nat} (hb : b.length = n) : b.map sideD = (List.range n).map fun i => sideD (sd b i) := by
  apply List.ext_getElem
  · simp [hb]
  · intro i h1 h2
    have hi : i < b.length := by simpa using h1
    simp [sd_get hi]
def mx (a b : Int) : Int := if b > a then b else a
theorem mx_le {a b c : Int} (h1 : a ≤ c) (h2 : b ≤ c) : mx a b ≤ c := by unfold mx; split <;> assumption
theorem le_mx1 (a b : Int) : a ≤ mx a b := by unfold mx; split <;> omega
theorem le_mx2 (a b : Int) : b ≤ mx a b := by unfold mx; split <;> omega
def gapS (s o : Int × Int) : Int := mx (mx 0 (o.1 - s.2)) (s.1 - o.2)
theorem gap_nn (s o : Int × Int) : 0 ≤ gapS s o := Int.le_trans (le_mx1 _ _) (le_mx1 _ _)
theorem gap_le {s o : Int × Int} {c : Int} (h0 : 0 ≤ c) (h1 : o.1 - s.2 ≤ c) (h2 : s.1 - o.2 ≤ c) : gapS s o ≤ c := mx_le (mx_le h0 h1) h2
theorem le_gap1 (s o : Int × Int) : o.1 - s.2 ≤ gapS s o := Int.le_trans (le_mx2 _ _) (le_mx1 _ _)
theorem le_gap2 (s o : Int × Int) : s.1 - o.2 ≤ gapS s o := le_mx2 _ _
theorem gap_comm (s o : Int × Int) : gapS s o = gapS o s := Int.le_antisymm (gap_le (gap_nn _ _) (le_gap2 _ _) (le_gap1 _ _)) (gap_le (gap_nn _ _) (le_gap2 _ _) (le_gap1 _ _))
/-- sides of a size for squares -/
def Sm (s : Int × Int) : Prop := s.1.natAbs < 4611686018427387904 ∧ s.2.natAbs < 4611686018427387904
theorem gap_sm {s o : Int × Int} (h : Sm s) (k : Sm o) : (gapS s o).natAbs < 18446744073709551616 := by
  obtain ⟨h1, h2⟩ := h
  obtain ⟨k1, k2⟩ := k
  unfold gapS mx
  split <;> split <;> omega
theorem F_gap' (s o : Int × Int) (h : HP) : F_gap [sideD s, sideD o] h = .ok (.int (gapS s o)) h := by
  have p : ∀ z : Int, pure_ h (.int z) h = .ok (.int z) h := fun z => pure_clean h (clean_int z)
  simp [F_gap, sideD, gapS, mx, p]
theorem pow64 {x : Int} (hx : x.natAbs < 18446744073709551616) : CPowW x 2 := by
  refine ⟨by omega, ?_⟩
  have : sz x ≤ 64 := sz64 hx
  have hh : Builtin.Int.intBits x ≤ 65 := by
    unfold Builtin.Int.intBits
    split
    · omega
    · unfold sz at this; omega
  have : ((2 : Int) ^ 27) = 134217728 := by decide
  rw [this]
  omega
theorem pow2 (x : Int) : x ^ 2 = x * x := by rw [Int.pow_succ, Int.pow_succ, Int.pow_zero, Int.one_mul]
theorem sd_sm {b : List (Int × Int)} (h : ∀ s ∈ b, Sm s) {i : Nat} (hi : i < b.length) : Sm (sd b i) := by
  rw [sd_get hi]
  exact h _ (List.getElem_mem hi)
def nearS (p : Nat → Int) (b : List (Int × Int)) (i : Nat) : Int := gapS (p i, p i) (sd b i)
def farS (p : Nat → Int) (b : List (Int × Int)) (i : Nat) : Int := mx (p i - (sd b i).1) ((sd b i).2 - p i)
def betS (a b : List (Int × Int)) (i : Nat) : Int := gapS (sd a i) (sd b i)
def grtS (a b : List (Int × Int)) (i : Nat) : Int := mx (gapS ((sd a i).1, (sd a i).1) (sd b i)) (gapS ((sd a i).2, (sd a i).2) (sd b i))
theorem F_nearest' {n : Nat} (hn : n ≤ 10) {p : Nat → Int} {b : List (Int × Int)} (hb : b.length = n) (hp : ∀ i < n, (p i).natAbs < 4611686018427387904) (hs : ∀ s ∈ b, Sm s) (h : HP) : F_nearest [vec n p, boxD b] h = .ok (.int (sg n fun i => nearS p b i * nearS p b i)) h := by
  have pr : ∀ z : Int, pure_ h (.int z) h = .ok (.int z) h := fun z => pure_clean h (clean_int z)
  have bf := box_fun hb
  have lc : C_nearest_1 false [some (vec n p), some (boxD b), none, none] h = _ :=
    mLc_ty (h1 := h) (List.range n) (fun i => .tup [.int (p i), sideD (sd b i)]) (fun i => .int (nearS p b i * nearS p b i)) (by simp [vec, boxD, bf, zip_vec]) (by simp; omega)
      (fun i hi h' => ⟨[some (vec n p), some (boxD b), some (.int (p i)), some (sideD (sd b i))], by simp, by
        have hi' := List.mem_range.mp hi
        have g : ∀ h, F_gap [.tup [.int (p i), .int (p i)], sideD (sd b i)] h = .ok (.int (nearS p b i)) h := fun h => F_gap' (p i, p i) (sd b i) h
        have c := pow64 (gap_sm (s := (p i, p i)) ⟨hp i hi', hp i hi'⟩ (sd_sm hs (show i < b.length by omega)))
        have c' : CPowW (nearS p b i) 2 := c
        simp [g, c', pow2]⟩) fun i _ => clean_int _
  have k := ints_vec n fun i => nearS p b i * nearS p b i
  simp [F_nearest, lc, k, sg, pr]
theorem F_farthest' {n : Nat} (hn : n ≤ 10) {p : Nat → Int} {b : List (Int × Int)} (hb : b.length = n) (hp : ∀ i < n, (p i).natAbs < 4611686018427387904) (hs : ∀ s ∈ b, Sm s) (h : HP) : F_farthest [vec n p, boxD b] h = .ok (.int (sg n fun i => farS p b i * farS p b i)) h := by
  have pr : ∀ z : Int, pure_ h (.int z) h = .ok (.int z) h := fun z => pure_clean h (clean_int z)
  have bf := box_fun hb
  have lc : C_farthest_1 false [some (vec n p), some (boxD b), none, none, none] h = _ :=
    mLc_ty (h1 := h) (List.range n) (fun i => .tup [.int (p i), sideD (sd b i)]) (fun i => .int (farS p b i * farS p b i)) (by simp [vec, boxD, bf, zip_vec]) (by simp; omega)
      (fun i hi h' => ⟨[some (vec n p), some (boxD b), some (.int (p i)), some (.int (sd b i).1), some (.int (sd b i).2)], by simp [sideD], by
        have hi' := List.mem_range.mp hi
        have c : CPowW (farS p b i) 2 := pow64 (by
          have h1 := hp i hi'
          obtain ⟨h2, h3⟩ := sd_sm hs (show i < b.length by omega)
          unfold farS mx
          split <;> omega)
        have e : (if (sd b i).2 - p i > p i - (sd b i).1 then (sd b i).2 - p i else p i - (sd b i).1) = farS p b i := rfl
        simp only [gt_iff_lt] at e
        simp [e, c, pow2]⟩) fun i _ => clean_int _
  have k := ints_vec n fun i => farS p b i * farS p b i
  simp [F_farthest, lc, k, sg, pr]
theorem F_between' {n : Nat} (hn : n ≤ 10) {a b : List (Int × Int)} (ha : a.length = n) (hb : b.length = n) (hr : ∀ s ∈ a, Sm s) (hs : ∀ s ∈ b, Sm s) (h : HP) : F_between [boxD a, boxD b] h = .ok (.int (sg n fun i => betS a b i * betS a b i)) h := by
  have pr : ∀ z : Int, pure_ h (.int z) h = .ok (.int z) h := fun z => pure_clean h (clean_int z)
  have af := box_fun ha
  have bf := box_fun hb
  have lc : C_between_1 false [some (boxD a), some (boxD b), none, none] h = _ :=
    mLc_ty (h1 := h) (List.range n) (fun i => .tup [sideD (sd a i), sideD (sd b i)]) (fun i => .int (betS a b i * betS a b i)) (by simp [boxD, af, bf, zip_vec]) (by simp; omega)
      (fun i hi h' => ⟨[some (boxD a), some (boxD b), some (sideD (sd a i)), some (sideD (sd b i))], by simp, by
        have hi' := List.mem_range.mp hi
        have g : ∀ h, F_gap [sideD (sd a i), sideD (sd b i)] h = .ok (.int (betS a b i)) h := fun h => F_gap' (sd a i) (sd b i) h
        have c : CPowW (betS a b i) 2 := pow64 (gap_sm (sd_sm hr (show i < a.length by omega)) (sd_sm hs (show i < b.length by omega)))
        simp [g, c, pow2]⟩) fun i _ => clean_int _
  have k := ints_vec n fun i => betS a b i * betS a b i
  simp [F_between, lc, k, sg, pr]
theorem F_greatest' {n : Nat} (hn : n ≤ 10) {a b : List (Int × Int)} (ha : a.length = n) (hb : b.length = n) (hr : ∀ s ∈ a, Sm s) (hs : ∀ s ∈ b, Sm s) (h : HP) : F_greatest_from [boxD a, boxD b] h = .ok (.int (sg n fun i => grtS a b i * grtS a b i)) h := by
  have pr : ∀ z : Int, pure_ h (.int z) h = .ok (.int z) h := fun z => pure_clean h (clean_int z)
  have af := box_fun ha
  have bf := box_fun hb
  have lc : C_greatest_from_1 false [some (boxD a), some (boxD b), none, none, none] h = _ :=
    mLc_ty (h1 := h) (List.range n) (fun i => .tup [sideD (sd a i), sideD (sd b i)]) (fun i => .int (grtS a b i * grtS a b i)) (by simp [boxD, af, bf, zip_vec]) (by simp; omega)
      (fun i hi h' => ⟨[some (boxD a), some (boxD b), some (sideD (sd b i)), some (.int (sd a i).1), some (.int (sd a i).2)], by simp [sideD], by
        have hi' := List.mem_range.mp hi
        obtain ⟨h2, h3⟩ := sd_sm hr (show i < a.length by omega)
        have hb' := sd_sm hs (show i < b.length by omega)
        have g1 : ∀ h, F_gap [.tup [.int (sd a i).1, .int (sd a i).1], sideD (sd b i)] h = .ok (.int (gapS ((sd a i).1, (sd a i).1) (sd b i))) h := fun h => F_gap' ((sd a i).1, (sd a i).1) (sd b i) h
        have g2 : ∀ h, F_gap [.tup [.int (sd a i).2, .int (sd a i).2], sideD (sd b i)] h = .ok (.int (gapS ((sd a i).2, (sd a i).2) (sd b i))) h := fun h => F_gap' ((sd a i).2, (sd a i).2) (sd b i) h
        have k1 := gap_sm (s := ((sd a i).1, (sd a i).1)) ⟨h2, h2⟩ hb'
        have k2 := gap_sm (s := ((sd a i).2, (sd a i).2)) ⟨h3, h3⟩ hb'
        have c : CPowW (grtS a b i) 2 := pow64 (by
          unfold grtS
          generalize gapS ((sd a i).1, (sd a i).1) (sd b i) = u at *
          generalize gapS ((sd a i).2, (sd a i).2) (sd b i) = v at *
          unfold mx
          split <;> assumption)
        have e : (if gapS ((sd a i).2, (sd a i).2) (sd b i) > gapS ((sd a i).1, (sd a i).1) (sd b i) then gapS ((sd a i).2, (sd a i).2) (sd b i) else gapS ((sd a i).1, (sd a i).1) (sd b i)) = grtS a b i := rfl
        simp only [gt_iff_lt] at e
        simp [g1, g2, e, c, pow2]⟩) fun i _ => clean_int _
  have k := ints_vec n fun i => grtS a b i * grtS a b i
  simp [F_greatest_from, lc, k, sg, pr]
end Lib
namespace Lib
open PySem PySem.Spec PyProof.Rows L2 Ev
/-! corners of a box -/
def lstI (c : List Int) : D := .lst (c.map D.int)
theorem clean_lstI (c : List Int) : clean (lstI c) := clean_lst fun d hd => by
  obtain ⟨i, _, rfl⟩ := List.mem_map.mp hd
  exact clean_int i
def two (s : Int × Int) (c : List Int) : List (List Int) := [c ++ [s.1], c ++ [s.2]]
def cstep (cs : List (List Int)) (s : Int × Int) : List (List Int) := cs.flatMap (two s)
def corn (b : List (Int × Int)) : List (List Int) := b.foldl cstep [[]]
theorem pure_ref {h x : HP} {n : Nat} {ds : List D} (hn : h.length ≤ n) (e : (h ++ x)[n]? = some (.lst ds)) (c : ∀ d ∈ ds, clean d) : pure_ h (.ref n) (h ++ x) = .ok (.lst ds) h := by
  unfold pure_
  rw [if_pos (by simp)]
  have : rlt.rlts h.length ds = true := by
    rw [rlts_eq, List.all_eq_true]
    exact fun d hd => c d hd _
  have n' : ¬ n < h.length := by omega
  simp [fz, rlt, this, e, n']
theorem corner_turn (s : Int × Int) {c : List Int} (hc : c.length ≤ 100) (z0 z1 : Option D) (h : HP) {acc : List D} (ha : acc.length ≤ 10000) :
    B__law_corners_1 [z0, z1, some (sideD s), some (.ref h.length), some (lstI c)] (h ++ [.lst acc]) =
      .nx [z0, z1, some (sideD s), some (.ref h.length), some (lstI c)] (h ++ [.lst (acc ++ (two s c).map lstI)]) := by
  have s1 : acc.length < sizeLine := by rw [sizeLine_eq]; omega
  have ap := fun y => appL_last (y := y) (ds := acc) h s1
  have ap2 := fun x y => appL_last (y := y) (ds := acc ++ [x]) h (by rw [sizeLine_eq]; simp; omega)
  have l1 : c.length + 1 ≤ 16000000 := by omega
  simp [sideD, lstI, ap, ap2, l1, two]
theorem corners_inner (s : Int × Int) {cs : List (List Int)} (hl : cs.length ≤ 100) (hc : ∀ c ∈ cs, c.length ≤ 100) (z0 z1 : Option D) (x : Option D) (h : HP) :
    ∃ y, forE (gNm 4) B__law_corners_1 [] (cs.map lstI) [z0, z1, some (sideD s), some (.ref h.length), x] (h ++ [.lst []]) =
      .nx [z0, z1, some (sideD s), some (.ref h.length), y] (h ++ [.lst ((cstep cs s).map lstI)]) := by
  have ln : ∀ i, ((cs.take i).flatMap (two s)).length ≤ 200 := fun i => by
    have : ∀ l : List (List Int), (l.flatMap (two s)).length = 2 * l.length := fun l => by
      induction l with
      | nil => rfl
      | cons a l ih => simp only [List.flatMap_cons, List.length_append, ih, List.length_cons, two, List.length_nil]; omega
    rw [this]
    simp
    omega
  obtain ⟨_, h1, e, ⟨y, rfl⟩, hh⟩ := for_ty (asg := gNm 4) (body := B__law_corners_1) (gd := [])
    (fun i env h' => (∃ y, env = [z0, z1, some (sideD s), some (.ref h.length), y]) ∧ h' = h ++ [.lst (((cs.take i).flatMap (two s)).map lstI)]) cs lstI (fun _ _ _ _ => by simp)
    (fun i env h' hi hI => by
      obtain ⟨⟨y, rfl⟩, rfl⟩ := hI
      refine ⟨_, rfl, _, _, .inl (corner_turn s (hc _ (List.getElem_mem hi)) z0 z1 h (by rw [List.length_map]; have := ln i; omega)), ⟨some (lstI cs[i]), rfl⟩, ?_⟩
      rw [midE i cs hi, List.flatMap_append, List.map_append]
      simp)
    (env := [z0, z1, some (sideD s), some (.ref h.length), x]) (h := h ++ [.lst []]) ⟨⟨x, rfl⟩, by simp⟩
  rw [hh, List.take_length] at e
  exact ⟨y, e⟩
def Has (d : D) (h : HP) (cs : List (List Int)) : Prop := d = .lst (cs.map lstI) ∨ ∃ n, d = .ref n ∧ h[n]? = some (.lst (cs.map lstI))
theorem corners_outer (s : Int × Int) {cs : List (List Int)} (hl : cs.length ≤ 100) (hc : ∀ c ∈ cs, c.length ≤ 100) {d : D} {h : HP} (hd : Has d h cs) (z0 x3 x4 : Option D) :
    ∃ y4, B__law_corners_2 [z0, some d, some (sideD s), x3, x4] h = .nx [z0, some (.ref h.length), some (sideD s), some (.ref h.length), y4] (h ++ [.lst ((cstep cs s).map lstI)]) := by
  obtain ⟨y, L⟩ := corners_inner s hl hc z0 (some d) x4 h
  have l1 : (cs.map lstI).length ≤ sizeLine := by rw [List.length_map, sizeLine_eq]; omega
  rcases hd with rfl | ⟨n, rfl, e⟩
  · generalize cs.map lstI = xs at *
    simp [l1, L]
  · have hn := (List.getElem?_eq_some_iff.mp e).1
    have e2 : (h ++ [O.lst []])[n]? = some (.lst (cs.map lstI)) := by rw [List.getElem?_append_left hn]; exact e
    generalize cs.map lstI = xs at *
    simp [l1, L, e2]
theorem cstep_len (cs : List (List Int)) (s : Int × Int) : (cstep cs s).length = 2 * cs.length := by
  unfold cstep
  induction cs with
  | nil => rfl
  | cons a l ih => simp only [List.flatMap_cons, List.length_append, ih, List.length_cons, two, List.length_nil]; omega
theorem corn_take {b : List (Int × Int)} {i : Nat} (hi : i < b.length) : corn (b.take (i + 1)) = cstep (corn (b.take i)) b[i] := by
  unfold corn
  rw [midE i b hi, List.foldl_append]
  rfl
theorem corn_len : ∀ (b : List (Int × Int)), (corn b).length = 2 ^ b.length := fun b => by
  have key : ∀ (b : List (Int × Int)) (cs : List (List Int)), (b.foldl cstep cs).length = cs.length * 2 ^ b.length := fun b => by
    induction b with
    | nil => intro cs; simp
    | cons s b ih =>
      intro cs
      rw [List.foldl_cons, ih, cstep_len, List.length_cons, Nat.pow_succ, Nat.mul_comm 2, Nat.mul_assoc, Nat.mul_comm 2]
  have := key b [[]]
  unfold corn
  rw [this]
  simp
theorem corn_each : ∀ (b : List (Int × Int)), ∀ c ∈ corn b, c.length = b.length := fun b => by
  have key : ∀ (b : List (Int × Int)) (cs : List (List Int)) (k : Nat), (∀ c ∈ cs, c.length = k) → ∀ c ∈ b.foldl cstep cs, c.length = k + b.length := fun b => by
    induction b with
    | nil => intro cs k h c hc; simpa using h c hc
    | cons s b ih =>
      intro cs k h c hc
      rw [List.foldl_cons] at hc
      have := ih (cstep cs s) (k + 1) (fun c' hc' => by
        unfold cstep at hc'
        obtain ⟨c0, h0, h1⟩ := List.mem_flatMap.mp hc'
        have := h c0 h0
        simp only [two, List.mem_cons, List.not_mem_nil, or_false] at h1
        rcases h1 with rfl | rfl <;> simp [this]) c hc
      rw [this, List.length_cons]
      omega
  intro c hc
  have := key b [[]] 0 (by simp) c hc
  omega
theorem F_corners' {b : List (Int × Int)} (hb : b.length ≤ 4) (h : HP) : F__law_corners [boxD b] h = .ok (.lst ((corn b).map lstI)) h := by
  have sm : ∀ i, (b.take i).length ≤ 4 := fun i => by simp; omega
  have pw : ∀ i, (corn (b.take i)).length ≤ 16 := fun i => by
    rw [corn_len]
    exact Nat.pow_le_pow_right (by decide) (sm i)
  obtain ⟨_, h1, e, ⟨d, x2, x3, x4, rfl, y, rfl, hd, hr⟩⟩ := for_ty (asg := gNm 2) (body := B__law_corners_2) (gd := [])
    (fun i env h' => ∃ d x2 x3 x4, env = [some (boxD b), some d, x2, x3, x4] ∧ ∃ y, h' = h ++ y ∧ Has d (h ++ y) (corn (b.take i)) ∧ (∀ n, d = .ref n → h.length ≤ n)) b sideD (fun _ _ _ _ => by simp)
    (fun i env h' hi hI => by
      obtain ⟨d, x2, x3, x4, rfl, y, rfl, hd, hr⟩ := hI
      obtain ⟨y4, e⟩ := corners_outer b[i] (by have := pw i; omega) (fun c hc => by rw [corn_each _ c hc]; have := sm i; omega) hd (some (boxD b)) x3 x4
      refine ⟨_, rfl, _, _, .inl e, _, _, _, _, rfl, y ++ [.lst ((cstep (corn (b.take i)) b[i]).map lstI)], by simp, .inr ⟨_, rfl, ?_⟩, fun n en => ?_⟩
      · rw [corn_take hi]
        simp
      · injection en with en
        rw [← en]
        simp)
    (env := [some (boxD b), some (.lst [lstI []]), none, none, none]) (h := h) ⟨_, none, none, none, rfl, [], by simp, .inl (by simp [corn]), fun n en => by cases en⟩
  rw [List.take_length] at hd
  have cl : ∀ d ∈ (corn b).map lstI, clean d := fun d hd => by
    obtain ⟨c, _, rfl⟩ := List.mem_map.mp hd
    exact clean_lstI c
  have l0 : lstI [] = .lst [] := rfl
  rw [l0] at e
  rcases hd with rfl | ⟨n, rfl, en⟩
  · have p := fun y => pure_cleanJ h y (clean_lst cl)
    generalize (corn b).map lstI = xs at *
    unfold boxD at *
    simp [F__law_corners, e, p]
  · have p := pure_ref (hr n rfl) en cl
    generalize (corn b).map lstI = xs at *
    unfold boxD at *
    simp [F__law_corners, e, p]
/-! a list of sides written place by place -/
def updB (U : Nat → Int × Int → Int × Int) (o : List (Int × Int)) (n : Nat) : List (Int × Int) := (List.range o.length).map fun i => if i < n then U i (sd o i) else sd o i
theorem updB_len (U : Nat → Int × Int → Int × Int) (o : List (Int × Int)) (n : Nat) : (updB U o n).length = o.length := by simp [updB]
theorem updB_zero (U : Nat → Int × Int → Int × Int) (o : List (Int × Int)) : updB U o 0 = o := by
  apply List.ext_getElem
  · simp [updB]
  · intro i h1 h2
    simp [updB, sd_get h2]
theorem updB_get {U : Nat → Int × Int → Int × Int} {o : List (Int × Int)} {n i : Nat} (hi : i < o.length) : sd (updB U o n) i = if i < n then U i (sd o i) else sd o i := by
  rw [sd_get (by rw [updB_len]; exact hi)]
  simp [updB]
theorem updB_succ {U : Nat → Int × Int → Int × Int} {o : List (Int × Int)} {n : Nat} (hn : n < o.length) : (updB U o n).set n (U n (sd o n)) = updB U o (n + 1) := by
  apply List.ext_getElem
  · simp [updB]
  · intro i h1 h2
    rw [List.getElem_set]
    have hi : i < o.length := by simpa [updB] using h2
    by_cases e : n = i
    · subst e
      simp [updB]
    · rw [if_neg e]
      by_cases q : i < n
      · have : i < n + 1 := by omega
        simp [updB, q, this]
      · have : ¬ i < n + 1 := by omega
        simp [updB, q, this]
theorem updB_same {U : Nat → Int × Int → Int × Int} {o : List (Int × Int)} {n : Nat} (hn : n < o.length) (e : U n (sd o n) = sd o n) : updB U o (n + 1) = updB U o n := by
  rw [← updB_succ hn, e]
  apply List.ext_getElem
  · simp
  · intro i h1 h2
    rw [List.getElem_set]
    split
    · rename_i q
      subst q
      simp [updB]
    · rfl
/-! the greatest over the corners -/
def gsq (p : Int) (o : Int × Int) : Int := gapS (p, p) o * gapS (p, p) o
def cf (o : List (Int × Int)) (c : List Int) (i : Nat) : Int := gsq (c.getD i 0) (sd o i)
theorem sq_le_sq {x y : Int} (hx : 0 ≤ x) (h : x ≤ y) : x * x ≤ y * y := Int.mul_le_mul h h hx (by omega)
theorem corn_max (b o : List (Int × Int)) : ∀ j ≤ b.length, (∀ c ∈ corn (b.take j), sg j (cf o c) ≤ sg j fun i => grtS b o i * grtS b o i) ∧ ∃ c ∈ corn (b.take j), sg j (cf o c) = sg j fun i => grtS b o i * grtS b o i
  | 0, _ => by simp [sg_zero, corn]
  | j + 1, hj => by
    obtain ⟨h1, c0, hc0, h2⟩ := corn_max b o j (by omega)
    have hj' : j < b.length := by omega
    rw [corn_take hj']
    have len : ∀ c ∈ corn (b.take j), c.length = j := fun c hc => by
      rw [corn_each _ c hc, List.length_take]
      omega
    have app : ∀ c ∈ corn (b.take j), ∀ x, sg (j + 1) (cf o (c ++ [x])) = sg j (cf o c) + gsq x (sd o j) := fun c hc x => by
      rw [sg_succ]
      have l := len c hc
      congr 1
      · refine sg_congr fun i hi => ?_
        unfold cf
        congr 1
        rw [List.getD_eq_getElem?_getD, List.getD_eq_getElem?_getD, List.getElem?_append_left (by omega)]
      · unfold cf
        congr 1
        rw [List.getD_eq_getElem?_getD, List.getElem?_append_right (by omega), l]
        simp
    have sj := sd_get hj'
    have q1 : gsq (b[j]).1 (sd o j) ≤ grtS b o j * grtS b o j := by
      unfold gsq grtS
      rw [sj]
      exact sq_le_sq (gap_nn _ _) (le_mx1 _ _)
    have q2 : gsq (b[j]).2 (sd o j) ≤ grtS b o j * grtS b o j := by
      unfold gsq grtS
      rw [sj]
      exact sq_le_sq (gap_nn _ _) (le_mx2 _ _)
    refine ⟨fun c hc => ?_, ?_⟩
    · unfold cstep at hc
      obtain ⟨c1, hc1, hx⟩ := List.mem_flatMap.mp hc
      have := h1 c1 hc1
      rw [sg_succ j fun i => grtS b o i * grtS b o i]
      simp only [two, List.mem_cons, List.not_mem_nil, or_false] at hx
      rcases hx with rfl | rfl
      · rw [app c1 hc1]; omega
      · rw [app c1 hc1]; omega
    · rw [sg_succ j fun i => grtS b o i * grtS b o i]
      by_cases e : gapS ((b[j]).2, (b[j]).2) (sd o j) > gapS ((b[j]).1, (b[j]).1) (sd o j)
      · refine ⟨c0 ++ [(b[j]).2], List.mem_flatMap.mpr ⟨c0, hc0, by simp [two]⟩, ?_⟩
        rw [app c0 hc0, h2]
        unfold gsq grtS mx
        rw [sj, if_pos e]
      · refine ⟨c0 ++ [(b[j]).1], List.mem_flatMap.mpr ⟨c0, hc0, by simp [two]⟩, ?_⟩
        rw [app c0 hc0, h2]
        unfold gsq grtS mx
        rw [sj, if_neg e]
theorem corn_maxL {b o : List (Int × Int)} {n : Nat} (hn : b.length = n) : maxL ((corn b).map fun c => sg n (cf o c)) = sg n fun i => grtS b o i * grtS b o i := by
  obtain ⟨h1, c0, h0, h2⟩ := corn_max b o b.length (Nat.le_refl _)
  rw [List.take_length] at h1 h0
  rw [hn] at h1 h2
  have m := maxL_mem (ns := (corn b).map fun c => sg n (cf o c)) (by
    intro z
    have := List.map_eq_nil_iff.mp z
    rw [this] at h0
    cases h0)
  apply Int.le_antisymm
  · obtain ⟨c, hc, e⟩ := List.mem_map.mp m.1
    rw [← e]
    exact h1 c hc
  · rw [← h2]
    exact m.2 _ (List.mem_map.mpr ⟨c0, h0, rfl⟩)
theorem corn_sm {b : List (Int × Int)} (hs : ∀ s ∈ b, Sm s) : ∀ c ∈ corn b, ∀ x ∈ c, x.natAbs < 4611686018427387904 := by
  have key : ∀ (b : List (Int × Int)) (cs : List (List Int)), (∀ s ∈ b, Sm s) → (∀ c ∈ cs, ∀ x ∈ c, x.natAbs < 4611686018427387904) → ∀ c ∈ b.foldl cstep cs, ∀ x ∈ c, x.natAbs < 4611686018427387904 := fun b => by
    induction b with
    | nil => intro cs _ h; exact h
    | cons s b ih =>
      intro cs hs h
      rw [List.foldl_cons]
      refine ih _ (fun t ht => hs t (List.mem_cons_of_mem _ ht)) fun c hc x hx => ?_
      unfold cstep at hc
      obtain ⟨c1, hc1, hy⟩ := List.mem_flatMap.mp hc
      have k := hs s (List.mem_cons_self ..)
      simp only [two, List.mem_cons, List.not_mem_nil, or_false] at hy
      rcases hy with rfl | rfl
      · rcases List.mem_append.mp hx with hx | hx
        · exact h c1 hc1 x hx
        · simp only [List.mem_cons, List.not_mem_nil, or_false] at hx
          rw [hx]
          exact k.1
      · rcases List.mem_append.mp hx with hx | hx
        · exact h c1 hc1 x hx
        · simp only [List.mem_cons, List.not_mem_nil, or_false] at hx
          rw [hx]
          exact k.2
  exact key b [[]] hs (by simp)
end Lib
namespace Lib
open PySem PySem.Spec PyProof.Rows L2 Ev
/-! the law's own root -/
theorem bits_lt {N : Int} (h : 0 ≤ N) : N < ((2 ^ Builtin.Int.intBits N : Nat) : Int) := by
  unfold Builtin.Int.intBits
  split
  · rename_i c
    have : N = 0 := by simpa using c
    rw [this]
    decide
  · have := Nat.lt_log2_self (n := N.natAbs)
    omega
theorem root_uniq {r s N : Int} (hr : 0 ≤ r) (hs : 0 ≤ s) (h1 : r * r ≤ N) (h2 : N < (r + 1) * (r + 1)) (k1 : s * s ≤ N) (k2 : N < (s + 1) * (s + 1)) : r = s := by
  rcases Int.lt_trichotomy r s with c | c | c
  · have := sq_le_sq (x := r + 1) (y := s) (by omega) (by omega)
    omega
  · exact c
  · have := sq_le_sq (x := s + 1) (y := r) (by omega) (by omega)
    omega
theorem root_turn {N r : Int} {k : Nat} (hk : k ≤ 10000) (hz : sz N < 6000) (hr : 0 ≤ r) (hrN : r * r ≤ N) (x3 : Option D) (h : HP) :
    ∃ y3, B__law_root_1 [some (.int N), some (.int r), some (.int k), x3] h = .nx [some (.int N), some (.int (if (r + ((2 ^ k : Nat) : Int)) * (r + ((2 ^ k : Nat) : Int)) ≤ N then r + ((2 ^ k : Nat) : Int) else r)), some (.int k), y3] h := by
  have s1 : sz r ≤ sz N := sz_mono (by
    have : r ≤ r * r := by
      by_cases c : r = 0
      · subst c; decide
      · have : 1 * r ≤ r * r := Int.mul_le_mul_of_nonneg_right (by omega) hr
        omega
    omega)
  have s2 : sz ((2 ^ k : Nat) : Int) ≤ k := by
    unfold sz
    rw [Int.natAbs_natCast, Nat.log2_two_pow]
    exact Nat.le_refl _
  have s3 := sz_add r ((2 ^ k : Nat) : Int)
  have m : CMulE (r + ((2 ^ k : Nat) : Int)) (r + ((2 ^ k : Nat) : Int)) := mulX 20000 20000 (by omega) (by omega) (by decide)
  have e : (1 : Int) * 2 ^ k = ((2 ^ k : Nat) : Int) := by simp
  have k6 : (k : Int) ≤ 1000000 := by omega
  have lt1 : (1 : Int).natAbs < 18446744073709551616 := by decide
  by_cases c : (r + ((2 ^ k : Nat) : Int)) * (r + ((2 ^ k : Nat) : Int)) ≤ N
  · rw [if_pos c]
    generalize ((2 ^ k : Nat) : Int) = P at *
    simp [k6, lt1, e, m, c]
  · rw [if_neg c]
    generalize ((2 ^ k : Nat) : Int) = P at *
    simp [k6, lt1, e, m, c]
theorem F_law_root' {N : Int} (h0 : 0 ≤ N) (hz : sz N < 6000) (h : HP) : F__law_root [.int N] h = .ok (.int (rd N)) h := by
  obtain ⟨L, eL⟩ : ∃ L : Nat, Builtin.Int.intBits N / 2 + 1 = L := ⟨_, rfl⟩
  have bl : Builtin.Int.intBits N ≤ 6000 := by
    unfold Builtin.Int.intBits
    split
    · omega
    · unfold sz at hz; omega
  have eLi : ((Builtin.Int.intBits N : Nat) : Int) / 2 + 1 = (L : Int) := by omega
  have ub : N < ((2 ^ (L + 1) : Nat) : Int) * ((2 ^ (L + 1) : Nat) : Int) := by
    have h1 := bits_lt h0
    have h2 : (2 : Nat) ^ Builtin.Int.intBits N ≤ 2 ^ (L + 1) * 2 ^ (L + 1) := by
      rw [← Nat.pow_add]
      exact Nat.pow_le_pow_right (by decide) (by omega)
    have h3 : ((2 ^ Builtin.Int.intBits N : Nat) : Int) ≤ ((2 ^ (L + 1) * 2 ^ (L + 1) : Nat) : Int) := by exact_mod_cast h2
    rw [Int.natCast_mul] at h3
    omega
  obtain ⟨_, h1, e, ⟨r, x2, x3, rfl, hr, r1, r2⟩, hh⟩ := forE_inv (gd := []) (asg := gNm 2) (body := B__law_root_1) (items := rngN (L : Int) (L + 1))
    (fun i env h' => (∃ (r : Int) (x2 x3 : Option D), env = [some (.int N), some (.int r), x2, x3] ∧ 0 ≤ r ∧ r * r ≤ N ∧ N < (r + ((2 ^ (L + 1 - i) : Nat) : Int)) * (r + ((2 ^ (L + 1 - i) : Nat) : Int))) ∧ h' = h) (fun _ _ _ _ => by simp)
    (fun i env h' hi hI => by
      obtain ⟨⟨r, x2, x3, rfl, hr, r1, r2⟩, rfl⟩ := hI
      rw [rngN_len] at hi
      obtain ⟨y3, e⟩ := root_turn (N := N) (r := r) (k := L - i) (by omega) hz hr r1 x3 h'
      have it : (rngN (L : Int) (L + 1))[i]'(by rw [rngN_len]; exact hi) = .int ((L - i : Nat) : Int) := by
        simp only [rngN, List.getElem_map, List.getElem_range]
        congr 1
        omega
      refine ⟨[some (.int N), some (.int r), some (.int ((L - i : Nat) : Int)), x3], by rw [it]; rfl, _, _, .inl e, ⟨_, _, _, rfl, ?_, ?_, ?_⟩, rfl⟩
      · have hp := Int.natCast_nonneg (2 ^ (L - i))
        generalize ((2 ^ (L - i) : Nat) : Int) = P at *
        split <;> omega
      · split
        · assumption
        · exact r1
      · have pw : ((2 ^ (L + 1 - i) : Nat) : Int) = ((2 ^ (L - i) : Nat) : Int) + ((2 ^ (L - i) : Nat) : Int) := by
          rw [show L + 1 - i = (L - i) + 1 by omega, Nat.pow_succ]
          omega
        rw [pw] at r2
        rw [show L + 1 - (i + 1) = L - i by omega]
        split
        · rename_i c
          rw [← Int.add_assoc] at r2
          exact r2
        · rename_i c
          omega)
    (env := [some (.int N), some (.int 0), none, none]) (h := h) ⟨⟨0, none, none, rfl, by omega, by omega, by rw [Int.zero_add]; exact ub⟩, rfl⟩
  rw [rngN_len, Nat.sub_self, Nat.pow_zero] at r2
  rw [hh] at e
  obtain ⟨d0, d1, d2⟩ := rd_spec h0
  have er : r = rd N := root_uniq hr d0 r1 r2 d1 d2
  subst er
  have rg : Rg (L : Int) := rg_nat (by omega)
  have rgm : Rg (-1) := rg_of (by omega) (by omega)
  have p : ∀ z : Int, pure_ h (.int z) h = .ok (.int z) h := fun z => pure_clean h (clean_int z)
  have en : ((L : Int) - -1).toNat = L + 1 := by omega
  simp [F__law_root, lg, eLi, rg, rgm, en, e, p]
theorem F_law_root_up' {N : Int} (h0 : 0 ≤ N) (hz : sz N < 6000) (h : HP) : F__law_root_up [.int N] h = .ok (.int (ru N)) h := by
  have p : ∀ z : Int, pure_ h (.int z) h = .ok (.int z) h := fun z => pure_clean h (clean_int z)
  have f := fun h => F_law_root' h0 hz h
  have s := sz_rd h0
  have m : CMulE (rd N) (rd N) := mulX 6000 6000 (by omega) (by omega) (by decide)
  by_cases c : rd N * rd N < N
  · simp [F__law_root_up, f, m, c, ru, p]
  · simp [F__law_root_up, f, m, c, ru, p]
/-! the greatest over the corners, for any values by place -/
theorem corn_maxG (b : List (Int × Int)) (g : Nat → Int → Int) (G : Nat → Int) (hG : ∀ i < b.length, g i (sd b i).1 ≤ G i ∧ g i (sd b i).2 ≤ G i ∧ (G i = g i (sd b i).1 ∨ G i = g i (sd b i).2)) :
    ∀ j ≤ b.length, (∀ c ∈ corn (b.take j), sg j (fun i => g i (c.getD i 0)) ≤ sg j G) ∧ ∃ c ∈ corn (b.take j), sg j (fun i => g i (c.getD i 0)) = sg j G
  | 0, _ => by simp [sg_zero, corn]
  | j + 1, hj => by
    obtain ⟨h1, c0, hc0, h2⟩ := corn_maxG b g G hG j (by omega)
    have hj' : j < b.length := by omega
    rw [corn_take hj']
    have len : ∀ c ∈ corn (b.take j), c.length = j := fun c hc => by
      rw [corn_each _ c hc, List.length_take]
      omega
    have app : ∀ c ∈ corn (b.take j), ∀ x, sg (j + 1) (fun i => g i ((c ++ [x]).getD i 0)) = sg j (fun i => g i (c.getD i 0)) + g j x := fun c hc x => by
      rw [sg_succ]
      have l := len c hc
      congr 1
      · refine sg_congr fun i hi => ?_
        congr 1
        rw [List.getD_eq_getElem?_getD, List.getD_eq_getElem?_getD, List.getElem?_append_left (by omega)]
      · congr 1
        rw [List.getD_eq_getElem?_getD, List.getElem?_append_right (by omega), l]
        simp
    have sj := sd_get hj'
    obtain ⟨q1, q2, q3⟩ := hG j hj'
    rw [sj] at q1 q2 q3
    refine ⟨fun c hc => ?_, ?_⟩
    · unfold cstep at hc
      obtain ⟨c1, hc1, hx⟩ := List.mem_flatMap.mp hc
      have := h1 c1 hc1
      rw [sg_succ j G]
      simp only [two, List.mem_cons, List.not_mem_nil, or_false] at hx
      rcases hx with rfl | rfl
      · rw [app c1 hc1]; omega
      · rw [app c1 hc1]; omega
    · rw [sg_succ j G]
      rcases q3 with q3 | q3
      · refine ⟨c0 ++ [(b[j]).1], List.mem_flatMap.mpr ⟨c0, hc0, by simp [two]⟩, ?_⟩
        rw [app c0 hc0, h2, q3]
      · refine ⟨c0 ++ [(b[j]).2], List.mem_flatMap.mpr ⟨c0, hc0, by simp [two]⟩, ?_⟩
        rw [app c0 hc0, h2, q3]
theorem corn_maxGL {b : List (Int × Int)} {n : Nat} (hn : b.length = n) (g : Nat → Int → Int) (G : Nat → Int) (hG : ∀ i < b.length, g i (sd b i).1 ≤ G i ∧ g i (sd b i).2 ≤ G i ∧ (G i = g i (sd b i).1 ∨ G i = g i (sd b i).2)) :
    maxL ((corn b).map fun c => sg n fun i => g i (c.getD i 0)) = sg n G := by
  obtain ⟨h1, c0, h0, h2⟩ := corn_maxG b g G hG b.length (Nat.le_refl _)
  rw [List.take_length] at h1 h0
  rw [hn] at h1 h2
  have m := maxL_mem (ns := (corn b).map fun c => sg n fun i => g i (c.getD i 0)) (by
    intro z
    have := List.map_eq_nil_iff.mp z
    rw [this] at h0
    cases h0)
  apply Int.le_antisymm
  · obtain ⟨c, hc, e⟩ := List.mem_map.mp m.1
    rw [← e]
    exact h1 c hc
  · rw [← h2]
    exact m.2 _ (List.mem_map.mpr ⟨c0, h0, rfl⟩)
theorem sq_nn (x : Int) : 0 ≤ x * x := by
  by_cases c : 0 ≤ x
  · exact Int.mul_nonneg c c
  · exact Int.le_of_lt (Int.mul_pos_of_neg_of_neg (by omega) (by omega))
theorem sg_sq_sz {n : Nat} (hn : n ≤ 10) {f : Nat → Int} (hf : ∀ i < n, (f i).natAbs < 18446744073709551616) : 0 ≤ (sg n fun i => f i * f i) ∧ sz (sg n fun i => f i * f i) < 140 := ⟨sg_nn fun i _ => sq_nn _, sz140 (dot_bd hn hf hf)⟩
theorem near_sm {n : Nat} {p : Nat → Int} {b : List (Int × Int)} (hb : b.length = n) (hp : ∀ i < n, (p i).natAbs < 4611686018427387904) (hs : ∀ s ∈ b, Sm s) : ∀ i < n, (nearS p b i).natAbs < 18446744073709551616 := fun i hi =>
  gap_sm (s := (p i, p i)) ⟨hp i hi, hp i hi⟩ (sd_sm hs (by omega))
theorem far_sm {n : Nat} {p : Nat → Int} {b : List (Int × Int)} (hb : b.length = n) (hp : ∀ i < n, (p i).natAbs < 4611686018427387904) (hs : ∀ s ∈ b, Sm s) : ∀ i < n, (farS p b i).natAbs < 18446744073709551616 := fun i hi => by
  have h1 := hp i hi
  obtain ⟨h2, h3⟩ := sd_sm hs (show i < b.length by omega)
  unfold farS mx
  split <;> omega
theorem F_distances' {n : Nat} (hn : n ≤ 10) {p : Nat → Int} {b : List (Int × Int)} (hb : b.length = n) (hp : ∀ i < n, (p i).natAbs < 4611686018427387904) (hs : ∀ s ∈ b, Sm s) (h : HP) :
    F_distances [vec n p, boxD b] h = .ok (.tup [.int (rd (sg n fun i => nearS p b i * nearS p b i)), .int (ru (sg n fun i => farS p b i * farS p b i))]) h := by
  have pr : ∀ y z : Int, pure_ h (.tup [.int y, .int z]) h = .ok (.tup [.int y, .int z]) h := fun y z => pure_clean h (clean_tup (by simp [clean_int]))
  have f1 := fun h => F_nearest' hn hb hp hs h
  have f2 := fun h => F_farthest' hn hb hp hs h
  obtain ⟨a1, a2⟩ := sg_sq_sz hn (near_sm hb hp hs)
  obtain ⟨b1, b2⟩ := sg_sq_sz hn (far_sm hb hp hs)
  have f3 := fun h => F_root_down' a1 (by omega) h
  have f4 := fun h => F_root_up' b1 (by omega) h
  simp [F_distances, f1, f2, f3, f4, pr]
end Lib
namespace Lib
open PySem PySem.Spec PyProof.Rows L2 Ev
/-! settings -/
theorem clean_ins {c : Nat} {fs : List (Str × D)} (h : ∀ p ∈ fs, clean p.2) : clean (.ins c fs) := fun n => by
  simp only [rlt]
  induction fs with
  | nil => rfl
  | cons p fs ih =>
    simp only [rlt.rltf, Bool.and_eq_true]
    exact ⟨h p List.mem_cons_self n, ih fun q hq => h q (List.mem_cons_of_mem _ hq)⟩
theorem pure_ins {h : HP} {c : Nat} {fs : List (Str × D)} (k : ∀ p ∈ fs, clean p.2) : pure_ h (.ref h.length) (h ++ [.ins c fs]) = .ok (.ins c fs) h := by
  unfold pure_
  rw [if_pos (by simp)]
  have := clean_ins (c := c) k h.length
  simp only [rlt] at this
  simp [fz, rlt, this]
structure SetV where
  d : Int
  s : Int
  r : Int
  p : Int
def SetV.ok (S : SetV) : Prop := 2 ≤ S.d ∧ S.d ≤ 3 ∧ 0 ≤ S.s ∧ S.s ≤ 1000000000000 ∧ 0 ≤ S.r ∧ S.r ≤ 1000000000000 ∧ 1 ≤ S.p ∧ S.p ≤ 1000000000000
@[simp] def setF (S : SetV) : List (Str × D) := [("dims", .int S.d), ("speed", .int S.s), ("drift", .int S.r), ("per", .int S.p)]
def setD (S : SetV) : D := .ins 0 (setF S)
@[simp] theorem asI_set (S : SetV) (h : HP) : asI h (setD S) = some (0, setF S) := rfl
theorem clean_set (S : SetV) : clean (setD S) := clean_ins (by simp [clean_int])
def wIn (lo hi x : Int) : Bool := decide (lo ≤ x) && decide (x ≤ hi)
theorem F_allw (xs : List Int) (lo hi : Int) (hz : xs.length ≤ 1000) (h : HP) : F_all_within [.tup (xs.map D.int), .int lo, .int hi] h = .ok (.bl ((xs.map (wIn lo hi)).all id)) h := by
  have lc : C_all_within_1 false [some (.tup (xs.map D.int)), some (.int lo), some (.int hi), none] h = _ :=
    mLc_ty (h1 := h) xs D.int (fun x => .bl (wIn lo hi x)) (by simp) (by omega) (fun i hi' h' => ⟨[some (.tup (xs.map D.int)), some (.int lo), some (.int hi), some (.int i)], by simp, by
      by_cases q : lo ≤ i <;> simp [q, wIn]⟩) fun i _ => clean_bl _
  have pb : ∀ b, pure_ h (.bl b) h = .ok (.bl b) h := fun b => pure_clean h (clean_bl b)
  have e : (xs.map fun x => D.bl (wIn lo hi x)) = (xs.map (wIn lo hi)).map D.bl := by simp
  rw [e] at lc
  have k := blsD_map (xs.map (wIn lo hi))
  generalize (xs.map (wIn lo hi)).map D.bl = ys at *
  generalize xs.map D.int = zs at *
  simp [F_all_within, lc, k, pb]
theorem F_allwT {xs : List Int} {lo hi : Int} (hz : xs.length ≤ 1000) (k : ∀ x ∈ xs, lo ≤ x ∧ x ≤ hi) (h : HP) : F_all_within [.tup (xs.map D.int), .int lo, .int hi] h = .ok (.bl true) h := by
  rw [F_allw xs lo hi hz h]
  congr 2
  rw [List.all_eq_true]
  intro b hb
  obtain ⟨x, hx, rfl⟩ := List.mem_map.mp hb
  have := k x hx
  simp [wIn, this]
theorem F_set_init {S : SetV} (k : S.ok) (h : HP) : F_Setting__init__ [.ref h.length, .int S.d, .int S.s, .int S.r, .int S.p] (h ++ [.ins 0 []]) = .ok .non (h ++ [.ins 0 [("dims", .int S.d), ("speed", .int S.s), ("drift", .int S.r), ("per", .int S.p)]]) := by
  obtain ⟨k1, k2, k3, k4, k5, k6, k7, k8⟩ := k
  have a : ∀ h, F_all_within [.tup [.int S.s, .int S.r], .int 0, .int 1000000000000] h = .ok (.bl true) h := fun h => F_allwT (xs := [S.s, S.r]) (by simp) (by simp [k3, k4, k5, k6]) h
  simp [F_Setting__init__, k1, k2, a, k7, k8]
theorem mk_set {S : SetV} (k : S.ok) (h : HP) : mkR h (F_Setting__init__ [.ref h.length, .int S.d, .int S.s, .int S.r, .int S.p] (h ++ [.ins 0 []])) = .ok (setD S) h := by
  rw [F_set_init k h]
  exact pure_ins (by simp [clean_int])
def mkSet (ns : List Int) (k : Nat) : SetV :=
  if num ns k / 230 % 8 = 0 then ⟨2 + num ns k % 2, num ns (k + 1) / 1000000000000 % 1000000000001, num ns k / 1840 % 7, 1 + num ns (k + 1) % 1000000000000⟩
  else ⟨2 + num ns k % 2, num ns k / 10 % 23, num ns k / 1840 % 7, 1 + num ns k / 2 % 5⟩
theorem mkSet_ok (ns : List Int) (k : Nat) : (mkSet ns k).ok := by
  unfold mkSet SetV.ok
  split <;> simp only <;> omega
theorem F_setting' {ns : List Int} (hn : Okn ns) {k : Nat} (hk : k ≤ 100) (h : HP) : F__law_setting [Sc ns, .int k] h = .ok (setD (mkSet ns k)) h := by
  have n0 := fun h => F_number hn (k := k) (by omega) h
  have n1 : ∀ h, F__law_number [Sc ns, .int ((k : Int) + 1)] h = .ok (.int (num ns (k + 1))) h := fun h => F_number hn (k := k + 1) (by omega) h
  have ok := mkSet_ok ns k
  have mk := mk_set ok h
  have pr := pure_clean h (clean_set (mkSet ns k))
  have ps : ∀ S, setD S = .ins 0 [("dims", .int S.d), ("speed", .int S.s), ("drift", .int S.r), ("per", .int S.p)] := fun _ => rfl
  by_cases q : num ns k / 230 % 8 = 0
  · have e : mkSet ns k = ⟨2 + num ns k % 2, num ns (k + 1) / 1000000000000 % 1000000000001, num ns k / 1840 % 7, 1 + num ns (k + 1) % 1000000000000⟩ := by unfold mkSet; rw [if_pos q]
    rw [e] at mk pr
    simp only at mk
    simp [F__law_setting, n0, n1, q, sh_int, PyData.eqv, lg, mk, pr, e]
  · have e : mkSet ns k = ⟨2 + num ns k % 2, num ns k / 10 % 23, num ns k / 1840 % 7, 1 + num ns k / 2 % 5⟩ := by unfold mkSet; rw [if_neg q]
    rw [e] at mk pr
    simp only at mk
    simp [F__law_setting, n0, n1, q, sh_int, PyData.eqv, lg, mk, pr, e]
/-! how far one can go -/
def qup (n d : Int) : Int := -(-n / d)
theorem F_qup {n d : Int} (h0 : 0 < d) (hd : d ≤ 1000000000000) (h : HP) : F_quotient_up [.int n, .int d] h = .ok (.int (qup n d)) h := by
  have l : Nat.log2 d.natAbs < 9000 := lg (by omega)
  have pr : ∀ z : Int, pure_ h (.int z) h = .ok (.int z) h := fun z => pure_clean h (clean_int z)
  simp [F_quotient_up, h0, l, pr, qup]
theorem qup_ge {n d : Int} (h : 0 < d) : n ≤ d * qup n d := by
  have := Int.ediv_mul_le (-n) (show d ≠ 0 by omega)
  unfold qup
  rw [Int.mul_neg, Int.mul_comm]
  omega
theorem qup_lt {n d : Int} (h : 0 < d) : d * (qup n d - 1) < n := by
  have := Int.lt_ediv_add_one_mul_self (-n) h
  unfold qup
  have e : d * (-(-n / d) - 1) = -((-n / d + 1) * d) := by grind
  rw [e]
  omega
def rchS (S : SetV) (t : Int) : Int := qup (S.s * t) S.p
def slpS (S : SetV) (t : Int) : Int := qup (S.r * t) S.p
theorem set_mul {S : SetV} (k : S.ok) {t : Int} (ht : t.natAbs < 18446744073709551616) : CMulE S.s t ∧ CMulE S.r t := by
  obtain ⟨k1, k2, k3, k4, k5, k6, k7, k8⟩ := k
  exact ⟨mul64 (by omega) ht, mul64 (by omega) ht⟩
theorem F_reach' {S : SetV} (k : S.ok) {t : Int} (ht : t.natAbs < 18446744073709551616) (h : HP) : F_reach [setD S, .int t] h = .ok (.int (rchS S t)) h := by
  obtain ⟨m1, m2⟩ := set_mul k ht
  obtain ⟨k1, k2, k3, k4, k5, k6, k7, k8⟩ := k
  have qu := fun h => F_qup (n := S.s * t) (d := S.p) (by omega) k8 h
  have pr : ∀ z : Int, pure_ h (.int z) h = .ok (.int z) h := fun z => pure_clean h (clean_int z)
  simp [F_reach, List.lookup, m1, qu, pr, rchS]
theorem F_slip' {S : SetV} (k : S.ok) {t : Int} (ht : t.natAbs < 18446744073709551616) (h : HP) : F_slip [setD S, .int t] h = .ok (.int (slpS S t)) h := by
  obtain ⟨m1, m2⟩ := set_mul k ht
  obtain ⟨k1, k2, k3, k4, k5, k6, k7, k8⟩ := k
  have qu := fun h => F_qup (n := S.r * t) (d := S.p) (by omega) k8 h
  have pr : ∀ z : Int, pure_ h (.int z) h = .ok (.int z) h := fun z => pure_clean h (clean_int z)
  simp [F_slip, List.lookup, m2, qu, pr, slpS]
/-! a box with the clock's side behind -/
theorem init_box (pl : List (Int × Int)) (c : Int × Int) : Ev.cutD ((pl ++ [c]).map sideD) none (some (-1)) = pl.map sideD := by
  rw [cut_init (by simp)]
  simp
theorem last_box (pl : List (Int × Int)) (c : Int × Int) : atI ((pl ++ [c]).map sideD) (-1) = some (sideD c) := by
  unfold atI ixN
  simp
  rw [if_pos (by omega)]
  have : ((-1 : Int) + ((pl.length : Int) + 1)).toNat = pl.length := by omega
  simp [this]
theorem mkBox_succ (ns : List Int) (k n : Nat) : mkBox ns k (n + 1) = mkBox ns k n ++ [mkSide ns k n] := by
  unfold mkBox
  rw [List.range_succ, List.map_append]
  rfl
end Lib
namespace Lib
open PySem PySem.Spec PyProof.Rows L2 Ev
/-! farther -/
theorem powX {x : Int} (n : Nat) (hx : sz x ≤ n) (hn : n ≤ 10000) : CPowW x 2 := by
  refine ⟨by omega, ?_⟩
  have hh : Builtin.Int.intBits x ≤ n + 1 := by
    unfold Builtin.Int.intBits
    split
    · omega
    · unfold sz at hx; omega
  have : ((2 : Int) ^ 27) = 134217728 := by decide
  rw [this]
  omega
theorem gap3 (s o : Int × Int) : (if 0 > (if s.1 - o.2 > o.1 - s.2 then s.1 - o.2 else o.1 - s.2) then 0 else (if s.1 - o.2 > o.1 - s.2 then s.1 - o.2 else o.1 - s.2)) = gapS s o := by
  have e : (if 0 > (if s.1 - o.2 > o.1 - s.2 then s.1 - o.2 else o.1 - s.2) then 0 else (if s.1 - o.2 > o.1 - s.2 then s.1 - o.2 else o.1 - s.2)) = mx (mx (o.1 - s.2) (s.1 - o.2)) 0 := rfl
  rw [e]
  exact Int.le_antisymm (mx_le (mx_le (le_gap1 _ _) (le_gap2 _ _)) (gap_nn _ _)) (gap_le (le_mx2 _ _) (Int.le_trans (le_mx1 _ _) (le_mx1 _ _)) (Int.le_trans (le_mx2 _ _) (le_mx1 _ _)))
def betQ (n : Nat) (a b : List (Int × Int)) : Int := sg n fun i => betS a b i * betS a b i
theorem betQ_comm (n : Nat) (a b : List (Int × Int)) : betQ n a b = betQ n b a := sg_congr fun i _ => by
  unfold betS
  rw [gap_comm]
theorem bet_sm {n : Nat} {a b : List (Int × Int)} (ha : a.length = n) (hb : b.length = n) (hr : ∀ s ∈ a, Sm s) (hs : ∀ s ∈ b, Sm s) : ∀ i < n, (betS a b i).natAbs < 18446744073709551616 := fun i hi =>
  gap_sm (sd_sm hr (by omega)) (sd_sm hs (by omega))
def farB (S : SetV) (n : Nat) (t : Int) (a : List (Int × Int)) (c : Int × Int) (b : List (Int × Int)) (e : Int × Int) : Bool :=
  decide (S.s * t * (S.s * t) < S.p * S.p * betQ n a b) || decide (S.r * t < S.p * gapS c e)
theorem farB_comm (S : SetV) (n : Nat) (t : Int) (a : List (Int × Int)) (c : Int × Int) (b : List (Int × Int)) (e : Int × Int) : farB S n t a c b e = farB S n t b e a c := by
  unfold farB
  rw [betQ_comm, gap_comm]
theorem set_sz {S : SetV} (k : S.ok) : sz S.d ≤ 64 ∧ sz S.s ≤ 64 ∧ sz S.r ≤ 64 ∧ sz S.p ≤ 64 := by
  obtain ⟨k1, k2, k3, k4, k5, k6, k7, k8⟩ := k
  exact ⟨sz64 (by omega), sz64 (by omega), sz64 (by omega), sz64 (by omega)⟩
theorem F_farther' {S : SetV} (k : S.ok) {t : Int} (ht : t.natAbs < 18446744073709551616) {n : Nat} (hn : n ≤ 10) {a b : List (Int × Int)} {c e : Int × Int} (ha : a.length = n) (hb : b.length = n) (hr : ∀ s ∈ a, Sm s) (hs : ∀ s ∈ b, Sm s) (hc : Sm c) (he : Sm e) (h : HP) :
    F_farther [setD S, .int t, boxD (a ++ [c]), boxD (b ++ [e])] h = .ok (.bl (farB S n t a c b e)) h := by
  have pr := fun b => pure_clean h (clean_bl b)
  obtain ⟨s1, s2, s3, s4⟩ := set_sz k
  have st := sz64 ht
  have fb := fun h => F_between' hn ha hb hr hs h
  have fg := fun h => F_gap' c e h
  obtain ⟨q1, q2⟩ := sg_sq_sz hn (bet_sm ha hb hr hs)
  have p1 : CPowW S.p 2 := powX 64 s4 (by decide)
  have m1 : CMulE (S.p * S.p) (betQ n a b) := mulX 129 140 (by have := sz_mul S.p S.p; omega) (by unfold betQ; omega) (by decide)
  have m2 : CMulE S.p (gapS c e) := mulX 64 64 s4 (sz64 (gap_sm hc he)) (by decide)
  have m3 : CMulE S.s t := mulX 64 64 s2 st (by decide)
  have m4 : CMulE S.r t := mulX 64 64 s3 st (by decide)
  have p2 : CPowW (S.s * t) 2 := powX 129 (by have := sz_mul S.s t; omega) (by decide)
  have i1 := init_box a c
  have i2 := init_box b e
  have l1 := last_box a c
  have l2 := last_box b e
  unfold farB
  unfold betQ at m1 ⊢
  generalize (sg n fun i => betS a b i * betS a b i) = B at *
  unfold boxD at *
  generalize (a ++ [c]).map sideD = xs at *
  generalize (b ++ [e]).map sideD = ys at *
  by_cases z : S.s * t * (S.s * t) < S.p * S.p * B
  · simp [F_farther, List.lookup, p1, pow2, i1, i2, l1, l2, fb, m1, m2, m3, m4, p2, fg, z, pr]
  · simp [F_farther, List.lookup, p1, pow2, i1, i2, l1, l2, fb, m1, m2, m3, m4, p2, fg, z, pr]
end Lib
namespace Lib
open PySem PySem.Spec PyProof.Rows L2 Ev
/-! wide numbers: of at most 500 bits; the defs on distances over them -/
def W (x : Int) : Prop := sz x ≤ 500
def WS (s : Int × Int) : Prop := W s.1 ∧ W s.2
theorem W.of {x : Int} (h : x.natAbs < 18446744073709551616) : W x := Nat.le_trans (sz64 h) (by decide)
theorem W.of128 {x : Int} (h : x.natAbs < 340282366920938463463374607431768211456) : W x := Nat.le_trans (sz_small (n := 128) (by omega) h) (by decide)
theorem sz_mx {a b : Int} {k : Nat} (h1 : sz a ≤ k) (h2 : sz b ≤ k) : sz (mx a b) ≤ k := by unfold mx; split <;> assumption
theorem sz0 : sz 0 = 0 := by decide
theorem sz_gap {s o : Int × Int} (h : WS s) (k : WS o) : sz (gapS s o) ≤ 501 := by
  have a1 := sz_sub o.1 s.2
  have a2 := sz_sub s.1 o.2
  obtain ⟨h1, h2⟩ := h
  obtain ⟨k1, k2⟩ := k
  unfold W at *
  exact sz_mx (sz_mx (by rw [sz0]; omega) (by omega)) (by omega)
theorem powW {x : Int} {n : Nat} (hx : sz x ≤ n) (hn : n ≤ 10000) : CPowW x 2 := powX n hx hn
theorem sg_sz {f : Nat → Int} {k : Nat} : ∀ {n : Nat}, (∀ i < n, sz (f i) ≤ k) → sz (sg n f) ≤ k + n
  | 0, _ => by rw [sg_zero, sz0]; omega
  | n + 1, h => by
    have h1 := sg_sz (n := n) fun i hi => h i (by omega)
    have h2 := h n (by omega)
    have h3 := sz_add (sg n f) (f n)
    rw [sg_succ]
    omega
theorem sg_sq {f : Nat → Int} {k n : Nat} (h : ∀ i < n, sz (f i) ≤ k) : 0 ≤ (sg n fun i => f i * f i) ∧ sz (sg n fun i => f i * f i) ≤ 2 * k + 1 + n :=
  ⟨sg_nn fun i _ => sq_nn _, sg_sz fun i hi => by
    have := sz_mul (f i) (f i)
    have := h i hi
    omega⟩
theorem sg_dot {f e : Nat → Int} {k n : Nat} (h : ∀ i < n, sz (f i) ≤ k) (h2 : ∀ i < n, sz (e i) ≤ k) : sz (sg n fun i => f i * e i) ≤ 2 * k + 1 + n :=
  sg_sz fun i hi => by
    have := sz_mul (f i) (e i)
    have := h i hi
    have := h2 i hi
    omega
theorem sd_w {b : List (Int × Int)} (h : ∀ s ∈ b, WS s) {i : Nat} (hi : i < b.length) : WS (sd b i) := by
  rw [sd_get hi]
  exact h _ (List.getElem_mem hi)
def WP (n : Nat) (p : Nat → Int) : Prop := ∀ i < n, W (p i)
section
variable {n : Nat} {p : Nat → Int} {a b : List (Int × Int)}
theorem near_w (hb : b.length = n) (hp : WP n p) (hs : ∀ s ∈ b, WS s) : ∀ i < n, sz (nearS p b i) ≤ 501 := fun i hi => sz_gap (s := (p i, p i)) ⟨hp i hi, hp i hi⟩ (sd_w hs (by omega))
theorem far_w (hb : b.length = n) (hp : WP n p) (hs : ∀ s ∈ b, WS s) : ∀ i < n, sz (farS p b i) ≤ 501 := fun i hi => by
  have h1 := hp i hi
  obtain ⟨h2, h3⟩ := sd_w hs (show i < b.length by omega)
  have a1 := sz_sub (p i) (sd b i).1
  have a2 := sz_sub (sd b i).2 (p i)
  unfold W at *
  exact sz_mx (by omega) (by omega)
theorem bet_w (ha : a.length = n) (hb : b.length = n) (hr : ∀ s ∈ a, WS s) (hs : ∀ s ∈ b, WS s) : ∀ i < n, sz (betS a b i) ≤ 501 := fun i hi => sz_gap (sd_w hr (by omega)) (sd_w hs (by omega))
theorem grt_w (ha : a.length = n) (hb : b.length = n) (hr : ∀ s ∈ a, WS s) (hs : ∀ s ∈ b, WS s) : ∀ i < n, sz (grtS a b i) ≤ 501 := fun i hi => by
  obtain ⟨h2, h3⟩ := sd_w hr (show i < a.length by omega)
  have hb' := sd_w hs (show i < b.length by omega)
  exact sz_mx (sz_gap (s := ((sd a i).1, (sd a i).1)) ⟨h2, h2⟩ hb') (sz_gap (s := ((sd a i).2, (sd a i).2)) ⟨h3, h3⟩ hb')
theorem F_nearestW (hn : n ≤ 10) (hb : b.length = n) (hp : WP n p) (hs : ∀ s ∈ b, WS s) (h : HP) : F_nearest [vec n p, boxD b] h = .ok (.int (sg n fun i => nearS p b i * nearS p b i)) h := by
  have pr : ∀ z : Int, pure_ h (.int z) h = .ok (.int z) h := fun z => pure_clean h (clean_int z)
  have bf := box_fun hb
  have lc : C_nearest_1 false [some (vec n p), some (boxD b), none, none] h = _ :=
    mLc_ty (h1 := h) (List.range n) (fun i => .tup [.int (p i), sideD (sd b i)]) (fun i => .int (nearS p b i * nearS p b i)) (by simp [vec, boxD, bf, zip_vec]) (by simp; omega)
      (fun i hi h' => ⟨[some (vec n p), some (boxD b), some (.int (p i)), some (sideD (sd b i))], by simp, by
        have hi' := List.mem_range.mp hi
        have g : ∀ h, F_gap [.tup [.int (p i), .int (p i)], sideD (sd b i)] h = .ok (.int (nearS p b i)) h := fun h => F_gap' (p i, p i) (sd b i) h
        have c : CPowW (nearS p b i) 2 := powW (near_w hb hp hs i hi') (by decide)
        simp [g, c, pow2]⟩) fun i _ => clean_int _
  have k := ints_vec n fun i => nearS p b i * nearS p b i
  simp [F_nearest, lc, k, sg, pr]
theorem F_farthestW (hn : n ≤ 10) (hb : b.length = n) (hp : WP n p) (hs : ∀ s ∈ b, WS s) (h : HP) : F_farthest [vec n p, boxD b] h = .ok (.int (sg n fun i => farS p b i * farS p b i)) h := by
  have pr : ∀ z : Int, pure_ h (.int z) h = .ok (.int z) h := fun z => pure_clean h (clean_int z)
  have bf := box_fun hb
  have lc : C_farthest_1 false [some (vec n p), some (boxD b), none, none, none] h = _ :=
    mLc_ty (h1 := h) (List.range n) (fun i => .tup [.int (p i), sideD (sd b i)]) (fun i => .int (farS p b i * farS p b i)) (by simp [vec, boxD, bf, zip_vec]) (by simp; omega)
      (fun i hi h' => ⟨[some (vec n p), some (boxD b), some (.int (p i)), some (.int (sd b i).1), some (.int (sd b i).2)], by simp [sideD], by
        have hi' := List.mem_range.mp hi
        have c : CPowW (farS p b i) 2 := powW (far_w hb hp hs i hi') (by decide)
        have e : (if (sd b i).2 - p i > p i - (sd b i).1 then (sd b i).2 - p i else p i - (sd b i).1) = farS p b i := rfl
        simp only [gt_iff_lt] at e
        simp [e, c, pow2]⟩) fun i _ => clean_int _
  have k := ints_vec n fun i => farS p b i * farS p b i
  simp [F_farthest, lc, k, sg, pr]
theorem F_betweenW (hn : n ≤ 10) (ha : a.length = n) (hb : b.length = n) (hr : ∀ s ∈ a, WS s) (hs : ∀ s ∈ b, WS s) (h : HP) : F_between [boxD a, boxD b] h = .ok (.int (betQ n a b)) h := by
  have pr : ∀ z : Int, pure_ h (.int z) h = .ok (.int z) h := fun z => pure_clean h (clean_int z)
  have af := box_fun ha
  have bf := box_fun hb
  have lc : C_between_1 false [some (boxD a), some (boxD b), none, none] h = _ :=
    mLc_ty (h1 := h) (List.range n) (fun i => .tup [sideD (sd a i), sideD (sd b i)]) (fun i => .int (betS a b i * betS a b i)) (by simp [boxD, af, bf, zip_vec]) (by simp; omega)
      (fun i hi h' => ⟨[some (boxD a), some (boxD b), some (sideD (sd a i)), some (sideD (sd b i))], by simp, by
        have hi' := List.mem_range.mp hi
        have g : ∀ h, F_gap [sideD (sd a i), sideD (sd b i)] h = .ok (.int (betS a b i)) h := fun h => F_gap' (sd a i) (sd b i) h
        have c : CPowW (betS a b i) 2 := powW (bet_w ha hb hr hs i hi') (by decide)
        simp [g, c, pow2]⟩) fun i _ => clean_int _
  have k := ints_vec n fun i => betS a b i * betS a b i
  simp [F_between, lc, k, sg, pr, betQ]
def grtQ (n : Nat) (a b : List (Int × Int)) : Int := sg n fun i => grtS a b i * grtS a b i
theorem F_greatestW (hn : n ≤ 10) (ha : a.length = n) (hb : b.length = n) (hr : ∀ s ∈ a, WS s) (hs : ∀ s ∈ b, WS s) (h : HP) : F_greatest_from [boxD a, boxD b] h = .ok (.int (grtQ n a b)) h := by
  have pr : ∀ z : Int, pure_ h (.int z) h = .ok (.int z) h := fun z => pure_clean h (clean_int z)
  have af := box_fun ha
  have bf := box_fun hb
  have lc : C_greatest_from_1 false [some (boxD a), some (boxD b), none, none, none] h = _ :=
    mLc_ty (h1 := h) (List.range n) (fun i => .tup [sideD (sd a i), sideD (sd b i)]) (fun i => .int (grtS a b i * grtS a b i)) (by simp [boxD, af, bf, zip_vec]) (by simp; omega)
      (fun i hi h' => ⟨[some (boxD a), some (boxD b), some (sideD (sd b i)), some (.int (sd a i).1), some (.int (sd a i).2)], by simp [sideD], by
        have hi' := List.mem_range.mp hi
        have g1 : ∀ h, F_gap [.tup [.int (sd a i).1, .int (sd a i).1], sideD (sd b i)] h = .ok (.int (gapS ((sd a i).1, (sd a i).1) (sd b i))) h := fun h => F_gap' ((sd a i).1, (sd a i).1) (sd b i) h
        have g2 : ∀ h, F_gap [.tup [.int (sd a i).2, .int (sd a i).2], sideD (sd b i)] h = .ok (.int (gapS ((sd a i).2, (sd a i).2) (sd b i))) h := fun h => F_gap' ((sd a i).2, (sd a i).2) (sd b i) h
        have c : CPowW (grtS a b i) 2 := powW (grt_w ha hb hr hs i hi') (by decide)
        have e : (if gapS ((sd a i).2, (sd a i).2) (sd b i) > gapS ((sd a i).1, (sd a i).1) (sd b i) then gapS ((sd a i).2, (sd a i).2) (sd b i) else gapS ((sd a i).1, (sd a i).1) (sd b i)) = grtS a b i := rfl
        simp only [gt_iff_lt] at e
        simp [g1, g2, e, c, pow2]⟩) fun i _ => clean_int _
  have k := ints_vec n fun i => grtS a b i * grtS a b i
  simp [F_greatest_from, lc, k, sg, pr, grtQ]
theorem betQ_w (hn : n ≤ 10) (ha : a.length = n) (hb : b.length = n) (hr : ∀ s ∈ a, WS s) (hs : ∀ s ∈ b, WS s) : 0 ≤ betQ n a b ∧ sz (betQ n a b) ≤ 1100 := by
  have := sg_sq (bet_w ha hb hr hs)
  exact ⟨this.1, by unfold betQ; omega⟩
theorem grtQ_w (hn : n ≤ 10) (ha : a.length = n) (hb : b.length = n) (hr : ∀ s ∈ a, WS s) (hs : ∀ s ∈ b, WS s) : 0 ≤ grtQ n a b ∧ sz (grtQ n a b) ≤ 1100 := by
  have := sg_sq (grt_w ha hb hr hs)
  exact ⟨this.1, by unfold grtQ; omega⟩
def nearQ (n : Nat) (p : Nat → Int) (b : List (Int × Int)) : Int := sg n fun i => nearS p b i * nearS p b i
def farQ (n : Nat) (p : Nat → Int) (b : List (Int × Int)) : Int := sg n fun i => farS p b i * farS p b i
theorem nearQ_w (hn : n ≤ 10) (hb : b.length = n) (hp : WP n p) (hs : ∀ s ∈ b, WS s) : 0 ≤ nearQ n p b ∧ sz (nearQ n p b) ≤ 1100 := by
  have := sg_sq (near_w hb hp hs)
  exact ⟨this.1, by unfold nearQ; omega⟩
theorem farQ_w (hn : n ≤ 10) (hb : b.length = n) (hp : WP n p) (hs : ∀ s ∈ b, WS s) : 0 ≤ farQ n p b ∧ sz (farQ n p b) ≤ 1100 := by
  have := sg_sq (far_w hb hp hs)
  exact ⟨this.1, by unfold farQ; omega⟩
theorem F_distancesW (hn : n ≤ 10) (hb : b.length = n) (hp : WP n p) (hs : ∀ s ∈ b, WS s) (h : HP) :
    F_distances [vec n p, boxD b] h = .ok (.tup [.int (rd (nearQ n p b)), .int (ru (farQ n p b))]) h := by
  have pr : ∀ y z : Int, pure_ h (.tup [.int y, .int z]) h = .ok (.tup [.int y, .int z]) h := fun y z => pure_clean h (clean_tup (by simp [clean_int]))
  have f1 : ∀ h, F_nearest [vec n p, boxD b] h = .ok (.int (nearQ n p b)) h := fun h => F_nearestW hn hb hp hs h
  have f2 : ∀ h, F_farthest [vec n p, boxD b] h = .ok (.int (farQ n p b)) h := fun h => F_farthestW hn hb hp hs h
  obtain ⟨a1, a2⟩ := nearQ_w hn hb hp hs
  obtain ⟨b1, b2⟩ := farQ_w hn hb hp hs
  have f3 := fun h => F_root_down' a1 (by omega) h
  have f4 := fun h => F_root_up' b1 (by omega) h
  simp [F_distances, f1, f2, f3, f4, pr]
/-! dot, a piece -/
theorem dt_lin : ∀ (n : Nat) (p q : Nat → Int) (u v : Int), u * u * dt n p p + 2 * u * v * dt n p q + v * v * dt n q q = dt n (fun i => u * p i + v * q i) (fun i => u * p i + v * q i)
  | 0, p, q, u, v => by simp [dt, sg_zero]
  | n + 1, p, q, u, v => by
    have ih := dt_lin n p q u v
    unfold dt at ih ⊢
    rw [sg_succ, sg_succ, sg_succ, sg_succ, ← ih]
    grind
theorem cauchy (n : Nat) (p q : Nat → Int) : dt n p q * dt n p q ≤ dt n p p * dt n q q := by
  have lin := fun u v => (dt_lin n p q u v).symm ▸ dt_self n (fun i => u * p i + v * q i)
  have hW := dt_self n q
  have hH := dt_self n p
  generalize dt n p q = L at *
  generalize dt n p p = H at *
  generalize dt n q q = V at *
  by_cases c : V = 0
  · subst c
    have := lin 1 (-((H + 1) * L))
    have l0 : L = 0 := by
      apply Decidable.byContradiction
      intro z
      have sq : 1 ≤ L * L := by
        by_cases z2 : 0 < L
        · have := Int.mul_le_mul (show 1 ≤ L by omega) (show 1 ≤ L by omega) (by omega) (by omega)
          omega
        · have := Int.mul_le_mul (show 1 ≤ -L by omega) (show 1 ≤ -L by omega) (by omega) (by omega)
          rw [Int.neg_mul_neg] at this
          omega
      have e : 1 * 1 * H + 2 * 1 * -((H + 1) * L) * L + -((H + 1) * L) * -((H + 1) * L) * 0 = H - 2 * ((H + 1) * (L * L)) := by grind
      rw [e] at this
      have := Int.mul_le_mul_of_nonneg_left sq (show 0 ≤ H + 1 by omega)
      omega
    subst l0
    simp
  · have := lin V (-L)
    have e : V * V * H + 2 * V * -L * L + -L * -L * V = (H * V - L * L) * V := by grind
    rw [e] at this
    have := Int.le_of_mul_le_mul_right (a := V) (b := 0) (c := H * V - L * L) (by rw [Int.zero_mul]; exact this) (by omega)
    omega
def Sz (k n : Nat) (p : Nat → Int) : Prop := ∀ i < n, sz (p i) ≤ k
theorem F_dotW (hn : n ≤ 10) {k : Nat} (hk : k ≤ 10000) {q : Nat → Int} (hp : Sz k n p) (hq : Sz k n q) (h : HP) : F_dot [vec n p, vec n q] h = .ok (.int (dt n p q)) h := by
  have pr : ∀ z : Int, pure_ h (.int z) h = .ok (.int z) h := fun z => pure_clean h (clean_int z)
  have lc : C_dot_1 false [some (vec n p), some (vec n q), none, none] h = _ :=
    mLc_ty (h1 := h) (List.range n) (fun i => .tup [.int (p i), .int (q i)]) (fun i => .int (p i * q i)) (by simp [vec, zip_vec]) (by simp; omega)
      (fun i hi h' => ⟨[some (vec n p), some (vec n q), some (.int (p i)), some (.int (q i))], by simp, by
        have hi' := List.mem_range.mp hi
        have m : CMulE (p i) (q i) := mulX k k (hp i hi') (hq i hi') (by omega)
        simp [m]⟩) fun i _ => clean_int _
  have k := ints_vec n fun i => p i * q i
  simp [F_dot, lc, k, sg, pr, dt]
theorem sub_w {q : Nat → Int} (hp : WP n p) (hq : WP n q) : Sz 501 n (sub p q) := fun i hi => by
  have h1 := hp i hi
  have h2 := hq i hi
  have := sz_sub (p i) (q i)
  unfold W at *
  unfold sub
  omega
theorem dt_w (hn : n ≤ 10) {q : Nat → Int} (hp : Sz 501 n p) (hq : Sz 501 n q) : sz (dt n p q) ≤ 1100 := by
  have := sg_dot hp hq
  unfold dt
  omega
theorem F_pieceW (hn : n ≤ 10) {x a t : Nat → Int} (h1 : Sz 501 n (sub x a)) (h2 : Sz 501 n (sub t a)) (h3 : Sz 501 n (sub x t)) (h : HP) :
    F_from_piece [vec n x, vec n a, vec n t] h = .ok (.tup [.int (pc2 n x a t).1, .int (pc2 n x a t).2]) h := by
  have pr : ∀ y z : Int, pure_ h (.tup [.int y, .int z]) h = .ok (.tup [.int y, .int z]) h := fun y z => pure_clean h (clean_tup (by simp [clean_int]))
  have e1 : ∀ h, F__minus [vec n t, vec n a] h = .ok (vec n (sub t a)) h := fun h => F_minus' hn t a h
  have e2 : ∀ h, F__minus [vec n x, vec n a] h = .ok (vec n (sub x a)) h := fun h => F_minus' hn x a h
  have e3 : ∀ h, F__minus [vec n x, vec n t] h = .ok (vec n (sub x t)) h := fun h => F_minus' hn x t h
  have d1 : ∀ h, F_dot [vec n (sub t a), vec n (sub x a)] h = .ok (.int (dt n (sub x a) (sub t a))) h := fun h => by rw [F_dotW hn (by omega) h2 h1 h, dt_comm]
  have d2 : ∀ h, F_dot [vec n (sub t a), vec n (sub t a)] h = .ok (.int (dt n (sub t a) (sub t a))) h := fun h => F_dotW hn (by omega) h2 h2 h
  have d3 : ∀ h, F_dot [vec n (sub x a), vec n (sub x a)] h = .ok (.int (dt n (sub x a) (sub x a))) h := fun h => F_dotW hn (by omega) h1 h1 h
  have d4 : ∀ h, F_dot [vec n (sub x t), vec n (sub x t)] h = .ok (.int (dt n (sub x t) (sub x t))) h := fun h => F_dotW hn (by omega) h3 h3 h
  have b2 := dt_w hn h2 h2
  have m1 : CMulE (dt n (sub x a) (sub x a)) (dt n (sub t a) (sub t a)) := mulX 1100 1100 (dt_w hn h1 h1) b2 (by decide)
  have m2 : CMulE (dt n (sub x a) (sub t a)) (dt n (sub x a) (sub t a)) := mulX 1100 1100 (dt_w hn h1 h2) (dt_w hn h1 h2) (by decide)
  have b : Nat.log2 (dt n (sub t a) (sub t a)).natAbs < 9000 := by
    have : sz (dt n (sub t a) (sub t a)) ≤ 1100 := b2
    unfold sz at this
    omega
  have qu : ∀ (y : Int) h, 0 < dt n (sub t a) (sub t a) → F_quotient_up [.int y, .int (dt n (sub t a) (sub t a))] h = .ok (.int (-(-y / dt n (sub t a) (sub t a)))) h := fun y h c => by
    have pi : ∀ z : Int, pure_ h (.int z) h = .ok (.int z) h := fun z => pure_clean h (clean_int z)
    simp [F_quotient_up, c, b, pi]
  unfold pc2 pc1
  by_cases c1 : dt n (sub x a) (sub t a) ≤ 0
  · simp [F_from_piece, e1, e2, d1, d2, d3, c1, pr]
  · by_cases c2 : dt n (sub t a) (sub t a) ≤ dt n (sub x a) (sub t a)
    · simp [F_from_piece, e1, e2, d1, d2, c1, c2, e3, d4, pr]
    · have c3 : 0 < dt n (sub t a) (sub t a) := by omega
      simp [F_from_piece, e1, e2, d1, d2, d3, c1, c2, m1, m2, c3, b, qu, pr]
theorem pc1_w (hn : n ≤ 10) {x a t : Nat → Int} (h1 : Sz 501 n (sub x a)) (h2 : Sz 501 n (sub t a)) (h3 : Sz 501 n (sub x t)) : 0 ≤ (pc1 n x a t).1 ∧ sz (pc1 n x a t).1 ≤ 2300 := by
  have W1 := dt_self n (sub x a)
  have W2 := dt_self n (sub t a)
  have W3 := dt_self n (sub x t)
  have q1 := dt_w hn h1 h1
  have q2 := dt_w hn h2 h2
  have q3 := dt_w hn h1 h2
  have q4 := dt_w hn h3 h3
  unfold pc1
  split
  · exact ⟨W1, by show sz (dt n (sub x a) (sub x a)) ≤ 2300; omega⟩
  · split
    · exact ⟨W3, by show sz (dt n (sub x t) (sub x t)) ≤ 2300; omega⟩
    · rename_i c1 c2
      have r1 := sz_mul (dt n (sub x a) (sub x a)) (dt n (sub t a) (sub t a))
      have r2 := sz_mul (dt n (sub x a) (sub t a)) (dt n (sub x a) (sub t a))
      have r3 := sz_sub (dt n (sub x a) (sub x a) * dt n (sub t a) (sub t a)) (dt n (sub x a) (sub t a) * dt n (sub x a) (sub t a))
      refine ⟨?_, by show sz (_ - _) ≤ 2300; omega⟩
      show 0 ≤ dt n (sub x a) (sub x a) * dt n (sub t a) (sub t a) - dt n (sub x a) (sub t a) * dt n (sub x a) (sub t a)
      have := cauchy n (sub x a) (sub t a)
      omega
end
end Lib
namespace Lib
open PySem PySem.Spec PyProof.Rows L2 Ev
/-! spans: their values -/
def sdA (p : Nat → Int) (b : List (Int × Int)) (i : Nat) : Int := p i * (sd b i).1
def sdB (p : Nat → Int) (b : List (Int × Int)) (i : Nat) : Int := p i * (sd b i).2
def sdLo (p : Nat → Int) (b : List (Int × Int)) (i : Nat) : Int := minL [sdA p b i, sdB p b i]
def sdHi (p : Nat → Int) (b : List (Int × Int)) (i : Nat) : Int := maxL [sdA p b i, sdB p b i]
section
variable {n : Nat} {p : Nat → Int} {b : List (Int × Int)}
theorem F_side_spanW (hn : n ≤ 10) (hb : b.length = n) (hp : WP n p) (hs : ∀ s ∈ b, WS s) (h : HP) : F__side_span [vec n p, boxD b] h = .ok (.tup [.int (sg n (sdLo p b)), .int (sg n (sdHi p b))]) h := by
  have pr : ∀ y z : Int, pure_ h (.tup [.int y, .int z]) h = .ok (.tup [.int y, .int z]) h := fun y z => pure_clean h (clean_tup (by simp [clean_int]))
  have bf := box_fun hb
  have c1 : C__side_span_1 false [some (vec n p), some (boxD b), none, none, none, none, none] h = _ :=
    mLc_ty (h1 := h) (List.range n) (fun i => .tup [.int (p i), sideD (sd b i)]) (fun i => .tup [.int (sdA p b i), .int (sdB p b i)]) (by simp [vec, boxD, bf, zip_vec]) (by simp; omega)
      (fun i hi h' => ⟨[some (vec n p), some (boxD b), none, some (.int (p i)), some (.int (sd b i).1), some (.int (sd b i).2), none], by simp [sideD], by
        have hi' := List.mem_range.mp hi
        obtain ⟨h2, h3⟩ := sd_w hs (show i < b.length by omega)
        have m1 : CMulE (p i) (sd b i).1 := mulX 500 500 (hp i hi') h2 (by decide)
        have m2 : CMulE (p i) (sd b i).2 := mulX 500 500 (hp i hi') h3 (by decide)
        simp [m1, m2, sdA, sdB]⟩) fun i _ => clean_tup (by simp [clean_int])
  obtain ⟨xs, ex⟩ : ∃ xs, xs = (List.range n).map fun i => D.tup [.int (sdA p b i), .int (sdB p b i)] := ⟨_, rfl⟩
  rw [← ex] at c1
  have c2 : C__side_span_2 false [some (vec n p), some (boxD b), some (.lst xs), none, none, none, none] h = _ :=
    mLc_ty (h1 := h) (List.range n) (fun i => D.tup [.int (sdA p b i), .int (sdB p b i)]) (fun i => .int (sdHi p b i)) (by simp [ex]) (by simp; omega)
      (fun i hi h' => ⟨[some (vec n p), some (boxD b), some (.lst xs), none, none, none, some (D.tup [.int (sdA p b i), .int (sdB p b i)])], by simp, by simp [sdHi]⟩) fun i _ => clean_int _
  have c3 : C__side_span_3 false [some (vec n p), some (boxD b), some (.lst xs), none, none, none, none] h = _ :=
    mLc_ty (h1 := h) (List.range n) (fun i => D.tup [.int (sdA p b i), .int (sdB p b i)]) (fun i => .int (sdLo p b i)) (by simp [ex]) (by simp; omega)
      (fun i hi h' => ⟨[some (vec n p), some (boxD b), some (.lst xs), none, none, none, some (D.tup [.int (sdA p b i), .int (sdB p b i)])], by simp, by simp [sdLo]⟩) fun i _ => clean_int _
  have k1 := ints_vec n (sdLo p b)
  have k2 := ints_vec n (sdHi p b)
  simp [F__side_span, c1, c2, c3, k1, k2, sg, pr]
def midF (b : List (Int × Int)) (i : Nat) : Int := midS (sd b i)
theorem mid_vec (hb : b.length = n) : (D.tup ((midOf b).map D.int)) = vec n (midF b) := by
  unfold vec
  congr 1
  apply List.ext_getElem
  · simp [midOf, hb]
  · intro i h1 h2
    have hi : i < b.length := by simpa [midOf] using h1
    simp [midOf, midF, midS, sd_get hi]
theorem mid_w (hb : b.length = n) (hs : ∀ s ∈ b, WS s) : Sz 501 n (midF b) := fun i hi => by
  obtain ⟨h2, h3⟩ := sd_w hs (show i < b.length by omega)
  unfold midF midS
  have := sz_div (i := (sd b i).1 + (sd b i).2) (j := 2) (by omega)
  have := sz_add (sd b i).1 (sd b i).2
  unfold W at *
  omega
theorem hf_w {s : Int × Int} (h : WS s) : sz (hf s) ≤ 503 := by
  obtain ⟨h2, h3⟩ := h
  unfold hf
  have := sz_div (i := s.2 - s.1 + 1) (j := 2) (by omega)
  have := sz_add (s.2 - s.1) 1
  have := sz_sub s.2 s.1
  have := lit1
  unfold W at *
  omega
theorem sq_w : ∀ {b : List (Int × Int)}, (∀ s ∈ b, WS s) → 0 ≤ sq b ∧ sz (sq b) ≤ 1007 + b.length
  | [], _ => by
    show (0 : Int) ≤ 0 ∧ sz 0 ≤ 1007
    rw [sz0]
    omega
  | s :: b, h => by
    have h1 := hq_nn s
    have h2 := hf_w (h s (List.mem_cons_self ..))
    have h3 := sq_w (b := b) fun x hx => h x (List.mem_cons_of_mem _ hx)
    have e : sq (s :: b) = hq s + sq b := by simp [sq]
    rw [e]
    have := sz_add (hq s) (sq b)
    have : sz (hq s) ≤ 1007 := by
      have := sz_mul (hf s) (hf s)
      unfold hq
      omega
    simp only [List.length_cons]
    omega
def rad (b : List (Int × Int)) : Int := ru (sq b)
theorem F_radiusW {c : Int × Int} (hb : b.length ≤ 100) (hs : ∀ s ∈ b, WS s) (h : HP) : F_radius [boxD (b ++ [c])] h = .ok (.int (rad b)) h := by
  have p : ∀ z : Int, pure_ h (.int z) h = .ok (.int z) h := fun z => pure_clean h (clean_int z)
  have ci := init_box b c
  have bd := sq_w hs
  have ft := F_root_up' bd.1 (by omega) h
  have lc : C_radius_1 false [some (boxD (b ++ [c])), none] h = _ :=
    mLc_ty (h1 := h) b sideD (fun s => .int (hq s)) (by simp only [boxD]; simp [ci, -List.map_append]) (by omega)
      (fun s hs' h' => by
        refine ⟨[some (boxD (b ++ [c])), some (sideD s)], by simp, ?_⟩
        have f := F_half s h'
        have cp : CPowW (hf s) 2 := powW (hf_w (hs s hs')) (by decide)
        have e : hf s ^ 2 = hq s := pow2 _
        have e2 : (s.2 - s.1 + 1) / 2 = hf s := rfl
        rw [e2] at f
        simp [f, cp, e]) fun s _ => clean_int _
  have k := intsD_map (b.map hq)
  simp only [List.map_map] at k
  have e : D.int ∘ hq = fun s => D.int (hq s) := rfl
  rw [e] at k
  have e3 : (b.map hq).sum = sq b := rfl
  generalize b.map (fun s => D.int (hq s)) = xs at lc k
  simp [F_radius, lc, k, e3, ft, p, rad]
def pieceS (n : Nat) (a t : Nat → Int) (b : List (Int × Int)) : Int × Int := (rd (pc2 n (midF b) a t).1 - rad b, ru (pc2 n (midF b) a t).2 + rad b)
theorem Sz.mono {j k : Nat} {p : Nat → Int} (h : Sz j n p) (l : j ≤ k) : Sz k n p := fun i hi => Nat.le_trans (h i hi) l
/-- a box's numbers of at most 480 bits, points as well -/
def V (x : Int) : Prop := sz x ≤ 480
def VS (s : Int × Int) : Prop := V s.1 ∧ V s.2
def VP (n : Nat) (p : Nat → Int) : Prop := ∀ i < n, V (p i)
theorem VS.w {s : Int × Int} (h : VS s) : WS s := ⟨Nat.le_trans h.1 (by decide), Nat.le_trans h.2 (by decide)⟩
theorem VP.w (h : VP n p) : WP n p := fun i hi => Nat.le_trans (h i hi) (by decide)
theorem mid_v (hb : b.length = n) (hs : ∀ s ∈ b, VS s) : WP n (midF b) := fun i hi => by
  have hi' : i < b.length := by omega
  obtain ⟨h2, h3⟩ : VS (sd b i) := by rw [sd_get hi']; exact hs _ (List.getElem_mem hi')
  unfold midF midS W
  have := sz_div (i := (sd b i).1 + (sd b i).2) (j := 2) (by omega)
  have := sz_add (sd b i).1 (sd b i).2
  unfold V at *
  omega
theorem pc2_w (hn : n ≤ 10) {x a t : Nat → Int} (h1 : Sz 501 n (sub x a)) (h2 : Sz 501 n (sub t a)) (h3 : Sz 501 n (sub x t)) : 0 ≤ (pc2 n x a t).1 ∧ sz (pc2 n x a t).1 ≤ 2300 ∧ 0 ≤ (pc2 n x a t).2 ∧ sz (pc2 n x a t).2 ≤ 2300 := by
  obtain ⟨a1, a2⟩ := pc1_w hn h1 h2 h3
  have W := pc1_pos n x a t
  have d := div_facts (pc1 n x a t).1 (pc1 n x a t).2 W
  have s1 := sz_div (i := (pc1 n x a t).1) W
  have s2 := sz_div (i := -(pc1 n x a t).1) W
  have s3 := sz_neg (pc1 n x a t).1
  have s4 := sz_neg (-(pc1 n x a t).1 / (pc1 n x a t).2)
  unfold pc2
  simp only
  refine ⟨Int.ediv_nonneg a1 (by omega), by omega, ?_, by omega⟩
  have : -(pc1 n x a t).1 / (pc1 n x a t).2 ≤ 0 := by
    have := Int.ediv_le_ediv W (show -(pc1 n x a t).1 ≤ 0 by omega)
    rw [Int.zero_ediv] at this
    exact this
  omega
theorem F_piece_spanW (hn : n ≤ 10) {a t : Nat → Int} {c : Int × Int} (hb : b.length = n) (ha : VP n a) (ht : VP n t) (hs : ∀ s ∈ b, VS s) (h : HP) :
    F__piece_span [vec n a, vec n t, boxD (b ++ [c])] h = .ok (.tup [.int (pieceS n a t b).1, .int (pieceS n a t b).2]) h := by
  have pr : ∀ y z : Int, pure_ h (.tup [.int y, .int z]) h = .ok (.tup [.int y, .int z]) h := fun y z => pure_clean h (clean_tup (by simp [clean_int]))
  have ci := init_box b c
  have hw : ∀ s ∈ b, WS s := fun s h => (hs s h).w
  have f1 : ∀ h, F_middle [D.tup (b.map sideD)] h = .ok (vec n (midF b)) h := fun h => by have := F_mid b (by omega) h; rw [mid_vec hb] at this; exact this
  have mw := mid_v hb hs
  have b1 := sub_w mw ha.w
  have b2 := sub_w ht.w ha.w
  have b3 := sub_w mw ht.w
  have f2 := fun h => F_pieceW hn b1 b2 b3 h
  have f3 : ∀ h, F_radius [D.tup ((b ++ [c]).map sideD)] h = .ok (.int (rad b)) h := fun h => F_radiusW (by omega) hw h
  obtain ⟨p1, p2, p3, p4⟩ := pc2_w hn b1 b2 b3
  have f4 := fun h => F_root_down' p1 (by omega) h
  have f5 := fun h => F_root_up' p3 (by omega) h
  unfold pieceS
  unfold boxD
  generalize b.map sideD = ys at *
  generalize (b ++ [c]).map sideD = xs at *
  simp [F__piece_span, ci, f1, f2, f3, f4, f5, pr]
def minQ (n : Nat) (b : List (Int × Int)) (bs : List (List (Int × Int))) : Int := minL (bs.map fun o => betQ n b o)
def grQ (n : Nat) (b : List (Int × Int)) (bs : List (List (Int × Int))) : Int := minL (bs.map fun o => grtQ n b o)
/-- boxes of a kind -/
def BsOk (n : Nat) (bs : List (List (Int × Int))) : Prop := 0 < bs.length ∧ bs.length ≤ 1000 ∧ ∀ b ∈ bs, b.length = n ∧ ∀ s ∈ b, VS s
theorem min_w {α : Type} {f : α → Int} {k : Nat} {xs : List α} (h0 : 0 < xs.length) (h : ∀ x ∈ xs, 0 ≤ f x ∧ sz (f x) ≤ k) : 0 ≤ minL (xs.map f) ∧ sz (minL (xs.map f)) ≤ k := by
  obtain ⟨m, _⟩ := minL_mem (ns := xs.map f) (by intro z; rw [List.map_eq_nil_iff] at z; subst z; simp at h0)
  obtain ⟨x, hx, e⟩ := List.mem_map.mp m
  rw [← e]
  exact h x hx
theorem F_boxes_spanW (hn : n ≤ 10) {bs : List (List (Int × Int))} (hb : b.length = n) (hbs : BsOk n bs) (hs : ∀ s ∈ b, WS s) (h : HP) :
    F__boxes_span [boxesD bs, boxD b] h = .ok (.tup [.int (rd (minQ n b bs)), .int (ru (grQ n b bs))]) h := by
  have pr : ∀ y z : Int, pure_ h (.tup [.int y, .int z]) h = .ok (.tup [.int y, .int z]) h := fun y z => pure_clean h (clean_tup (by simp [clean_int]))
  obtain ⟨l0, l1, ho⟩ := hbs
  have ow : ∀ o ∈ bs, o.length = n ∧ ∀ s ∈ o, WS s := fun o h => ⟨(ho o h).1, fun s hs => ((ho o h).2 s hs).w⟩
  have c1 : ∀ z2 z3, C__boxes_span_1 false [some (boxesD bs), some (boxD b), z2, z3, none] h = _ := fun z2 z3 =>
    mLc_ty (h1 := h) bs boxD (fun o => .int (betQ n b o)) (by simp [boxesD]) (by omega)
      (fun o hO h' => ⟨[some (boxesD bs), some (boxD b), z2, z3, some (boxD o)], by simp, by
        have f := F_betweenW hn hb (ow o hO).1 hs (ow o hO).2 h'
        simp [f]⟩) fun i _ => clean_int _
  have c2 : ∀ z2 z3, C__boxes_span_2 false [some (boxesD bs), some (boxD b), z2, z3, none] h = _ := fun z2 z3 =>
    mLc_ty (h1 := h) bs boxD (fun o => .int (grtQ n b o)) (by simp [boxesD]) (by omega)
      (fun o hO h' => ⟨[some (boxesD bs), some (boxD b), z2, z3, some (boxD o)], by simp, by
        have f := F_greatestW hn hb (ow o hO).1 hs (ow o hO).2 h'
        simp [f]⟩) fun i _ => clean_int _
  have k1 := intsD_map (bs.map fun o => betQ n b o)
  have k2 := intsD_map (bs.map fun o => grtQ n b o)
  simp only [List.map_map] at k1 k2
  have e1 : (D.int ∘ fun o => betQ n b o) = fun o => D.int (betQ n b o) := rfl
  have e2 : (D.int ∘ fun o => grtQ n b o) = fun o => D.int (grtQ n b o) := rfl
  rw [e1] at k1
  rw [e2] at k2
  obtain ⟨q1, q2⟩ := min_w l0 fun o hO => betQ_w hn hb (ow o hO).1 hs (ow o hO).2
  obtain ⟨q3, q4⟩ := min_w l0 fun o hO => grtQ_w hn hb (ow o hO).1 hs (ow o hO).2
  have f3 := fun h => F_root_down' q1 (by omega) h
  have f4 := fun h => F_root_up' q3 (by omega) h
  have t1 : 0 < (bs.map fun o => betQ n b o).length := by simpa using l0
  have t2 : 0 < (bs.map fun o => grtQ n b o).length := by simpa using l0
  unfold minQ grQ
  generalize (bs.map fun o => D.int (betQ n b o)) = u1 at *
  generalize (bs.map fun o => D.int (grtQ n b o)) = u2 at *
  generalize (bs.map fun o => betQ n b o) = u3 at *
  generalize (bs.map fun o => grtQ n b o) = u4 at *
  simp [F__boxes_span, c1, c2, k1, k2, t1, t2, f3, f4, pr]
/-- spans of kinds -/
def spanK (n : Nat) (K : Kd) (b : List (Int × Int)) (c : Int × Int) : Int × Int := match K with
  | .range p => (rd (nearQ n p b), ru (farQ n p b))
  | .clocked p => (rd (nearQ n p b) + c.1, ru (farQ n p b) + c.2)
  | .differ p q => (rd (nearQ n p b) - ru (farQ n q b), ru (farQ n p b) - rd (nearQ n q b))
  | .piece a t => pieceS n a t b
  | .side p => (sg n (sdLo p b), sg n (sdHi p b))
  | .boxes bs => (rd (minQ n b bs), ru (grQ n b bs))
/-- kinds with numbers of a size -/
def KdV (n : Nat) : Kd → Prop
  | .range p => VP n p
  | .clocked p => VP n p
  | .differ p q => VP n p ∧ VP n q
  | .piece p q => VP n p ∧ VP n q
  | .side p => VP n p
  | .boxes bs => BsOk n bs
theorem F_spanW (hn : n ≤ 10) {K : Kd} (hK : KdV n K) {c : Int × Int} (hb : b.length = n) (hs : ∀ s ∈ b, VS s) (h : HP) :
    F_span [kdD n K, boxD (b ++ [c])] h = .ok (.tup [.int (spanK n K b c).1, .int (spanK n K b c).2]) h := by
  have pr : ∀ y z : Int, pure_ h (.tup [.int y, .int z]) h = .ok (.tup [.int y, .int z]) h := fun y z => pure_clean h (clean_tup (by simp [clean_int]))
  have hw : ∀ s ∈ b, WS s := fun s h => (hs s h).w
  have ci := init_box b c
  have la := last_box b c
  cases K with
  | range p =>
    have f : ∀ h, F_distances [vec n p, D.tup (b.map sideD)] h = _ := fun h => F_distancesW hn hb hK.w hw h
    unfold boxD
    generalize b.map sideD = ys at *
    generalize (b ++ [c]).map sideD = xs at *
    simp [F_span, kdD, ci, la, sideD, f, spanK, pr]
  | clocked p =>
    have f : ∀ h, F_distances [vec n p, D.tup (b.map sideD)] h = _ := fun h => F_distancesW hn hb hK.w hw h
    unfold boxD
    generalize b.map sideD = ys at *
    generalize (b ++ [c]).map sideD = xs at *
    simp [F_span, kdD, ci, la, sideD, f, spanK, pr]
  | differ p q =>
    have f : ∀ h, F_distances [vec n p, D.tup (b.map sideD)] h = _ := fun h => F_distancesW hn hb hK.1.w hw h
    have f2 : ∀ h, F_distances [vec n q, D.tup (b.map sideD)] h = _ := fun h => F_distancesW hn hb hK.2.w hw h
    unfold boxD
    generalize b.map sideD = ys at *
    generalize (b ++ [c]).map sideD = xs at *
    simp [F_span, kdD, ci, la, sideD, f, f2, spanK, pr]
  | piece p q =>
    have f : ∀ h, F__piece_span [vec n p, vec n q, D.tup ((b ++ [c]).map sideD)] h = _ := fun h => F_piece_spanW hn hb hK.1 hK.2 hs h
    unfold boxD
    generalize b.map sideD = ys at *
    generalize (b ++ [c]).map sideD = xs at *
    simp [F_span, kdD, ci, la, sideD, f, spanK, pr]
  | side p =>
    have f : ∀ h, F__side_span [vec n p, D.tup (b.map sideD)] h = _ := fun h => F_side_spanW hn hb hK.w hw h
    unfold boxD
    generalize b.map sideD = ys at *
    generalize (b ++ [c]).map sideD = xs at *
    simp [F_span, kdD, ci, la, sideD, f, spanK, pr]
  | boxes bs =>
    have f : ∀ h, F__boxes_span [boxesD bs, D.tup (b.map sideD)] h = _ := fun h => F_boxes_spanW hn hb hK hw h
    unfold boxD
    generalize b.map sideD = ys at *
    generalize (b ++ [c]).map sideD = xs at *
    simp [F_span, kdD, ci, la, sideD, f, spanK, pr]
end
end Lib
namespace Lib
open PySem PySem.Spec PyProof.Rows L2 Ev
/-! roots grow -/
theorem rd_lt {x y : Int} (hx : 0 ≤ x) (hy : 0 ≤ y) (h : x * x < y * y) : x < y := by
  apply Decidable.byContradiction
  intro c
  have := sq_le_sq hy (show y ≤ x by omega)
  omega
theorem rd_max {n r : Int} (hn : 0 ≤ n) (h : r * r ≤ n) : r ≤ rd n := by
  obtain ⟨h0, h1, h2⟩ := rd_spec hn
  by_cases c : 0 ≤ r
  · have := rd_lt c (show 0 ≤ rd n + 1 by omega) (by omega)
    omega
  · omega
theorem rd_mono {a b : Int} (ha : 0 ≤ a) (h : a ≤ b) : rd a ≤ rd b := rd_max (by omega) (by have := (rd_spec ha).2.1; omega)
theorem ru_min {n r : Int} (hn : 0 ≤ n) (hr : 0 ≤ r) (h : n ≤ r * r) : ru n ≤ r := by
  obtain ⟨h0, h1, h2⟩ := ru_spec hn
  by_cases c : 0 < ru n
  · have := rd_lt (show 0 ≤ ru n - 1 by omega) hr (by have := h2 c; omega)
    omega
  · omega
theorem ru_mono {a b : Int} (ha : 0 ≤ a) (h : a ≤ b) : ru a ≤ ru b := ru_min ha (ru_spec (show 0 ≤ b by omega)).1 (by have := (ru_spec (show 0 ≤ b by omega)).2.1; omega)
theorem rd_le_ru {n : Int} (hn : 0 ≤ n) : rd n ≤ ru n := by unfold ru; split <;> omega
/-! triangles -/
def adv (u v : Nat → Int) : Nat → Int := fun i => u i + v i
theorem dt_add (n : Nat) (u v : Nat → Int) : dt n (adv u v) (adv u v) = dt n u u + 2 * dt n u v + dt n v v := by
  have := dt_lin n u v 1 1
  have e : (fun i => 1 * u i + 1 * v i) = adv u v := by funext i; simp [adv]
  rw [e] at this
  rw [← this]
  omega
theorem dt_le {n : Nat} {u v : Nat → Int} {α β : Int} (ha : 0 ≤ α) (hb : 0 ≤ β) (h1 : dt n u u ≤ α * α) (h2 : dt n v v ≤ β * β) : dt n u v ≤ α * β := by
  have c := cauchy n u v
  have m : dt n u u * dt n v v ≤ α * α * (β * β) := Int.mul_le_mul h1 h2 (dt_self n v) (Int.mul_nonneg ha ha)
  have e : α * α * (β * β) = α * β * (α * β) := by grind
  apply Decidable.byContradiction
  intro z
  have q := Int.mul_nonneg ha hb
  have := sq_le_sq (x := α * β + 1) (y := dt n u v) (by omega) (by omega)
  have e2 : (α * β + 1) * (α * β + 1) = α * β * (α * β) + 2 * (α * β) + 1 := by grind
  omega
theorem tri {n : Nat} {u v : Nat → Int} {α β : Int} (ha : 0 ≤ α) (hb : 0 ≤ β) (h1 : dt n u u ≤ α * α) (h2 : dt n v v ≤ β * β) : dt n (adv u v) (adv u v) ≤ (α + β) * (α + β) := by
  have := dt_le ha hb h1 h2
  rw [dt_add]
  have e : (α + β) * (α + β) = α * α + 2 * (α * β) + β * β := by grind
  omega
theorem tri_lt {n : Nat} {u v : Nat → Int} {α β : Int} (ha : 0 ≤ α) (hb : 0 ≤ β) (h1 : dt n u u < α * α) (h2 : dt n v v ≤ β * β) : dt n (adv u v) (adv u v) < (α + β) * (α + β) := by
  have := dt_le ha hb (Int.le_of_lt h1) h2
  rw [dt_add]
  have e : (α + β) * (α + β) = α * α + 2 * (α * β) + β * β := by grind
  omega
theorem dt_scale (n : Nat) (u : Nat → Int) (P : Int) : dt n (fun i => P * u i) (fun i => P * u i) = P * P * dt n u u := by
  have := dt_lin n u u P 0
  have e : (fun i => P * u i + 0 * u i) = fun i => P * u i := by funext i; simp
  rw [e] at this
  rw [← this]
  simp
theorem dt_congr {n : Nat} {u v u' v' : Nat → Int} (h1 : ∀ i < n, u i = u' i) (h2 : ∀ i < n, v i = v' i) : dt n u v = dt n u' v' := sg_congr fun i hi => by rw [h1 i hi, h2 i hi]
/-! a place of the piece -/
/-- the way from a place of the piece, times P -/
def pv (x a t : Nat → Int) (P q : Int) : Nat → Int := fun i => P * sub x a i + -q * sub t a i
theorem pv_dt (n : Nat) (x a t : Nat → Int) (P q : Int) : dt n (pv x a t P q) (pv x a t P q) = q * q * dt n (sub t a) (sub t a) - 2 * q * P * dt n (sub x a) (sub t a) + P * P * dt n (sub x a) (sub x a) := by
  have := dt_lin n (sub x a) (sub t a) P (-q)
  unfold pv
  rw [← this]
  grind
theorem near0 {n : Nat} {x a t : Nat → Int} {P q : Int} (h0 : 0 ≤ q) (h1 : q ≤ P) : (pc1 n x a t).1 * (P * P) ≤ dt n (pv x a t P q) (pv x a t P q) * (pc1 n x a t).2 := by
  rw [pv_dt]
  by_cases c1 : (pc1 n x a t).2 = 1
  · have := piece_near (n := n) (x := x) (a := a) (t := t) (A := (pc1 n x a t).1) (P := P) (q := q) (by rw [c1]; omega) h0 h1
    rw [c1]
    rw [← Int.mul_assoc]
    omega
  · unfold pc1 at c1 ⊢
    split at c1
    · exact absurd rfl c1
    · rename_i a1
      split at c1
      · exact absurd rfl c1
      · rename_i a2
        rw [if_neg a1, if_neg a2]
        simp only
        have k2 := sq_nn (q * dt n (sub t a) (sub t a) - P * dt n (sub x a) (sub t a))
        have e : (q * q * dt n (sub t a) (sub t a) - 2 * q * P * dt n (sub x a) (sub t a) + P * P * dt n (sub x a) (sub x a)) * dt n (sub t a) (sub t a) - (dt n (sub x a) (sub x a) * dt n (sub t a) (sub t a) - dt n (sub x a) (sub t a) * dt n (sub x a) (sub t a)) * (P * P) = (q * dt n (sub t a) (sub t a) - P * dt n (sub x a) (sub t a)) * (q * dt n (sub t a) (sub t a) - P * dt n (sub x a) (sub t a)) := by grind
        omega
theorem near_ex (n : Nat) (x a t : Nat → Int) : ∃ P q : Int, 0 < P ∧ 0 ≤ q ∧ q ≤ P ∧ dt n (pv x a t P q) (pv x a t P q) * (pc1 n x a t).2 = (pc1 n x a t).1 * (P * P) := by
  have hd := dt_diff n x a t
  have hT := dt_self n (sub t a)
  unfold pc1
  split
  · refine ⟨1, 0, by decide, by decide, by decide, ?_⟩
    rw [pv_dt]
    simp
  · rename_i a1
    split
    · refine ⟨1, 1, by decide, by decide, by decide, ?_⟩
      rw [pv_dt]
      simp only [Int.mul_one, Int.one_mul]
      omega
    · rename_i a2
      refine ⟨dt n (sub t a) (sub t a), dt n (sub x a) (sub t a), by omega, by omega, by omega, ?_⟩
      rw [pv_dt]
      simp only
      generalize dt n (sub t a) (sub t a) = T at *
      generalize dt n (sub x a) (sub t a) = L at *
      generalize dt n (sub x a) (sub x a) = H at *
      grind
/-- the roots of the distance from a piece change by at most the distance of the points -/
theorem piece_lip {n : Nat} {m x a t : Nat → Int} {R : Int} (hR : 0 ≤ R) (h : dt n (sub m x) (sub m x) ≤ R * R) :
    rd (pc2 n m a t).1 ≤ rd (pc2 n x a t).1 + R ∧ ru (pc2 n m a t).2 ≤ ru (pc2 n x a t).2 + R := by
  have pvs : ∀ P q : Int, pv m a t P q = adv (pv x a t P q) (fun i => P * sub m x i) := fun P q => by
    funext i
    unfold pv adv sub
    grind
  have s0 : ∀ y, 0 ≤ (pc1 n y a t).1 := fun y => by
    have W1 := dt_self n (sub y a)
    have W3 := dt_self n (sub y t)
    unfold pc1
    split
    · exact W1
    · split
      · exact W3
      · have := cauchy n (sub y a) (sub t a)
        show 0 ≤ _ - _
        omega
  have Wm := pc1_pos n m a t
  have Wx := pc1_pos n x a t
  have dm := div_facts (pc1 n m a t).1 (pc1 n m a t).2 Wm
  have dx := div_facts (pc1 n x a t).1 (pc1 n x a t).2 Wx
  have nn : ∀ y, 0 ≤ (pc2 n y a t).1 ∧ 0 ≤ (pc2 n y a t).2 := fun y => by
    have W := pc1_pos n y a t
    have := s0 y
    unfold pc2
    simp only
    refine ⟨Int.ediv_nonneg this (by omega), ?_⟩
    have := Int.ediv_le_ediv W (show -(pc1 n y a t).1 ≤ 0 by omega)
    rw [Int.zero_ediv] at this
    omega
  constructor
  · -- from below: a nearest place for x
    obtain ⟨A0, A1, A2⟩ := rd_spec (nn m).1
    obtain ⟨B0, B1, B2⟩ := rd_spec (nn x).1
    apply Decidable.byContradiction
    intro z
    obtain ⟨P, q, hP, h0, h1, e⟩ := near_ex n x a t
    have k1 := near0 (n := n) (x := m) (a := a) (t := t) h0 h1
    have PP : 0 < P * P := Int.mul_pos hP hP
    -- S_x < (B+1)^2 W_x
    have sx : (pc1 n x a t).1 < (rd (pc2 n x a t).1 + 1) * (rd (pc2 n x a t).1 + 1) * (pc1 n x a t).2 := by
      have : (pc1 n x a t).1 / (pc1 n x a t).2 + 1 ≤ (rd (pc2 n x a t).1 + 1) * (rd (pc2 n x a t).1 + 1) := B2
      have := Int.mul_le_mul_of_nonneg_right this (show 0 ≤ (pc1 n x a t).2 by omega)
      omega
    have sm : rd (pc2 n m a t).1 * rd (pc2 n m a t).1 * (pc1 n m a t).2 ≤ (pc1 n m a t).1 := by
      have : rd (pc2 n m a t).1 * rd (pc2 n m a t).1 ≤ (pc1 n m a t).1 / (pc1 n m a t).2 := A1
      have := Int.mul_le_mul_of_nonneg_right this (show 0 ≤ (pc1 n m a t).2 by omega)
      omega
    generalize rd (pc2 n m a t).1 = A at *
    generalize rd (pc2 n x a t).1 = B at *
    have ux : dt n (pv x a t P q) (pv x a t P q) < (P * (B + 1)) * (P * (B + 1)) := by
      have := Int.mul_lt_mul_of_pos_right sx PP
      rw [← e] at this
      have e2 : (B + 1) * (B + 1) * (pc1 n x a t).2 * (P * P) = (P * (B + 1)) * (P * (B + 1)) * (pc1 n x a t).2 := by grind
      rw [e2] at this
      exact Int.lt_of_mul_lt_mul_right this (by omega)
    have vx : dt n (fun i => P * sub m x i) (fun i => P * sub m x i) ≤ (P * R) * (P * R) := by
      rw [dt_scale]
      have := Int.mul_le_mul_of_nonneg_left h (show 0 ≤ P * P by omega)
      have e2 : P * P * (R * R) = P * R * (P * R) := by grind
      omega
    have tr := tri_lt (Int.mul_nonneg (show 0 ≤ P by omega) (show 0 ≤ B + 1 by omega)) (Int.mul_nonneg (show 0 ≤ P by omega) hR) ux vx
    rw [← pvs] at tr
    have um : A * A * (P * P) ≤ dt n (pv m a t P q) (pv m a t P q) := by
      have := Int.mul_le_mul_of_nonneg_right sm (show 0 ≤ P * P by omega)
      have e2 : A * A * (pc1 n m a t).2 * (P * P) = A * A * (P * P) * (pc1 n m a t).2 := by grind
      rw [e2] at this
      exact Int.le_of_mul_le_mul_right (Int.le_trans this k1) Wm
    have e3 : (P * (B + 1) + P * R) * (P * (B + 1) + P * R) = (B + 1 + R) * (B + 1 + R) * (P * P) := by grind
    rw [e3] at tr
    have := sq_le_sq (x := B + 1 + R) (y := A) (by omega) (by omega)
    have := Int.mul_le_mul_of_nonneg_right this (show 0 ≤ P * P by omega)
    omega
  · obtain ⟨C0, C1, C2⟩ := ru_spec (nn x).2
    obtain ⟨E0, E1, E2⟩ := ru_spec (nn m).2
    apply Decidable.byContradiction
    intro z
    obtain ⟨P, q, hP, h0, h1, e⟩ := near_ex n x a t
    have k1 := near0 (n := n) (x := m) (a := a) (t := t) h0 h1
    have PP : 0 < P * P := Int.mul_pos hP hP
    have E2 := E2 (by omega)
    have sx : (pc1 n x a t).1 ≤ ru (pc2 n x a t).2 * ru (pc2 n x a t).2 * (pc1 n x a t).2 := by
      have : -(-(pc1 n x a t).1 / (pc1 n x a t).2) ≤ ru (pc2 n x a t).2 * ru (pc2 n x a t).2 := C1
      have := Int.mul_le_mul_of_nonneg_right this (show 0 ≤ (pc1 n x a t).2 by omega)
      omega
    have sm : (ru (pc2 n m a t).2 - 1) * (ru (pc2 n m a t).2 - 1) * (pc1 n m a t).2 < (pc1 n m a t).1 := by
      have : (ru (pc2 n m a t).2 - 1) * (ru (pc2 n m a t).2 - 1) ≤ -(-(pc1 n m a t).1 / (pc1 n m a t).2) - 1 := by
        have : (ru (pc2 n m a t).2 - 1) * (ru (pc2 n m a t).2 - 1) < -(-(pc1 n m a t).1 / (pc1 n m a t).2) := E2
        omega
      have := Int.mul_le_mul_of_nonneg_right this (show 0 ≤ (pc1 n m a t).2 by omega)
      omega
    generalize ru (pc2 n m a t).2 = E at *
    generalize ru (pc2 n x a t).2 = C at *
    have ux : dt n (pv x a t P q) (pv x a t P q) ≤ (P * C) * (P * C) := by
      have := Int.mul_le_mul_of_nonneg_right sx (show 0 ≤ P * P by omega)
      rw [← e] at this
      have e2 : C * C * (pc1 n x a t).2 * (P * P) = (P * C) * (P * C) * (pc1 n x a t).2 := by grind
      rw [e2] at this
      exact Int.le_of_mul_le_mul_right this Wx
    have vx : dt n (fun i => P * sub m x i) (fun i => P * sub m x i) ≤ (P * R) * (P * R) := by
      rw [dt_scale]
      have := Int.mul_le_mul_of_nonneg_left h (show 0 ≤ P * P by omega)
      have e2 : P * P * (R * R) = P * R * (P * R) := by grind
      omega
    have tr := tri (Int.mul_nonneg (show 0 ≤ P by omega) C0) (Int.mul_nonneg (show 0 ≤ P by omega) hR) ux vx
    rw [← pvs] at tr
    have um : (E - 1) * (E - 1) * (P * P) < dt n (pv m a t P q) (pv m a t P q) := by
      have := Int.mul_lt_mul_of_pos_right sm PP
      have e2 : (E - 1) * (E - 1) * (pc1 n m a t).2 * (P * P) = (E - 1) * (E - 1) * (P * P) * (pc1 n m a t).2 := by grind
      rw [e2] at this
      exact Int.lt_of_mul_lt_mul_right (Int.lt_of_lt_of_le this k1) (by omega)
    have e3 : (P * C + P * R) * (P * C + P * R) = (C + R) * (C + R) * (P * P) := by grind
    rw [e3] at tr
    have := sq_le_sq (x := C + R) (y := E - 1) (by omega) (by omega)
    have := Int.mul_le_mul_of_nonneg_right this (show 0 ≤ P * P by omega)
    omega
end Lib
namespace Lib
open PySem PySem.Spec PyProof.Rows L2 Ev
/-! loops, turn by turn -/
section
variable {asg : TF} {body : SM} {d : D} {ds : List D} {env e e' : EN} {h h' : HP}
theorem for_nil : forE asg body [] [] env h = .nx env h := by
  unfold forE
  rw [if_pos (by simp)]
theorem for_nx (ha : asg d env h = some e) (hb : body e h = .nx e' h') : forE asg body [] (d :: ds) env h = forE asg body [] ds e' h' := by
  conv => lhs; unfold forE
  rw [if_pos (by simp), ha]
  simp only [hb]
theorem for_ct (ha : asg d env h = some e) (hb : body e h = .ct e' h') : forE asg body [] (d :: ds) env h = forE asg body [] ds e' h' := by
  conv => lhs; unfold forE
  rw [if_pos (by simp), ha]
  simp only [hb]
theorem for_rt {r : D} (ha : asg d env h = some e) (hb : body e h = .rt r h') : forE asg body [] (d :: ds) env h = .rt r h' := by
  conv => lhs; unfold forE
  rw [if_pos (by simp), ha]
  simp only [hb]
theorem for_bk (ha : asg d env h = some e) (hb : body e h = .bk e' h') : forE asg body [] (d :: ds) env h = .nx e' h' := by
  conv => lhs; unfold forE
  rw [if_pos (by simp), ha]
  simp only [hb]
/-- a loop that returns r at the first item that fails -/
theorem for_all {α : Type} {r : D} (f : α → D) (P : α → Bool) (I : EN → HP → Prop) : ∀ (xs : List α), (∀ x ∈ xs, ∀ env h, I env h → ∃ e, asg (f x) env h = some e ∧
      ((P x = true ∧ ∃ env' h', (body e h = .nx env' h' ∨ body e h = .ct env' h') ∧ I env' h') ∨ (P x = false ∧ ∃ env' h', body e h = .rt r h' ∧ I env' h'))) → ∀ (env : EN) (h : HP), I env h →
    (xs.all P = true ∧ ∃ env' h', forE asg body [] (xs.map f) env h = .nx env' h' ∧ I env' h') ∨ (xs.all P = false ∧ ∃ env' h', forE asg body [] (xs.map f) env h = .rt r h' ∧ I env' h')
  | [], _, env, h, i => .inl ⟨rfl, env, h, for_nil, i⟩
  | x :: xs, H, env, h, i => by
    obtain ⟨e, e1, k⟩ := H x List.mem_cons_self env h i
    rw [List.map_cons, List.all_cons]
    rcases k with ⟨p, env', h', b | b, i'⟩ | ⟨p, env', h', b, i'⟩
    · rw [p, for_nx e1 b, Bool.true_and]
      exact for_all f P I xs (fun y hy => H y (List.mem_cons_of_mem _ hy)) env' h' i'
    · rw [p, for_ct e1 b, Bool.true_and]
      exact for_all f P I xs (fun y hy => H y (List.mem_cons_of_mem _ hy)) env' h' i'
    · rw [p, for_rt e1 b, Bool.false_and]
      exact .inr ⟨rfl, env', h', rfl, i'⟩
end
/-! spans of parts -/
def InS (s o : Int × Int) : Prop := o.1 ≤ s.1 ∧ s.1 ≤ s.2 ∧ s.2 ≤ o.2
structure InB (n : Nat) (b o : List (Int × Int)) : Prop where
  lb : b.length = n
  lo : o.length = n
  at_ : ∀ i < n, InS (sd b i) (sd o i)
theorem sg_mono {f g : Nat → Int} : ∀ {n : Nat}, (∀ i < n, f i ≤ g i) → sg n f ≤ sg n g
  | 0, _ => by simp [sg_zero]
  | n + 1, h => by
    have h1 := sg_mono (n := n) fun i hi => h i (by omega)
    have h2 := h n (by omega)
    rw [sg_succ, sg_succ]
    omega
theorem sq_abs {x y : Int} (h1 : -y ≤ x) (h2 : x ≤ y) : x * x ≤ y * y := by
  by_cases c : 0 ≤ x
  · exact sq_le_sq c h2
  · have := sq_le_sq (x := -x) (y := y) (by omega) (by omega)
    rw [Int.neg_mul_neg] at this
    exact this
theorem min_mono {α : Type} {f g : α → Int} {xs : List α} (h0 : 0 < xs.length) (h : ∀ x ∈ xs, f x ≤ g x) : minL (xs.map f) ≤ minL (xs.map g) := by
  have ne : ∀ f : α → Int, xs.map f ≠ [] := fun f z => by rw [List.map_eq_nil_iff] at z; subst z; simp at h0
  obtain ⟨x, hx, e⟩ := List.mem_map.mp (minL_mem (ne g)).1
  rw [← e]
  exact Int.le_trans ((minL_mem (ne f)).2 _ (List.mem_map.mpr ⟨x, hx, rfl⟩)) (h x hx)
theorem min_le {α : Type} {f : α → Int} {xs : List α} {x : α} (h : x ∈ xs) : minL (xs.map f) ≤ f x :=
  (minL_mem (ns := xs.map f) (fun z => by rw [List.map_eq_nil_iff] at z; subst z; cases h)).2 _ (List.mem_map.mpr ⟨x, h, rfl⟩)
theorem min_ex {α : Type} {f : α → Int} {xs : List α} (h0 : 0 < xs.length) : ∃ x ∈ xs, minL (xs.map f) = f x := by
  obtain ⟨x, hx, e⟩ := List.mem_map.mp (minL_mem (ns := xs.map f) (fun z => by rw [List.map_eq_nil_iff] at z; subst z; simp at h0)).1
  exact ⟨x, hx, e.symm⟩
theorem min2 (x y : Int) : minL [x, y] ≤ x ∧ minL [x, y] ≤ y ∧ (minL [x, y] = x ∨ minL [x, y] = y) := by
  have := minL_mem (ns := [x, y]) (by simp)
  simpa [and_assoc, and_comm, and_left_comm] using this
theorem max2 (x y : Int) : x ≤ maxL [x, y] ∧ y ≤ maxL [x, y] ∧ (maxL [x, y] = x ∨ maxL [x, y] = y) := by
  have := maxL_mem (ns := [x, y]) (by simp)
  simpa [and_assoc, and_comm, and_left_comm] using this
theorem sdLo_le {p : Nat → Int} {b : List (Int × Int)} {i : Nat} {x : Int} (h1 : (sd b i).1 ≤ x) (h2 : x ≤ (sd b i).2) : sdLo p b i ≤ p i * x ∧ p i * x ≤ sdHi p b i := by
  obtain ⟨a1, a2, _⟩ := min2 (sdA p b i) (sdB p b i)
  obtain ⟨b1, b2, _⟩ := max2 (sdA p b i) (sdB p b i)
  unfold sdLo sdHi
  unfold sdA sdB at *
  by_cases c : 0 ≤ p i
  · have k1 := Int.mul_le_mul_of_nonneg_left h1 c
    have k2 := Int.mul_le_mul_of_nonneg_left h2 c
    omega
  · have k1 := Int.mul_le_mul_of_nonneg_left h1 (show 0 ≤ -p i by omega)
    have k2 := Int.mul_le_mul_of_nonneg_left h2 (show 0 ≤ -p i by omega)
    rw [Int.neg_mul, Int.neg_mul] at k1 k2
    omega
section
variable {n : Nat} {p : Nat → Int} {b o : List (Int × Int)}
theorem near_mono (h : InB n b o) : nearQ n p o ≤ nearQ n p b := sg_mono fun i hi => sq_le_sq (gap_nn _ _) (by
  obtain ⟨h1, h2, h3⟩ := h.at_ i hi
  unfold nearS
  exact gap_le (gap_nn _ _) (by have := le_gap1 (p i, p i) (sd b i); simp only at this ⊢; omega) (by have := le_gap2 (p i, p i) (sd b i); simp only at this ⊢; omega))
theorem far_mono (h : InB n b o) : farQ n p b ≤ farQ n p o := sg_mono fun i hi => by
  obtain ⟨h1, h2, h3⟩ := h.at_ i hi
  have k1 := le_mx1 (p i - (sd b i).1) ((sd b i).2 - p i)
  have k2 := le_mx2 (p i - (sd b i).1) ((sd b i).2 - p i)
  have l1 := le_mx1 (p i - (sd o i).1) ((sd o i).2 - p i)
  have l2 := le_mx2 (p i - (sd o i).1) ((sd o i).2 - p i)
  unfold farS
  exact sq_le_sq (by omega) (mx_le (by omega) (by omega))
theorem bet_mono {c : List (Int × Int)} (h : InB n b o) : betQ n o c ≤ betQ n b c := sg_mono fun i hi => sq_le_sq (gap_nn _ _) (by
  obtain ⟨h1, h2, h3⟩ := h.at_ i hi
  unfold betS
  exact gap_le (gap_nn _ _) (by have := le_gap1 (sd b i) (sd c i); omega) (by have := le_gap2 (sd b i) (sd c i); omega))
theorem grt_mono {c : List (Int × Int)} (h : InB n b o) : grtQ n b c ≤ grtQ n o c := sg_mono fun i hi => by
  obtain ⟨h1, h2, h3⟩ := h.at_ i hi
  have a1 := le_gap1 ((sd o i).1, (sd o i).1) (sd c i)
  have a2 := le_gap2 ((sd o i).2, (sd o i).2) (sd c i)
  have b1 := le_mx1 (gapS ((sd o i).1, (sd o i).1) (sd c i)) (gapS ((sd o i).2, (sd o i).2) (sd c i))
  have b2 := le_mx2 (gapS ((sd o i).1, (sd o i).1) (sd c i)) (gapS ((sd o i).2, (sd o i).2) (sd c i))
  have z := gap_nn ((sd o i).1, (sd o i).1) (sd c i)
  simp only at a1 a2
  unfold grtS
  refine sq_le_sq (Int.le_trans (gap_nn ((sd b i).1, (sd b i).1) (sd c i)) (le_mx1 _ _)) (mx_le (gap_le (by omega) ?_ ?_) (gap_le (by omega) ?_ ?_)) <;> simp only <;> omega
theorem sq_sg : ∀ {b : List (Int × Int)}, sq b = sg b.length fun i => hq (sd b i) := fun {b} => by
  unfold sq sg
  congr 1
  apply List.ext_getElem
  · simp
  · intro i h1 h2
    have hi : i < b.length := by simpa using h1
    simp [sd_get hi]
theorem mid_near {x : Nat → Int} (hb : b.length = n) (h : ∀ i < n, (sd b i).1 ≤ x i ∧ x i ≤ (sd b i).2) : dt n (sub (midF b) x) (sub (midF b) x) ≤ rad b * rad b := by
  have h0 : 0 ≤ sq b := by
    rw [sq_sg]
    exact sg_nn fun i _ => hq_nn _
  have h1 : dt n (sub (midF b) x) (sub (midF b) x) ≤ sq b := by
    rw [sq_sg, hb]
    refine sg_mono fun i hi => ?_
    obtain ⟨k1, k2⟩ := h i hi
    exact sq_abs (by unfold hf sub midF midS; omega) (by unfold hf sub midF midS; omega)
  exact Int.le_trans h1 (ru_spec h0).2.1
theorem rad_nn : 0 ≤ rad b := (ru_spec (by rw [sq_sg]; exact sg_nn fun i _ => hq_nn _)).1
/-- a place of the box, for a piece -/
theorem piece_in {a t x : Nat → Int} (hb : b.length = n) (h : ∀ i < n, (sd b i).1 ≤ x i ∧ x i ≤ (sd b i).2) : (pieceS n a t b).1 ≤ rd (pc2 n x a t).1 ∧ ru (pc2 n x a t).2 ≤ (pieceS n a t b).2 := by
  have m := mid_near hb h
  have m2 : dt n (sub x (midF b)) (sub x (midF b)) ≤ rad b * rad b := by
    have : dt n (sub x (midF b)) (sub x (midF b)) = dt n (sub (midF b) x) (sub (midF b) x) := by
      unfold dt
      refine sg_congr fun i _ => ?_
      unfold sub
      grind
    omega
  have l1 := piece_lip (a := a) (t := t) rad_nn m
  have l2 := piece_lip (a := a) (t := t) rad_nn m2
  unfold pieceS
  simp only
  omega
theorem single_mid {x : Nat → Int} (hb : b.length = n) (h : ∀ i < n, (sd b i).1 = (sd b i).2) : midF b = (fun i => midF b i) ∧ (∀ i < n, midF b i = (sd b i).1) ∧ rad b = 0 := by
  refine ⟨rfl, fun i hi => ?_, ?_⟩
  · have := h i hi
    unfold midF midS
    omega
  · have : sq b = 0 := by
      rw [sq_sg, hb]
      have : sg n (fun i => hq (sd b i)) = sg n fun _ => 0 := sg_congr fun i hi => by
        have := h i hi
        have e : hf (sd b i) = 0 := by unfold hf; omega
        unfold hq
        rw [e]
        rfl
      rw [this]
      have := sg_bd (f := fun _ => 0) (B := 0) (n := n) fun i _ => by omega
      omega
    unfold rad
    rw [this]
    have := ru_min (n := 0) (r := 0) (by omega) (by omega) (by omega)
    have := (ru_spec (n := 0) (by omega)).1
    omega
theorem span_mono {K : Kd} {c d : Int × Int} (h : InB n b o) (hc : InS c d) (hK : match K with | .piece _ _ => ∀ i < n, (sd b i).1 = (sd b i).2 | .boxes bs => 0 < bs.length | _ => True) :
    (spanK n K o d).1 ≤ (spanK n K b c).1 ∧ (spanK n K b c).2 ≤ (spanK n K o d).2 := by
  obtain ⟨c1, c2, c3⟩ := hc
  have nn1 : ∀ p b, 0 ≤ nearQ n p b := fun p b => sg_nn fun i _ => sq_nn _
  have nn2 : ∀ p b, 0 ≤ farQ n p b := fun p b => sg_nn fun i _ => sq_nn _
  have r1 : ∀ p, rd (nearQ n p o) ≤ rd (nearQ n p b) := fun p => rd_mono (nn1 _ _) (near_mono h)
  have r2 : ∀ p, ru (farQ n p b) ≤ ru (farQ n p o) := fun p => ru_mono (nn2 _ _) (far_mono h)
  cases K with
  | range p => exact ⟨r1 p, r2 p⟩
  | clocked p =>
    have := r1 p
    have := r2 p
    unfold spanK
    simp only
    omega
  | differ p q =>
    have := r1 p
    have := r2 p
    have := r1 q
    have := r2 q
    unfold spanK
    simp only
    omega
  | side p =>
    refine ⟨sg_mono fun i hi => ?_, sg_mono fun i hi => ?_⟩
    · obtain ⟨k1, k2, k3⟩ := h.at_ i hi
      have a := (sdLo_le (p := p) (b := o) (i := i) (x := (sd b i).1) k1 (by omega)).1
      have a2 := (sdLo_le (p := p) (b := o) (i := i) (x := (sd b i).2) (by omega) k3).1
      have e : sdLo p b i = p i * (sd b i).1 ∨ sdLo p b i = p i * (sd b i).2 := (min2 (sdA p b i) (sdB p b i)).2.2
      omega
    · obtain ⟨k1, k2, k3⟩ := h.at_ i hi
      have a := (sdLo_le (p := p) (b := o) (i := i) (x := (sd b i).1) k1 (by omega)).2
      have a2 := (sdLo_le (p := p) (b := o) (i := i) (x := (sd b i).2) (by omega) k3).2
      have e : sdHi p b i = p i * (sd b i).1 ∨ sdHi p b i = p i * (sd b i).2 := (max2 (sdA p b i) (sdB p b i)).2.2
      omega
  | piece a t =>
    obtain ⟨_, s1, s2⟩ := single_mid (x := a) h.lb hK
    have := piece_in (a := a) (t := t) (x := midF b) h.lo fun i hi => by
      rw [s1 i hi]
      obtain ⟨k1, k2, k3⟩ := h.at_ i hi
      omega
    unfold spanK
    simp only
    have e : pieceS n a t b = (rd (pc2 n (midF b) a t).1, ru (pc2 n (midF b) a t).2) := by
      unfold pieceS
      rw [s2]
      simp
    rw [e]
    exact this
  | boxes bs =>
    refine ⟨rd_mono ?_ (min_mono hK fun x _ => bet_mono h), ru_mono ?_ (min_mono hK fun x _ => grt_mono h)⟩
    · obtain ⟨x, _, e⟩ := min_ex (f := fun c => betQ n o c) hK
      unfold minQ
      rw [e]
      exact sg_nn fun i _ => sq_nn _
    · obtain ⟨x, _, e⟩ := min_ex (f := fun c => grtQ n b c) hK
      unfold grQ
      rw [e]
      exact sg_nn fun i _ => sq_nn _
end
theorem mkKd_v {ns : List Int} {k n : Nat} (hn : n ≤ 10) : KdV n (mkKd ns k n) := by
  have ok := mkKd_ok ns k n
  have pv : ∀ {p : Nat → Int}, PtOk p → VP n p := fun {p} h i _ => by
    have := h i
    have := sz64 (i := p i) (by omega)
    unfold V
    omega
  generalize mkKd ns k n = K at *
  cases K with
  | range p => exact pv ok
  | clocked p => exact pv ok
  | differ p q => exact ⟨pv ok.1, pv ok.2⟩
  | piece p q => exact ⟨pv ok.1, pv ok.2⟩
  | side p =>
    exact fun i _ => by
      have : (p i).natAbs ≤ 1000 := ok.1 i
      have := sz64 (i := p i) (by omega)
      unfold V
      omega
  | boxes bs =>
    obtain ⟨h1, h2, h3⟩ := ok
    refine ⟨h1, by omega, fun b hb => ⟨(h3 b hb).1, fun s hs => ?_⟩⟩
    obtain ⟨k1, k2, k3⟩ := (h3 b hb).2 s hs
    have := sz64 (i := s.1) (by omega)
    have := sz64 (i := s.2) (by omega)
    unfold VS V
    omega
theorem mkSide_v (ns : List Int) (k i : Nat) : VS (mkSide ns k i) ∧ (mkSide ns k i).1 ≤ (mkSide ns k i).2 := by
  have h1 := near_bd (num ns (k + 2 * i))
  have h2 := len7_bd (num ns (k + 2 * i + 1))
  have := sz64 (i := (mkSide ns k i).1) (by unfold mkSide; simp only; omega)
  have := sz64 (i := (mkSide ns k i).2) (by unfold mkSide; simp only; omega)
  refine ⟨⟨by unfold V; omega, by unfold V; omega⟩, ?_⟩
  unfold mkSide
  simp only
  omega
theorem mkBox_v (ns : List Int) (k n : Nat) : ∀ s ∈ mkBox ns k n, VS s ∧ s.1 ≤ s.2 := fun s hs => by
  obtain ⟨i, _, rfl⟩ := List.mem_map.mp hs
  exact mkSide_v ns k i
end Lib
namespace Lib
open PySem PySem.Spec PyProof.Rows L2 Ev
/-! the laws' own distances, wide -/
def lvec (n : Nat) (p : Nat → Int) : D := .lst ((List.range n).map fun i => .int (p i))
def VL (d : D) (n : Nat) (p : Nat → Int) : Prop := d = vec n p ∨ d = lvec n p
theorem clean_lvec (n : Nat) (p : Nat → Int) : clean (lvec n p) := clean_lst fun d hd => by
  obtain ⟨i, _, rfl⟩ := List.mem_map.mp hd
  exact clean_int _
section
variable {n : Nat} {p q : Nat → Int} {a b : List (Int × Int)}
theorem F_law_dotW (hn : n ≤ 10) {k : Nat} (hk : k ≤ 10000) {x y : D} (hx : VL x n p) (hy : VL y n q) (hp : Sz k n p) (hq : Sz k n q) (h : HP) : F__law_dot [x, y] h = .ok (.int (dt n p q)) h := by
  have pr : ∀ z : Int, pure_ h (.int z) h = .ok (.int z) h := fun z => pure_clean h (clean_int z)
  have rg : Rg (n : Int) := rg_nat (by omega)
  have lc : C__law_dot_1 false [some x, some y, none] h = _ :=
    mLc_ty (h1 := h) (List.range n) (fun i => .int (i : Nat)) (fun i => .int (p i * q i)) (by rcases hx with rfl | rfl <;> simp [vec, lvec, rg, rngD_eq]) (by simp; omega)
      (fun i hi h' => ⟨[some x, some y, some (.int (i : Nat))], by simp, by
        have hi' := List.mem_range.mp hi
        have m : CMulE (p i) (q i) := mulX k k (hp i hi') (hq i hi') (by omega)
        have a1 := at_vec (p := p) hi'
        have a2 := at_vec (p := q) hi'
        rcases hx with rfl | rfl <;> rcases hy with rfl | rfl <;> simp [vec, lvec, a1, a2, m]⟩) fun i _ => clean_int _
  have k := ints_vec n fun i => p i * q i
  simp [F__law_dot, lc, k, sg, pr, dt]
theorem F_law_pieceW (hn : n ≤ 10) {x a t : Nat → Int} (h1 : Sz 501 n (sub x a)) (h2 : Sz 501 n (sub t a)) (h3 : Sz 501 n (sub x t)) (h : HP) :
    F__law_from_piece [vec n x, vec n a, vec n t] h = .ok (.tup [.int (pc1 n x a t).1, .int (pc1 n x a t).2]) h := by
  have pr : ∀ y z : Int, pure_ h (.tup [.int y, .int z]) h = .ok (.tup [.int y, .int z]) h := fun y z => pure_clean h (clean_tup (by simp [clean_int]))
  have e1 : ∀ h, F__law_minus [vec n t, vec n a] h = .ok (vec n (sub t a)) h := fun h => F_law_minus' hn t a h
  have e2 : ∀ h, F__law_minus [vec n x, vec n a] h = .ok (vec n (sub x a)) h := fun h => F_law_minus' hn x a h
  have e3 : ∀ h, F__law_minus [vec n x, vec n t] h = .ok (vec n (sub x t)) h := fun h => F_law_minus' hn x t h
  have d1 : ∀ h, F__law_dot [vec n (sub x a), vec n (sub t a)] h = .ok (.int (dt n (sub x a) (sub t a))) h := fun h => F_law_dotW hn (by omega) (.inl rfl) (.inl rfl) h1 h2 h
  have d2 : ∀ h, F__law_dot [vec n (sub t a), vec n (sub t a)] h = .ok (.int (dt n (sub t a) (sub t a))) h := fun h => F_law_dotW hn (by omega) (.inl rfl) (.inl rfl) h2 h2 h
  have d3 : ∀ h, F__law_dot [vec n (sub x a), vec n (sub x a)] h = .ok (.int (dt n (sub x a) (sub x a))) h := fun h => F_law_dotW hn (by omega) (.inl rfl) (.inl rfl) h1 h1 h
  have d4 : ∀ h, F__law_dot [vec n (sub x t), vec n (sub x t)] h = .ok (.int (dt n (sub x t) (sub x t))) h := fun h => F_law_dotW hn (by omega) (.inl rfl) (.inl rfl) h3 h3 h
  have m1 : CMulE (dt n (sub x a) (sub x a)) (dt n (sub t a) (sub t a)) := mulX 1100 1100 (dt_w hn h1 h1) (dt_w hn h2 h2) (by decide)
  have m2 : CMulE (dt n (sub x a) (sub t a)) (dt n (sub x a) (sub t a)) := mulX 1100 1100 (dt_w hn h1 h2) (dt_w hn h1 h2) (by decide)
  unfold pc1
  by_cases c1 : dt n (sub x a) (sub t a) ≤ 0
  · simp [F__law_from_piece, e1, e2, d1, d2, d3, c1, pr]
  · by_cases c2 : dt n (sub t a) (sub t a) ≤ dt n (sub x a) (sub t a)
    · simp [F__law_from_piece, e1, e2, d1, d2, c1, c2, e3, d4, pr]
    · simp [F__law_from_piece, e1, e2, d1, d2, d3, c1, c2, m1, m2, pr]
theorem F_law_squareW (hn : n ≤ 10) {x y : D} (hx : VL x n p) (hy : VL y n q) (hp : WP n p) (hq : WP n q) (h : HP) : F__law_square [x, y] h = .ok (.int (dt n (sub p q) (sub p q))) h := by
  have pr : ∀ z : Int, pure_ h (.int z) h = .ok (.int z) h := fun z => pure_clean h (clean_int z)
  have rg : Rg (n : Int) := rg_nat (by omega)
  have sw := sub_w hp hq
  have lc : C__law_square_1 false [some x, some y, none] h = _ :=
    mLc_ty (h1 := h) (List.range n) (fun i => .int (i : Nat)) (fun i => .int (sub p q i * sub p q i)) (by rcases hx with rfl | rfl <;> simp [vec, lvec, rg, rngD_eq]) (by simp; omega)
      (fun i hi h' => ⟨[some x, some y, some (.int (i : Nat))], by simp, by
        have hi' := List.mem_range.mp hi
        have m : CMulE (p i - q i) (p i - q i) := mulX 501 501 (sw i hi') (sw i hi') (by omega)
        have a1 := at_vec (p := p) hi'
        have a2 := at_vec (p := q) hi'
        rcases hx with rfl | rfl <;> rcases hy with rfl | rfl <;> simp [vec, lvec, a1, a2, m, sub]⟩) fun i _ => clean_int _
  have k := ints_vec n fun i => sub p q i * sub p q i
  simp [F__law_square, lc, k, sg, pr, dt]
theorem gap3' (s1 s2 o1 o2 : Int) : (if 0 > (if s1 - o2 > o1 - s2 then s1 - o2 else o1 - s2) then 0 else (if s1 - o2 > o1 - s2 then s1 - o2 else o1 - s2)) = gapS (s1, s2) (o1, o2) := gap3 (s1, s2) (o1, o2)
theorem fb_turn {i : Nat} (hi : i < n) {x : D} (hx : VL x n p) (hb : b.length = n) (hp : WP n p) (hs : ∀ s ∈ b, WS s) (c : Int) (z1 z2 z6 : Option D) (h : HP) :
    ∃ y6, B__law_from_boxes_1 [some x, z1, z2, some (boxD b), some (.int c), some (.int i), z6] h = .nx [some x, z1, z2, some (boxD b), some (.int (c + nearS p b i * nearS p b i)), some (.int i), y6] h := by
  have a1 := at_box (b := b) (i := i) (by omega)
  rw [← sd_get (by omega)] at a1
  have a2 := at_vec (p := p) hi
  have nw := near_w hb hp hs i hi
  have m : CMulE (nearS p b i) (nearS p b i) := mulX 501 501 nw nw (by decide)
  have g := gap3' (p i) (p i) (sd b i).1 (sd b i).2
  have e : gapS (p i, p i) ((sd b i).1, (sd b i).2) = nearS p b i := rfl
  rw [e] at g
  simp only [gt_iff_lt] at g
  refine ⟨some (.int (nearS p b i)), ?_⟩
  rcases hx with rfl | rfl <;> simp [vec, lvec, boxD, a1, a2, sideD, g, m]
theorem F_law_from_boxesW (hn : n ≤ 10) {x : D} (hx : VL x n p) (hp : WP n p) {bs : List (List (Int × Int))} (l0 : 0 < bs.length) (l1 : bs.length ≤ 1000) (hbs : ∀ b ∈ bs, b.length = n ∧ ∀ s ∈ b, WS s) (h : HP) :
    F__law_from_boxes [x, boxesD bs] h = .ok (.int (minL (bs.map (nearQ n p)))) h := by
  have rg : Rg (n : Int) := rg_nat (by omega)
  have lx : ∀ h, bLen [x] h = .ok (.int n) h := fun h => by rcases hx with rfl | rfl <;> simp [vec, lvec]
  have turn : ∀ b ∈ bs, ∀ (z4 z5 z6 : Option D) (acc : List D), acc.length ≤ 1000 → ∃ y4 y5 y6, B__law_from_boxes_2 [some x, some (boxesD bs), some (.ref h.length), some (boxD b), z4, z5, z6] (h ++ [.lst acc]) =
      .nx [some x, some (boxesD bs), some (.ref h.length), some (boxD b), y4, y5, y6] (h ++ [.lst (acc ++ [.int (nearQ n p b)])]) := by
    intro b hb z4 z5 z6 acc ha
    obtain ⟨lb, hs⟩ := hbs b hb
    obtain ⟨_, h1, e, ⟨x5, x6, rfl⟩, hh⟩ := for_rng (asg := gNm 5) (body := B__law_from_boxes_1) (n := n)
      (fun i env h' => (∃ x5 x6, env = [some x, some (boxesD bs), some (.ref h.length), some (boxD b), some (.int (sg i fun i => nearS p b i * nearS p b i)), x5, x6]) ∧ h' = h ++ [.lst acc])
      (fun i env h' hi hI => by
        obtain ⟨⟨x5, x6, rfl⟩, rfl⟩ := hI
        obtain ⟨y6, e⟩ := fb_turn hi hx lb hp hs (sg i fun i => nearS p b i * nearS p b i) (some (boxesD bs)) (some (.ref h.length)) x6 (h ++ [.lst acc])
        rw [← sg_succ i fun i => nearS p b i * nearS p b i] at e
        exact ⟨_, rfl, _, _, .inl e, ⟨_, _, rfl⟩, rfl⟩)
      (env := [some x, some (boxesD bs), some (.ref h.length), some (boxD b), some (.int 0), z5, z6]) (h := h ++ [.lst acc]) ⟨⟨z5, z6, by simp [sg_zero]⟩, rfl⟩
    rw [hh] at e
    have ap := fun y => appL_last (y := y) (ds := acc) h (by rw [sizeLine_eq]; omega)
    have er : (sg n fun i => nearS p b i * nearS p b i) = nearQ n p b := rfl
    rw [er] at e
    refine ⟨some (.int (nearQ n p b)), x5, x6, ?_⟩
    rcases hx with rfl | rfl
    · unfold vec at *
      simp [rg, e, ap]
    · unfold lvec at *
      simp [rg, e, ap]
  obtain ⟨_, h1, e, ⟨x3, x4, x5, x6, rfl⟩, rfl⟩ := for_ty (asg := gNm 3) (body := B__law_from_boxes_2) (gd := [])
    (fun i env h' => (∃ x3 x4 x5 x6, env = [some x, some (boxesD bs), some (.ref h.length), x3, x4, x5, x6]) ∧ h' = h ++ [.lst ((bs.take i).map fun b => .int (nearQ n p b))]) bs boxD (fun _ _ _ _ => by simp)
    (fun i env h' hi hI => by
      obtain ⟨⟨x3, x4, x5, x6, rfl⟩, rfl⟩ := hI
      obtain ⟨y4, y5, y6, e⟩ := turn bs[i] (List.getElem_mem hi) x4 x5 x6 ((bs.take i).map fun b => .int (nearQ n p b)) (by simp; omega)
      refine ⟨_, rfl, _, _, .inl e, ⟨_, _, _, _, rfl⟩, ?_⟩
      rw [midE i bs hi, List.map_append]
      rfl)
    (env := [some x, some (boxesD bs), some (.ref h.length), none, none, none, none]) (h := h ++ [.lst []]) ⟨⟨none, none, none, none, rfl⟩, by simp⟩
  rw [List.take_length] at e
  have k := intsD_map (bs.map (nearQ n p))
  rw [List.map_map] at k
  have e3 : (D.int ∘ nearQ n p) = fun b => D.int (nearQ n p b) := rfl
  rw [e3] at k
  have pj : ∀ (z : Int) x, pure_ h (.int z) (h ++ x) = .ok (.int z) h := fun z x => pure_cleanJ h x (clean_int z)
  have t1 : 0 < (bs.map (nearQ n p)).length := by simpa using l0
  unfold boxesD at *
  generalize (bs.map fun b => D.int (nearQ n p b)) = us at *
  generalize bs.map (nearQ n p) = vs at *
  simp [F__law_from_boxes, e, k, t1, pj]
end
end Lib
namespace Lib
open PySem PySem.Spec PyProof.Rows L2 Ev
/-! a place of a box, and the value of a kind there -/
section
variable {n : Nat} {p x : Nat → Int} {b o : List (Int × Int)}
def Pl (n : Nat) (b : List (Int × Int)) (x : Nat → Int) : Prop := ∀ i < n, (sd b i).1 ≤ x i ∧ x i ≤ (sd b i).2
theorem near_pl (h : Pl n b x) : nearQ n p b ≤ dt n (sub x p) (sub x p) := sg_mono fun i hi => by
  obtain ⟨h1, h2⟩ := h i hi
  unfold nearS sub
  by_cases c : p i ≤ x i
  · exact sq_le_sq (gap_nn _ _) (gap_le (by omega) (by simp only; omega) (by simp only; omega))
  · have := sq_le_sq (gap_nn (p i, p i) (sd b i)) (gap_le (s := (p i, p i)) (o := sd b i) (c := p i - x i) (by omega) (by simp only; omega) (by simp only; omega))
    have e : (x i - p i) * (x i - p i) = (p i - x i) * (p i - x i) := by grind
    omega
theorem far_pl (h : Pl n b x) : dt n (sub x p) (sub x p) ≤ farQ n p b := sg_mono fun i hi => by
  obtain ⟨h1, h2⟩ := h i hi
  have k1 := le_mx1 (p i - (sd b i).1) ((sd b i).2 - p i)
  have k2 := le_mx2 (p i - (sd b i).1) ((sd b i).2 - p i)
  unfold farS sub
  exact sq_abs (by omega) (by omega)
theorem bet_pl (h : Pl n b x) : betQ n b o ≤ nearQ n x o := sg_mono fun i hi => by
  obtain ⟨h1, h2⟩ := h i hi
  have k1 := le_gap1 (x i, x i) (sd o i)
  have k2 := le_gap2 (x i, x i) (sd o i)
  simp only at k1 k2
  unfold betS nearS
  exact sq_le_sq (gap_nn _ _) (gap_le (gap_nn _ _) (by omega) (by omega))
theorem grt_pl (h : Pl n b x) : nearQ n x o ≤ grtQ n b o := sg_mono fun i hi => by
  obtain ⟨h1, h2⟩ := h i hi
  have a1 := le_gap1 ((sd b i).1, (sd b i).1) (sd o i)
  have a2 := le_gap2 ((sd b i).2, (sd b i).2) (sd o i)
  have b1 := le_mx1 (gapS ((sd b i).1, (sd b i).1) (sd o i)) (gapS ((sd b i).2, (sd b i).2) (sd o i))
  have b2 := le_mx2 (gapS ((sd b i).1, (sd b i).1) (sd o i)) (gapS ((sd b i).2, (sd b i).2) (sd o i))
  have z := gap_nn ((sd b i).1, (sd b i).1) (sd o i)
  simp only at a1 a2
  unfold nearS grtS
  exact sq_le_sq (gap_nn _ _) (gap_le (by omega) (by simp only; omega) (by simp only; omega))
end
theorem dal_math {a e S O : Int} (ha : 0 ≤ a) (he : 0 ≤ e) (hS : a * a ≤ S) (hO0 : 0 ≤ O) (hO : O ≤ e * e) (hc : ¬ (a - e ≤ 0 ∧ O ≤ (a - e) * (a - e))) :
    (2 * (a - e) = 0 → 0 ≤ S - (a - e) * (a - e) - O) ∧ (0 < 2 * (a - e) → 0 ≤ S - (a - e) * (a - e) - O ∧ 2 * (a - e) * (2 * (a - e)) * O ≤ (S - (a - e) * (a - e) - O) * (S - (a - e) * (a - e) - O)) ∧
      (2 * (a - e) < 0 → 0 ≤ S - (a - e) * (a - e) - O ∨ (S - (a - e) * (a - e) - O) * (S - (a - e) * (a - e) - O) ≤ 2 * (a - e) * (2 * (a - e)) * O) := by
  refine ⟨fun z => ?_, fun z => ?_, fun z => ?_⟩
  · have : a = e := by omega
    subst this
    simp
    omega
  · obtain ⟨B, hB⟩ : ∃ B, a - e = B := ⟨_, rfl⟩
    rw [hB] at z ⊢
    have ea : a = B + e := by omega
    have e1 : a * a = B * B + 2 * (B * e) + e * e := by rw [ea]; grind
    have t0 : 0 ≤ B * e := Int.mul_nonneg (by omega) he
    have l1 : 2 * (B * e) ≤ S - B * B - O := by omega
    refine ⟨by omega, ?_⟩
    have l2 := sq_le_sq (x := 2 * (B * e)) (by omega) l1
    have l3 : B * B * O ≤ B * B * (e * e) := Int.mul_le_mul_of_nonneg_left hO (sq_nn B)
    have e2 : 2 * (B * e) * (2 * (B * e)) = 4 * (B * B * (e * e)) := by grind
    have e3 : 2 * B * (2 * B) * O = 4 * (B * B * O) := by grind
    omega
  · by_cases N0 : 0 ≤ S - (a - e) * (a - e) - O
    · exact .inl N0
    refine .inr ?_
    obtain ⟨β, hB⟩ : ∃ β, e - a = β := ⟨_, rfl⟩
    have b0 : 0 < β := by omega
    have e0 : (a - e) * (a - e) = β * β := by rw [← hB]; grind
    have e00 : 2 * (a - e) * (2 * (a - e)) * O = 4 * (β * β * O) := by rw [← hB]; grind
    rw [e0] at N0 hc ⊢
    rw [e00]
    have ee : e = a + β := by omega
    have e1 : e * e = a * a + 2 * (a * β) + β * β := by rw [ee]; grind
    have ob : β * β < O := by
      by_cases y : O ≤ β * β
      · exact absurd ⟨by omega, y⟩ hc
      · omega
    have l1 := sq_le_sq (x := O + β * β - S) (y := O + β * β - a * a) (by omega) (by omega)
    have e2 : (S - β * β - O) * (S - β * β - O) = (O + β * β - S) * (O + β * β - S) := by grind
    have e3 : (O + β * β - a * a) * (O + β * β - a * a) = (O - β * β - a * a) * (O - β * β - a * a) + 4 * (β * β * O) - 2 * (a * β) * (2 * (a * β)) := by grind
    have ab : 0 ≤ a * β := Int.mul_nonneg ha (by omega)
    have lo : -(2 * (a * β)) ≤ O - β * β - a * a := by
      by_cases y : β ≤ a
      · have := Int.mul_le_mul_of_nonneg_right y (show 0 ≤ β by omega)
        omega
      · have := Int.mul_le_mul_of_nonneg_left (show a ≤ β by omega) ha
        omega
    have l2 := sq_abs (x := O - β * β - a * a) (y := 2 * (a * β)) lo (by omega)
    omega
end Lib
namespace Lib
open PySem PySem.Spec PyProof.Rows L2 Ev
/-! names -/
abbrev goodS : Str := "abcdefghijklmnopqrstuvwxyz0123456789_-"
def inG (c : Nat) : Bool := !(Builtin.Str.occurrences goodS ⟨#[c]⟩ 0 goodS.length 1).isEmpty
theorem in_good (c : Nat) (h : HP) : fIn false (.str ⟨#[c]⟩) (.str goodS) h = .ok (.bl (inG c)) h := rfl
def inAll (z : Str) : Bool := (z.cps.toList.map inG).all id
def isn (z : Str) : Bool := (decide (1 ≤ z.length) && decide (z.length ≤ 64)) && inAll z
theorem F_name (z : Str) (hz : z.length ≤ 1000) (h : HP) : F_is_name [.str z] h = .ok (.bl (isn z)) h := by
  have p : ∀ b : Bool, pure_ h (.bl b) h = .ok (.bl b) h := fun b => pure_clean h (clean_bl b)
  have lz : z.cps.toList.length = z.length := by simp [Str.length]
  have zl : z.length ≤ sizeLine := by rw [sizeLine_eq]; omega
  have lc : C_is_name_1 false [some (.str z), none] h = _ :=
    mLc_ty (h1 := h) z.cps.toList (fun c => .str ⟨#[c]⟩) (fun c => .bl (inG c)) (by simp) (by omega)
      (fun c _ h' => ⟨[some (.str z), some (.str ⟨#[c]⟩)], by simp, by simp [-fIn, in_good]⟩) fun c _ => clean_bl _
  have k := blsD_map (z.cps.toList.map inG)
  simp only [List.map_map] at k
  have e : D.bl ∘ inG = fun c => D.bl (inG c) := rfl
  rw [e] at k
  have e2 : (z.cps.toList.map inG).all id = inAll z := rfl
  generalize z.cps.toList.map (fun c => D.bl (inG c)) = xs at *
  generalize z.cps.toList.map inG = ys at *
  unfold isn
  by_cases c1 : 1 ≤ z.length
  · have c1i : (1 : Int) ≤ (z.length : Int) := by omega
    by_cases c2 : z.length ≤ 64
    · have c2i : (z.length : Int) ≤ 64 := by omega
      simp [F_is_name, zl, c1, c2, c1i, c2i, lc, k, e2, p]
    · have c2i : ¬ (z.length : Int) ≤ 64 := by omega
      simp [F_is_name, zl, c1, c2, p, c1i, c2i]
  · have c1i : ¬ (1 : Int) ≤ (z.length : Int) := by omega
    simp [F_is_name, zl, c1, c1i, p]
/-! kinds that hold -/
def In12 (x : Int) : Prop := -1000000000000 ≤ x ∧ x ≤ 1000000000000
def SideOk (s : Int × Int) : Prop := -1000000000000 ≤ s.1 ∧ s.1 ≤ s.2 ∧ s.2 ≤ 1000000000000
def KdH (n : Nat) : Kd → Prop
  | .range p => ∀ i < n, In12 (p i)
  | .clocked p => ∀ i < n, In12 (p i)
  | .differ p q => (∀ i < n, In12 (p i)) ∧ ∀ i < n, In12 (q i)
  | .piece p q => (∀ i < n, In12 (p i)) ∧ ∀ i < n, In12 (q i)
  | .side p => (∀ i < n, -1000 ≤ p i ∧ p i ≤ 1000) ∧ ∃ i < n, p i ≠ 0
  | .boxes bs => 1 ≤ bs.length ∧ bs.length ≤ 16 ∧ ∀ b ∈ bs, b.length ≤ 1000 ∧ ∀ s ∈ b, SideOk s
section
variable {n : Nat}
theorem F_allwV (hn : n ≤ 10) {p : Nat → Int} {lo hi : Int} (hp : ∀ i < n, lo ≤ p i ∧ p i ≤ hi) (h : HP) : F_all_within [vec n p, .int lo, .int hi] h = .ok (.bl true) h := by
  have e : vec n p = .tup (((List.range n).map p).map D.int) := by simp [vec]
  rw [e]
  exact F_allwT (by simp; omega) (fun x hx => by
    obtain ⟨i, hi, rfl⟩ := List.mem_map.mp hx
    exact hp i (List.mem_range.mp hi)) h
theorem alltrue (k : Nat) : ((List.replicate k true).all id) = true := by
  rw [List.all_eq_true]
  intro x hx
  exact (List.mem_replicate.mp hx).2
theorem map_true {α : Type} (xs : List α) : xs.map (fun _ => D.bl true) = (List.replicate xs.length true).map D.bl := by
  rw [List.map_replicate]
  exact List.map_const' ..
theorem F_sides_within' {b : List (Int × Int)} (hb : b.length ≤ 1000) (hs : ∀ s ∈ b, SideOk s) (h : HP) : F_sides_within [boxD b, .int 1000000000000] h = .ok (.bl true) h := by
  have p := pure_clean h (clean_bl true)
  have lc : C_sides_within_1 false [some (boxD b), some (.int 1000000000000), none, none] h = _ :=
    mLc_ty (h1 := h) b sideD (fun _ => .bl true) (by simp [boxD]) (by omega)
      (fun s hS h' => ⟨[some (boxD b), some (.int 1000000000000), some (.int s.1), some (.int s.2)], by simp [sideD], by
        obtain ⟨h1, h2, h3⟩ := hs s hS
        simp [h1, h2, h3]⟩) fun s _ => clean_bl _
  rw [map_true] at lc
  have k := blsD_map (List.replicate b.length true)
  have e := alltrue b.length
  generalize (List.replicate b.length true).map D.bl = ys at *
  generalize List.replicate b.length true = zs at *
  simp [F_sides_within, lc, k, e, p]
theorem F_boxes_hold' {bs : List (List (Int × Int))} (h0 : 1 ≤ bs.length) (h1 : bs.length ≤ 16) (hs : ∀ b ∈ bs, b.length ≤ 1000 ∧ ∀ s ∈ b, SideOk s) (h : HP) : F__boxes_hold [boxesD bs] h = .ok (.bl true) h := by
  have p := pure_clean h (clean_bl true)
  have lc : C__boxes_hold_1 false [some (boxesD bs), none] h = _ :=
    mLc_ty (h1 := h) bs boxD (fun _ => .bl true) (by simp [boxesD]) (by omega)
      (fun b hB h' => ⟨[some (boxesD bs), some (boxD b)], by simp, by
        have := F_sides_within' (hs b hB).1 (hs b hB).2 h'
        simp [this]⟩) fun s _ => clean_bl _
  rw [map_true] at lc
  have k := blsD_map (List.replicate bs.length true)
  have e := alltrue bs.length
  have i1 : (1 : Int) ≤ (bs.length : Int) := by omega
  have i2 : (bs.length : Int) ≤ 16 := by omega
  have l : (bs.map boxD).length = bs.length := by simp
  unfold boxesD at *
  generalize (List.replicate bs.length true).map D.bl = ys at *
  generalize List.replicate bs.length true = zs at *
  generalize bs.map boxD = us at *
  simp [F__boxes_hold, l, i1, i2, lc, k, e, p]
theorem F_direction' (hn : n ≤ 10) {p : Nat → Int} (hp : ∀ i < n, -1000 ≤ p i ∧ p i ≤ 1000) (h0 : ∃ i < n, p i ≠ 0) (h : HP) : F__direction_holds [vec n p] h = .ok (.bl true) h := by
  have pr := pure_clean h (clean_bl true)
  have a : ∀ h, F_all_within [vec n p, .int (-1000), .int 1000] h = .ok (.bl true) h := fun h => F_allwV hn hp h
  have lc : C__direction_holds_1 false [some (vec n p), none] h = _ :=
    mLc_ty (h1 := h) (List.range n) (fun i => .int (p i)) (fun i => .bl (decide (p i ≠ 0))) (by simp [vec]) (by simp; omega)
      (fun i hi h' => ⟨[some (vec n p), some (.int (p i))], by simp, by
        simp [sh_int, PyData.eqv]
        by_cases q : p i = 0 <;> simp [q]⟩) fun s _ => clean_bl _
  have e : (List.range n).map (fun i => D.bl (decide (p i ≠ 0))) = ((List.range n).map fun i => decide (p i ≠ 0)).map D.bl := by simp
  rw [e] at lc
  have k := blsD_map ((List.range n).map fun i => decide (p i ≠ 0))
  have e2 : ((List.range n).map fun i => decide (p i ≠ 0)).any id = true := by
    rw [List.any_eq_true]
    obtain ⟨i, hi, q⟩ := h0
    exact ⟨true, List.mem_map.mpr ⟨i, List.mem_range.mpr hi, by simp [q]⟩, rfl⟩
  generalize ((List.range n).map fun i => decide (p i ≠ 0)).map D.bl = ys at *
  generalize ((List.range n).map fun i => decide (p i ≠ 0)) = zs at *
  simp [F__direction_holds, a, lc, k, e2, pr]
@[simp] theorem eqd_range_range : eqD (.str "range") (.str "range") = true := by unfold eqD; decide +kernel
@[simp] theorem eqd_range_clocked : eqD (.str "range") (.str "clocked") = false := by unfold eqD; decide +kernel
@[simp] theorem eqd_range_differ : eqD (.str "range") (.str "differ") = false := by unfold eqD; decide +kernel
@[simp] theorem eqd_range_piece : eqD (.str "range") (.str "piece") = false := by unfold eqD; decide +kernel
@[simp] theorem eqd_range_side : eqD (.str "range") (.str "side") = false := by unfold eqD; decide +kernel
@[simp] theorem eqd_range_boxes : eqD (.str "range") (.str "boxes") = false := by unfold eqD; decide +kernel
@[simp] theorem eqd_clocked_range : eqD (.str "clocked") (.str "range") = false := by unfold eqD; decide +kernel
@[simp] theorem eqd_clocked_clocked : eqD (.str "clocked") (.str "clocked") = true := by unfold eqD; decide +kernel
@[simp] theorem eqd_clocked_differ : eqD (.str "clocked") (.str "differ") = false := by unfold eqD; decide +kernel
@[simp] theorem eqd_clocked_piece : eqD (.str "clocked") (.str "piece") = false := by unfold eqD; decide +kernel
@[simp] theorem eqd_clocked_side : eqD (.str "clocked") (.str "side") = false := by unfold eqD; decide +kernel
@[simp] theorem eqd_clocked_boxes : eqD (.str "clocked") (.str "boxes") = false := by unfold eqD; decide +kernel
@[simp] theorem eqd_differ_range : eqD (.str "differ") (.str "range") = false := by unfold eqD; decide +kernel
@[simp] theorem eqd_differ_clocked : eqD (.str "differ") (.str "clocked") = false := by unfold eqD; decide +kernel
@[simp] theorem eqd_differ_differ : eqD (.str "differ") (.str "differ") = true := by unfold eqD; decide +kernel
@[simp] theorem eqd_differ_piece : eqD (.str "differ") (.str "piece") = false := by unfold eqD; decide +kernel
@[simp] theorem eqd_differ_side : eqD (.str "differ") (.str "side") = false := by unfold eqD; decide +kernel
@[simp] theorem eqd_differ_boxes : eqD (.str "differ") (.str "boxes") = false := by unfold eqD; decide +kernel
@[simp] theorem eqd_piece_range : eqD (.str "piece") (.str "range") = false := by unfold eqD; decide +kernel
@[simp] theorem eqd_piece_clocked : eqD (.str "piece") (.str "clocked") = false := by unfold eqD; decide +kernel
@[simp] theorem eqd_piece_differ : eqD (.str "piece") (.str "differ") = false := by unfold eqD; decide +kernel
@[simp] theorem eqd_piece_piece : eqD (.str "piece") (.str "piece") = true := by unfold eqD; decide +kernel
@[simp] theorem eqd_piece_side : eqD (.str "piece") (.str "side") = false := by unfold eqD; decide +kernel
@[simp] theorem eqd_piece_boxes : eqD (.str "piece") (.str "boxes") = false := by unfold eqD; decide +kernel
@[simp] theorem eqd_side_range : eqD (.str "side") (.str "range") = false := by unfold eqD; decide +kernel
@[simp] theorem eqd_side_clocked : eqD (.str "side") (.str "clocked") = false := by unfold eqD; decide +kernel
@[simp] theorem eqd_side_differ : eqD (.str "side") (.str "differ") = false := by unfold eqD; decide +kernel
@[simp] theorem eqd_side_piece : eqD (.str "side") (.str "piece") = false := by unfold eqD; decide +kernel
@[simp] theorem eqd_side_side : eqD (.str "side") (.str "side") = true := by unfold eqD; decide +kernel
@[simp] theorem eqd_side_boxes : eqD (.str "side") (.str "boxes") = false := by unfold eqD; decide +kernel
@[simp] theorem eqd_boxes_range : eqD (.str "boxes") (.str "range") = false := by unfold eqD; decide +kernel
@[simp] theorem eqd_boxes_clocked : eqD (.str "boxes") (.str "clocked") = false := by unfold eqD; decide +kernel
@[simp] theorem eqd_boxes_differ : eqD (.str "boxes") (.str "differ") = false := by unfold eqD; decide +kernel
@[simp] theorem eqd_boxes_piece : eqD (.str "boxes") (.str "piece") = false := by unfold eqD; decide +kernel
@[simp] theorem eqd_boxes_side : eqD (.str "boxes") (.str "side") = false := by unfold eqD; decide +kernel
@[simp] theorem eqd_boxes_boxes : eqD (.str "boxes") (.str "boxes") = true := by unfold eqD; decide +kernel
theorem cut1_2 (a b : D) : Ev.cutD [a, b] (some 1) none = [b] := cut_from (i := 1) (by simp)
theorem cut1_3 (a b c : D) : Ev.cutD [a, b, c] (some 1) none = [b, c] := cut_from (i := 1) (by simp)
theorem F_kind_holds' (hn : n ≤ 10) {K : Kd} (hK : KdH n K) (h : HP) : F__kind_holds [kdD n K] h = .ok (.bl true) h := by
  have pr := pure_clean h (clean_bl true)
  have pt : ∀ {p : Nat → Int}, (∀ i < n, In12 (p i)) → ∀ h, F_all_within [vec n p, .int (-1000000000000), .int 1000000000000] h = .ok (.bl true) h := fun hp h => F_allwV hn hp h
  cases K with
  | range p =>
    have lc : C__kind_holds_1 false [some (.tup [.str "range", vec n p]), none] h = _ :=
      mLc_ty (h1 := h) [p] (vec n) (fun _ => .bl true) (by simp [cut1_2]) (by simp)
        (fun q hq h' => ⟨[some (.tup [.str "range", vec n p]), some (vec n q)], by simp, by
          simp only [List.mem_singleton] at hq
          subst hq
          simp [pt hK]⟩) fun s _ => clean_bl _
    simp only [kdD]
    simp [F__kind_holds, lc, pr]
  | clocked p =>
    have lc : C__kind_holds_1 false [some (.tup [.str "clocked", vec n p]), none] h = _ :=
      mLc_ty (h1 := h) [p] (vec n) (fun _ => .bl true) (by simp [cut1_2]) (by simp)
        (fun q hq h' => ⟨[some (.tup [.str "clocked", vec n p]), some (vec n q)], by simp, by
          simp only [List.mem_singleton] at hq
          subst hq
          simp [pt hK]⟩) fun s _ => clean_bl _
    simp only [kdD]
    simp [F__kind_holds, lc, pr]
  | differ p t =>
    have lc : C__kind_holds_1 false [some (.tup [.str "differ", vec n p, vec n t]), none] h = _ :=
      mLc_ty (h1 := h) [p, t] (vec n) (fun _ => .bl true) (by simp [cut1_3]) (by simp)
        (fun q hq h' => ⟨[some (.tup [.str "differ", vec n p, vec n t]), some (vec n q)], by simp, by
          simp only [List.mem_cons, List.not_mem_nil, or_false] at hq
          rcases hq with rfl | rfl
          · simp [pt hK.1]
          · simp [pt hK.2]⟩) fun s _ => clean_bl _
    simp only [kdD]
    simp [F__kind_holds, lc, pr]
  | piece p t =>
    have lc : C__kind_holds_1 false [some (.tup [.str "piece", vec n p, vec n t]), none] h = _ :=
      mLc_ty (h1 := h) [p, t] (vec n) (fun _ => .bl true) (by simp [cut1_3]) (by simp)
        (fun q hq h' => ⟨[some (.tup [.str "piece", vec n p, vec n t]), some (vec n q)], by simp, by
          simp only [List.mem_cons, List.not_mem_nil, or_false] at hq
          rcases hq with rfl | rfl
          · simp [pt hK.1]
          · simp [pt hK.2]⟩) fun s _ => clean_bl _
    simp only [kdD]
    simp [F__kind_holds, lc, pr]
  | side p =>
    have d := fun h => F_direction' hn hK.1 hK.2 h
    simp only [kdD]
    simp [F__kind_holds, d, pr]
  | boxes bs =>
    have d := fun h => F_boxes_hold' hK.1 hK.2.1 hK.2.2 h
    simp only [kdD]
    simp [F__kind_holds, d, pr]
end
end Lib
namespace Lib
open PySem PySem.Spec PyProof.Rows L2 Ev
/-! readings -/
structure RdV where
  src : Str
  mo : Int
  kd : Kd
  lo : Int
  hi : Int
  la : Int
  ne : Int
@[simp] def rdF (n : Nat) (R : RdV) : List (Str × D) := [("source", .str R.src), ("moment", .int R.mo), ("kind", kdD n R.kd), ("low", .int R.lo), ("high", .int R.hi), ("late", .int R.la), ("near", .int R.ne)]
def rdD (n : Nat) (R : RdV) : D := .ins 1 (rdF n R)
@[simp] theorem asI_rd (n : Nat) (R : RdV) (h : HP) : asI h (rdD n R) = some (1, rdF n R) := rfl
theorem clean_rd (n : Nat) (R : RdV) : clean (rdD n R) := clean_ins (by simp [clean_int, clean_str, clean_kd])
def In15 (x : Int) : Prop := -1000000000000000 ≤ x ∧ x ≤ 1000000000000000
structure RdOk (n : Nat) (R : RdV) : Prop where
  ln : R.src.length ≤ 1000
  nm : isn R.src = true
  mo : In12 R.mo
  kd : KdH n R.kd
  lh : -1000000000000000 ≤ R.lo ∧ R.lo ≤ R.hi ∧ R.hi ≤ 1000000000000000
  la : 0 ≤ R.la ∧ R.la ≤ 1000000000000
  ne : 0 ≤ R.ne ∧ R.ne ≤ 1000000000000
theorem F_read_init {n : Nat} (hn : n ≤ 10) {R : RdV} (k : RdOk n R) (h : HP) : F_Reading__init__ [.ref h.length, .str R.src, .int R.mo, kdD n R.kd, .int R.lo, .int R.hi, .int R.la, .int R.ne] (h ++ [.ins 1 []]) = .ok .non (h ++ [.ins 1 (rdF n R)]) := by
  have a : ∀ h, F_all_within [.tup [.int R.la, .int R.ne], .int 0, .int 1000000000000] h = .ok (.bl true) h := fun h => F_allwT (xs := [R.la, R.ne]) (by simp) (by simp [k.la, k.ne]) h
  have nm := fun h => F_name R.src k.ln h
  rw [k.nm] at nm
  have kh := fun h => F_kind_holds' hn k.kd h
  obtain ⟨m1, m2⟩ := k.mo
  obtain ⟨l1, l2, l3⟩ := k.lh
  generalize hK : kdD n R.kd = kk at *
  simp [F_Reading__init__, nm, m1, m2, kh, l1, l2, l3, a, hK]
theorem mk_read {n : Nat} (hn : n ≤ 10) {R : RdV} (k : RdOk n R) (h : HP) : mkR h (F_Reading__init__ [.ref h.length, .str R.src, .int R.mo, kdD n R.kd, .int R.lo, .int R.hi, .int R.la, .int R.ne] (h ++ [.ins 1 []])) = .ok (rdD n R) h := by
  rw [F_read_init hn k h]
  exact pure_ins (by simp [clean_int, clean_str, clean_kd])
theorem near12 (c : Int) : In12 (near c) := near_bd c
theorem plainS_ok (c : Int) : SideOk (plainS c) := by
  have h1 := near_bd (c / 14)
  have h2 := len7_bd c
  unfold plainS SideOk
  simp only
  split <;> omega
theorem mkKd_h {ns : List Int} {k n : Nat} (h0 : 0 < n) (hn : n ≤ 10) : KdH n (mkKd ns k n) := by
  have pp : ∀ k, ∀ i < n, In12 (pnt ns k i) := fun k i _ => near12 _
  unfold mkKd
  split
  · exact pp _
  · split
    · exact pp _
    · split
      · exact ⟨pp _, pp _⟩
      · split
        · exact ⟨pp _, pp _⟩
        · split
          · refine ⟨fun i _ => slope_bd _ _, 0, h0, ?_⟩
            unfold slope
            rw [if_pos rfl]
            omega
          · have pb : ∀ k, (plainB ns k n).length ≤ 1000 ∧ ∀ s ∈ plainB ns k n, SideOk s := fun k => ⟨by simp [plainB]; omega, fun s hs => by
              obtain ⟨i, _, rfl⟩ := List.mem_map.mp hs
              exact plainS_ok _⟩
            split
            · refine ⟨by simp, by simp, fun b hb => ?_⟩
              simp only [List.mem_cons, List.not_mem_nil, or_false] at hb
              rcases hb with rfl | rfl <;> exact pb _
            · refine ⟨by simp, by simp, fun b hb => ?_⟩
              simp only [List.mem_cons, List.not_mem_nil, or_false] at hb
              subst hb
              exact pb _
theorem isn_a : isn "a" = true := by decide +kernel
theorem isn_b : isn "b" = true := by decide +kernel
end Lib
namespace Lib
open PySem PySem.Spec PyProof.Rows L2 Ev
/-! a loop that returns at its first item of a kind -/
theorem for_first {α : Type} {asg : TF} {body : SM} (f : α → D) (I : EN → HP → Prop) (Q : D → HP → Prop) (x : α) (ys : List α) (Hx : ∀ env h, I env h → ∃ e, asg (f x) env h = some e ∧ ∃ r h', body e h = .rt r h' ∧ Q r h') :
    ∀ (xs : List α), (∀ y ∈ xs, ∀ env h, I env h → ∃ e, asg (f y) env h = some e ∧ ∃ env' h', body e h = .nx env' h' ∧ I env' h') → ∀ (env : EN) (h : HP), I env h → ∃ r h', forE asg body [] ((xs ++ x :: ys).map f) env h = .rt r h' ∧ Q r h'
  | [], _, env, h, i => by
    obtain ⟨e, e1, r, h', b, q⟩ := Hx env h i
    exact ⟨r, h', by rw [List.nil_append, List.map_cons, for_rt e1 b], q⟩
  | z :: zs, H, env, h, i => by
    obtain ⟨e, e1, env', h', b, i'⟩ := H z List.mem_cons_self env h i
    obtain ⟨r, h2, e2, q⟩ := for_first f I Q x ys Hx zs (fun y hy => H y (List.mem_cons_of_mem _ hy)) env' h' i'
    exact ⟨r, h2, by rw [List.cons_append, List.map_cons, for_nx e1 b, e2], q⟩
/-! what a reading is carried by -/
def absI (x : Int) : Int := if x < 0 then -x else x
theorem absI_nn (x : Int) : 0 ≤ absI x := by unfold absI; split <;> omega
theorem rch_sz {S : SetV} (k : S.ok) {t : Int} (h0 : 0 ≤ t) (ht : t < 18446744073709551616) : 0 ≤ rchS S t ∧ sz (rchS S t) ≤ 140 ∧ 0 ≤ slpS S t ∧ sz (slpS S t) ≤ 140 := by
  have big : ∀ {a : Int}, 0 ≤ a → a ≤ 1000000000000 → 0 ≤ qup (a * t) S.p ∧ (qup (a * t) S.p).natAbs ≤ 1000000000000 * 18446744073709551616 + 1 := fun {a} a0 a1 => by
    have m0 : 0 ≤ a * t := Int.mul_nonneg a0 h0
    have m1 : a * t ≤ 1000000000000 * 18446744073709551616 := Int.mul_le_mul a1 (by omega) h0 (by omega)
    have p1 := k.2.2.2.2.2.2.1
    have u := qup_lt (n := a * t) (show 0 < S.p by omega)
    have v := qup_ge (n := a * t) (show 0 < S.p by omega)
    generalize qup (a * t) S.p = q at *
    have q0 : 0 ≤ q := by
      by_cases z : 0 ≤ q
      · exact z
      · have : S.p * q < 0 := Int.mul_neg_of_pos_of_neg (by omega) (by omega)
        omega
    have l : q - 1 ≤ S.p * (q - 1) ∨ q = 0 := by
      by_cases z : q = 0
      · exact .inr z
      · left
        have := Int.mul_le_mul_of_nonneg_right p1 (show 0 ≤ q - 1 by omega)
        omega
    omega
  obtain ⟨r0, r1⟩ := big k.2.2.1 k.2.2.2.1
  obtain ⟨s0, s1⟩ := big k.2.2.2.2.1 k.2.2.2.2.2.1
  exact ⟨r0, sz_small (n := 140) (by omega) (Nat.lt_of_le_of_lt r1 (by decide)), s0, sz_small (n := 140) (by omega) (Nat.lt_of_le_of_lt s1 (by decide))⟩
theorem rate_sz {n : Nat} (hn : n ≤ 10) {K : Kd} (hK : KdOk n K) : 0 ≤ rateK n K ∧ sz (rateK n K) ≤ 140 := by
  cases K with
  | side p =>
    have b : Bd n p := fun i _ => by have := hK.1 i; omega
    have d := dot_bd hn b b
    have z := dt_self n p
    have s := sz140 (x := dt n p p) (by unfold dt; omega)
    have r := sz_ru z
    exact ⟨(ru_spec z).1, by show sz (ru (dt n p p)) ≤ 140; omega⟩
  | differ p q => exact ⟨by show (0 : Int) ≤ 2; omega, by show sz 2 ≤ 140; rw [lit2]; omega⟩
  | _ => exact ⟨by show (0 : Int) ≤ 1; omega, by show sz 1 ≤ 140; rw [lit1]; omega⟩
def carK (S : SetV) (n : Nat) (K : Kd) (ne t : Int) : Int := movedK K * ne + rateK n K * rchS S t + clockK K * slpS S t
theorem F_carried' {S : SetV} (k : S.ok) {n : Nat} (hn : n ≤ 10) {R : RdV} (hK : KdOk n R.kd) (la : 0 ≤ R.la ∧ R.la ≤ 1000000000000) (ne : 0 ≤ R.ne ∧ R.ne ≤ 1000000000000) {m : Int} (hm : absI (m - R.mo) ≤ 1000000000000000) (h : HP) :
    F_carried [setD S, rdD n R, .int m] h = .ok (.int (carK S n R.kd R.ne (R.la + absI (m - R.mo)))) h := by
  have a0 := absI_nn (m - R.mo)
  have ht : (R.la + absI (m - R.mo)).natAbs < 18446744073709551616 := by omega
  obtain ⟨r0, r1, s0, s1⟩ := rch_sz k (t := R.la + absI (m - R.mo)) (by omega) (by omega)
  obtain ⟨q0, q1⟩ := rate_sz hn hK
  have fr := fun h => F_rate' hn hK h
  have fc := fun h => F_clock_rate' n R.kd h
  have fm := fun h => F_moved' n R.kd h
  have f1 := fun h => F_reach' k ht h
  have f2 := fun h => F_slip' k ht h
  have pr : ∀ z : Int, pure_ h (.int z) h = .ok (.int z) h := fun z => pure_clean h (clean_int z)
  have m1 : CMulE (rateK n R.kd) (rchS S (R.la + absI (m - R.mo))) := mulX 140 140 q1 r1 (by decide)
  have c1 : sz (clockK R.kd) ≤ 64 := by unfold clockK; split <;> decide
  have v1 : sz (movedK R.kd) ≤ 64 := by unfold movedK; split <;> decide
  have m2 : CMulE (clockK R.kd) (slpS S (R.la + absI (m - R.mo))) := mulX 64 140 c1 s1 (by decide)
  have m3 : CMulE (movedK R.kd) R.ne := mulX 64 64 v1 (sz64 (by omega)) (by decide)
  have ea : (if m - R.mo < 0 then -(m - R.mo) else m - R.mo) = absI (m - R.mo) := rfl
  unfold carK
  generalize rateK n R.kd = rr at *
  generalize clockK R.kd = cc at *
  generalize movedK R.kd = vv at *
  simp [F_carried, List.lookup, ea, fr, fc, fm, f1, f2, m1, m2, m3, pr]
theorem carK_nn {S : SetV} (k : S.ok) {n : Nat} (hn : n ≤ 10) {K : Kd} (hK : KdOk n K) {ne t : Int} (h0 : 0 ≤ t) (h1 : t < 18446744073709551616) (h2 : 0 ≤ ne) : 0 ≤ carK S n K ne t := by
  obtain ⟨r0, r1, s0, s1⟩ := rch_sz k h0 h1
  obtain ⟨q0, q1⟩ := rate_sz hn hK
  have c1 : 0 ≤ clockK K := by unfold clockK; split <;> decide
  have v1 : 0 ≤ movedK K := by unfold movedK; split <;> decide
  have := Int.mul_nonneg q0 r0
  have := Int.mul_nonneg c1 s0
  have := Int.mul_nonneg v1 h2
  unfold carK
  omega
def excB (sp : Int × Int) (lo hi c : Int) : Bool := decide (sp.2 < lo - c) || decide (hi + c < sp.1)
theorem F_excludes' {S : SetV} (k : S.ok) {n : Nat} (hn : n ≤ 10) {R : RdV} (hK : KdOk n R.kd) (kv : KdV n R.kd) (la : 0 ≤ R.la ∧ R.la ≤ 1000000000000) (ne : 0 ≤ R.ne ∧ R.ne ≤ 1000000000000) {m : Int} (hm : absI (m - R.mo) ≤ 1000000000000000)
    {b : List (Int × Int)} {c : Int × Int} (hb : b.length = n) (hs : ∀ s ∈ b, VS s) (h : HP) :
    F_excludes [setD S, rdD n R, .int m, boxD (b ++ [c])] h = .ok (.bl (excB (spanK n R.kd b c) R.lo R.hi (carK S n R.kd R.ne (R.la + absI (m - R.mo))))) h := by
  have fc := fun h => F_carried' k hn hK la ne hm h
  have fs := fun h => F_spanW hn kv (c := c) hb hs h
  have pr : ∀ z : Bool, pure_ h (.bl z) h = .ok (.bl z) h := fun z => pure_clean h (clean_bl z)
  have pt : ∀ (x y : Int) h, pure_ h (.tup [.int x, .int y]) h = .ok (.tup [.int x, .int y]) h := fun x y h => pure_clean h (clean_tup (by simp [clean_int]))
  generalize carK S n R.kd R.ne (R.la + absI (m - R.mo)) = C at *
  generalize spanK n R.kd b c = sp at *
  obtain ⟨s1, s2⟩ := sp
  unfold excB
  by_cases c1 : s2 < R.lo - C
  · simp [F_excludes, F_allowed, F_misses, List.lookup, fc, fs, pt, c1, pr]
  · simp [F_excludes, F_allowed, F_misses, List.lookup, fc, fs, pt, c1, pr]
end Lib
namespace Lib
open PySem PySem.Spec PyProof.Rows L2 Ev
/-! a value near a place of a box -/
section
variable {n : Nat} {p q w x : Nat → Int} {b o : List (Int × Int)}
theorem sq_cmp {a X : Int} (hX : 0 ≤ X) (h : a * a ≤ X * X) : a ≤ X := by
  apply Decidable.byContradiction
  intro c
  have := rd_lt (x := X) (y := a)
  have h2 : X * X < a * a := by
    have h1 := Int.mul_le_mul (show X + 1 ≤ a by omega) (show X + 1 ≤ a by omega) (by omega) (by omega)
    have e : (X + 1) * (X + 1) = X * X + 2 * X + 1 := by grind
    omega
  omega
theorem dt_swap (n : Nat) (u v : Nat → Int) : dt n (sub u v) (sub u v) = dt n (sub v u) (sub v u) := sg_congr fun i _ => by
  unfold sub
  grind
theorem dt_path {u v z : Nat → Int} {α β : Int} (ha : 0 ≤ α) (hb : 0 ≤ β) (h1 : dt n (sub u v) (sub u v) ≤ α * α) (h2 : dt n (sub v z) (sub v z) ≤ β * β) : dt n (sub u z) (sub u z) ≤ (α + β) * (α + β) := by
  have t := tri ha hb h1 h2
  have e : dt n (sub u z) (sub u z) = dt n (adv (sub u v) (sub v z)) (adv (sub u v) (sub v z)) := dt_congr (fun i _ => by show u i - z i = (u i - v i) + (v i - z i); omega) (fun i _ => by show u i - z i = (u i - v i) + (v i - z i); omega)
  omega
def vq (n : Nat) (w p : Nat → Int) : Int := dt n (sub w p) (sub w p)
theorem range_lip {R : Int} (hR : 0 ≤ R) (hx : Pl n b x) (h : dt n (sub w x) (sub w x) ≤ R * R) : rd (vq n w p) ≤ ru (farQ n p b) + R ∧ rd (nearQ n p b) ≤ ru (vq n w p) + R := by
  have f0 : 0 ≤ farQ n p b := sg_nn fun i _ => sq_nn _
  have n0 : 0 ≤ nearQ n p b := sg_nn fun i _ => sq_nn _
  have v0 : 0 ≤ vq n w p := dt_self n _
  have fs := ru_spec f0
  have ns := rd_spec n0
  have vs := rd_spec v0
  have vu := ru_spec v0
  constructor
  · have a := dt_path (u := w) (v := x) (z := p) hR fs.1 h (Int.le_trans (far_pl hx) fs.2.1)
    have : rd (vq n w p) ≤ R + ru (farQ n p b) := sq_cmp (by omega) (by unfold vq at *; omega)
    omega
  · rw [dt_swap] at h
    have a := dt_path (u := x) (v := w) (z := p) hR vu.1 h (by unfold vq at *; omega)
    have m := near_pl (p := p) hx
    have : rd (nearQ n p b) ≤ R + ru (vq n w p) := sq_cmp (by omega) (by omega)
    omega
theorem nearQ_lip {R γ : Int} (hR : 0 ≤ R) (hg : 0 ≤ γ) (h : dt n (sub w x) (sub w x) ≤ R * R) (hx : nearQ n x o ≤ γ * γ) : nearQ n w o ≤ (γ + R) * (γ + R) := by
  have e1 : dt n (fun i => nearS x o i) (fun i => nearS x o i) = nearQ n x o := rfl
  have e2 : dt n (fun i => absI (sub w x i)) (fun i => absI (sub w x i)) = dt n (sub w x) (sub w x) := sg_congr fun i _ => by
    show absI (sub w x i) * absI (sub w x i) = sub w x i * sub w x i
    unfold absI
    split
    · exact Int.neg_mul_neg _ _
    · rfl
  have t := tri (n := n) (u := fun i => nearS x o i) (v := fun i => absI (sub w x i)) hg hR (by omega) (by omega)
  refine Int.le_trans (sg_mono fun i _ => ?_) t
  have g0 := gap_nn (w i, w i) (sd o i)
  have k1 := le_gap1 (x i, x i) (sd o i)
  have k2 := le_gap2 (x i, x i) (sd o i)
  have k0 := gap_nn (x i, x i) (sd o i)
  simp only at k1 k2
  have ab : sub w x i ≤ absI (sub w x i) ∧ -(sub w x i) ≤ absI (sub w x i) ∧ 0 ≤ absI (sub w x i) := by unfold absI; split <;> omega
  show gapS (w i, w i) (sd o i) * gapS (w i, w i) (sd o i) ≤ (gapS (x i, x i) (sd o i) + absI (sub w x i)) * (gapS (x i, x i) (sd o i) + absI (sub w x i))
  have sb : sub w x i = w i - x i := rfl
  exact sq_le_sq g0 (gap_le (by omega) (by simp only; omega) (by simp only; omega))
/-- what the law works out of a kind at a place -/
def lawV (n : Nat) (K : Kd) (w : Nat → Int) (c : Int) : Int × Int := match K with
  | .range p => (rd (vq n w p), ru (vq n w p))
  | .clocked p => (rd (vq n w p) + c, ru (vq n w p) + c)
  | .differ p q => (rd (vq n w p) - ru (vq n w q), ru (vq n w p) - rd (vq n w q))
  | .side p => (dt n p w, dt n p w)
  | .piece a t => (rd (pc2 n w a t).1, ru (pc2 n w a t).2)
  | .boxes bs => (rd (minL (bs.map (nearQ n w))), ru (minL (bs.map (nearQ n w))))
/-- by how much it is off -/
def offV (n : Nat) (K : Kd) (R s : Int) : Int := match K with
  | .range _ => R
  | .clocked _ => R + s
  | .differ _ _ => 2 * R
  | .side p => ru (dt n p p) * R
  | .piece _ _ => R
  | .boxes _ => R
theorem pc2_le {a t : Nat → Int} : (pc2 n w a t).1 ≤ (pc2 n w a t).2 := by
  have p := pc1_pos n w a t
  have d := div_facts (pc1 n w a t).1 (pc1 n w a t).2 p
  have e1 : (pc2 n w a t).1 = (pc1 n w a t).1 / (pc1 n w a t).2 := rfl
  have e2 : (pc2 n w a t).2 = -(-(pc1 n w a t).1 / (pc1 n w a t).2) := rfl
  rw [e1, e2]
  exact Int.le_of_mul_le_mul_right (show (pc1 n w a t).1 / (pc1 n w a t).2 * (pc1 n w a t).2 ≤ -(-(pc1 n w a t).1 / (pc1 n w a t).2) * (pc1 n w a t).2 by omega) p
theorem lawV_lip {K : Kd} {c e : Int × Int} {cl R s : Int} (hR : 0 ≤ R) (hb : b.length = n) (hx : Pl n b x) (h : dt n (sub w x) (sub w x) ≤ R * R) (hc : c.1 - s ≤ cl ∧ cl ≤ c.2 + s) (hK : match K with | .boxes bs => 0 < bs.length | .piece a t => 0 ≤ (pc2 n x a t).1 ∧ 0 ≤ (pc2 n w a t).1 | _ => True) :
    (lawV n K w cl).1 - offV n K R s ≤ (spanK n K b c).2 ∧ (spanK n K b c).1 ≤ (lawV n K w cl).2 + offV n K R s := by
  cases K with
  | range p =>
    have := range_lip (p := p) hR hx h
    unfold lawV offV spanK
    simp only
    omega
  | clocked p =>
    have := range_lip (p := p) hR hx h
    unfold lawV offV spanK
    simp only
    omega
  | differ p q =>
    have := range_lip (p := p) hR hx h
    have := range_lip (p := q) hR hx h
    unfold lawV offV spanK
    simp only
    omega
  | side p =>
    have z := dt_self n p
    have rs := ru_spec z
    have a1 := dt_le (n := n) (u := p) (v := sub w x) rs.1 hR rs.2.1 h
    have a2 := dt_le (n := n) (u := p) (v := sub x w) rs.1 hR rs.2.1 (by rw [dt_swap]; exact h)
    have e1 : dt n p (sub w x) = dt n p w - dt n p x := by
      have : ∀ m, dt m p (sub w x) = dt m p w - dt m p x := fun m => by
        induction m with
        | zero => simp [dt, sg_zero]
        | succ m ih =>
          unfold dt at *
          rw [sg_succ, sg_succ, sg_succ, ih]
          unfold sub
          grind
      exact this n
    have e2 : dt n p (sub x w) = dt n p x - dt n p w := by
      have : ∀ m, dt m p (sub x w) = dt m p x - dt m p w := fun m => by
        induction m with
        | zero => simp [dt, sg_zero]
        | succ m ih =>
          unfold dt at *
          rw [sg_succ, sg_succ, sg_succ, ih]
          unfold sub
          grind
      exact this n
    have l1 : sg n (sdLo p b) ≤ dt n p x := sg_mono fun i hi => (sdLo_le (hx i hi).1 (hx i hi).2).1
    have l2 : dt n p x ≤ sg n (sdHi p b) := sg_mono fun i hi => (sdLo_le (hx i hi).1 (hx i hi).2).2
    unfold lawV offV spanK
    simp only
    omega
  | piece a t =>
    have i1 := piece_in (a := a) (t := t) hb hx
    have l1 := piece_lip (a := a) (t := t) hR h
    have l2 := piece_lip (m := x) (x := w) (a := a) (t := t) hR (by rw [dt_swap]; exact h)
    have q1 := pc2_le (n := n) (w := x) (a := a) (t := t)
    have q3 := pc2_le (n := n) (w := w) (a := a) (t := t)
    obtain ⟨q2, q4⟩ := hK
    have r1 := rd_le_ru (n := (pc2 n x a t).2) (by omega)
    have r2 := rd_mono q2 q1
    have r3 := rd_le_ru (n := (pc2 n w a t).2) (by omega)
    have r4 := rd_mono q4 q3
    have e : spanK n (.piece a t) b c = pieceS n a t b := rfl
    rw [e]
    unfold lawV offV
    simp only
    omega
  | boxes bs =>
    have nn : ∀ w o, 0 ≤ nearQ n w o := fun w o => sg_nn fun i _ => sq_nn _
    obtain ⟨o1, m1, e1⟩ := min_ex (f := fun o => grtQ n b o) hK
    obtain ⟨o2, m2, e2⟩ := min_ex (f := nearQ n w) hK
    have g0 : 0 ≤ grtQ n b o1 := sg_nn fun i _ => sq_nn _
    have gs := ru_spec g0
    have a1 := nearQ_lip (o := o1) hR gs.1 h (Int.le_trans (grt_pl hx) gs.2.1)
    have b1 := min_le (f := nearQ n w) m1
    have M0 : 0 ≤ minL (bs.map (nearQ n w)) := by rw [e2]; exact nn _ _
    have ms := rd_spec M0
    have mu := ru_spec M0
    have c1 : rd (minL (bs.map (nearQ n w))) ≤ ru (grtQ n b o1) + R := sq_cmp (by omega) (by omega)
    have a2 := nearQ_lip (w := x) (x := w) (o := o2) hR mu.1 (by rw [dt_swap]; exact h) (by rw [← e2]; exact mu.2.1)
    have b2 := min_le (f := fun o => betQ n b o) m2
    have b3 := bet_pl (o := o2) hx
    have Q0 : 0 ≤ minQ n b bs := by
      obtain ⟨o3, m3, e3⟩ := min_ex (f := fun o => betQ n b o) hK
      unfold minQ
      rw [e3]
      exact sg_nn fun i _ => sq_nn _
    have qs := rd_spec Q0
    have c2 : rd (minQ n b bs) ≤ ru (minL (bs.map (nearQ n w))) + R := sq_cmp (by omega) (by unfold minQ at *; omega)
    have e : grQ n b bs = grtQ n b o1 := e1
    unfold lawV offV spanK
    simp only
    rw [e]
    omega
end
end Lib
namespace Lib
open PySem PySem.Spec PyProof.Rows L2 Ev
theorem eqvI (a b : Int) : PyData.eqv (.int a) (.int b) = (a == b) := by simp [PyData.eqv]
theorem seq_nx {a b : SM} {e e' : EN} {h h' : HP} (ha : a e h = .nx e' h') : (sSeq a b) e h = b e' h' := by simp [sSeq, ha]
/-! the script's rows -/
def rC0 (ns : List Int) (k : Nat) : Int := if ns.length = 0 then 0 else ns.getD (k % ns.length) 0
def rC1 (ns : List Int) (k : Nat) : Int := if rC0 ns k < 0 then 1 - 2 * rC0 ns k else rC0 ns k
def rC2 (ns : List Int) (k : Nat) : Int := if ns.length ≤ k ∨ rC1 ns k < 1000000000 then ((((rC1 ns k + 131 * k + 7) * 48271 + (k : Int) * k * 69621) % 1000000007) + 17 * k + 3) * 2862933555777941757 % 18446744073709551557 else rC1 ns k
theorem rC0_sz {ns : List Int} (hn : Okn ns) (k : Nat) : sz (rC0 ns k) ≤ 1048576 := by
  unfold rC0
  split
  · rw [sz0]; omega
  · rename_i c
    have hk : k % ns.length < ns.length := Nat.mod_lt _ (by omega)
    rw [List.getD_eq_getElem?_getD, List.getElem?_eq_getElem hk]
    exact hn.2 _ (List.getElem_mem hk)
theorem rC1_sz {ns : List Int} (hn : Okn ns) (k : Nat) : sz (rC1 ns k) ≤ 1048580 := by
  have h0 := rC0_sz hn k
  unfold rC1
  split
  · have h1 := sz_mul 2 (rC0 ns k)
    have h2 := sz_sub 1 (2 * rC0 ns k)
    rw [lit2] at h1
    rw [lit1] at h2
    omega
  · omega
theorem rC1_nn (ns : List Int) (k : Nat) : 0 ≤ rC1 ns k := by unfold rC1; split <;> omega
theorem rC2_ok {ns : List Int} (hn : Okn ns) (k : Nat) : 0 ≤ rC2 ns k ∧ sz (rC2 ns k) ≤ 1048580 := by
  unfold rC2
  split
  · have h1 := Int.emod_nonneg (((rC1 ns k + 131 * k + 7) * 48271 + (k : Int) * k * 69621) % 1000000007 + 17 * k + 3) (show (18446744073709551557 : Int) ≠ 0 by decide)
    refine ⟨Int.emod_nonneg _ (by decide), ?_⟩
    have a := Int.emod_lt_of_pos ((((rC1 ns k + 131 * k + 7) * 48271 + (k : Int) * k * 69621) % 1000000007 + 17 * k + 3) * 2862933555777941757) (show (0 : Int) < 18446744073709551557 by decide)
    have b := Int.emod_nonneg ((((rC1 ns k + 131 * k + 7) * 48271 + (k : Int) * k * 69621) % 1000000007 + 17 * k + 3) * 2862933555777941757) (show (18446744073709551557 : Int) ≠ 0 by decide)
    have := sz64 (i := (((rC1 ns k + 131 * k + 7) * 48271 + (k : Int) * k * 69621) % 1000000007 + 17 * k + 3) * 2862933555777941757 % 18446744073709551557) (by omega)
    omega
  · exact ⟨rC1_nn _ _, rC1_sz hn k⟩
theorem row_turn {ns : List Int} (hn : Okn ns) {k : Nat} (hk : k ≤ 1000) (z1 z4 : Option D) (h : HP) (acc : List D) (ha : acc.length ≤ 1000) :
    ∃ y4, B__law_rows_1 [some (Sc ns), z1, some (.ref h.length), some (.int k), z4] (h ++ [.lst acc]) = .nx [some (Sc ns), z1, some (.ref h.length), some (.int k), y4] (h ++ [.lst (acc ++ [.int (rC2 ns k)])]) := by
  have ap := fun y => appL_last (y := y) (ds := acc) h (by rw [sizeLine_eq]; omega)
  have hz : ns.length ≤ sizeLine := by have := hn.1; rw [sizeLine_eq]; omega
  have c0 := rC0_sz hn k
  have c1 := rC1_sz hn k
  have n1 := rC1_nn ns k
  have ll : (ns.map D.int).length = ns.length := by simp
  have m1 : CMulE 2 (rC0 ns k) := mulX 64 1048576 (sz64 (by decide)) c0 (by decide)
  have m2 : CMulE 131 (k : Int) := mul64 (by decide) (by omega)
  have m3 : CMulE (k : Int) (k : Int) := mul64 (by omega) (by omega)
  have kk : (k : Int) * k ≤ 1000 * 1000 := Int.mul_le_mul (by omega) (by omega) (by omega) (by omega)
  have kk0 : 0 ≤ (k : Int) * k := Int.mul_nonneg (by omega) (by omega)
  have m4 : CMulE ((k : Int) * k) 69621 := mul64 (by omega) (by decide)
  have s1 := sz_add (rC1 ns k) (131 * (k : Int))
  have s2 := sz_add (rC1 ns k + 131 * (k : Int)) 7
  have s3 := sz64 (i := 131 * (k : Int)) (by omega)
  have s4 := sz64 (i := 7) (by decide)
  have m5 : CMulE (rC1 ns k + 131 * (k : Int) + 7) 48271 := mulX 1048590 64 (by omega) (sz64 (by decide)) (by decide)
  have m6 : CMulE 17 (k : Int) := mul64 (by decide) (by omega)
  have e1 := Int.emod_lt_of_pos ((rC1 ns k + 131 * k + 7) * 48271 + (k : Int) * k * 69621) (show (0 : Int) < 1000000007 by decide)
  have e2 := Int.emod_nonneg ((rC1 ns k + 131 * k + 7) * 48271 + (k : Int) * k * 69621) (show (1000000007 : Int) ≠ 0 by decide)
  have m7 : CMulE (((rC1 ns k + 131 * k + 7) * 48271 + (k : Int) * k * 69621) % 1000000007 + 17 * k + 3) 2862933555777941757 := mul64 (by omega) (by decide)
  refine ⟨some (.int (rC2 ns k)), ?_⟩
  have c4 : ¬ rC1 ns k < 0 := by omega
  by_cases a0 : ns.length = 0
  · have e0 : rC0 ns k = 0 := by unfold rC0; rw [if_pos a0]
    have er1 : rC1 ns k = 0 := by unfold rC1; rw [e0]; rfl
    have er2 : rC2 ns k = ((((rC1 ns k + 131 * k + 7) * 48271 + (k : Int) * k * 69621) % 1000000007) + 17 * k + 3) * 2862933555777941757 % 18446744073709551557 := by unfold rC2; rw [if_pos (.inl (by omega))]
    rw [er2, er1]
    rw [er1] at m5 m7
    have nil : ns = [] := List.length_eq_zero_iff.mp a0
    subst nil
    simp [Sc] at *
    simp [lg, m2, m3, m4, m5, m6, m7, ap]
  · have pl : 0 < ns.length := by omega
    have pl2 : (0 : Int) < (ns.length : Int) := by omega
    have hk2 : k % ns.length < ns.length := Nat.mod_lt _ (by omega)
    have e0 : ns[k % ns.length] = rC0 ns k := by unfold rC0; rw [if_neg a0, List.getD_eq_getElem?_getD, List.getElem?_eq_getElem hk2]; rfl
    have lgn : Nat.log2 (ns.length : Int).natAbs < 9000 := lg (by have := hn.1; omega)
    have ix : atI (ns.map D.int) ((k : Int) % (ns.length : Int)) = some (.int (rC0 ns k)) := by
      have e : (k : Int) % (ns.length : Int) = ((k % ns.length : Nat) : Int) := by omega
      rw [e, at_int hk2, e0]
    have tail : ∀ x : Int, x = rC1 ns k → True := fun _ _ => trivial
    by_cases a1 : rC0 ns k < 0
    · have er1 : 1 - 2 * rC0 ns k = rC1 ns k := by unfold rC1; rw [if_pos a1]
      by_cases a2 : ns.length ≤ k
      · have er2 : rC2 ns k = ((((rC1 ns k + 131 * k + 7) * 48271 + (k : Int) * k * 69621) % 1000000007) + 17 * k + 3) * 2862933555777941757 % 18446744073709551557 := by unfold rC2; rw [if_pos (.inl a2)]
        rw [er2]
        unfold Sc
        generalize ns.map D.int = xs at *
        simp [ll, hz, pl, pl2, lgn, ix, a1, m1, er1, a2, lg, m2, m3, m4, m5, m6, m7, ap]
      · by_cases a3 : rC1 ns k < 1000000000
        · have er2 : rC2 ns k = ((((rC1 ns k + 131 * k + 7) * 48271 + (k : Int) * k * 69621) % 1000000007) + 17 * k + 3) * 2862933555777941757 % 18446744073709551557 := by unfold rC2; rw [if_pos (.inr a3)]
          rw [er2]
          unfold Sc
          generalize ns.map D.int = xs at *
          simp [ll, hz, pl, pl2, lgn, ix, a1, m1, er1, a2, a3, lg, m2, m3, m4, m5, m6, m7, ap]
        · have er2 : rC2 ns k = rC1 ns k := by unfold rC2; rw [if_neg (by omega)]
          rw [er2]
          unfold Sc
          generalize ns.map D.int = xs at *
          simp [ll, hz, pl, pl2, lgn, ix, a1, m1, er1, a2, a3, lg, ap]
    · have er1 : rC0 ns k = rC1 ns k := by unfold rC1; rw [if_neg a1]
      rw [er1] at ix
      by_cases a2 : ns.length ≤ k
      · have er2 : rC2 ns k = ((((rC1 ns k + 131 * k + 7) * 48271 + (k : Int) * k * 69621) % 1000000007) + 17 * k + 3) * 2862933555777941757 % 18446744073709551557 := by unfold rC2; rw [if_pos (.inl a2)]
        rw [er2]
        unfold Sc
        generalize ns.map D.int = xs at *
        simp [ll, hz, pl, pl2, lgn, ix, c4, a2, lg, m2, m3, m4, m5, m6, m7, ap]
      · by_cases a3 : rC1 ns k < 1000000000
        · have er2 : rC2 ns k = ((((rC1 ns k + 131 * k + 7) * 48271 + (k : Int) * k * 69621) % 1000000007) + 17 * k + 3) * 2862933555777941757 % 18446744073709551557 := by unfold rC2; rw [if_pos (.inr a3)]
          rw [er2]
          unfold Sc
          generalize ns.map D.int = xs at *
          simp [ll, hz, pl, pl2, lgn, ix, c4, a2, a3, lg, m2, m3, m4, m5, m6, m7, ap]
        · have er2 : rC2 ns k = rC1 ns k := by unfold rC2; rw [if_neg (by omega)]
          rw [er2]
          unfold Sc
          generalize ns.map D.int = xs at *
          simp [ll, hz, pl, pl2, lgn, ix, c4, a2, a3, lg, ap]
def rowsL (ns : List Int) (n : Nat) : D := .lst ((List.range n).map fun k => .int (rC2 ns k))
theorem F_rows {ns : List Int} (hn : Okn ns) {n : Nat} (hk : n ≤ 1000) (h : HP) : F__law_rows [Sc ns, .int n] h = .ok (rowsL ns n) h := by
  obtain ⟨_, h1, e, ⟨y3, y4, rfl⟩, rfl⟩ := for_rng (asg := gNm 3) (body := B__law_rows_1) (n := n)
    (fun i env h' => (∃ y3 y4, env = [some (Sc ns), some (.int n), some (.ref h.length), y3, y4]) ∧ h' = h ++ [.lst ((List.range i).map fun k => .int (rC2 ns k))])
    (fun i env h' hi hI => by
      obtain ⟨⟨y3, y4, rfl⟩, rfl⟩ := hI
      obtain ⟨w4, e⟩ := row_turn hn (k := i) (by omega) (some (.int n)) y4 h ((List.range i).map fun k => .int (rC2 ns k)) (by simp; omega)
      exact ⟨_, rfl, _, _, .inl e, ⟨_, _, rfl⟩, by simp [List.range_succ]⟩)
    (env := [some (Sc ns), some (.int n), some (.ref h.length), none, none]) (h := h ++ [.lst []]) ⟨⟨none, none, rfl⟩, by simp⟩
  have p := pure_ref (h := h) (x := [.lst ((List.range n).map fun k => .int (rC2 ns k))]) (n := h.length) (ds := (List.range n).map fun k => .int (rC2 ns k)) (Nat.le_refl _) (by simp) (fun d hd => by
    obtain ⟨i, _, rfl⟩ := List.mem_map.mp hd
    exact clean_int _)
  have rg : Rg (n : Int) := rg_nat (by omega)
  unfold rowsL
  generalize ((List.range n).map fun k => D.int (rC2 ns k)) = qs at *
  simp [F__law_rows, rg, e, p]
/-! digits -/
theorem F_digits {base : Int} (hb : 0 < base) (lb : base < 18446744073709551616) {n : Nat} (hn : n ≤ 1000) (row : Int) (h : HP) : ∃ ds : Nat → Int, F__law_digits [.int row, .int base, .int n] h = .ok (lvec n ds) h ∧ ∀ i, 0 ≤ ds i ∧ ds i < base := by
  have lgb : Nat.log2 base.natAbs < 9000 := lg (by omega)
  refine ⟨fun i => row / base ^ i % base, ?_, fun i => ⟨Int.emod_nonneg _ (by omega), Int.emod_lt_of_pos _ hb⟩⟩
  obtain ⟨_, h1, e, ⟨y4, rfl⟩, rfl⟩ := for_rng (asg := gNm 4) (body := B__law_digits_1) (n := n)
    (fun i env h' => (∃ y4, env = [some (.int (row / base ^ i)), some (.int base), some (.int n), some (.ref h.length), y4]) ∧ h' = h ++ [.lst ((List.range i).map fun k => .int (row / base ^ k % base))])
    (fun i env h' hi hI => by
      obtain ⟨⟨y4, rfl⟩, rfl⟩ := hI
      have e : row / base ^ (i + 1) = row / base ^ i / base := by
        rw [Int.pow_succ]
        exact (Int.ediv_ediv_of_nonneg (Int.pow_nonneg (by omega))).symm
      have al : ((List.range i).map fun k => D.int (row / base ^ k % base)).length < sizeLine := by rw [sizeLine_eq]; simp; omega
      have e2 : ((List.range (i + 1)).map fun k => D.int (row / base ^ k % base)) = ((List.range i).map fun k => D.int (row / base ^ k % base)) ++ [.int (row / base ^ i % base)] := by simp [List.range_succ]
      rw [e, e2]
      generalize ((List.range i).map fun k => D.int (row / base ^ k % base)) = acc at *
      generalize row / base ^ i = r at *
      have ap := fun y => appL_last (y := y) (ds := acc) h al
      exact ⟨_, rfl, _, _, .inl (by simp [hb, lgb, ap]; rfl), ⟨_, rfl⟩, rfl⟩)
    (env := [some (.int row), some (.int base), some (.int n), some (.ref h.length), none]) (h := h ++ [.lst []]) ⟨⟨none, by simp⟩, by simp⟩
  have p := pure_ref (h := h) (x := [.lst ((List.range n).map fun k => .int (row / base ^ k % base))]) (n := h.length) (ds := (List.range n).map fun k => .int (row / base ^ k % base)) (Nat.le_refl _) (by simp) (fun d hd => by
    obtain ⟨i, _, rfl⟩ := List.mem_map.mp hd
    exact clean_int _)
  have rg : Rg (n : Int) := rg_nat (by omega)
  unfold lvec
  generalize ((List.range n).map fun k => D.int (row / base ^ k % base)) = qs at *
  simp [F__law_digits, rg, e, p]
end Lib
namespace Lib
open PySem PySem.Spec PyProof.Rows L2 Ev
/-! the greatest of a list, 0 of none -/
def mm (ns : List Int) : Int := if 0 < ns.length then maxL ns else 0
theorem mm_ok {ns : List Int} {k : Nat} (h : ∀ x ∈ ns, 0 ≤ x ∧ sz x < k) (h0 : 0 < k) : 0 ≤ mm ns ∧ sz (mm ns) < k := by
  unfold mm
  split
  · rename_i c
    exact h _ (maxL_mem (List.length_pos_iff.mp c)).1
  · exact ⟨by omega, h0⟩
theorem mm_same {xs ys : List Int} (h : ∀ x, x ∈ xs ↔ x ∈ ys) : mm xs = mm ys := by
  unfold mm
  cases xs with
  | nil =>
    cases ys with
    | nil => rfl
    | cons y ys => exact absurd ((h y).mpr (by simp)) (by simp)
  | cons x xs =>
    cases ys with
    | nil => exact absurd ((h x).mp (by simp)) (by simp)
    | cons y ys =>
      simp only [List.length_cons, Nat.zero_lt_succ, if_true]
      obtain ⟨a1, a2⟩ := maxL_mem (ns := x :: xs) (by simp)
      obtain ⟨b1, b2⟩ := maxL_mem (ns := y :: ys) (by simp)
      exact Int.le_antisymm (b2 _ ((h _).mp a1)) (a2 _ ((h _).mpr b1))
/-! one turn of a while -/
theorem wh_go {c : M Bool} {b : SM} {n : Nat} {env e2 : EN} {h h1 h2 : HP} (hc : c env h = .ok true h1) (hb : b env h1 = .nx e2 h2) : whE c b (n + 1) env h = whE c b n e2 h2 := by
  rw [whE, hc]
  simp only [R.sbind, if_pos, hb]
theorem wh_end {c : M Bool} {b : SM} {n : Nat} {env : EN} {h h1 : HP} (hc : c env h = .ok false h1) : whE c b (n + 1) env h = .nx env h1 := by
  rw [whE, hc]
  simp only [R.sbind, if_neg Bool.false_ne_true]
theorem range_succ_map {α : Type} (n : Nat) (f : Nat → α) : (List.range (n + 1)).map f = f 0 :: (List.range n).map fun i => f (i + 1) := by
  rw [List.range_succ_eq_map, List.map_cons, List.map_map]
  rfl
theorem at_map {α : Type} (f : α → D) {xs : List α} {i : Nat} (hi : i < xs.length) : atI (xs.map f) (i : Int) = some (f xs[i]) := by
  have := hi
  simp [atI, ixN, hi]
theorem mLc_tyN {α : Type} {it : IM} {own : List Nat} {asg : TF} {elt : M D} {env : EN} {h h1 : HP} {gd : GdL} (xs : List α) (f G : α → D) (hi : it env h = .ok (xs.map f, gd) h1) (hg : ∀ x, Gd gd (h1 ++ x)) (hz : xs.length ≤ 16000000)
    (H : ∀ x ∈ xs, ∀ y : HP, ∃ e, asg (f x) (wipeE env own) (h1 ++ y) = some e ∧ elt e (h1 ++ y) = .ok (G x) (h1 ++ y)) (c : ∀ x ∈ xs, clean (G x)) :
    mLc false it own asg cYes elt env h = .ok (.lst (xs.map G)) h1 := by
  unfold mLc
  rw [hi]
  simp only [R.bind]
  rw [lcE_tyG asg cYes elt _ h1 gd hg f G (fun _ => true) xs [] (by have := sizeLine_eq; simp only [List.length_nil]; omega) fun x hx y => let ⟨e, e1, e2⟩ := H x hx y; ⟨e, e1, rfl, fun _ => e2⟩, List.filter_eq_self.mpr (fun _ _ => rfl)]
  simp only [List.nil_append, outL, if_neg Bool.false_ne_true]
  exact pure_list h1 (by
    intro d hd
    obtain ⟨x, hx, rfl⟩ := List.mem_map.mp hd
    exact c x hx)
/-! a loop that may return -/
theorem for_listE {asg : TF} {body : SM} (I : Nat → EN → HP → Prop) (Q : D → HP → Prop) : ∀ (items : List D) (k : Nat), (∀ i (hi : i < items.length) env h, I (k + i) env h → ∃ e, asg items[i] env h = some e ∧ ((∃ env' h', body e h = .nx env' h' ∧ I (k + i + 1) env' h') ∨ ∃ r h', body e h = .rt r h' ∧ Q r h')) →
    ∀ env h, I k env h → (∃ env' h', forE asg body [] items env h = .nx env' h' ∧ I (k + items.length) env' h') ∨ ∃ r h', forE asg body [] items env h = .rt r h' ∧ Q r h'
  | [], k, _, env, h, i => .inl ⟨env, h, by unfold forE; rw [if_pos (by simp [Gd])], i⟩
  | d :: ds, k, H, env, h, i => by
    obtain ⟨e, e1, e2⟩ := H 0 (by simp) env h i
    rcases e2 with ⟨env', h', b, i'⟩ | ⟨r, h', b, q⟩
    · rw [for_nx (by simpa using e1) b]
      have := for_listE I Q ds (k + 1) (fun i hi env h hI => by
        obtain ⟨e, e1, e2⟩ := H (i + 1) (by simp; omega) env h (by rw [show k + (i + 1) = k + 1 + i by omega]; exact hI)
        refine ⟨e, by simpa using e1, ?_⟩
        rw [show k + 1 + i + 1 = k + (i + 1) + 1 by omega]
        exact e2) env' h' i'
      rw [List.length_cons, show k + (ds.length + 1) = k + 1 + ds.length by omega]
      exact this
    · exact .inr ⟨r, h', for_rt (by simpa using e1) b, q⟩
theorem for_rngE {asg : TF} {body : SM} (I : Nat → EN → HP → Prop) (Q : D → HP → Prop) {n : Nat}
    (hs : ∀ i env h, i < n → I i env h → ∃ e, asg (.int (i : Nat)) env h = some e ∧ ((∃ env' h', body e h = .nx env' h' ∧ I (i + 1) env' h') ∨ ∃ r h', body e h = .rt r h' ∧ Q r h'))
    {env : EN} {h : HP} (h0 : I 0 env h) : (∃ env' h', forE asg body [] (rngD 0 n) env h = .nx env' h' ∧ I n env' h') ∨ ∃ r h', forE asg body [] (rngD 0 n) env h = .rt r h' ∧ Q r h' := by
  have := for_listE (asg := asg) (body := body) I Q (rngD 0 n) 0 (fun i hi env h hI => by
    rw [rngD_len] at hi
    rw [Nat.zero_add] at hI ⊢
    obtain ⟨e, e1, e2⟩ := hs i env h hi hI
    exact ⟨e, by rw [rng_get]; exact e1, e2⟩) env h h0
  rw [rngD_len, Nat.zero_add] at this
  exact this
theorem eqvAll_len : ∀ {xs ys : List PyData}, PyData.eqvAll xs ys = true → xs.length = ys.length
  | [], [], _ => rfl
  | [], _ :: _, h => by simp [PyData.eqvAll] at h
  | _ :: _, [], h => by simp [PyData.eqvAll] at h
  | x :: xs, y :: ys, h => by
    simp only [PyData.eqvAll, Bool.and_eq_true] at h
    simp [eqvAll_len h.2]
end Lib
namespace EvQ
open PySem PySem.SeqAt GQ
open AutoSeq1 (wpAny_loadPart')
open MeetsSeq MeetsSeq2 MeetsSeq3 SeqRoads2
section
variable {prog : Program} {w : World} {A : Around} {R : Result → Shared → Prop}
theorem ne_loopG (l b : Addr) (N : Nat) (I : Nat → Shared → Prop) (hl : ListI prog w A (fun e s' => R (.error e) s') l b N I)
    (fin : ∀ s, I N s → R (.ok (.ret (.bool false))) s) (k : Nat) :
    ∀ i : Nat, N - i = k → i ≤ N → ∀ s, I i s →
      wpAny (model prog w) A.in1 (Builtin.«list.__eq__.loop» ⟨[.ref l, .ref b, rawInt i, rawInt 3], []⟩) (FinOf prog w A R) (fun e s' => R (.error e) s') s := by
  induction k with
  | zero =>
    intro i hk hi s h
    obtain ⟨items, items2, n, n2, hl1, hb1, hs1, hs2, _⟩ := hl _ _ h
    have hi' : i = N := by omega
    have hR : R (.ok (.ret (.bool false))) s := fin s (hi' ▸ h)
    obtain ⟨hp, g, d, tk, os⟩ := s
    wp_walk using wpAny_loadPart' hl1, wpAny_loadPart' hb1
    have hi1 : items[((i : Nat) : Int).toNat]? = none := by simp; omega
    have hi2 : items2[((i : Nat) : Int).toNat]? = none := by simp; omega
    rw [hi1, hi2]
    wp_walk using wpAny_loadPart' hl1, wpAny_loadPart' hb1
    show R (.ok (.ret (.bool (items.size != items2.size)))) _
    rw [hs1, hs2]
    simpa using hR
  | succ k ih =>
    intro i hk hi s h
    obtain ⟨items, items2, n, n2, hl1, hb1, hs1, hs2, turn⟩ := hl _ _ h
    have hlt : i < items.size := by omega
    have hlt2 : i < items2.size := by omega
    have ht := turn hlt hlt2
    obtain ⟨hp, g, d, tk, os⟩ := s
    wp_walk using wpAny_loadPart' hl1, wpAny_loadPart' hb1
    have hi1 : items[((i : Nat) : Int).toNat]? = some items[i] := by simp [hlt]
    have hi2 : items2[((i : Nat) : Int).toNat]? = some items2[i] := by simp [hlt2]
    have hc : ((i : Int) + 1) = ((i + 1 : Nat) : Int) := by omega
    rw [hi1, hi2]
    refine wpAny_bind (wpAny_mono ht (fun r s2 h2 => ?_) fun _ _ x => x)
    obtain ⟨hr, h2⟩ := h2
    subst hr
    have hrec := ih (i + 1) (by omega) (by omega) s2 h2
    obtain ⟨hp2, g2, d2, tk2, os2⟩ := s2
    wp_walk
    rw [hc]
    exact ⟨plainId_quiet plain_eq_loop _, codeAny_builtin entry_eq_loop (by
      rw [Around.under_plainId plain_eq_loop _]
      exact hrec)⟩
theorem list_neG (l b : Addr) (N : Nat) (I : Nat → Shared → Prop) (hl : ListI prog w A (fun e s' => R (.error e) s') l b N I)
    (fin : ∀ s, I N s → R (.ok (.ret (.bool false))) s) {s : Shared} (h : I 0 s) :
    wpAny (model prog w) A.in1 (Builtin.«list.__ne__» ⟨[.ref l, .ref b], []⟩) (FinOf prog w A R) (fun e s' => R (.error e) s') s := by
  obtain ⟨items, items2, n, n2, hl1, hb1, hs1, hs2, _⟩ := hl _ _ h
  have hrec := ne_loopG (A := A) (R := R) l b N I hl fin _ 0 rfl (Nat.zero_le _) s h
  obtain ⟨hp, g, d, tk, os⟩ := s
  have f3 := AutoSeq1.sub_list_list
  have hne : ¬ (items.size != items2.size) = true := by simp [hs1, hs2]
  wp_walk using wpAny_loadPart' hl1, wpAny_loadPart' hb1
  exact ⟨plainId_quiet plain_eq_loop _, codeAny_builtin entry_eq_loop (by
    rw [Around.under_plainId plain_eq_loop _]
    exact hrec)⟩
end
section
variable {prog : Program} {w : World} {A : Around} {E : Value → Shared → Prop} {s : Shared}
theorem rc_neG {l b : Addr} {N : Nat} {Q : Value → Shared → Prop} (hu : A.units < cLine) (I : Nat → Shared → Prop) (hl : ListI prog w A E l b N I)
    (fin : ∀ s, I N s → Q (.bool false) s) (h : I 0 s) : wpAny (model prog w) A (richCompare .NotEq (.ref l) (.ref b)) Q E s := by
  obtain ⟨items, items2, n, n2, hl1, hb1, _, _, _⟩ := hl _ _ h
  refine wpAny_richCompare_same_room (op := .NotEq) ⟨_, hl1, rfl⟩ ⟨_, hb1, rfl⟩ F.slot_list_ne (call_here F.slot_list_ne ⟨_, hl1, rfl⟩ F.entry_list_ne (F.args_list_ne_2 _ _) ?_) hu
  exact list_neG (R := wants (fun v s' => v ≠ .notImplemented ∧ Q v s') E) l b N I hl (fun s' q => ⟨(fun x => nomatch x), fin s' q⟩) h
end
end EvQ

namespace Ev
open PySem PySem.Spec PyProof.Rows L2
section
variable {g : G} {X : Cx} {n : Nat} {hp : HP}
/-- the state has grown, the live objects say what they said -/
def Grown (X : Cx) (g : G) (hp : HP) (pins : List (Addr × Obj)) (σ : L2.St) (m : AM) (H : Hp) (s' : Shared) : Prop := ∃ m' H', Inv X pins σ H' s' ∧ Ex m H m' H' ∧ HL g m' H' hp
/-- two copies of d are seen to be equal -/
def EqN (X : Cx) (g : G) (n : Nat) (hp : HP) (d : D) : Prop :=
  ∀ (A : Around) (pins : List (Addr × Obj)) (s : Shared) (σ : L2.St) (m : AM) (H : Hp) (x y : V) (u v : Value), Sub X n A → Inv X pins σ H s → HL g m H hp → rep g m H d x → rep g m H d y → RelV x u → RelV y v →
    wpAny (model X.prog X.w) A (eqBool u v) (fun r s' => r = true ∧ Grown X g hp pins σ m H s') X.xe s
theorem EqN.mono {n k : Nat} {d : D} (h : EqN X g n hp d) (l : n ≤ k) : EqN X g k hp d := fun A pins s σ m H x y u v sb => h A pins s σ m H x y u v (sb.mono l)
theorem eqN_flat {d : D} (hf : ∀ m H v, rep g m H d v → (flatV v = true ∧ eqV v v = true) ∧ ∀ w, rep g m H d w → w = v) : EqN X g n hp d := by
  intro A pins s σ m H x y u v sb I hl rx ry ru rv
  obtain ⟨⟨f, e⟩, q⟩ := hf m H x rx
  obtain rfl := q y ry
  have z := eqAt_V (A := A) (s := s) ru rv f f
  rw [e] at z
  exact z X.prog X.w X.xe _ ⟨rfl, m, H, I, Ex.refl _ _, hl⟩
theorem eqN_int {i : Int} : EqN X g n hp (.int i) := eqN_flat fun m H v r => by
  simp only [rep] at r
  subst r
  exact ⟨⟨rfl, by simp [eqV]⟩, fun w r => by simpa [rep] using r⟩
theorem eqN_str {i : Str} : EqN X g n hp (.str i) := eqN_flat fun m H v r => by
  simp only [rep] at r
  subst r
  exact ⟨⟨rfl, by simp [eqV]⟩, fun w r => by simpa [rep] using r⟩
theorem eqN_bl {i : Bool} : EqN X g n hp (.bl i) := eqN_flat fun m H v r => by
  simp only [rep] at r
  subst r
  exact ⟨⟨rfl, by simp [eqV]⟩, fun w r => by simpa [rep] using r⟩
theorem eqN_non : EqN X g n hp .non := eqN_flat fun m H v r => by
  simp only [rep] at r
  subst r
  exact ⟨⟨rfl, by simp [eqV]⟩, fun w r => by simpa [rep] using r⟩

theorem turnN (hK : X.K = g.K) {ds : List D} (hd : ∀ d ∈ ds, EqN X g n hp d) {A : Around} (sb : Sub X (n + 1) A) {pins : List (Addr × Obj)} {σ : L2.St} {m m1 : AM} {H H1 : Hp} {xs ys : List V} {its its2 : List Value}
    (r1 : reps g m1 H1 ds xs) (r2 : reps g m1 H1 ds ys) (q1 : Vals xs its) (q2 : Vals ys its2) (s' : Shared) (I1 : Inv X pins σ H1 s') (e1 : Ex m H m1 H1) (hl : HL g m1 H1 hp)
    (i : Nat) (h1 : i < its.toArray.size) (h2 : i < its2.toArray.size) :
    wpAny (model X.prog X.w) A.in1 (eqBool its.toArray[i] its2.toArray[i]) (fun r s2 => r = true ∧ Grown X g hp pins σ m H s2) X.xe s' := by
  have g1 : its[i]? = some its.toArray[i] := by
    have h1' : i < its.length := by simpa using h1
    rw [List.getElem?_eq_getElem h1'] <;> simp
  have g2 : its2[i]? = some its2.toArray[i] := by
    have h2' : i < its2.length := by simpa using h2
    rw [List.getElem?_eq_getElem h2'] <;> simp
  have k1 : i < xs.length := by rw [q1.length]; simpa using h1
  have kd : i < ds.length := by rw [r1.length]; exact k1
  obtain ⟨x, ex, rx⟩ := r1.get (List.getElem?_eq_getElem kd)
  obtain ⟨y, ey, ry⟩ := r2.get (List.getElem?_eq_getElem kd)
  obtain ⟨u, hu, ru⟩ := q1.get ex
  obtain ⟨v, hv, rv⟩ := q2.get ey
  rw [g1] at hu
  rw [g2] at hv
  rw [Option.some.inj hu, Option.some.inj hv]
  refine wpAny_mono (hd _ (List.getElem_mem kd) A.in1 pins s' σ m1 H1 x y u v sb.in1 I1 hl rx ry ru rv) (fun r s2 q => ?_) fun _ _ x => x
  obtain ⟨hr, m2, H2, I2, x2, hl2⟩ := q
  exact ⟨hr, m2, H2, I2, e1.trans x2, hl2⟩
theorem eqN_tup (hK : X.K = g.K) {ds : List D} (hd : ∀ d ∈ ds, EqN X g n hp d) : EqN X g (n + 1) hp (.tup ds) := by
  intro A pins s σ m H x y u v sb I hl rx ry ru rv
  obtain ⟨a, xs, rfl, fa, ra⟩ := rTup rx
  obtain ⟨b, ys, rfl, fb, rb⟩ := rTup ry
  rw [← hK] at fa fb
  cases ru
  cases rv
  by_cases hab : a = b
  · subst hab
    exact SeqAt.EqAt.same (A := A) (s := s) (.ref a) X.prog X.w X.xe _ ⟨rfl, m, H, I, Ex.refl _ _, hl⟩
  · refine GQ.eqBool_refG hab ?_
    obtain ⟨its, r, e, z⟩ := I.tuple fa
    obtain ⟨its2, r2, e2, z2⟩ := I.tuple fb
    have hsz : its.toArray.size = its2.toArray.size := by
      rw [List.size_toArray, List.size_toArray, ← r.length, ← r2.length, ← ra.length, ← rb.length]
    refine GQ.rc_tupG hsz sb.room.units0 (fun _ s' => Grown X g hp pins σ m H s') e e2 (fun i h1 h2 s' q => ?_) (fun s' q => ⟨true, rfl, rfl, q⟩) ⟨m, H, I, Ex.refl _ _, hl⟩
    obtain ⟨m1, H1, I1, e1, hl1⟩ := q
    exact turnN hK hd sb (reps.ext e1 _ _ ra) (reps.ext e1 _ _ rb) r r2 s' I1 e1 hl1 i h1 h2
/-- the own == of a class, at these fields -/
structure OwnQ (X : Cx) (g : G) (CX : CXT) (E : XK) (c n : Nat) (F : FA) (f : Addr) (fd : FuncData) (ps : List Str) : Prop where
  ok : FnOk X.prog X.w X.K X.mg X.base CX n f fd ps (spF g 2 F)
  at_ : PySem.W.findIn X.K (.ref (g.cA c)) "__eq__" = some (some (.ref f))
  fn : PySem.W.isFn X.K (.ref f) = true
  bind : Binds X.K fd ps []
  pass : Passes CX X E
theorem eqN_ins {CX : CXT} {c : Nat} {F : FA} {f : Addr} {fd : FuncData} {ps : List Str} (O : OwnQ X g CX (fun _ _ _ => False) c n F f fd ps) {fs : List (Str × D)} (hF : F [.ins c fs, .ins c fs] hp = .ok (.bl true) hp) : EqN X g n hp (.ins c fs) := by
  intro A pins s σ m H x y u v sb I hl rx ry ru rv
  have rx' := rx
  have ry' := ry
  simp only [rep] at rx ry
  obtain ⟨a, dx, xs, rfl, ha, _, _⟩ := rx
  obtain ⟨b, dy, ys, rfl, hb, _, _⟩ := ry
  cases ru
  cases rv
  by_cases hab : a = b
  · subst hab
    exact SeqAt.EqAt.same (A := A) (s := s) (.ref a) X.prog X.w X.xe _ ⟨rfl, m, H, I, Ex.refl _ _, hl⟩
  · refine GQ.eqBool_refG hab ?_
    obtain ⟨mA, J, _⟩ := ins_get I.hok ha
    obtain ⟨mB, J', _⟩ := ins_get I.hok hb
    obtain ⟨od, J, _⟩ := J.look
    obtain ⟨od', J', _⟩ := J'.look
    obtain ⟨mm, hF'⟩ := I.fr
    refine PySem.W.cmp_K (op := .Eq) (tb := .ref (g.cA c)) sb.room.units0 hF' I.ok.mod.kin J J'.type (by simp [PySem.W.notFirst]) O.at_ O.fn ?_
    have hsp : spF g 2 F [.ref a, .ref b] H (fun v H' => v = .bl true ∧ ∃ m', Ex m H m' H' ∧ HL g m' H' hp) (fun _ _ _ => False) := by
      refine ⟨rfl, m, hp, [.ins c fs, .ins c fs], hl, ?_, ?_⟩
      · exact ⟨_, _, rfl, rx', _, _, rfl, ry', rfl⟩
      · rw [hF]
        intro m' H' v x' hl' rv
        simp only [rep] at rv
        exact ⟨rv, m', x', hl'⟩
    have e0 : Env0 X.prog X.w X.K X.mg X.base A X.stack s H := by
      have e := I.env0
      exact ⟨by rw [sb.fr]; exact e.frames, e.mod, e.bs, e.bsz, e.funs, e.frf, e.hok, e.bare⟩
    have hl2 := O.ok.len _ _ _ _ hsp
    have r2 : Vals [V.ref a, V.ref b] [Value.ref a, Value.ref b] := .cons rfl (.cons rfl .nil)
    refine wpAny_call (codeAny_mono (O.ok.run A X.stack s H ⟨[.ref a, .ref b], []⟩ [.ref a, .ref b] [.ref a, .ref b] _ _ sb.room e0 (by
      have := O.bind s [.ref a, .ref b] I.kIn (by simpa using hl2)
      simpa using this) r2 hsp) fun r s' hq => ?_)
    cases r with
    | error e => exact O.pass pins σ H s e s' I hq
    | ok fl =>
      cases fl with
      | ret w =>
        obtain ⟨z, H', I', rz, ez, m', ex, hl'⟩ := I.after hq
        subst ez
        cases rz
        exact ⟨true, rfl, rfl, m', H', I', ex, hl'⟩
      | next => exact False.elim hq
      | brk => exact False.elim hq
      | cont => exact False.elim hq

/-- what the own == says is equal to itself; F: the classes' own == -/
def owD (F : Nat → FA) (h : HP) : Nat → D → Prop
  | 0, _ => False
  | n + 1, .tup ds => ∀ d ∈ ds, owD F h n d
  | _ + 1, .ins c fs => F c [.ins c fs, .ins c fs] h = .ok (.bl true) h
  | _ + 1, .int _ => True
  | _ + 1, .str _ => True
  | _ + 1, .bl _ => True
  | _ + 1, .non => True
  | _ + 1, _ => False
/-- the classes' own ==, those that are known -/
def Owns (X : Cx) (g : G) (n : Nat) (F : Nat → FA) : Prop := ∀ c, (∃ CX f fd ps, OwnQ X g CX (fun _ _ _ => False) c n (F c) f fd ps) ∨ ∀ ds h, F c ds h = .stuck
theorem owD_ok {F : Nat → FA} {n0 : Nat} (hK : X.K = g.K) (O : Owns X g n0 F) : ∀ (k : Nat) (d : D), owD F hp k d → EqN X g (n0 + k) hp d
  | 0, _, h => (show False from h).elim
  | k + 1, .tup ds, h => eqN_tup hK fun d hd => owD_ok hK O k d (by
      simp only [owD] at h
      exact h d hd)
  | k + 1, .ins c fs, h => by
    simp only [owD] at h
    rcases O c with ⟨CX, f, fd, ps, o⟩ | o
    · exact (eqN_ins o h).mono (by omega)
    · rw [o] at h
      cases h
  | _ + 1, .int _, _ => eqN_int
  | _ + 1, .str _, _ => eqN_str
  | _ + 1, .bl _, _ => eqN_bl
  | _ + 1, .non, _ => eqN_non
  | _ + 1, .lst _, h => by simp [owD] at h
  | _ + 1, .klst _, h => by simp [owD] at h
  | _ + 1, .dic _, h => by simp [owD] at h
  | _ + 1, .set _, h => by simp [owD] at h
  | _ + 1, .ref _, h => by simp [owD] at h
/-- the items of a list -/
@[simp] def lsD (h : HP) : D → Option (List D)
  | .lst ds => some ds
  | .ref i => match h[i]? with
    | some (.lst ds) => some ds
    | _ => none
  | _ => none
theorem lsD_ok {m : AM} {H : Hp} {d : D} {v : V} {ds : List D} (hl : HL g m H hp) (r : rep g m H d v) (e : lsD hp d = some ds) : ∃ a vs, v = .ref a ∧ H a = some (.lst vs) ∧ reps g m H ds vs := by
  cases d with
  | lst es =>
    simp only [lsD, Option.some.injEq] at e
    subst e
    simp only [rep] at r
    obtain ⟨a, vs, rfl, e, _, rr⟩ := r
    exact ⟨a, vs, rfl, e, rr⟩
  | ref i =>
    simp only [lsD] at e
    split at e
    · rename_i es q
      cases e
      obtain ⟨a, ea, vs, ha, rv⟩ := hl.at q (by simp)
      simp only [rep] at r
      exact ⟨a, vs, r.2 a ea, ha, rv⟩
    · cases e
  | _ => simp [lsD] at e
open Classical in
/-- two lists that say the same -/
@[simp] noncomputable def sameLs (F : Nat → FA) (b : Bool) : Option (List D) → Option (List D) → HP → R D
  | some ds, some es, h => if ds = es ∧ ∀ d ∈ ds, owD F h 6 d then .ok (.bl b) h else .stuck
  | _, _, _ => .stuck
@[simp] noncomputable def sameL (F : Nat → FA) (b : Bool) (x y : D) (h : HP) : R D := sameLs F b (lsD h x) (lsD h y) h
def rSameL (g : G) (F : Nat → FA) (b : Bool) : R2 := fun x y H Q => ∃ m hp d e ds, HL g m H hp ∧ rep g m H d x ∧ rep g m H e y ∧ lsD hp d = some ds ∧ lsD hp e = some ds ∧ (∀ d ∈ ds, owD F hp 6 d) ∧
  ∀ m' H', Ex m H m' H' → HL g m' H' hp → Q (.bl b) H'
theorem ok2_same {F : Nat → FA} {b : Bool} {E : XK} : OK2 g E (rSameL g F b) (sameL F b) := by
  intro m H hp x y v u Q hl rx ry h
  unfold sameL sameLs at h
  split at h
  · split at h
    · rename_i _ _ _ ds es _ e1 e2 c
      obtain ⟨rfl, c⟩ := c
      exact ⟨m, _, x, y, _, hl, rx, ry, e1, e2, c, fun m' H' ex hl' => h m' H' _ ex hl' (by simp [rep])⟩
    · exact h.elim
  · exact h.elim
theorem listI_same {F : Nat → FA} {n0 : Nat} (hK : X.K = g.K) (O : Owns X g n0 F) {A : Around} (sb : Sub X (n0 + 7) A) {pins : List (Addr × Obj)} {σ : L2.St} {m : AM} {H : Hp} {d e : D} {ds : List D} {a b : Addr}
    (r1 : rep g m H d (.ref a)) (r2 : rep g m H e (.ref b)) (e1 : lsD hp d = some ds) (e2 : lsD hp e = some ds) (hd : ∀ d ∈ ds, owD F hp 6 d) :
    GQ.ListI X.prog X.w A X.xe a b ds.length (fun _ s' => Grown X g hp pins σ m H s') := by
  intro i' s' q
  obtain ⟨m1, H1, I1, x1, hl1⟩ := q
  obtain ⟨a', xs, qa, ha, ra⟩ := lsD_ok hl1 (rep.ext x1 _ _ r1) e1
  obtain ⟨b', ys, qb, hb, rb⟩ := lsD_ok hl1 (rep.ext x1 _ _ r2) e2
  cases qa
  cases qb
  obtain ⟨z, its, k, r, e⟩ := I1.hok a _ ha
  obtain ⟨z2, its2, k2, r2, e2'⟩ := I1.hok b _ hb
  refine ⟨its.toArray, its2.toArray, k, k2, e, e2', by rw [List.size_toArray, ← r.length, ← ra.length], by rw [List.size_toArray, ← r2.length, ← rb.length], fun h1 h2 => ?_⟩
  exact turnN hK (fun d m => owD_ok hK O 6 d (hd d m)) sb ra rb r r2 s' I1 x1 hl1 i' h1 h2
theorem op_neSame {F : Nat → FA} {n0 : Nat} (hK : X.K = g.K) (O : Owns X g n0 F) (hr : Room (n0 + 7) X.A) : OpR X (compareOp .NotEq) (rSameL g F false) := by
  intro pins s σ H x y v u Q I rx ry h
  obtain ⟨m, hp, d, e, ds, hl, r1, r2, e1, e2, hd, q⟩ := h
  obtain ⟨a, vs, rfl, ha, rv⟩ := lsD_ok hl r1 e1
  obtain ⟨b, ws, rfl, hb, rw'⟩ := lsD_ok hl r2 e2
  cases rx
  cases ry
  show wpAny (model X.prog X.w) X.A (richCompare .NotEq (.ref a) (.ref b)) (EP X pins σ Q) X.xe s
  refine EvQ.rc_neG hr.units0 (fun _ s' => Grown X g hp pins σ m H s') (listI_same hK O ⟨hr, rfl⟩ r1 r2 e1 e2 hd) (fun s' q' => ?_) ⟨m, H, I, Ex.refl _ _, hl⟩
  obtain ⟨m', H', I', ex, hl'⟩ := q'
  exact ⟨.bl false, H', I', rfl, q m' H' ex hl'⟩
theorem op_eqSame {F : Nat → FA} {n0 : Nat} (hK : X.K = g.K) (O : Owns X g n0 F) (hr : Room (n0 + 7) X.A) : OpR X (compareOp .Eq) (rSameL g F true) := by
  intro pins s σ H x y v u Q I rx ry h
  obtain ⟨m, hp, d, e, ds, hl, r1, r2, e1, e2, hd, q⟩ := h
  obtain ⟨a, vs, rfl, ha, rv⟩ := lsD_ok hl r1 e1
  obtain ⟨b, ws, rfl, hb, rw'⟩ := lsD_ok hl r2 e2
  cases rx
  cases ry
  show wpAny (model X.prog X.w) X.A (richCompare .Eq (.ref a) (.ref b)) (EP X pins σ Q) X.xe s
  refine GQ.rc_listG hr.units0 (fun _ s' => Grown X g hp pins σ m H s') (listI_same hK O ⟨hr, rfl⟩ r1 r2 e1 e2 hd) (fun s' q' => ?_) ⟨m, H, I, Ex.refl _ _, hl⟩
  obtain ⟨m', H', I', ex, hl'⟩ := q'
  exact ⟨.bl true, H', I', rfl, q m' H' ex hl'⟩
theorem ok_neO {F : Nat → FA} {n0 : Nat} {E : XK} (hK : X.K = g.K) (O : Owns X g n0 F) (hr : Room (n0 + 7) X.A) : OKS X g E (compareOp .NotEq) (sameL F false) := ⟨_, op_neSame hK O hr, ok2_same⟩
theorem ok_eqO {F : Nat → FA} {n0 : Nat} {E : XK} (hK : X.K = g.K) (O : Owns X g n0 F) (hr : Room (n0 + 7) X.A) : OKS X g E (compareOp .Eq) (sameL F true) := ⟨_, op_eqSame hK O hr, ok2_same⟩
def own1 (c0 : Nat) (F0 : FA) : Nat → FA := fun c => if c = c0 then F0 else fun _ _ => .stuck
@[simp] theorem own1_at (c0 : Nat) (F0 : FA) : own1 c0 F0 c0 = F0 := if_pos rfl
theorem owns1 {c0 n : Nat} {F0 : FA} {f : Addr} {fd : FuncData} {ps : List Str} (me : Meth X.K (g.cA c0) "__eq__" f) (o : FnOk X.prog X.w X.K X.mg X.base CX0 n f fd ps (spF g 2 F0)) (b : Binds X.K fd ps []) : Owns X g n (own1 c0 F0) := fun c => by
  by_cases h : c = c0
  · subst h
    exact .inl ⟨CX0, f, fd, ps, by rw [own1_at]; exact o, me.1, me.2, b, fun _ _ _ _ _ _ _ h => h.elim⟩
  · exact .inr fun ds hp => by rw [own1, if_neg h]

/-! isinstance(x, C), an own class -/
structure Isi (K : PySem.W.Frag) (C : Addr) : Prop where
  ha : PySem.W.findIn K (.ref C) "__class__" = some (some (.builtin "object.__class__"))
  hn : PySem.W.specialIn K (.builtin "object.__class__") "__get__" = some (some (.builtin "getset_descriptor.__get__"))
  ht : PySem.W.takesIn K (.builtin "object.__class__") = some true
  hm : PySem.W.mroIn K C (.type "object") = some true
@[simp] def kIsC (c : Nat) : D → HP → R D
  | .ins c' _, h => if c' = c then .ok (.bl true) h else .stuck
  | _, _ => .stuck
@[simp] def mIsC (c : Nat) (a : M D) (env : EN) (hp : HP) : R D := (a env hp).bind (kIsC c)
theorem EV.isC {E : XK} {c : Nat} {t isi : Str} {a : Expr} {p p2 pos : Pos} {fa : M D} (hK : X.K = g.K) (he0 : isi = "isinstance") (hm : X.mg isi = none) (hmt : X.mg t = some (.ref (g.cA c))) (tc : Cls X.K (g.cA c)) (ui : Isi X.K (g.cA c)) (ha : EV g X E a fa) (hg : Gl X isi) (hgt : Gl X t) (hd : (t == ("__debug__" : Str)) = false)
    (he : starEach [a, .Name t p2] X.env = (false, eval a X.env) :: starEach [.Name t p2] X.env) : EV g X E (.Call (.Name isi p) [a, .Name t p2] [] pos) (mIsC c fa) := by
  subst he0
  obtain ⟨ta, pa, qa⟩ := ha
  refine ⟨_, pe_callB call_isi hg hm (by decide +kernel) (pa_cons pa (pa_cons (pe_glob (v := .ref (g.cA c)) hgt hmt rfl hd) pa_nil rfl) he) (by decide) (by decide) he rfl, fun σ H Q m env hp hl er h => ?_⟩
  refine qa σ H _ m env hp hl er (PO.bind h fun x h1 m1 H1 v x1 hl1 r1 h => ?_)
  cases x with
  | ins c' fs =>
    simp only [kIsC] at h
    by_cases e : c' = c
    · subst e
      rw [if_pos rfl] at h
      simp only [rep] at r1
      obtain ⟨a, dx, vs, rfl, e, _⟩ := r1
      exact ⟨_, .ref (g.cA c'), .ref (g.cA c'), .ref (g.cA c'), true, rfl, .own _, .base (.ins e tc ui.ha ui.hn ui.ht ui.hm), by simp [PySem.W.kitOne], PO.here hl1 h (by simp [rep])⟩
    · rw [if_neg e] at h
      exact h.elim
  | _ => exact h.elim
end
end Ev
namespace Ev
open PySem PySem.Spec PyProof.Rows L2
section
variable {g : G} {X : Cx} {n : Nat} {hp : HP}
/-- no built-in type stands below an own class -/
def TB (T : String) : Bool := T == "NoneType" || T == "bool" || T == "int" || T == "str" || T == "tuple" || T == "list" || T == "dict"
theorem sub_tb {K : PySem.W.Frag} {T : String} {C : Addr} (h : TB T = true) : PySem.W.subIn K (.type T) (.ref C) = some false := by
  unfold TB at h
  simp only [Bool.or_eq_true, beq_iff_eq] at h
  rcases h with (((((rfl | rfl) | rfl) | rfl) | rfl) | rfl) | rfl <;> kernel_rfl
theorem tb_of {h : HP} {d : D} {T : String} (e : tyD h d = some T) : TB T = true := by
  cases d with
  | non => cases e; rfl
  | bl _ => cases e; rfl
  | int _ => cases e; rfl
  | str _ => cases e; rfl
  | tup _ => cases e; rfl
  | lst _ => cases e; rfl
  | dic _ => cases e; rfl
  | klst _ => cases e
  | set _ => cases e
  | ins _ _ => cases e
  | ref n =>
    simp only [tyD] at e
    unfold tyO at e
    split at e
    · cases e; rfl
    · cases e; rfl
    · cases e
theorem kit_tb {K : PySem.W.Frag} {T : String} {C : Addr} (h : TB T = true) (hm : PySem.W.mroIn K C (.type "object") = some true) (ht : PySem.W.typeIn K (.ref C) = some (.type "type")) : PySem.W.kitOne K (.type T) (.ref C) = some false := by
  unfold PySem.W.kitOne
  have e : (Value.type T == Value.ref C) = false := rfl
  rw [e]
  unfold PySem.W.kitCls
  have c : (PySem.W.clsIn K C).isSome = true := by
    unfold PySem.W.mroIn at hm
    cases z : PySem.W.clsIn K C with
    | none => rw [z] at hm; cases hm
    | some _ => rfl
  simp [c, ht, sub_tb h]
/-! x == y, two objects of one class with an own ==: the def's answer -/
@[simp] def boR : R D → R D
  | .ok (.bl b) h => .ok (.bl b) h
  | _ => .stuck
/-- pairs of own classes of which the first one does not stand below the second one -/
structure DifT (K : PySem.W.Frag) (cA : Nat → Addr) (dp : Nat → Nat → Bool) : Prop where
  df : ∀ a b, dp a b = true → PySem.W.mroIn K (cA a) (.ref (cA b)) = some false
  ne : ∀ a b, dp a b = true → cA a ≠ cA b
theorem kit_df {K : PySem.W.Frag} {cA : Nat → Addr} {dp : Nat → Nat → Bool} (W : DifT K cA dp) {a b : Nat} (h : dp a b = true) (hm : PySem.W.mroIn K (cA b) (.type "object") = some true) (ht : PySem.W.typeIn K (.ref (cA b)) = some (.type "type")) : PySem.W.kitOne K (.ref (cA a)) (.ref (cA b)) = some false := by
  unfold PySem.W.kitOne
  have e : (Value.ref (cA a) == Value.ref (cA b)) = false := by simp [W.ne a b h]
  rw [e]
  unfold PySem.W.kitCls
  have c : (PySem.W.clsIn K (cA b)).isSome = true := by
    unfold PySem.W.mroIn at hm
    cases z : PySem.W.clsIn K (cA b) with
    | none => rw [z] at hm; cases hm
    | some _ => rfl
  simp [c, ht, PySem.W.subIn, W.df a b h]
/-- the other side: an object of the class, of another one, or a value of a built-in type -/
@[simp] def othC (dp : Nat → Nat → Bool) (c : Nat) (h : HP) : D → Bool
  | .ins c' _ => c' == c || dp c' c
  | d => (tyD h d).isSome
@[simp] def fEqI (dp : Nat → Nat → Bool) (F : Nat → FA) (x y : D) (h : HP) : R D := match x with
  | .ins c fs => if othC dp c h y = true then boR (F c [.ins c fs, y] h) else .stuck
  | _ => .stuck
def rEqI (g : G) (dp : Nat → Nat → Bool) (F : Nat → FA) : R2 := fun x y H Q => ∃ m hp hp' c fs e b, HL g m H hp ∧ rep g m H (.ins c fs) x ∧ rep g m H e y ∧ othC dp c hp e = true ∧ F c [.ins c fs, e] hp = .ok (.bl b) hp' ∧ ∀ m' H', Ex m H m' H' → HL g m' H' hp' → Q (.bl b) H'
theorem ok2_eqI {dp : Nat → Nat → Bool} {F : Nat → FA} {E : XK} : OK2 g E (rEqI g dp F) (fEqI dp F) := by
  intro m H hp x y v u Q hl rx ry h
  unfold fEqI at h
  split at h
  · split at h
    · rename_i c fs e
      cases hF : F c [.ins c fs, y] hp with
      | ok d hp' =>
        rw [hF] at h
        cases d with
        | bl b => exact ⟨m, hp, hp', c, fs, y, b, hl, rx, ry, e, hF, fun m' H' ex hl' => h m' H' _ ex hl' (by simp [rep])⟩
        | _ => exact h.elim
      | exc _ _ _ => rw [hF] at h; exact h.elim
      | stuck => rw [hF] at h; exact h.elim
    · exact h.elim
  · exact h.elim
/-- the other side's type, which does not go first -/
theorem oth_ok {pins : List (Addr × Obj)} {σ : L2.St} {s : Shared} {m : AM} {H : Hp} {c : Nat} {e : D} {y : V} {u : Value} {dp : Nat → Nat → Bool} (W : DifT X.K g.cA dp) (hK : X.K = g.K) (I : Inv X pins σ H s) (hl : HL g m H hp) (r : rep g m H e y) (ry : RelV y u) (o : othC dp c hp e = true) :
    ∃ tb, PySem.W.Looks (model X.prog X.w) s.heap (typeOf u) tb ∧ PySem.W.notFirst X.K (g.cA c) tb = true := by
  have nb : ∀ T, tyD hp e = some T → ∃ tb, PySem.W.Looks (model X.prog X.w) s.heap (typeOf u) tb ∧ PySem.W.notFirst X.K (g.cA c) tb = true := fun T q => by
    obtain ⟨P, Z, p, _⟩ := kit_of I ry (hK ▸ tyD_ok hl r q)
    exact ⟨_, Z.ty _ _ I.kIn p, by simp [PySem.W.notFirst, sub_tb (tb_of q)]⟩
  cases e with
  | ins c' fs =>
    simp only [othC, Bool.or_eq_true, beq_iff_eq] at o
    simp only [rep] at r
    obtain ⟨b, dy, ys, rfl, hb, _, _⟩ := r
    cases ry
    obtain ⟨mB, J', _⟩ := ins_get I.hok hb
    obtain ⟨od', J', _⟩ := J'.look
    rcases o with rfl | o
    · exact ⟨_, J'.type, by simp [PySem.W.notFirst]⟩
    · exact ⟨_, J'.type, by simp [PySem.W.notFirst, PySem.W.subIn, W.df _ _ o]⟩
  | _ =>
    simp only [othC, Option.isSome_iff_exists] at o
    obtain ⟨T, q⟩ := o
    exact nb T q
theorem op_eqI {dp : Nat → Nat → Bool} {F : Nat → FA} {n0 : Nat} (W : DifT X.K g.cA dp) (hK : X.K = g.K) (O : Owns X g n0 F) (hr : Room n0 X.A) : OpR X (compareOp .Eq) (rEqI g dp F) := by
  intro pins s σ H x y v u Q I rx ry h
  obtain ⟨m, hp, hp', c, fs, e, b0, hl, r1, r2, ot, hF, q⟩ := h
  rcases O c with ⟨CX, f, fd, ps, o⟩ | o
  · have r1' := r1
    obtain ⟨tb, hty, hnf⟩ := oth_ok W hK I hl r2 ry ot
    simp only [rep] at r1
    obtain ⟨a, dx, xs, rfl, ha, _, _⟩ := r1
    cases rx
    obtain ⟨mA, J, _⟩ := ins_get I.hok ha
    obtain ⟨od, J, _⟩ := J.look
    obtain ⟨mm, hF'⟩ := I.fr
    show wpAny (model X.prog X.w) X.A (richCompare .Eq (.ref a) u) (EP X pins σ Q) X.xe s
    refine PySem.W.cmp_K (op := .Eq) (tb := tb) hr.units0 hF' I.ok.mod.kin J hty hnf o.at_ o.fn ?_
    have hsp : spF g 2 (F c) [.ref a, y] H (fun v H' => v = .bl b0 ∧ ∃ m', Ex m H m' H' ∧ HL g m' H' hp') (fun _ _ _ => False) := by
      refine ⟨rfl, m, hp, [.ins c fs, e], hl, ⟨_, _, rfl, r1', _, _, rfl, r2, rfl⟩, ?_⟩
      rw [hF]
      intro m' H' v x' hl' rv
      simp only [rep] at rv
      exact ⟨rv, m', x', hl'⟩
    have hl2 := o.ok.len _ _ _ _ hsp
    have rr : Vals [V.ref a, y] [Value.ref a, u] := .cons rfl (.cons ry .nil)
    refine wpAny_call (codeAny_mono (o.ok.run X.A X.stack s H ⟨[.ref a, u], []⟩ [.ref a, u] [.ref a, y] _ _ hr I.env0 (by
      have := o.bind s [.ref a, u] I.kIn (by simpa using hl2)
      simpa using this) rr hsp) fun r s' hq => ?_)
    cases r with
    | error e => exact o.pass pins σ H s e s' I hq
    | ok fl =>
      cases fl with
      | ret w =>
        obtain ⟨z, H', I', rz, ez, m', ex, hl'⟩ := I.after hq
        subst ez
        cases rz
        exact ⟨.bl b0, H', I', rfl, q m' H' ex hl'⟩
      | next => exact False.elim hq
      | brk => exact False.elim hq
      | cont => exact False.elim hq
  · rw [o] at hF
    cases hF
theorem ok_eqI {dp : Nat → Nat → Bool} {F : Nat → FA} {n0 : Nat} {E : XK} (W : DifT X.K g.cA dp) (hK : X.K = g.K) (O : Owns X g n0 F) (hr : Room n0 X.A) : OKS X g E (compareOp .Eq) (fEqI dp F) := ⟨_, op_eqI W hK O hr, ok2_eqI⟩
/-! isinstance(x, C), an own class; x an object of the class, or a value of a built-in type -/
@[simp] def bNo : Option String → HP → R D
  | some _, h => .ok (.bl false) h
  | none, _ => .stuck
@[simp] def kIsD (dp : Nat → Nat → Bool) (c : Nat) : D → HP → R D
  | .ins c' _, h => if c' = c then .ok (.bl true) h else if dp c' c = true then .ok (.bl false) h else .stuck
  | d, h => bNo (tyD h d) h
@[simp] def mIsD (dp : Nat → Nat → Bool) (c : Nat) (a : M D) (env : EN) (hp : HP) : R D := (a env hp).bind (kIsD dp c)
theorem EV.isD {E : XK} {dp : Nat → Nat → Bool} {c : Nat} {t isi : Str} {a : Expr} {p p2 pos : Pos} {fa : M D} (hK : X.K = g.K) (he0 : isi = "isinstance") (hm : X.mg isi = none) (hmt : X.mg t = some (.ref (g.cA c))) (W : DifT X.K g.cA dp) (tc : ∀ c, Cls X.K (g.cA c)) (ui : ∀ c, Isi X.K (g.cA c)) (ty : PySem.W.typeIn X.K (.ref (g.cA c)) = some (.type "type")) (ha : EV g X E a fa) (hg : Gl X isi) (hgt : Gl X t) (hd : (t == ("__debug__" : Str)) = false)
    (he : starEach [a, .Name t p2] X.env = (false, eval a X.env) :: starEach [.Name t p2] X.env) : EV g X E (.Call (.Name isi p) [a, .Name t p2] [] pos) (mIsD dp c fa) := by
  subst he0
  obtain ⟨ta, pa, qa⟩ := ha
  refine ⟨_, pe_callB call_isi hg hm (by decide +kernel) (pa_cons pa (pa_cons (pe_glob (v := .ref (g.cA c)) hgt hmt rfl hd) pa_nil rfl) he) (by decide) (by decide) he rfl, fun σ H Q m env hp hl er h => ?_⟩
  refine qa σ H _ m env hp hl er (PO.bind h fun x h1 m1 H1 v x1 hl1 r1 h => ?_)
  have nb : PO g m1 H1 E (rep g) Q (bNo (tyD h1 x) h1) → rIsi X.K [v, .ref (g.cA c)] H1 Q := fun h => by
    cases q : tyD h1 x with
    | none => rw [q] at h; exact h.elim
    | some T =>
      rw [q] at h
      exact ⟨_, .ref (g.cA c), .type T, .ref (g.cA c), false, rfl, .own _, hK ▸ tyD_ok hl1 r1 q, kit_tb (tb_of q) (ui c).hm ty, PO.here hl1 h (by simp [rep])⟩
  cases x with
  | ins c' fs =>
    simp only [kIsD] at h
    by_cases e : c' = c
    · subst e
      rw [if_pos rfl] at h
      simp only [rep] at r1
      obtain ⟨a, dx, vs, rfl, e, _⟩ := r1
      exact ⟨_, .ref (g.cA c'), .ref (g.cA c'), .ref (g.cA c'), true, rfl, .own _, .base (.ins e (tc c') (ui c').ha (ui c').hn (ui c').ht (ui c').hm), by simp [PySem.W.kitOne], PO.here hl1 h (by simp [rep])⟩
    · rw [if_neg e] at h
      by_cases z : dp c' c = true
      · rw [if_pos z] at h
        simp only [rep] at r1
        obtain ⟨a, dx, vs, rfl, e, _⟩ := r1
        exact ⟨_, .ref (g.cA c), .ref (g.cA c'), .ref (g.cA c), false, rfl, .own _, .base (.ins e (tc c') (ui c').ha (ui c').hn (ui c').ht (ui c').hm), kit_df W z (ui c).hm ty, PO.here hl1 h (by simp [rep])⟩
      · rw [if_neg z] at h
        exact h.elim
  | _ => exact nb h
end
end Ev
namespace EvQ
open PySem PySem.W PySem.Calls PyProof.Rows
section
variable {prog : Program} {w : World} {A : Around} {E : Value → Shared → Prop} {s : Shared} {K : Frag} {x C f : Addr} {ox : Obj} {od : Option Obj} {b tb : Value} {h₀ : Heap} {L : Addr} {m : Str → Option Value}
theorem ifBound_blt {M : Model} {args : List Value} {name : Str} {id : String} {Q : Option Value → Shared → Prop} (X : K.In s.heap) (I : InstAt s.heap x ox C od) (hs : findIn K (.ref C) name = some (some (.builtin id)))
    (hb : ∀ self, bindSpecial (.builtin id) self = pure (.builtin id, [self])) (h : wpAny M A (call (.builtin id) (.ref x :: args)) (fun v => Q (some v)) E s) : wpAny M A (callSpecialIfBound? (.ref x) name args) Q E s := by
  simp only [callSpecialIfBound?, bindSpecialIfBound?]
  refine wpAny_holding (wpAny_bind (wpAny_bind (wpAny_bind (I.type.here ((looks_findIn X hs).here ?_)))))
  simp only [hb]
  refine wpAny_bind (wpAny_askSetting (wpAny_ite ?_))
  have fin : wpAny M A (call (.builtin id) ([.ref x] ++ args) >>= fun v => pure (some v)) Q E s := wpAny_bind (wpAny_mono h (fun v s' h' => wpAny_pure h') fun _ _ h' => h')
  split
  · exact wpAny_bind (wpAny_pure (wpAny_pure fin))
  · exact wpAny_tryCatch (wpAny_bind (wpAny_pure (wpAny_pure fin)))
theorem objNe_K (hu : A.units < cLine) (X : K.In s.heap) (I : InstAt s.heap x ox C od) (hs : findIn K (.ref C) "__eq__" = some (some (.ref f))) (hf : isFn K (.ref f) = true) {Q : Fin → Shared → Prop}
    (h : wpAny (model prog w) A (call (.ref f) [.ref x, b]) (fun v s' => ∃ r, v = .bool r ∧ Q (.done (.ret (.bool (!r)))) s') E s) : wpAny (model prog w) A (Builtin.«object.__ne__» ⟨[.ref x, b], []⟩) Q E s := by
  unfold Builtin.«object.__ne__»
  repeat (first
    | with_reducible refine wpAny_cRoomFor hu ?_
    | (refine wpAny_bind (m := callSpecialIfBound? (.ref x) (Str.ofString "__eq__") [b])
        (ifBound_K X I hs hf (wpAny_mono h (fun r s' hr => by
          obtain ⟨b, rfl, hq⟩ := hr
          repeat (first | exact hq | exact wpAny_pure hq | exact wpAny_truthy_bool hq | (refine wpAny_bind (m := truthy (.bool _)) (wpAny_truthy_bool ?_)) | wp_step)) fun _ _ e => e)))
    | wp_step)
theorem ne_K {Q : Value → Shared → Prop} (hu : A.units + 1 < cLine) (F : Fr h₀ L s.heap m) (X₀ : K.In h₀) (I : InstAt s.heap x ox C od) (hb : Looks (model prog w) s.heap (typeOf b) tb) (hn : notFirst K C tb = true)
    (hne : findIn K (.ref C) "__ne__" = some (some (.builtin "object.__ne__"))) (hm : mroIn K C (.type "object") = some true) (hs : findIn K (.ref C) "__eq__" = some (some (.ref f))) (hf : isFn K (.ref f) = true)
    (h : wpAny (model prog w) A.in1 (call (.ref f) [.ref x, b]) (fun v s' => ∃ r, v = .bool r ∧ Q (.bool (!r)) s') E s) : wpAny (model prog w) A (richCompare .NotEq (.ref x) b) Q E s := by
  have X := X₀.keeps F.keep
  have one : wpAny (model prog w) A (tryCompare (.ref x) (cmpInfo .NotEq).2.1 b) (fun r s' => ∃ v, r = some v ∧ Q v s') E s := by
    unfold tryCompare
    refine wpAny_bind (ifBound_blt (M := model prog w) X I hne PySem.F.cmp_object.ne.bind (wpAny_call (codeAny_call_builtin PySem.F.cmp_object.ne.plain PySem.F.cmpEntry_ne
      (check_slot PySem.F.cmpKind_ne PySem.F.cmpSplit_ne (I.type.andThen (looks_mroIn X hm)) (PySem.F.cmpArgs_ne _ _) (objNe_K (A := A.in1) (by exact hu) X I hs hf (wpAny_mono h (fun v s' hv => ?_) fun _ _ e => e))))))
    obtain ⟨r, rfl, hq⟩ := hv
    exact ⟨r, rfl, wpAny_pure ⟨_, rfl, hq⟩⟩
  unfold richCompare
  simp only [oneThing_ref]
  refine wpAny_holding (wpAny_bind (wpAny_cRoomFor (by omega) ?_))
  refine wpAny_bind (I.type.here (wpAny_bind (hb.here ?_)))
  split
  · rename_i q
    have e : subIn K tb (.ref C) = some false := by
      rcases Bool.or_eq_true_iff.mp hn with e | e
      · rw [beq_iff_eq.mp e] at q; simp at q
      · exact beq_iff_eq.mp e
    refine wpAny_bind ((looks_subIn X e).here ?_)
    simp only [Bool.false_eq_true, if_false]
    refine wpAny_bind (wpAny_mono one (fun r s' z => ?_) fun _ _ e => e)
    obtain ⟨v, rfl, hq⟩ := z
    exact wpAny_pure hq
  · refine wpAny_bind (wpAny_pure ?_)
    simp only [Bool.false_eq_true, if_false]
    refine wpAny_bind (wpAny_mono one (fun r s' z => ?_) fun _ _ e => e)
    obtain ⟨v, rfl, hq⟩ := z
    exact wpAny_pure hq
end
end EvQ

namespace Ev
open PySem PySem.Spec PyProof.Rows L2
section
variable {g : G} {X : Cx} {n : Nat} {hp : HP}
@[simp] def noR : R D → R D
  | .ok (.bl b) h => .ok (.bl (!b)) h
  | _ => .stuck
/-- x != y by the class's own == -/
@[simp] def fNeI (dp : Nat → Nat → Bool) (F : Nat → FA) (x y : D) (h : HP) : R D := match x with
  | .ins c fs => if othC dp c h y = true then noR (F c [.ins c fs, y] h) else .stuck
  | _ => .stuck
/-- the class has no __ne__ of its own -/
structure NoNe (K : PySem.W.Frag) (C : Addr) : Prop where
  ne : PySem.W.findIn K (.ref C) "__ne__" = some (some (.builtin "object.__ne__"))
  ob : PySem.W.mroIn K C (.type "object") = some true
def NoNes (X : Cx) (g : G) (F : Nat → FA) : Prop := ∀ c, NoNe X.K (g.cA c) ∨ ∀ ds h, F c ds h = .stuck
theorem noNes1 {c0 : Nat} {F0 : FA} (h : NoNe X.K (g.cA c0)) : NoNes X g (own1 c0 F0) := fun c => by
  by_cases e : c = c0
  · subst e; exact .inl h
  · exact .inr fun ds hp => by rw [own1, if_neg e]
def rNeI (g : G) (dp : Nat → Nat → Bool) (F : Nat → FA) : R2 := fun x y H Q => ∃ m hp hp' c fs e b, HL g m H hp ∧ rep g m H (.ins c fs) x ∧ rep g m H e y ∧ othC dp c hp e = true ∧ F c [.ins c fs, e] hp = .ok (.bl b) hp' ∧ ∀ m' H', Ex m H m' H' → HL g m' H' hp' → Q (.bl (!b)) H'
theorem ok2_neI {dp : Nat → Nat → Bool} {F : Nat → FA} {E : XK} : OK2 g E (rNeI g dp F) (fNeI dp F) := by
  intro m H hp x y v u Q hl rx ry h
  unfold fNeI at h
  split at h
  · split at h
    · rename_i c fs e
      cases hF : F c [.ins c fs, y] hp with
      | ok d hp' =>
        rw [hF] at h
        cases d with
        | bl b => exact ⟨m, hp, hp', c, fs, y, b, hl, rx, ry, e, hF, fun m' H' ex hl' => h m' H' _ ex hl' (by simp [rep])⟩
        | _ => exact h.elim
      | exc _ _ _ => rw [hF] at h; exact h.elim
      | stuck => rw [hF] at h; exact h.elim
    · exact h.elim
  · exact h.elim
theorem op_neI {dp : Nat → Nat → Bool} {F : Nat → FA} {n0 : Nat} (W : DifT X.K g.cA dp) (hK : X.K = g.K) (O : Owns X g n0 F) (N : NoNes X g F) (hr : Room (n0 + 1) X.A) : OpR X (compareOp .NotEq) (rNeI g dp F) := by
  intro pins s σ H x y v u Q I rx ry h
  obtain ⟨m, hp, hp', c, fs, e, b0, hl, r1, r2, ot, hF, q⟩ := h
  rcases O c with ⟨CX, f, fd, ps, o⟩ | o
  · rcases N c with nn | nn
    · have r1' := r1
      obtain ⟨tb, hty, hnf⟩ := oth_ok W hK I hl r2 ry ot
      simp only [rep] at r1
      obtain ⟨a, dx, xs, rfl, ha, _, _⟩ := r1
      cases rx
      obtain ⟨mA, J, _⟩ := ins_get I.hok ha
      obtain ⟨od, J, _⟩ := J.look
      obtain ⟨mm, hF'⟩ := I.fr
      show wpAny (model X.prog X.w) X.A (richCompare .NotEq (.ref a) u) (EP X pins σ Q) X.xe s
      refine EvQ.ne_K (tb := tb) (by have := hr.units; omega) hF' I.ok.mod.kin J hty hnf nn.ne nn.ob o.at_ o.fn ?_
      have hsp : spF g 2 (F c) [.ref a, y] H (fun v H' => v = .bl b0 ∧ ∃ m', Ex m H m' H' ∧ HL g m' H' hp') (fun _ _ _ => False) := by
        refine ⟨rfl, m, hp, [.ins c fs, e], hl, ⟨_, _, rfl, r1', _, _, rfl, r2, rfl⟩, ?_⟩
        rw [hF]
        intro m' H' v x' hl' rv
        simp only [rep] at rv
        exact ⟨rv, m', x', hl'⟩
      have hl2 := o.ok.len _ _ _ _ hsp
      have rr : Vals [V.ref a, y] [Value.ref a, u] := .cons rfl (.cons ry .nil)
      refine wpAny_call (codeAny_mono (o.ok.run X.A.in1 X.stack s H ⟨[.ref a, u], []⟩ [.ref a, u] [.ref a, y] _ _ hr.in1 I.env0.in1 (by
        have := o.bind s [.ref a, u] I.kIn (by simpa using hl2)
        simpa using this) rr hsp) fun r s' hq => ?_)
      cases r with
      | error e => exact o.pass pins σ H s e s' I hq
      | ok fl =>
        cases fl with
        | ret w =>
          obtain ⟨z, H', I', rz, ez, m', ex, hl'⟩ := I.after hq
          subst ez
          cases rz
          exact ⟨b0, rfl, .bl (!b0), H', I', rfl, q m' H' ex hl'⟩
        | next => exact False.elim hq
        | brk => exact False.elim hq
        | cont => exact False.elim hq
    · rw [nn] at hF
      cases hF
  · rw [o] at hF
    cases hF
theorem ok_neI {dp : Nat → Nat → Bool} {F : Nat → FA} {n0 : Nat} {E : XK} (W : DifT X.K g.cA dp) (hK : X.K = g.K) (O : Owns X g n0 F) (N : NoNes X g F) (hr : Room (n0 + 1) X.A) : OKS X g E (compareOp .NotEq) (fNeI dp F) := ⟨_, op_neI W hK O N hr, ok2_neI⟩
end
end Ev
namespace Ev
open PySem PySem.Spec PyProof.Rows L2
/-! max and min of a list of whole numbers with default= -/
section
variable {g : G} {X : Cx} {E : XK} {prog : Program} {w : World} {A : Around}
theorem maxd_loop {I : Addr} {fp wr : List Addr} {n : Nat} {P : Nat → Value → Prop} {St : Nat → Heap → Prop} {R : Result → Shared → Prop} {kd : Str} {d : Value} {S : Addr} {bt : Nat → Nat → Bool}
    (W : Walks prog w A.in1 I fp wr n P St) (hcmp : CmpOf prog w A.in1 .Gt P bt) (hSf : S ∉ fp) (k : Nat) : ∀ (j : Nat) (s : Shared) (vb : Value) (c : Nat), n - (j + 1) = k → j + 1 ≤ n → St (j + 1) s.heap → P (argBest bt j) vb →
    s.heap.get? S = some { cls := .type "list", dict := none, data := .seq #[vb, vb] c, slots := #[] } →
    (∀ v h' tk, P (argBest bt (n - 1)) v → (∀ b o, b ∉ wr → b ≠ S → s.heap.get? b = some o → h'.get? b = some o) → R (.ok (.ret v)) { s with heap := h', toks := tk }) →
    codeAny (model prog w) A (.builtin "max.loop" ⟨[.ref I, .none, .ref S], [(kd, d)]⟩) R s := by
  have hSw : S ∉ wr := fun h => hSf (W.sub _ h)
  have nm : (toString "max" ++ toString ".loop" : String) = "max.loop" := by decide
  induction k with
  | zero =>
    intro j s vb c hk hj hst hPb hS hR
    have hin : j + 1 = n := by omega
    refine codeAny_builtin F.entry_max_loop ?_; rw [Around.under_plainId F.plain_max_loop _]
    show wpAny _ A.in1 (seqItems? (.ref S) >>= _) _ _ s; refine wpAny_bind (wpAny_seqItems hS rfl ?_)
    show wpAny _ A.in1 (tryCatch (pyNext (.ref I)) _ >>= _) _ _ s; refine wpAny_bind (wpAny_tryCatch (W.done s _ _ (hin ▸ hst) fun h' tk hk' => ?_))
    show wpAny _ A.in1 (updateSeq S (fun _ => #[]) >>= _) _ _ _; refine wpAny_bind ?_; refine wpAny_updateSeq (hk' S _ hSw hS) rfl (wpAny_bind (wpAny_letGo (wpAny_pure ?_)))
    exact hR vb _ tk (by rw [← hin]; exact hPb) fun b o q1 q2 e => (Heap.get?_update_other _ _ (Ne.symm q2)).trans (hk' b o q1 e)
  | succ k ih =>
    intro j s vb c hk hj hst hPb hS hR
    have hlt : j + 1 < n := by omega
    refine codeAny_builtin F.entry_max_loop ?_; rw [Around.under_plainId F.plain_max_loop _]
    show wpAny _ A.in1 (seqItems? (.ref S) >>= _) _ _ s; refine wpAny_bind (wpAny_seqItems hS rfl ?_)
    show wpAny _ A.in1 (tryCatch (pyNext (.ref I)) _ >>= _) _ _ s; refine wpAny_bind (wpAny_tryCatch (W.item (j + 1) s _ _ hlt hst fun v h' tk hP hst' hk' => ?_))
    have hS' := hk' S _ hSw hS
    show wpAny _ A.in1 (tryCatch (holding [v, v] (richCompare .Gt v vb >>= _)) _ >>= _) _ _ _; refine wpAny_bind (wpAny_tryCatch (wpAny_holding (wpAny_bind (hcmp (j + 1) (argBest bt j) v vb _ _ _ hP hPb ?_))))
    refine wpAny_bind (wpAny_holding (wpAny_truthy_bool ?_)); refine wpAny_bind (wpAny_letGo (wpAny_pure ?_))
    cases hb : bt (j + 1) (argBest bt j) with
    | true =>
      simp only [if_true]; refine wpAny_bind ?_; refine wpAny_updateSeq hS' rfl (wpAny_bind (wpAny_letGo ?_)); rw [nm]
      refine wpAny_pure ⟨plainId_quiet F.plain_max_loop _, ih (j + 1) _ v _ (by omega) hlt (W.frame _ _ _ hst' fun b q3 o e => (Heap.get?_update_other _ _ (fun q : S = b => hSf (by rw [q]; exact q3))).trans e) (by simp only [argBest, hb, if_true]; exact hP) (Heap.get?_update_self _ hS' rfl) fun v' h2 tk2 hP2 hk2 => ?_⟩
      exact hR v' h2 tk2 hP2 fun b o q1 q2 e => hk2 b o q1 q2 ((Heap.get?_update_other _ _ (Ne.symm q2)).trans (hk' b o q1 e))
    | false =>
      simp only [Bool.false_eq_true, if_false]; refine wpAny_bind (wpAny_letGo ?_); rw [nm]
      refine wpAny_pure ⟨plainId_quiet F.plain_max_loop _, ih (j + 1) _ vb c (by omega) hlt hst' (by simp only [argBest, hb, Bool.false_eq_true, if_false]; exact hPb) hS' fun v' h2 tk2 hP2 hk2 => ?_⟩
      exact hR v' h2 tk2 hP2 fun b o q1 q2 e => hk2 b o q1 q2 (hk' b o q1 e)
theorem maxd_first {I : Addr} {fp wr : List Addr} {n : Nat} {P : Nat → Value → Prop} {St : Nat → Heap → Prop} {R : Result → Shared → Prop} {kd : Str} {d : Value} {S : Addr} {bt : Nat → Nat → Bool} {s : Shared} {c : Nat}
    (W : Walks prog w A.in1 I fp wr n P St) (hcmp : CmpOf prog w A.in1 .Gt P bt) (hSf : S ∉ fp) (hst : St 0 s.heap) (hS : s.heap.get? S = some { cls := .type "list", dict := none, data := .seq #[] c, slots := #[] })
    (h0 : n = 0 → ∀ h' tk, (∀ b o, b ∉ wr → b ≠ S → s.heap.get? b = some o → h'.get? b = some o) → R (.ok (.ret d)) { s with heap := h', toks := tk })
    (hR : 0 < n → ∀ v h' tk, P (argBest bt (n - 1)) v → (∀ b o, b ∉ wr → b ≠ S → s.heap.get? b = some o → h'.get? b = some o) → R (.ok (.ret v)) { s with heap := h', toks := tk }) :
    codeAny (model prog w) A (.builtin "max.loop" ⟨[.ref I, .none, .ref S], [(kd, d)]⟩) R s := by
  have hSw : S ∉ wr := fun h => hSf (W.sub _ h)
  have nm : (toString "max" ++ toString ".loop" : String) = "max.loop" := by decide
  rcases Nat.eq_zero_or_pos n with e0 | hn
  · subst e0
    refine codeAny_builtin F.entry_max_loop ?_; rw [Around.under_plainId F.plain_max_loop _]
    show wpAny _ A.in1 (seqItems? (.ref S) >>= _) _ _ s; refine wpAny_bind (wpAny_seqItems hS rfl ?_)
    show wpAny _ A.in1 (tryCatch (pyNext (.ref I)) _ >>= _) _ _ s; refine wpAny_bind (wpAny_tryCatch (W.done s _ _ hst fun h' tk hk' => ?_))
    refine wpAny_bind (wpAny_rule ?_); exact wpAny_pure (h0 rfl h' tk fun b o q1 q2 e => hk' b o q1 e)
  · refine codeAny_builtin F.entry_max_loop ?_; rw [Around.under_plainId F.plain_max_loop _]
    show wpAny _ A.in1 (seqItems? (.ref S) >>= _) _ _ s; refine wpAny_bind (wpAny_seqItems hS rfl ?_)
    show wpAny _ A.in1 (tryCatch (pyNext (.ref I)) _ >>= _) _ _ s; refine wpAny_bind (wpAny_tryCatch (W.item 0 s _ _ hn hst fun v h' tk hP hst' hk' => ?_))
    have hS' := hk' S _ hSw hS
    show wpAny _ A.in1 (updateSeq S (fun _ => #[v, v]) >>= _) _ _ _; refine wpAny_bind ?_; refine wpAny_updateSeq hS' rfl ?_; rw [nm]
    refine wpAny_pure ⟨plainId_quiet F.plain_max_loop _, maxd_loop W hcmp hSf _ 0 _ v _ rfl hn (W.frame _ _ _ hst' fun b q3 o e => (Heap.get?_update_other _ _ (fun q : S = b => hSf (by rw [q]; exact q3))).trans e) hP (Heap.get?_update_self _ hS' rfl) fun v' h2 tk2 hP2 hk2 => ?_⟩
    exact hR hn v' h2 tk2 hP2 fun b o q1 q2 e => hk2 b o q1 q2 ((Heap.get?_update_other _ _ (Ne.symm q2)).trans (hk' b o q1 e))
theorem maxd_args (a d : Value) : argsOk "max" ⟨[a], [(Str.ofString "default", d)]⟩ := by unfold argsOk; kernel_rfl
theorem maxd_call {l : Addr} {xs : Array (Int × Tok)} {d : Value} {Q : Value → Shared → Prop} {E : Value → Shared → Prop} {s : Shared} (hh : A.handled = none) (hl : s.heap.IsList l (intItems xs))
    (h0 : xs.size = 0 → ∀ h' tk, (∀ b o, s.heap.get? b = some o → h'.get? b = some o) → Q d { s with heap := h', toks := tk })
    (h : 0 < xs.size → ∀ v h' tk, (intItems xs)[argBest (fun i j => decide (numAt xs i > numAt xs j)) (xs.size - 1)]? = some v → (∀ b o, s.heap.get? b = some o → h'.get? b = some o) → Q v { s with heap := h', toks := tk }) :
    wpAny (model prog w) A (call (.builtin "max") [.ref l] [(Str.ofString "default", d)]) Q E s := by
  have nm : (toString "max" ++ toString ".loop" : String) = "max.loop" := by decide
  refine PyProof.Rows.kmb_tree F.kind_max F.plain_max F.entry_max (maxd_args _ _) ?_
  show wpAny _ A.in1 (Builtin.Builtins.bindParams "max" ["key", "default"] 0 ⟨[], [(Str.ofString "default", d)]⟩ >>= _) _ _ s
  refine wpAny_bind (wpAny_of_eq (show Builtin.Builtins.bindParams "max" ["key", "default"] 0 ⟨[], [(Str.ofString "default", d)]⟩ = pure [none, some d] from rfl) ?_)
  refine wpAny_bind (wpAny_pure ?_); refine wpAny_bind (iter_intList hl fun s₂ e st hfp hlI => ?_); subst e
  refine wpAny_bind (wpAny_newObj_type ?_); rw [nm]
  have W := Walks.list (prog := prog) (w := w) (A := A.in1) hh s.heap.objs.size l hlI (intItems xs)
  have hz : (intItems xs).size = xs.size := by simp [intItems]
  rw [hz] at W
  have old : ∀ (h2 h' : Heap), (∀ b o, b ∉ [s.heap.objs.size] → b ≠ (s.heap.push { cls := .type "list_iterator", data := .fields #[.ref l, .int 0 0] }).objs.size → h2.get? b = some o → h'.get? b = some o) → (∀ b o, s.heap.get? b = some o → h2.get? b = some o) → ∀ b o, s.heap.get? b = some o → h'.get? b = some o := fun h2 h' hk k2 b o e => by
    have hlt := Heap.lt_size e
    refine hk b o (fun q => ?_) (fun q => ?_) (k2 b o e)
    · have q := List.mem_singleton.mp q; rw [q] at hlt; exact Nat.lt_irrefl _ hlt
    · rw [q, Heap.size_push] at hlt; exact Nat.lt_irrefl _ (Nat.lt_of_succ_lt hlt)
  refine wpAny_pure ⟨plainId_quiet F.plain_max_loop _, maxd_first W (CmpOf.ints_gt (numAt xs) (fun _ _ => intItems_at)) (fun q => Nat.lt_irrefl _ (hfp _ q)) (W.frame _ _ _ st fun b _ o e => Heap.get?_push_of_some _ e) (Heap.get?_push_size _ rfl) (fun n0 h' tk hk => ?_) fun hn v h' tk hP hk => ?_⟩
  · exact h0 n0 h' tk (old _ h' hk fun b o e => Heap.get?_push_of_some _ (Heap.get?_push_of_some _ e))
  · exact h hn v h' tk hP (old _ h' hk fun b o e => Heap.get?_push_of_some _ (Heap.get?_push_of_some _ e))
theorem maxd_raw {its : List Value} {ns : List Int} {l : Addr} {d : Value} {Q : Value → Shared → Prop} {E : Value → Shared → Prop} {s : Shared} (hh : A.handled = none) (hl : s.heap.IsList l its.toArray) (hi : IntsAre its ns)
    (h0 : ns = [] → ∀ h' tk, (∀ b o, s.heap.get? b = some o → h'.get? b = some o) → Q d { s with heap := h', toks := tk })
    (h : ns ≠ [] → ∀ h' tk M t', (∀ b o, s.heap.get? b = some o → h'.get? b = some o) → M ∈ ns → (∀ a, a ∈ ns → a ≤ M) → Q (.int M t') { s with heap := h', toks := tk }) :
    wpAny (model prog w) A (call (.builtin "max") [.ref l] [(Str.ofString "default", d)]) Q E s := by
  obtain ⟨xs, e⟩ := hi.allInts.items
  have hn : numsOf (intItems xs).toList = ns := by rw [← e]; exact hi.numsOf
  rw [nums_intItems] at hn; subst hn; rw [e] at hl
  refine maxd_call hh hl (fun z h' tk hk => h0 (by simpa using z) h' tk hk) fun hsz v h' tk hv hk => ?_
  obtain ⟨t, rfl⟩ := intItems_at hv
  obtain ⟨h1, h2⟩ := argBest_gt (numAt xs) (xs.size - 1)
  refine h (by intro q; rw [List.map_eq_nil_iff] at q; have e9 := congrArg List.length q; rw [Array.length_toList] at e9; rw [e9] at hsz; exact absurd hsz (by decide)) h' tk _ t hk ?_ fun a ha => ?_
  · rw [numAt_eq]; exact PySem.getD_mem (by rw [List.length_map, Array.length_toList]; omega)
  · obtain ⟨j, hj, rfl⟩ := mem_getD ha
    rw [List.length_map, Array.length_toList] at hj; rw [← numAt_eq]; exact h2 j (by omega)
def rmaxD (K : PySem.W.Frag) : List V → List V → Hp → VK → Prop := fun vs zs H Q => ∃ (a : Addr) (ns : List Int) (z : V), vs = [V.ref a] ∧ zs = [z] ∧ SqL K H a (ns.map V.int) ∧ (ns = [] → Q z H) ∧ (ns ≠ [] → ∀ m, m ∈ ns → (∀ y, y ∈ ns → y ≤ m) → Q (.int m) H)
theorem cr_maxD (hc : X.calm = true) : CallRK X (.builtin "max") [Str.ofString "default"] (rmaxD X.K) := by
  intro pins s σ H vs zs us ws Q I r rz h
  obtain ⟨a, ns, z, rfl, rfl, hs, q0, q⟩ := h
  obtain rfl := Vals.ref1 r
  obtain ⟨w1, rfl, e1⟩ := vals1 rz
  obtain ⟨its, rv, hl, _⟩ := I.list hs
  exact maxd_raw (I.ok.hd hc) hl.isList rv.ints (fun z0 h' tk hk => ⟨z, H, I.kept hk, e1, q0 z0⟩) fun hne h' tk m t' hk h1 h2 => ⟨.int _, H, I.kept hk, ⟨_, rfl⟩, q hne m h1 h2⟩
@[simp] def maxDn (z : D) : Option (List Int) → HP → R D
  | some ns, h => if 0 < ns.length then .ok (.int (maxL ns)) h else .ok z h
  | none, _ => .stuck
@[simp] def maxDo (z : D) : Option (List D) → HP → R D
  | some es, h => maxDn z (intsD es) h
  | none, _ => .stuck
@[simp] def maxDk (z : D) (x : D) (h : HP) : R D := maxDo z (asL h x) h
@[simp] def maxDk1 (b : M D) (env : EN) (x : D) (h : HP) : R D := (b env h).bind fun z h2 => maxDk z x h2
@[simp] def mmaxD (a b : M D) (env : EN) (hp : HP) : R D := (a env hp).bind (maxDk1 b env)
theorem EV.maxD {x : Str} {p pos kp : Pos} {e z : Expr} {fa fz : M D} (hK : X.K = g.K) (hc : X.calm = true) (hx : x = "max") (hm : X.mg x = none) (ha : EV g X E e fa) (hz : EV g X E z fz) (hg : Gl X x)
    (he : backTo pos (starEach [e] X.env) = (false, eval e X.env) :: backTo pos (starEach [] X.env)) (he2 : starEach [e] X.env = (false, eval e X.env) :: starEach [] X.env)
    (hpl : (backTo pos (starEach [e] X.env)).any (·.1) = false)
    (hall : (backToKw pos (keywordEach [⟨some (Str.ofString "default"), z, kp⟩] X.env)).all (·.1.isSome) = true) (hnone : (backToKw pos (keywordEach [⟨some (Str.ofString "default"), z, kp⟩] X.env)).any (·.1.isNone) = false)
    (hks : (backToKw pos (keywordEach [⟨some (Str.ofString "default"), z, kp⟩] X.env)).filterMap (·.1) = [Str.ofString "default"]) :
    EV g X E (.Call (.Name x p) [e] [⟨some (Str.ofString "default"), z, kp⟩] pos) (mmaxD fa fz) := by
  subst hx
  obtain ⟨ta, pa, qa⟩ := ha
  obtain ⟨tz, pz, qz⟩ := hz
  refine ⟨_, pe_callBK (cr_maxD hc) hg hm (by decide +kernel) (pa_cons pa pa_nil he2) (pk_cons pz pk_nil) (by decide) (by decide) he hpl hall hnone hks, fun σ H Q m env hp hl er h => ?_⟩
  refine qa σ H _ m env hp hl er (PO.bind h fun x h1 m1 H1 v x1 hl1 r1 h => ?_)
  refine qz σ H1 _ m1 env h1 hl1 (er.ext x1) (PO.bind h fun y h2 m2 H2 u x2 hl2 r2 h => ?_)
  unfold maxDk maxDo at h
  rw [hK]
  split at h
  · rename_i es ee
    unfold maxDn at h
    split at h
    · rename_i ns en
      obtain ⟨a, us, rfl, hs, rs⟩ := asL_ok hl2 (rep.ext x2 _ _ r1) ee
      have := intsD_ok rs en
      subst this
      refine ⟨a, ns, u, rfl, rfl, hs, fun z0 => ?_, fun hne M h1 h2 => ?_⟩
      · rw [if_neg (by subst z0; simp)] at h
        exact PO.here hl2 h r2
      · rw [if_pos (List.length_pos_iff.mpr hne)] at h
        obtain ⟨k1, k2⟩ := maxL_mem (ns := ns) hne
        have e : M = maxL ns := Int.le_antisymm (k2 M h1) (h2 _ k1)
        rw [e]
        exact PO.here hl2 h (by simp [rep])
    · exact h.elim
  · exact h.elim
theorem mind_loop {I : Addr} {fp wr : List Addr} {n : Nat} {P : Nat → Value → Prop} {St : Nat → Heap → Prop} {R : Result → Shared → Prop} {kd : Str} {d : Value} {S : Addr} {bt : Nat → Nat → Bool}
    (W : Walks prog w A.in1 I fp wr n P St) (hcmp : CmpOf prog w A.in1 .Lt P bt) (hSf : S ∉ fp) (k : Nat) : ∀ (j : Nat) (s : Shared) (vb : Value) (c : Nat), n - (j + 1) = k → j + 1 ≤ n → St (j + 1) s.heap → P (argBest bt j) vb →
    s.heap.get? S = some { cls := .type "list", dict := none, data := .seq #[vb, vb] c, slots := #[] } →
    (∀ v h' tk, P (argBest bt (n - 1)) v → (∀ b o, b ∉ wr → b ≠ S → s.heap.get? b = some o → h'.get? b = some o) → R (.ok (.ret v)) { s with heap := h', toks := tk }) →
    codeAny (model prog w) A (.builtin "min.loop" ⟨[.ref I, .none, .ref S], [(kd, d)]⟩) R s := by
  have hSw : S ∉ wr := fun h => hSf (W.sub _ h)
  have nm : (toString "min" ++ toString ".loop" : String) = "min.loop" := by decide
  induction k with
  | zero =>
    intro j s vb c hk hj hst hPb hS hR
    have hin : j + 1 = n := by omega
    refine codeAny_builtin F.entry_min_loop ?_; rw [Around.under_plainId F.plain_min_loop _]
    show wpAny _ A.in1 (seqItems? (.ref S) >>= _) _ _ s; refine wpAny_bind (wpAny_seqItems hS rfl ?_)
    show wpAny _ A.in1 (tryCatch (pyNext (.ref I)) _ >>= _) _ _ s; refine wpAny_bind (wpAny_tryCatch (W.done s _ _ (hin ▸ hst) fun h' tk hk' => ?_))
    show wpAny _ A.in1 (updateSeq S (fun _ => #[]) >>= _) _ _ _; refine wpAny_bind ?_; refine wpAny_updateSeq (hk' S _ hSw hS) rfl (wpAny_bind (wpAny_letGo (wpAny_pure ?_)))
    exact hR vb _ tk (by rw [← hin]; exact hPb) fun b o q1 q2 e => (Heap.get?_update_other _ _ (Ne.symm q2)).trans (hk' b o q1 e)
  | succ k ih =>
    intro j s vb c hk hj hst hPb hS hR
    have hlt : j + 1 < n := by omega
    refine codeAny_builtin F.entry_min_loop ?_; rw [Around.under_plainId F.plain_min_loop _]
    show wpAny _ A.in1 (seqItems? (.ref S) >>= _) _ _ s; refine wpAny_bind (wpAny_seqItems hS rfl ?_)
    show wpAny _ A.in1 (tryCatch (pyNext (.ref I)) _ >>= _) _ _ s; refine wpAny_bind (wpAny_tryCatch (W.item (j + 1) s _ _ hlt hst fun v h' tk hP hst' hk' => ?_))
    have hS' := hk' S _ hSw hS
    show wpAny _ A.in1 (tryCatch (holding [v, v] (richCompare .Lt v vb >>= _)) _ >>= _) _ _ _; refine wpAny_bind (wpAny_tryCatch (wpAny_holding (wpAny_bind (hcmp (j + 1) (argBest bt j) v vb _ _ _ hP hPb ?_))))
    refine wpAny_bind (wpAny_holding (wpAny_truthy_bool ?_)); refine wpAny_bind (wpAny_letGo (wpAny_pure ?_))
    cases hb : bt (j + 1) (argBest bt j) with
    | true =>
      simp only [if_true]; refine wpAny_bind ?_; refine wpAny_updateSeq hS' rfl (wpAny_bind (wpAny_letGo ?_)); rw [nm]
      refine wpAny_pure ⟨plainId_quiet F.plain_min_loop _, ih (j + 1) _ v _ (by omega) hlt (W.frame _ _ _ hst' fun b q3 o e => (Heap.get?_update_other _ _ (fun q : S = b => hSf (by rw [q]; exact q3))).trans e) (by simp only [argBest, hb, if_true]; exact hP) (Heap.get?_update_self _ hS' rfl) fun v' h2 tk2 hP2 hk2 => ?_⟩
      exact hR v' h2 tk2 hP2 fun b o q1 q2 e => hk2 b o q1 q2 ((Heap.get?_update_other _ _ (Ne.symm q2)).trans (hk' b o q1 e))
    | false =>
      simp only [Bool.false_eq_true, if_false]; refine wpAny_bind (wpAny_letGo ?_); rw [nm]
      refine wpAny_pure ⟨plainId_quiet F.plain_min_loop _, ih (j + 1) _ vb c (by omega) hlt hst' (by simp only [argBest, hb, Bool.false_eq_true, if_false]; exact hPb) hS' fun v' h2 tk2 hP2 hk2 => ?_⟩
      exact hR v' h2 tk2 hP2 fun b o q1 q2 e => hk2 b o q1 q2 (hk' b o q1 e)
theorem mind_first {I : Addr} {fp wr : List Addr} {n : Nat} {P : Nat → Value → Prop} {St : Nat → Heap → Prop} {R : Result → Shared → Prop} {kd : Str} {d : Value} {S : Addr} {bt : Nat → Nat → Bool} {s : Shared} {c : Nat}
    (W : Walks prog w A.in1 I fp wr n P St) (hcmp : CmpOf prog w A.in1 .Lt P bt) (hSf : S ∉ fp) (hst : St 0 s.heap) (hS : s.heap.get? S = some { cls := .type "list", dict := none, data := .seq #[] c, slots := #[] })
    (h0 : n = 0 → ∀ h' tk, (∀ b o, b ∉ wr → b ≠ S → s.heap.get? b = some o → h'.get? b = some o) → R (.ok (.ret d)) { s with heap := h', toks := tk })
    (hR : 0 < n → ∀ v h' tk, P (argBest bt (n - 1)) v → (∀ b o, b ∉ wr → b ≠ S → s.heap.get? b = some o → h'.get? b = some o) → R (.ok (.ret v)) { s with heap := h', toks := tk }) :
    codeAny (model prog w) A (.builtin "min.loop" ⟨[.ref I, .none, .ref S], [(kd, d)]⟩) R s := by
  have hSw : S ∉ wr := fun h => hSf (W.sub _ h)
  have nm : (toString "min" ++ toString ".loop" : String) = "min.loop" := by decide
  rcases Nat.eq_zero_or_pos n with e0 | hn
  · subst e0
    refine codeAny_builtin F.entry_min_loop ?_; rw [Around.under_plainId F.plain_min_loop _]
    show wpAny _ A.in1 (seqItems? (.ref S) >>= _) _ _ s; refine wpAny_bind (wpAny_seqItems hS rfl ?_)
    show wpAny _ A.in1 (tryCatch (pyNext (.ref I)) _ >>= _) _ _ s; refine wpAny_bind (wpAny_tryCatch (W.done s _ _ hst fun h' tk hk' => ?_))
    refine wpAny_bind (wpAny_rule ?_); exact wpAny_pure (h0 rfl h' tk fun b o q1 q2 e => hk' b o q1 e)
  · refine codeAny_builtin F.entry_min_loop ?_; rw [Around.under_plainId F.plain_min_loop _]
    show wpAny _ A.in1 (seqItems? (.ref S) >>= _) _ _ s; refine wpAny_bind (wpAny_seqItems hS rfl ?_)
    show wpAny _ A.in1 (tryCatch (pyNext (.ref I)) _ >>= _) _ _ s; refine wpAny_bind (wpAny_tryCatch (W.item 0 s _ _ hn hst fun v h' tk hP hst' hk' => ?_))
    have hS' := hk' S _ hSw hS
    show wpAny _ A.in1 (updateSeq S (fun _ => #[v, v]) >>= _) _ _ _; refine wpAny_bind ?_; refine wpAny_updateSeq hS' rfl ?_; rw [nm]
    refine wpAny_pure ⟨plainId_quiet F.plain_min_loop _, mind_loop W hcmp hSf _ 0 _ v _ rfl hn (W.frame _ _ _ hst' fun b q3 o e => (Heap.get?_update_other _ _ (fun q : S = b => hSf (by rw [q]; exact q3))).trans e) hP (Heap.get?_update_self _ hS' rfl) fun v' h2 tk2 hP2 hk2 => ?_⟩
    exact hR hn v' h2 tk2 hP2 fun b o q1 q2 e => hk2 b o q1 q2 ((Heap.get?_update_other _ _ (Ne.symm q2)).trans (hk' b o q1 e))
theorem mind_args (a d : Value) : argsOk "min" ⟨[a], [(Str.ofString "default", d)]⟩ := by unfold argsOk; kernel_rfl
theorem mind_call {l : Addr} {xs : Array (Int × Tok)} {d : Value} {Q : Value → Shared → Prop} {E : Value → Shared → Prop} {s : Shared} (hh : A.handled = none) (hl : s.heap.IsList l (intItems xs))
    (h0 : xs.size = 0 → ∀ h' tk, (∀ b o, s.heap.get? b = some o → h'.get? b = some o) → Q d { s with heap := h', toks := tk })
    (h : 0 < xs.size → ∀ v h' tk, (intItems xs)[argBest (fun i j => decide (numAt xs i < numAt xs j)) (xs.size - 1)]? = some v → (∀ b o, s.heap.get? b = some o → h'.get? b = some o) → Q v { s with heap := h', toks := tk }) :
    wpAny (model prog w) A (call (.builtin "min") [.ref l] [(Str.ofString "default", d)]) Q E s := by
  have nm : (toString "min" ++ toString ".loop" : String) = "min.loop" := by decide
  refine PyProof.Rows.kmb_tree F.kind_min F.plain_min F.entry_min (mind_args _ _) ?_
  show wpAny _ A.in1 (Builtin.Builtins.bindParams "min" ["key", "default"] 0 ⟨[], [(Str.ofString "default", d)]⟩ >>= _) _ _ s
  refine wpAny_bind (wpAny_of_eq (show Builtin.Builtins.bindParams "min" ["key", "default"] 0 ⟨[], [(Str.ofString "default", d)]⟩ = pure [none, some d] from rfl) ?_)
  refine wpAny_bind (wpAny_pure ?_); refine wpAny_bind (iter_intList hl fun s₂ e st hfp hlI => ?_); subst e
  refine wpAny_bind (wpAny_newObj_type ?_); rw [nm]
  have W := Walks.list (prog := prog) (w := w) (A := A.in1) hh s.heap.objs.size l hlI (intItems xs)
  have hz : (intItems xs).size = xs.size := by simp [intItems]
  rw [hz] at W
  have old : ∀ (h2 h' : Heap), (∀ b o, b ∉ [s.heap.objs.size] → b ≠ (s.heap.push { cls := .type "list_iterator", data := .fields #[.ref l, .int 0 0] }).objs.size → h2.get? b = some o → h'.get? b = some o) → (∀ b o, s.heap.get? b = some o → h2.get? b = some o) → ∀ b o, s.heap.get? b = some o → h'.get? b = some o := fun h2 h' hk k2 b o e => by
    have hlt := Heap.lt_size e
    refine hk b o (fun q => ?_) (fun q => ?_) (k2 b o e)
    · have q := List.mem_singleton.mp q; rw [q] at hlt; exact Nat.lt_irrefl _ hlt
    · rw [q, Heap.size_push] at hlt; exact Nat.lt_irrefl _ (Nat.lt_of_succ_lt hlt)
  refine wpAny_pure ⟨plainId_quiet F.plain_min_loop _, mind_first W (CmpOf.ints_lt (numAt xs) (fun _ _ => intItems_at)) (fun q => Nat.lt_irrefl _ (hfp _ q)) (W.frame _ _ _ st fun b _ o e => Heap.get?_push_of_some _ e) (Heap.get?_push_size _ rfl) (fun n0 h' tk hk => ?_) fun hn v h' tk hP hk => ?_⟩
  · exact h0 n0 h' tk (old _ h' hk fun b o e => Heap.get?_push_of_some _ (Heap.get?_push_of_some _ e))
  · exact h hn v h' tk hP (old _ h' hk fun b o e => Heap.get?_push_of_some _ (Heap.get?_push_of_some _ e))
theorem mind_raw {its : List Value} {ns : List Int} {l : Addr} {d : Value} {Q : Value → Shared → Prop} {E : Value → Shared → Prop} {s : Shared} (hh : A.handled = none) (hl : s.heap.IsList l its.toArray) (hi : IntsAre its ns)
    (h0 : ns = [] → ∀ h' tk, (∀ b o, s.heap.get? b = some o → h'.get? b = some o) → Q d { s with heap := h', toks := tk })
    (h : ns ≠ [] → ∀ h' tk M t', (∀ b o, s.heap.get? b = some o → h'.get? b = some o) → M ∈ ns → (∀ a, a ∈ ns → M ≤ a) → Q (.int M t') { s with heap := h', toks := tk }) :
    wpAny (model prog w) A (call (.builtin "min") [.ref l] [(Str.ofString "default", d)]) Q E s := by
  obtain ⟨xs, e⟩ := hi.allInts.items
  have hn : numsOf (intItems xs).toList = ns := by rw [← e]; exact hi.numsOf
  rw [nums_intItems] at hn; subst hn; rw [e] at hl
  refine mind_call hh hl (fun z h' tk hk => h0 (by simpa using z) h' tk hk) fun hsz v h' tk hv hk => ?_
  obtain ⟨t, rfl⟩ := intItems_at hv
  obtain ⟨h1, h2⟩ := argBest_lt (numAt xs) (xs.size - 1)
  refine h (by intro q; rw [List.map_eq_nil_iff] at q; have e9 := congrArg List.length q; rw [Array.length_toList] at e9; rw [e9] at hsz; exact absurd hsz (by decide)) h' tk _ t hk ?_ fun a ha => ?_
  · rw [numAt_eq]; exact PySem.getD_mem (by rw [List.length_map, Array.length_toList]; omega)
  · obtain ⟨j, hj, rfl⟩ := mem_getD ha
    rw [List.length_map, Array.length_toList] at hj; rw [← numAt_eq]; exact h2 j (by omega)
def rminD (K : PySem.W.Frag) : List V → List V → Hp → VK → Prop := fun vs zs H Q => ∃ (a : Addr) (ns : List Int) (z : V), vs = [V.ref a] ∧ zs = [z] ∧ SqL K H a (ns.map V.int) ∧ (ns = [] → Q z H) ∧ (ns ≠ [] → ∀ m, m ∈ ns → (∀ y, y ∈ ns → m ≤ y) → Q (.int m) H)
theorem cr_minD (hc : X.calm = true) : CallRK X (.builtin "min") [Str.ofString "default"] (rminD X.K) := by
  intro pins s σ H vs zs us ws Q I r rz h
  obtain ⟨a, ns, z, rfl, rfl, hs, q0, q⟩ := h
  obtain rfl := Vals.ref1 r
  obtain ⟨w1, rfl, e1⟩ := vals1 rz
  obtain ⟨its, rv, hl, _⟩ := I.list hs
  exact mind_raw (I.ok.hd hc) hl.isList rv.ints (fun z0 h' tk hk => ⟨z, H, I.kept hk, e1, q0 z0⟩) fun hne h' tk m t' hk h1 h2 => ⟨.int _, H, I.kept hk, ⟨_, rfl⟩, q hne m h1 h2⟩
@[simp] def minDn (z : D) : Option (List Int) → HP → R D
  | some ns, h => if 0 < ns.length then .ok (.int (minL ns)) h else .ok z h
  | none, _ => .stuck
@[simp] def minDo (z : D) : Option (List D) → HP → R D
  | some es, h => minDn z (intsD es) h
  | none, _ => .stuck
@[simp] def minDk (z : D) (x : D) (h : HP) : R D := minDo z (asL h x) h
@[simp] def minDk1 (b : M D) (env : EN) (x : D) (h : HP) : R D := (b env h).bind fun z h2 => minDk z x h2
@[simp] def mminD (a b : M D) (env : EN) (hp : HP) : R D := (a env hp).bind (minDk1 b env)
theorem EV.minD {x : Str} {p pos kp : Pos} {e z : Expr} {fa fz : M D} (hK : X.K = g.K) (hc : X.calm = true) (hx : x = "min") (hm : X.mg x = none) (ha : EV g X E e fa) (hz : EV g X E z fz) (hg : Gl X x)
    (he : backTo pos (starEach [e] X.env) = (false, eval e X.env) :: backTo pos (starEach [] X.env)) (he2 : starEach [e] X.env = (false, eval e X.env) :: starEach [] X.env)
    (hpl : (backTo pos (starEach [e] X.env)).any (·.1) = false)
    (hall : (backToKw pos (keywordEach [⟨some (Str.ofString "default"), z, kp⟩] X.env)).all (·.1.isSome) = true) (hnone : (backToKw pos (keywordEach [⟨some (Str.ofString "default"), z, kp⟩] X.env)).any (·.1.isNone) = false)
    (hks : (backToKw pos (keywordEach [⟨some (Str.ofString "default"), z, kp⟩] X.env)).filterMap (·.1) = [Str.ofString "default"]) :
    EV g X E (.Call (.Name x p) [e] [⟨some (Str.ofString "default"), z, kp⟩] pos) (mminD fa fz) := by
  subst hx
  obtain ⟨ta, pa, qa⟩ := ha
  obtain ⟨tz, pz, qz⟩ := hz
  refine ⟨_, pe_callBK (cr_minD hc) hg hm (by decide +kernel) (pa_cons pa pa_nil he2) (pk_cons pz pk_nil) (by decide) (by decide) he hpl hall hnone hks, fun σ H Q m env hp hl er h => ?_⟩
  refine qa σ H _ m env hp hl er (PO.bind h fun x h1 m1 H1 v x1 hl1 r1 h => ?_)
  refine qz σ H1 _ m1 env h1 hl1 (er.ext x1) (PO.bind h fun y h2 m2 H2 u x2 hl2 r2 h => ?_)
  unfold minDk minDo at h
  rw [hK]
  split at h
  · rename_i es ee
    unfold minDn at h
    split at h
    · rename_i ns en
      obtain ⟨a, us, rfl, hs, rs⟩ := asL_ok hl2 (rep.ext x2 _ _ r1) ee
      have := intsD_ok rs en
      subst this
      refine ⟨a, ns, u, rfl, rfl, hs, fun z0 => ?_, fun hne M h1 h2 => ?_⟩
      · rw [if_neg (by subst z0; simp)] at h
        exact PO.here hl2 h r2
      · rw [if_pos (List.length_pos_iff.mpr hne)] at h
        obtain ⟨k1, k2⟩ := minL_mem (ns := ns) hne
        have e : M = minL ns := Int.le_antisymm (h2 _ k1) (k2 M h1)
        rw [e]
        exact PO.here hl2 h (by simp [rep])
    · exact h.elim
  · exact h.elim

/-! x turned round by a slice: x of a list -/
def rRevS (K : PySem.W.Frag) : V → Hp → VK → Prop := fun x H Q => ∃ a xs, x = .ref a ∧ SqL K H a xs ∧ ∀ p, H p = none → Q (.ref p) (upd H p (.lst xs.reverse))
def tRevS (K : PySem.W.Frag) (te : TE) (ts : TO) : TE := fun σ H Q => te σ H fun x H1 => ts σ H1 fun l H2 => l = some (-1) ∧ rRevS K x H2 Q
theorem pe_revS {e st : Expr} {te : TE} {ts : TO} {p2 pos : Pos} (he : PE X e te) (hs : L2.PO X (some st) ts) : PE X (.Subscript e (.Slice none none (some st) p2) pos) (tRevS X.K te ts) := by
  refine ⟨fun pins s σ H Q I h => Subscript_ (thn (he.run pins s σ H _ I h) fun v s1 ⟨x, H1, I1, r1, q1⟩ => ?_)⟩
  refine wpAny_Slice ?_
  rw [evalPart_none]
  refine wpAny_pure (wpAny_pure ?_)
  refine thn (hs.run pins s1 σ H1 _ I1 q1) fun vl s2 ⟨l, H2, I2, pl, q2⟩ => ?_
  obtain ⟨rfl, a, xs, rfl, hx, q⟩ := q2
  cases r1
  have I4 : Inv X pins σ H2 { s2 with heap := s2.heap.push { cls := .type "slice", data := .fields #[.none, .none, vl] } } := I2.kept (t' := s2.toks) fun b ob q => Heap.get?_push_of_some _ q
  obtain ⟨its, r, ht, hz⟩ := I4.list hx
  have hlen := r.length
  show wpAny (model X.prog X.w) X.A (subscriptTail e (.Slice none none (some st) p2) (.ref a) (.ref s2.heap.objs.size)) (EP X pins σ Q) X.xe { s2 with heap := s2.heap.push { cls := .type "slice", data := .fields #[.none, .none, vl] } }
  refine tail_any (ops := [.ref a, .ref s2.heap.objs.size]) ht.isList.typeIs slot_list_getitem.lookup ?_ (by with_unfolding_all rfl)
  refine wpAny_getItem_list_slice ht.isList (Heap.IsSliceOf.new ..) .none .none pl (by decide) ?_ (by rw [List.size_toArray] <;> omega)
  rw [PySem.W.krv_pick]
  refine ⟨.ref (s2.heap.push { cls := .type "slice", data := .fields #[.none, .none, vl] }).objs.size, _, I4.laid (t' := s2.toks) (o := .lst xs.reverse) (fun b ob q => Heap.get?_push_of_some _ q) (Nat.le_refl _) ?_, rfl, q _ (I4.hok.fresh (Nat.le_refl _))⟩
  exact ⟨by rw [List.length_reverse]; exact hz, _, 0, r.reverse, Heap.get?_push_size _ rfl⟩
theorem reps.reverse {m : AM} {H : Hp} {ds : List D} {vs : List V} (r : reps g m H ds vs) : reps g m H ds.reverse vs.reverse := by
  induction ds generalizing vs with
  | nil => simp only [reps] at r; subst r; simp [reps]
  | cons d ds ih =>
    simp only [reps] at r
    obtain ⟨v, us, rfl, h1, h2⟩ := r
    rw [List.reverse_cons, List.reverse_cons]
    exact (ih h2).append (by simp only [reps]; exact ⟨v, [], rfl, h1, rfl⟩)
@[simp] def revO : Option (List D) → HP → R D
  | some es, h => .ok (.lst es.reverse) h
  | none, _ => .stuck
@[simp] def kRevS (x : D) (h : HP) : R D := revO (asL h x) h
@[simp] def mRevS (a : M D) (env : EN) (hp : HP) : R D := (a env hp).bind kRevS
theorem EV.revS {e : Expr} {p2 p3 p4 pos : Pos} {j : Nat} {fa : M D} (hK : X.K = g.K) (ha : EV g X E e fa) : EV g X E (.Subscript e (.Slice none none (some (.UnaryOp .USub (.Constant (.int 1) j p3) p4)) p2) pos) (mRevS fa) := by
  obtain ⟨ta, pa, qa⟩ := ha
  obtain ⟨ts, ps, qs⟩ := (PV.yes (EV.neg (EV.int (i := 1) (j := j) (pos := p3)) (pos := p4)) : PV g X E (some (.UnaryOp .USub (.Constant (.int 1) j p3) p4)) _)
  refine ⟨_, pe_revS pa ps, fun σ H Q m env hp hl er h => ?_⟩
  refine qa σ H _ m env hp hl er (PO.bind h fun x h1 m1 H1 v x1 hl1 r1 h => ?_)
  refine qs σ H1 _ m1 env h1 hl1 (er.ext x1) ?_
  intro m2 H2 l x2 hl2 el
  refine ⟨el.symm, ?_⟩
  unfold kRevS revO at h
  split at h
  · rename_i es ee
    obtain ⟨a, us, rfl, hs, rs⟩ := asL_ok hl2 (rep.ext x2 _ _ r1) ee
    rw [hK]
    exact ⟨a, us, rfl, hs, PO.newF (E := E) (m := m2) (H := H2) hl2 rs.reverse fun m' H' v xx => h m' H' v (x2.trans xx)⟩
  · exact h.elim
end
end Ev
namespace Ev
open PySem PySem.Spec PyProof.Rows L2
section
variable {g : G} {X : Cx} {E : XK}
/-! x, y = a, b and x, y, z = a, b, c with plain names -/
@[simp] def kPar2 (i j : Nat) (env : EN) : List D → HP → SR
  | [x, y], h => .nx ((env.set i (some x)).set j (some y)) h
  | _, _ => .stuck
@[simp] def sPar2 (i j : Nat) (a : M (List D)) (env : EN) (hp : HP) : SR := (a env hp).sbind (kPar2 i j env)
theorem SV.par2 {i j : Nat} {x y : Str} {a b : Expr} {px py pt pos : Pos} {kt k2 pt2} {fa : M (List D)} (hc : X.calm = true) (hN : X.N.Nodup) (hi : X.N[i]? = some x) (hj : X.N[j]? = some y) (hij : i ≠ j)
    (hx : X.env.scope.names.lookup x = some .local) (hy : X.env.scope.names.lookup y = some .local) (ha : AV g X E [a, b] fa)
    (hw : swappedStores [.Tuple [.Name x px, .Name y py] kt pt] (.Tuple [a, b] k2 pt2) X.env = pure (some [x, y])) (hs : swapsWithSole [.Tuple [.Name x px, .Name y py] kt pt] (.Tuple [a, b] k2 pt2) pos.line X.env = pure false) :
    SV g X E (.Assign [.Tuple [.Name x px, .Name y py] kt pt] (.Tuple [a, b] k2 pt2) pos) (sPar2 i j fa) := by
  obtain ⟨ta, pa, qa⟩ := ha
  refine ⟨_, ps_par hc hN hi hj hij hx hy pa hw hs, fun K σ H m env hp hl er h => ?_⟩
  refine qa σ H _ m env hp hl er (SPO.bind h fun ds h1 m1 H1 vs x1 hl1 r1 h => ?_)
  unfold kPar2 at h
  split at h
  · obtain ⟨v, u, rfl, r2, r3⟩ := reps2 r1
    exact ⟨v, u, rfl, h m1 H1 _ (.refl _ _) hl1 (((er.ext x1).set r2).set r3)⟩
  · exact h.elim
@[simp] def kPar3 (i j l : Nat) (env : EN) : List D → HP → SR
  | [x, y, z], h => .nx (((env.set i (some x)).set j (some y)).set l (some z)) h
  | _, _ => .stuck
@[simp] def sPar3 (i j l : Nat) (a : M (List D)) (env : EN) (hp : HP) : SR := (a env hp).sbind (kPar3 i j l env)
theorem SV.par3 {i j l : Nat} {x y z : Str} {a b c : Expr} {px py pz pt pos : Pos} {kt k2 pt2} {fa : M (List D)} (hc : X.calm = true) (hN : X.N.Nodup) (hi : X.N[i]? = some x) (hj : X.N[j]? = some y) (hl : X.N[l]? = some z) (hij : i ≠ j) (hil : i ≠ l) (hjl : j ≠ l)
    (hx : X.env.scope.names.lookup x = some .local) (hy : X.env.scope.names.lookup y = some .local) (hz : X.env.scope.names.lookup z = some .local) (ha : AV g X E [a, b, c] fa)
    (hw : swappedStores [.Tuple [.Name x px, .Name y py, .Name z pz] kt pt] (.Tuple [a, b, c] k2 pt2) X.env = pure (some [x, y, z])) (hs : swapsWithSole [.Tuple [.Name x px, .Name y py, .Name z pz] kt pt] (.Tuple [a, b, c] k2 pt2) pos.line X.env = pure false) :
    SV g X E (.Assign [.Tuple [.Name x px, .Name y py, .Name z pz] kt pt] (.Tuple [a, b, c] k2 pt2) pos) (sPar3 i j l fa) := by
  obtain ⟨ta, pa, qa⟩ := ha
  refine ⟨_, ps_par3 hc hN hi hj hl hij hil hjl hx hy hz pa hw hs, fun K σ H m env hp hl er h => ?_⟩
  refine qa σ H _ m env hp hl er (SPO.bind h fun ds h1 m1 H1 vs x1 hl1 r1 h => ?_)
  unfold kPar3 at h
  split at h
  · obtain ⟨v, us, rfl, r2, r3⟩ := reps_cons r1
    obtain ⟨u, w, rfl, r3, r4⟩ := reps2 r3
    exact ⟨v, u, w, rfl, h m1 H1 _ (.refl _ _) hl1 ((((er.ext x1).set r2).set r3).set r4)⟩
  · exact h.elim
/-! is of bools -/
@[simp] def fIsB : D → D → HP → R D
  | .bl a, .bl b, h => .ok (.bl (decide (a = b))) h
  | _, _, _ => .stuck
@[simp] def fNotB : D → D → HP → R D
  | .bl a, .bl b, h => .ok (.bl (!decide (a = b))) h
  | _, _, _ => .stuck
theorem ok_isB : OKS X g E (compareOp .Is) fIsB := .mk op_isBl fun m H hp x y v u Q hl rx ry h => by
  unfold fIsB at h
  split at h
  · exact ⟨_, _, rBl rx, rBl ry, PO.here hl h (by simp [rep])⟩
  · exact h.elim
theorem ok_notB : OKS X g E (compareOp .IsNot) fNotB := .mk op_notBl fun m H hp x y v u Q hl rx ry h => by
  unfold fNotB at h
  split at h
  · exact ⟨_, _, rBl rx, rBl ry, PO.here hl h (by simp [rep])⟩
  · exact h.elim
end
end Ev
namespace Ev
open PySem PySem.Spec PyProof.Rows L2
section
variable {g : G} {X : Cx} {E : XK}
/-! name += e, name -= e of whole numbers -/
@[simp] def kAug2 (i : Nat) (f : Int → Int → Int) (env : EN) (a : Int) : D → HP → SR
  | .int b, h => .nx (env.set i (some (.int (f a b)))) h
  | _, _ => .stuck
@[simp] def kAug (i : Nat) (f : Int → Int → Int) (fa : M D) (env : EN) (hp : HP) : Option (Option D) → SR
  | some (some (.int a)) => (fa env hp).sbind (kAug2 i f env a)
  | _ => .stuck
@[simp] def sAug (i : Nat) (f : Int → Int → Int) (fa : M D) (env : EN) (hp : HP) : SR := kAug i f fa env hp env[i]?
theorem SV.aug {i : Nat} {x : Str} {e : Expr} {op : Operator} {pos pos' : Pos} {f : Int → Int → Int} {fa : M D} (ho : PIp X op (ipI f)) (hN : X.N.Nodup) (hi : X.N[i]? = some x) (hx : Loc X.env.scope x) (ha : EV g X E e fa) (hf : X.fn x = true ∨ X.env.scope.names.lookup x = some .local) :
    SV g X E (.AugAssign (.Name x pos') op e pos) (sAug i f fa) := by
  obtain ⟨ta, pa, qa⟩ := ha
  refine ⟨_, ps_aug hN hi hx pa ho hf, fun K σ H m env hp hl er h => ?_⟩
  unfold sAug kAug at h
  split at h
  · rename_i a ea
    obtain ⟨v, e1, r⟩ := er.at_ i _ ea
    refine ⟨v, e1, ?_⟩
    refine qa σ H _ m env hp hl er (SPO.bind h fun y h1 m1 H1 u x1 hl1 r1 h => ?_)
    unfold kAug2 at h
    split at h
    · obtain rfl := rInt r
      obtain rfl := rInt r1
      exact ⟨_, _, rfl, rfl, h m1 H1 _ (.refl _ _) hl1 ((er.ext x1).set (by simp [rep]))⟩
    · exact h.elim
  · exact h.elim
end
/-! a def that is not come to -/
theorem fn_no {g : G} {P : Program} {w : World} {K : PySem.W.Frag} {mg : Str → Option Value} {base : Heap} {k n : Nat} {f : Addr} {fd : FuncData} {ps : List Str} (hn : ps.length = n) : FnOk P w K mg base CX0 k f fd ps (spF g n fun _ _ => .stuck) :=
  ⟨fun vs H Q E h => h.1.trans hn.symm, fun A outer s H args us vs Q E hr he hb hv h => by
    obtain ⟨_, _, _, _, _, _, po⟩ := h
    exact po.elim⟩
end Ev
namespace EvQ
open PySem PySem.SeqAt GQ
open AutoSeq1 (wpAny_loadPart')
open MeetsSeq MeetsSeq2 MeetsSeq3 SeqRoads2
section
variable {prog : Program} {w : World} {A : Around} {R : Result → Shared → Prop}
/-- two tuples of one length, told equal item by item: != says no -/
theorem tup_neG (l b : Addr) (us vs : Array Value) (n n2 : Nat) (dd dd2 : Option Addr) (sl sl2 : Array (Option Value)) (hz : us.size = vs.size) (I : Nat → Shared → Prop)
    (step : ∀ i (h1 : i < us.size) (h2 : i < vs.size) s, I i s → wpAny (model prog w) A.in1 (eqBool us[i] vs[i]) (fun r s' => r = true ∧ I (i + 1) s') (fun e s' => R (.error e) s') s)
    (fin : ∀ s, I us.size s → R (.ok (.ret (.bool false))) s) {s : Shared} (ha : s.heap.get? l = some { cls := .type "tuple", dict := dd, data := .seq us n, slots := sl })
    (hb : s.heap.get? b = some { cls := .type "tuple", dict := dd2, data := .seq vs n2, slots := sl2 }) (h : I 0 s) :
    wpAny (model prog w) A.in1 (Builtin.«tuple.__ne__» ⟨[.ref l, .ref b], []⟩) (FinOf prog w A R) (fun e s' => R (.error e) s') s := by
  have sub := AutoSeq1.sub_tuple_tuple
  have zl : (us.toList.zip vs.toList).length = us.size := by simp [hz]
  have start := h
  obtain ⟨hp, g, d, tk, os⟩ := s
  wp_walk using wpAny_loadPart' ha, wpAny_loadPart' hb, wpAny_forIn_list _ (fun rest c s' => c.1 = none ∧ ∃ i, rest = (us.toList.zip vs.toList).drop i ∧ i ≤ us.size ∧ I i s') _
  case turn =>
    rintro ⟨p, q⟩ rest c s' ⟨hc, i, er, hi, hI⟩
    have k0 : i < (us.toList.zip vs.toList).length := by
      rcases Nat.lt_or_ge i (us.toList.zip vs.toList).length with z | z
      · exact z
      · rw [List.drop_of_length_le z] at er
        cases er
    have k1 : i < us.size := by omega
    have k2 : i < vs.size := by omega
    rw [List.drop_eq_getElem_cons k0] at er
    injection er with e1 e2
    have ep : p = us[i] := by simpa using congrArg Prod.fst e1
    have eq : q = vs[i] := by simpa using congrArg Prod.snd e1
    subst ep eq
    refine wpAny_bind (wpAny_mono (step i k1 k2 s' hI) (fun r s2 z => ?_) fun _ _ x => x)
    obtain ⟨hr, z⟩ := z
    subst hr
    wp_walk
    exact ⟨rfl, i + 1, e2, k1, z⟩
  case fin =>
    rintro ⟨c1, c2⟩ s' ⟨hc, i, er, hi, hI⟩
    simp only at hc
    subst hc
    have ge : us.size ≤ i := by
      rcases Nat.lt_or_ge i (us.toList.zip vs.toList).length with z | z
      · rw [List.drop_eq_getElem_cons z] at er
        cases er
      · omega
    have ei : i = us.size := by omega
    have done : R (.ok (.ret (.bool false))) s' := fin s' (ei ▸ hI)
    wp_walk
    simpa [Builtin.Tuple.tupleCompareSizes, hz] using done
  case h =>
    exact ⟨rfl, 0, rfl, Nat.zero_le _, start⟩
end
section
variable {prog : Program} {w : World} {A : Around} {E : Value → Shared → Prop} {s : Shared}
theorem rc_tupNeG {l b : Addr} {us vs : Array Value} {Q : Value → Shared → Prop} (hz : us.size = vs.size) (hu : A.units < cLine) (I : Nat → Shared → Prop)
    (hl : s.heap.IsTuple l us) (hb : s.heap.IsTuple b vs)
    (step : ∀ i (h1 : i < us.size) (h2 : i < vs.size) s, I i s → wpAny (model prog w) A.in1 (eqBool us[i] vs[i]) (fun r s' => r = true ∧ I (i + 1) s') E s)
    (fin : ∀ s, I us.size s → Q (.bool false) s) (h : I 0 s) : wpAny (model prog w) A (richCompare .NotEq (.ref l) (.ref b)) Q E s := by
  obtain ⟨⟨c, dd, da, sl⟩, ho, hc, n, hd⟩ := id hl
  obtain ⟨⟨c2, dd2, da2, sl2⟩, ho2, hc2, n2, hd2⟩ := id hb
  simp only at hc hd hc2 hd2
  subst hc hd hc2 hd2
  refine wpAny_richCompare_same_room (op := .NotEq) ⟨_, ho, rfl⟩ ⟨_, ho2, rfl⟩ F.slot_tuple_ne (call_here F.slot_tuple_ne ⟨_, ho, rfl⟩ F.entry_tuple_ne (F.args_tuple_ne_2 _ _) ?_) hu
  exact tup_neG (R := wants (fun v s' => v ≠ .notImplemented ∧ Q v s') E) l b us vs n n2 dd dd2 sl sl2 hz I step (fun s' q => ⟨(fun x => nomatch x), fin s' q⟩) ho ho2 h
/-- one of them is empty -/
theorem rc_tupEq0 {l b : Addr} {us vs : Array Value} {Q : Value → Shared → Prop} (h0 : us.size = 0 ∨ vs.size = 0) (hu : A.units < cLine) (hl : s.heap.IsTuple l us) (hb : s.heap.IsTuple b vs)
    (h : Q (.bool (us.size == vs.size)) s) : wpAny (model prog w) A (richCompare .Eq (.ref l) (.ref b)) Q E s := by
  obtain ⟨⟨c, dd, da, sl⟩, ho, hc, n, hd⟩ := id hl
  obtain ⟨⟨c2, dd2, da2, sl2⟩, ho2, hc2, n2, hd2⟩ := id hb
  simp only at hc hd hc2 hd2
  subst hc hd hc2 hd2
  have m0 : min us.size vs.size = 0 := by omega
  refine wpAny_richCompare_same_room (op := .Eq) ⟨_, ho, rfl⟩ ⟨_, ho2, rfl⟩ F.slot_tuple_eq (call_meets F.slot_tuple_eq ⟨_, ho, rfl⟩ F.entry_tuple_eq (F.args_tuple_eq_2 _ _) (tuple_eqAt l b us vs n n2 dd dd2 sl sl2 fun _ => true)
    ⟨ho, ho2, fun j h1 h2 => absurd (Nat.lt_min.mpr ⟨h1, h2⟩) (by omega), ?_⟩) hu
  rw [m0]
  exact ⟨(fun x => nomatch x), by simpa using h⟩
theorem rc_tupNe0 {l b : Addr} {us vs : Array Value} {Q : Value → Shared → Prop} (h0 : us.size = 0 ∨ vs.size = 0) (hu : A.units < cLine) (hl : s.heap.IsTuple l us) (hb : s.heap.IsTuple b vs)
    (h : Q (.bool (!(us.size == vs.size))) s) : wpAny (model prog w) A (richCompare .NotEq (.ref l) (.ref b)) Q E s := by
  obtain ⟨⟨c, dd, da, sl⟩, ho, hc, n, hd⟩ := id hl
  obtain ⟨⟨c2, dd2, da2, sl2⟩, ho2, hc2, n2, hd2⟩ := id hb
  simp only at hc hd hc2 hd2
  subst hc hd hc2 hd2
  have m0 : min us.size vs.size = 0 := by omega
  refine wpAny_richCompare_same_room (op := .NotEq) ⟨_, ho, rfl⟩ ⟨_, ho2, rfl⟩ F.slot_tuple_ne (call_meets F.slot_tuple_ne ⟨_, ho, rfl⟩ F.entry_tuple_ne (F.args_tuple_ne_2 _ _) (tuple_neAt l b us vs n n2 dd dd2 sl sl2 fun _ => true)
    ⟨ho, ho2, fun j h1 h2 => absurd (Nat.lt_min.mpr ⟨h1, h2⟩) (by omega), ?_⟩) hu
  rw [m0]
  exact ⟨(fun x => nomatch x), by simpa using h⟩
end
end EvQ

namespace Ev
open PySem PySem.Spec PyProof.Rows L2
section
variable {g : G} {X : Cx} {E : XK}
/-! several classes with an own == -/
def ownL : List (Nat × FA) → Nat → FA
  | [], _ => fun _ _ => .stuck
  | (c0, F0) :: r, c => if c = c0 then F0 else ownL r c
theorem ownsN {n : Nat} : Owns X g n (ownL []) := fun c => .inr fun ds h => rfl
theorem ownsL {c0 j n : Nat} {F0 : FA} {r : List (Nat × FA)} {f : Addr} {fd : FuncData} {ps : List Str} (me : Meth X.K (g.cA c0) "__eq__" f) (o : FnOk X.prog X.w X.K X.mg X.base CX0 j f fd ps (spF g 2 F0)) (b : Binds X.K fd ps []) (hj : j ≤ n)
    (t : Owns X g n (ownL r)) : Owns X g n (ownL ((c0, F0) :: r)) := fun c => by
  by_cases h : c = c0
  · subst h
    exact .inl ⟨CX0, f, fd, ps, by simpa [ownL] using o.mono hj, me.1, me.2, b, fun _ _ _ _ _ _ _ h => h.elim⟩
  · have e : ownL ((c0, F0) :: r) c = ownL r c := by simp [ownL, h]
    rw [e]
    exact t c
theorem noNesN : NoNes X g (ownL []) := fun c => .inr fun ds h => rfl
theorem noNesL {c0 : Nat} {F0 : FA} {r : List (Nat × FA)} (h : NoNe X.K (g.cA c0)) (t : NoNes X g (ownL r)) : NoNes X g (ownL ((c0, F0) :: r)) := fun c => by
  by_cases e : c = c0
  · subst e; exact .inl h
  · have e' : ownL ((c0, F0) :: r) c = ownL r c := by simp [ownL, e]
    rw [e']
    exact t c
/-! tuples of objects with an own ==: two that say the same, or one of them empty -/
open Classical in
@[simp] noncomputable def sameT (F : Nat → FA) (b : Bool) : D → D → HP → R D
  | .tup ds, .tup es, h => if ds = es ∧ ∀ d ∈ ds, owD F h 6 d then .ok (.bl b) h else if ds.isEmpty = es.isEmpty then .stuck else .ok (.bl (!b)) h
  | _, _, _ => .stuck
def rSameT (g : G) (F : Nat → FA) (b : Bool) : R2 := fun x y H Q => ∃ m hp ds es r, HL g m H hp ∧ rep g m H (.tup ds) x ∧ rep g m H (.tup es) y ∧ ((ds = es ∧ (∀ d ∈ ds, owD F hp 6 d) ∧ r = b) ∨ (ds.isEmpty ≠ es.isEmpty ∧ r = !b)) ∧
  ∀ m' H', Ex m H m' H' → HL g m' H' hp → Q (.bl r) H'
theorem ok2_sameT {F : Nat → FA} {b : Bool} {E : XK} : OK2 g E (rSameT g F b) (sameT F b) := by
  intro m H hp x y v u Q hl rx ry h
  unfold sameT at h
  split at h
  · rename_i ds es
    split at h
    · rename_i c
      exact ⟨m, hp, ds, es, b, hl, rx, ry, .inl ⟨c.1, c.2, rfl⟩, fun m' H' ex hl' => h m' H' _ ex hl' (by simp [rep])⟩
    · split at h
      · exact h.elim
      · rename_i c
        exact ⟨m, hp, ds, es, !b, hl, rx, ry, .inr ⟨c, rfl⟩, fun m' H' ex hl' => h m' H' _ ex hl' (by simp [rep])⟩
  · exact h.elim
theorem tup_sizes {ds es : List D} {its its2 : List Value} (l1 : ds.length = its.length) (l2 : es.length = its2.length) (h : ds.isEmpty ≠ es.isEmpty) : (its.toArray.size = 0 ∨ its2.toArray.size = 0) ∧ (its.toArray.size == its2.toArray.size) = false := by
  cases ds with
  | nil =>
    cases es with
    | nil => exact absurd rfl h
    | cons y ys =>
      simp only [List.length_nil, List.length_cons] at l1 l2
      simp only [List.size_toArray, beq_eq_false_iff_ne]
      omega
  | cons x xs =>
    cases es with
    | nil =>
      simp only [List.length_nil, List.length_cons] at l1 l2
      simp only [List.size_toArray, beq_eq_false_iff_ne]
      omega
    | cons y ys => exact absurd rfl h
theorem op_eqT {F : Nat → FA} {n0 : Nat} (hK : X.K = g.K) (O : Owns X g n0 F) (hr : Room (n0 + 7) X.A) : OpR X (compareOp .Eq) (rSameT g F true) := by
  intro pins s σ H x y v u Q I rx ry h
  obtain ⟨m, hp, ds, es, r, hl, r1, r2, c, q⟩ := h
  obtain ⟨a, xs, rfl, fa, ra⟩ := rTup r1
  obtain ⟨b, ys, rfl, fb, rb⟩ := rTup r2
  rw [← hK] at fa fb
  cases rx
  cases ry
  show wpAny (model X.prog X.w) X.A (richCompare .Eq (.ref a) (.ref b)) (EP X pins σ Q) X.xe s
  obtain ⟨its, w1, e, z⟩ := I.tuple fa
  obtain ⟨its2, w2, e2, z2⟩ := I.tuple fb
  rcases c with ⟨rfl, hd, rfl⟩ | ⟨c, rfl⟩
  · have hsz : its.toArray.size = its2.toArray.size := by
      rw [List.size_toArray, List.size_toArray, ← w1.length, ← w2.length, ← ra.length, ← rb.length]
    refine GQ.rc_tupG hsz hr.units0 (fun _ s' => Grown X g hp pins σ m H s') e e2 (fun i h1 h2 s' q => ?_) (fun s' q' => ?_) ⟨m, H, I, Ex.refl _ _, hl⟩
    · obtain ⟨m1, H1, I1, x1, hl1⟩ := q
      exact turnN hK (fun d k => owD_ok hK O 6 d (hd d k)) ⟨hr, rfl⟩ (reps.ext x1 _ _ ra) (reps.ext x1 _ _ rb) w1 w2 s' I1 x1 hl1 i h1 h2
    · obtain ⟨m', H', I', ex, hl'⟩ := q'
      exact ⟨.bl true, H', I', rfl, q m' H' ex hl'⟩
  · obtain ⟨s0, s1⟩ := tup_sizes (by rw [← w1.length, ra.length]) (by rw [← w2.length, rb.length]) c
    refine EvQ.rc_tupEq0 s0 hr.units0 e e2 ?_
    rw [s1]
    exact ⟨.bl false, H, I, rfl, q m H (Ex.refl _ _) hl⟩
theorem op_neT {F : Nat → FA} {n0 : Nat} (hK : X.K = g.K) (O : Owns X g n0 F) (hr : Room (n0 + 7) X.A) : OpR X (compareOp .NotEq) (rSameT g F false) := by
  intro pins s σ H x y v u Q I rx ry h
  obtain ⟨m, hp, ds, es, r, hl, r1, r2, c, q⟩ := h
  obtain ⟨a, xs, rfl, fa, ra⟩ := rTup r1
  obtain ⟨b, ys, rfl, fb, rb⟩ := rTup r2
  rw [← hK] at fa fb
  cases rx
  cases ry
  show wpAny (model X.prog X.w) X.A (richCompare .NotEq (.ref a) (.ref b)) (EP X pins σ Q) X.xe s
  obtain ⟨its, w1, e, z⟩ := I.tuple fa
  obtain ⟨its2, w2, e2, z2⟩ := I.tuple fb
  rcases c with ⟨rfl, hd, rfl⟩ | ⟨c, rfl⟩
  · have hsz : its.toArray.size = its2.toArray.size := by
      rw [List.size_toArray, List.size_toArray, ← w1.length, ← w2.length, ← ra.length, ← rb.length]
    refine EvQ.rc_tupNeG hsz hr.units0 (fun _ s' => Grown X g hp pins σ m H s') e e2 (fun i h1 h2 s' q => ?_) (fun s' q' => ?_) ⟨m, H, I, Ex.refl _ _, hl⟩
    · obtain ⟨m1, H1, I1, x1, hl1⟩ := q
      exact turnN hK (fun d k => owD_ok hK O 6 d (hd d k)) ⟨hr, rfl⟩ (reps.ext x1 _ _ ra) (reps.ext x1 _ _ rb) w1 w2 s' I1 x1 hl1 i h1 h2
    · obtain ⟨m', H', I', ex, hl'⟩ := q'
      exact ⟨.bl false, H', I', rfl, q m' H' ex hl'⟩
  · obtain ⟨s0, s1⟩ := tup_sizes (by rw [← w1.length, ra.length]) (by rw [← w2.length, rb.length]) c
    refine EvQ.rc_tupNe0 s0 hr.units0 e e2 ?_
    rw [s1]
    exact ⟨.bl true, H, I, rfl, q m H (Ex.refl _ _) hl⟩
theorem ok_eqT {F : Nat → FA} {n0 : Nat} {E : XK} (hK : X.K = g.K) (O : Owns X g n0 F) (hr : Room (n0 + 7) X.A) : OKS X g E (compareOp .Eq) (sameT F true) := ⟨_, op_eqT hK O hr, ok2_sameT⟩
theorem ok_neT {F : Nat → FA} {n0 : Nat} {E : XK} (hK : X.K = g.K) (O : Owns X g n0 F) (hr : Room (n0 + 7) X.A) : OKS X g E (compareOp .NotEq) (sameT F false) := ⟨_, op_neT hK O hr, ok2_sameT⟩
end
end Ev
namespace Ev
open PySem PySem.Spec PyProof.Rows L2
/-! tables of data -/
def valT : List (Key × D) → Key → Option D
  | [], _ => none
  | p :: r, k => if p.1 = k then some p.2 else valT r k
def putT (ks : List (Key × D)) (k : Key) (y : D) : List (Key × D) := if (ks.any fun p => decide (p.1 = k)) = true then ks.map (fun p => if p.1 = k then (p.1, y) else p) else ks ++ [(k, y)]
theorem valT_any (k : Key) : ∀ ks : List (Key × D), (ks.any fun p => decide (p.1 = k)) = (valT ks k).isSome
  | [] => rfl
  | p :: r => by
    have := valT_any k r
    by_cases e : p.1 = k
    · simp [valT, e]
    · simp [valT, e, this]
theorem valT_map (k j : Key) (y : D) : ∀ ks : List (Key × D), valT (ks.map fun p => if p.1 = k then (p.1, y) else p) j = (valT ks j).map fun x => if j = k then y else x
  | [] => rfl
  | p :: r => by
    have ih := valT_map k j y r
    rw [List.map_cons]
    by_cases a : p.1 = k
    · rw [if_pos a]
      by_cases e : p.1 = j
      · have : j = k := e.symm.trans a
        simp [valT, e, this]
      · simp only [valT, if_neg e]
        exact ih
    · rw [if_neg a]
      by_cases e : p.1 = j
      · have : ¬ j = k := fun z => a (e.trans z)
        simp [valT, e, this]
      · simp only [valT, if_neg e]
        exact ih
theorem valT_snoc (k j : Key) (y : D) : ∀ ks : List (Key × D), valT ks k = none → valT (ks ++ [(k, y)]) j = if j = k then some y else valT ks j
  | [], _ => by
    by_cases e : j = k
    · subst e; simp [valT]
    · have : ¬ k = j := fun z => e z.symm
      simp [valT, e, this]
  | p :: r, h => by
    have a : ¬ p.1 = k := fun z => by simp [valT, z] at h
    have ih := valT_snoc k j y r (by simpa [valT, a] using h)
    by_cases e : p.1 = j
    · have : ¬ j = k := fun z => a (e.trans z)
      simp [valT, e, this]
    · simp only [List.cons_append, valT, if_neg e]
      exact ih
theorem valT_put (k j : Key) (y : D) (ks : List (Key × D)) : valT (putT ks k y) j = if j = k then some y else valT ks j := by
  unfold putT
  rw [valT_any]
  cases h : valT ks k with
  | none =>
    rw [if_neg (by simp)]
    exact valT_snoc k j y ks h
  | some d =>
    rw [if_pos (by simp), valT_map]
    by_cases e : j = k
    · subst e
      simp [h]
    · simp only [if_neg e, Option.map_id_fun', id_eq]
theorem putT_len (ks : List (Key × D)) (k : Key) (y : D) : (putT ks k y).length ≤ ks.length + 1 := by
  unfold putT
  split <;> simp
section
variable {g : G} {X : Cx} {E : XK} {m : AM} {H : Hp}
theorem repk.val {k : Key} : ∀ {ks : List (Key × D)} {vs : List (Key × V)}, repk g m H ks vs → (∀ d, valT ks k = some d → ∃ v, valV vs k = some v ∧ rep g m H d v) ∧ (valT ks k = none → valV vs k = none)
  | [], vs, h => by
    simp only [repk] at h
    subst h
    exact ⟨fun d e => by simp [valT] at e, fun _ => valV_nil⟩
  | (k', d') :: ks, vs, h => by
    simp only [repk] at h
    obtain ⟨v, r, rfl, h1, h2⟩ := h
    obtain ⟨i1, i2⟩ := repk.val h2
    by_cases e : k' = k
    · subst e
      refine ⟨fun d q => ?_, fun q => by simp [valT] at q⟩
      simp [valT] at q
      subst q
      exact ⟨v, valV_pos rfl, h1⟩
    · refine ⟨fun d q => ?_, fun q => ?_⟩
      · rw [valV_neg (by exact e)]
        exact i1 d (by simpa [valT, e] using q)
      · rw [valV_neg (by exact e)]
        exact i2 (by simpa [valT, e] using q)
theorem repk.isSome {k : Key} {ks : List (Key × D)} {vs : List (Key × V)} (h : repk g m H ks vs) : (valV vs k).isSome = (valT ks k).isSome := by
  obtain ⟨i1, i2⟩ := h.val (k := k)
  cases e : valT ks k with
  | none => rw [i2 e]; rfl
  | some d =>
    obtain ⟨v, q, _⟩ := i1 d e
    rw [q]
    rfl
theorem repk.snoc {k : Key} {y : D} {v : V} (hy : rep g m H y v) : ∀ {ks : List (Key × D)} {vs : List (Key × V)}, repk g m H ks vs → repk g m H (ks ++ [(k, y)]) (vs ++ [(k, v)])
  | [], vs, h => by
    simp only [repk] at h
    subst h
    simp only [List.nil_append, repk]
    exact ⟨v, [], rfl, hy, rfl⟩
  | (k', d') :: ks, vs, h => by
    simp only [repk] at h
    obtain ⟨w, r, rfl, h1, h2⟩ := h
    simp only [List.cons_append, repk]
    exact ⟨w, r ++ [(k, v)], rfl, h1, repk.snoc hy h2⟩
theorem repk.repl {k : Key} {y : D} {v : V} (hy : rep g m H y v) : ∀ {ks : List (Key × D)} {vs : List (Key × V)}, repk g m H ks vs → repk g m H (ks.map fun p => if p.1 = k then (p.1, y) else p) (vs.map fun p => if p.1 = k then (p.1, v) else p)
  | [], vs, h => by
    simp only [repk] at h
    subst h
    simp [repk]
  | (k', d') :: ks, vs, h => by
    simp only [repk] at h
    obtain ⟨w, r, rfl, h1, h2⟩ := h
    have ih := repk.repl (k := k) hy h2
    simp only [List.map_cons]
    by_cases e : k' = k
    · simp only [e, if_true, repk]
      exact ⟨v, _, rfl, hy, ih⟩
    · simp only [e, if_false, repk]
      exact ⟨w, _, rfl, h1, ih⟩
theorem repk.put {k : Key} {y : D} {v : V} (hy : rep g m H y v) {ks : List (Key × D)} {vs : List (Key × V)} (h : repk g m H ks vs) : repk g m H (putT ks k y) (putK vs k v) := by
  unfold putT putK
  rw [valT_any, valV_any, h.isSome]
  split
  · exact h.repl hy
  · exact h.snoc hy
/-! keys, and the tables that a value says -/
@[simp] def dKey : D → Option Key
  | .int i => some (.inl i)
  | .str x => some (.inr x)
  | _ => none
theorem dKey_ok {d : D} {v : V} {k : Key} (r : rep g m H d v) (e : dKey d = some k) : v = kV k := by
  cases d with
  | int i => simp only [dKey, Option.some.injEq] at e; subst e; exact rInt r
  | str i => simp only [dKey, Option.some.injEq] at e; subst e; exact rStr r
  | _ => simp at e
@[simp] def dicO (h : HP) : D → Option (List (Key × D))
  | .ref n => match h[n]? with
    | some (.dic ks) => some ks
    | _ => none
  | _ => none
theorem dicO_ok {hp : HP} {d : D} {v : V} {ks : List (Key × D)} (hl : HL g m H hp) (r : rep g m H d v) (e : dicO hp d = some ks) : ∃ n a vs, d = .ref n ∧ hp[n]? = some (.dic ks) ∧ m[n]? = some (some a) ∧ v = .ref a ∧ H a = some (.dK vs) ∧ repk g m H ks vs := by
  cases d with
  | ref n =>
    simp only [dicO] at e
    split at e
    · rename_i ks' q
      cases e
      obtain ⟨a, ea, vs, ha, rr⟩ := hl.at q (by simp)
      simp only [rep] at r
      exact ⟨n, a, vs, rfl, q, ea, r.2 a ea, ha, rr⟩
    · cases e
  | _ => simp at e
/-! k in d, k not in d -/
@[simp] def dinO (neg : Bool) : Option Key → Option (List (Key × D)) → HP → R D
  | some k, some ks, h => .ok (.bl (if neg = true then !(valT ks k).isSome else (valT ks k).isSome)) h
  | _, _, _ => .stuck
@[simp] def fDIn (neg : Bool) (x y : D) (h : HP) : R D := dinO neg (dKey x) (dicO h y) h
theorem fDIn_ok {hp : HP} {neg : Bool} {x y : D} {v u : V} {Q : V → Hp → Prop} (hl : HL g m H hp) (rx : rep g m H x v) (ry : rep g m H y u) (h : PO g m H E (rep g) Q (fDIn neg x y hp)) :
    ∃ a o, u = .ref a ∧ DGet H a v o ∧ Q (.bl (if neg = true then !o.isSome else o.isSome)) H := by
  unfold fDIn dinO at h
  split at h
  · rename_i k ks e1 e2
    obtain ⟨n, a, vs, rfl, _, _, rfl, ha, rr⟩ := dicO_ok hl ry e2
    obtain rfl := dKey_ok rx e1
    refine ⟨a, valV vs k, rfl, .k ha, ?_⟩
    rw [rr.isSome]
    exact PO.here hl h (by simp [rep])
  · exact h.elim
theorem ok_din (hu : X.A.units + 64 < cLine) : OKS X g E (compareOp .In) (fDIn false) := by
  refine ⟨fun x y H Q => ∃ a o, y = .ref a ∧ DGet H a x o ∧ Q (.bl o.isSome) H, fun pins s σ H x y v u Q I rx ry h => ?_, fun m H hp x y v u Q hl rx ry h => by simpa using fDIn_ok hl rx ry h⟩
  obtain ⟨a, o, rfl, d, q⟩ := h
  obtain rfl : u = Value.ref a := ry
  exact d_in (by omega) I d rx fun s3 I3 => ⟨.bl o.isSome, H, I3, rfl, q⟩
theorem ok_dnotin (hu : X.A.units + 64 < cLine) : OKS X g E (compareOp .NotIn) (fDIn true) := by
  refine ⟨fun x y H Q => ∃ a o, y = .ref a ∧ DGet H a x o ∧ Q (.bl (!o.isSome)) H, fun pins s σ H x y v u Q I rx ry h => ?_, fun m H hp x y v u Q hl rx ry h => by simpa using fDIn_ok hl rx ry h⟩
  obtain ⟨a, o, rfl, d, q⟩ := h
  obtain rfl : u = Value.ref a := ry
  exact d_notIn (by omega) I d rx fun s3 I3 => ⟨.bl (!o.isSome), H, I3, rfl, q⟩
/-! d[k] -/
@[simp] def dgetV : Option D → HP → R D
  | some y, h => .ok y h
  | none, _ => .stuck
@[simp] def dgetO : Option Key → Option (List (Key × D)) → HP → R D
  | some k, some ks, h => dgetV (valT ks k) h
  | _, _, _ => .stuck
theorem dgetO_inv {Q : V → Hp → Prop} {hp : HP} : ∀ {a : Option Key} {b : Option (List (Key × D))}, PO g m H E (rep g) Q (dgetO a b hp) → ∃ k ks y, a = some k ∧ b = some ks ∧ valT ks k = some y ∧ PO g m H E (rep g) Q (.ok y hp)
  | some k, some ks, h => by
    simp only [dgetO] at h
    cases e : valT ks k with
    | none => rw [e] at h; exact h.elim
    | some y => rw [e] at h; exact ⟨k, ks, y, rfl, rfl, e, h⟩
  | none, _, h => (show False from h).elim
  | some _, none, h => (show False from h).elim
@[simp] def kDGet (d k : D) (h : HP) : R D := dgetO (dKey k) (dicO h d) h
@[simp] def kDGet1 (fk : M D) (env : EN) (d : D) (h : HP) : R D := (fk env h).bind (kDGet d)
@[simp] def mDGet (fd fk : M D) (env : EN) (h : HP) : R D := (fd env h).bind (kDGet1 fk env)
theorem EV.dget {o i : Expr} {pos : Pos} {fd fk : M D} (hu : X.A.units + 64 < cLine) (ho : EV g X E o fd) (hi : EV g X E i fk) (hs : NoSl i) : EV g X E (.Subscript o i pos) (mDGet fd fk) := by
  obtain ⟨to, po, qo⟩ := ho
  obtain ⟨ti, pi, qi⟩ := hi
  refine ⟨_, pe_dget (by omega) po pi hs, fun σ H Q m env hp hl er h => ?_⟩
  refine qo σ H _ m env hp hl er (PO.bind h fun x h1 m1 H1 v x1 hl1 r1 h => ?_)
  refine qi σ H1 _ m1 env h1 hl1 (er.ext x1) (PO.bind h fun y h2 m2 H2 u x2 hl2 r2 h => ?_)
  obtain ⟨k, ks, d, e1, e2, e, hd⟩ := dgetO_inv h
  obtain ⟨n, a, vs, rfl, _, _, rfl, ha, rr⟩ := dicO_ok hl2 (rep.ext x2 _ _ r1) e2
  obtain rfl := dKey_ok r2 e1
  obtain ⟨w, ew, rw'⟩ := (rr.val (k := k)).1 d e
  exact ⟨a, w, rfl, by rw [← ew]; exact .k ha, PO.here hl2 hd rw'⟩
/-! d.get(k, x) -/
@[simp] def dgetE (z : D) : Option D → HP → R D
  | some y, h => .ok y h
  | none, h => .ok z h
@[simp] def dgetP (z : D) : Option Key → Option (List (Key × D)) → HP → R D
  | some k, some ks, h => dgetE z (valT ks k) h
  | _, _, _ => .stuck
@[simp] def kDGet23 (d k z : D) (h : HP) : R D := dgetP z (dKey k) (dicO h d) h
@[simp] def kDGet22 (fz : M D) (env : EN) (d k : D) (h : HP) : R D := (fz env h).bind (kDGet23 d k)
@[simp] def kDGet21 (fk fz : M D) (env : EN) (d : D) (h : HP) : R D := if (dicO h d).isSome = true then (fk env h).bind (kDGet22 fz env d) else .stuck
@[simp] def mDGet2 (fd fk fz : M D) (env : EN) (h : HP) : R D := (fd env h).bind (kDGet21 fk fz env)
theorem EV.dget2 {o e f : Expr} {apos cpos : Pos} {fd fk fz : M D} (hu : X.A.units + 64 < cLine) (ho : EV g X E o fd) (he : EV g X E e fk) (hf : EV g X E f fz) (mm : M2 X o "get" apos e f cpos) :
    EV g X E (.Call (.Attribute o "get" apos) [e, f] [] cpos) (mDGet2 fd fk fz) := by
  obtain ⟨to, po, qo⟩ := ho
  obtain ⟨te, pe, qe⟩ := he
  obtain ⟨tf, pf, qf⟩ := hf
  refine ⟨_, pe_dget2 (by omega) po pe pf mm, fun σ H Q m env hp hl er h => ?_⟩
  refine qo σ H _ m env hp hl er (PO.bind h fun x h1 m1 H1 v x1 hl1 r1 h => ?_)
  unfold kDGet21 at h
  split at h
  · rename_i c
    obtain ⟨ks, ek⟩ := Option.isSome_iff_exists.mp c
    obtain ⟨n, a, vs, rfl, _, en, rfl, ha, _⟩ := dicO_ok hl1 r1 ek
    refine ⟨a, rfl, .inl ⟨vs, .inl ha⟩, qe σ H1 _ m1 env h1 hl1 (er.ext x1) (PO.bind h fun y h2 m2 H2 u x2 hl2 r2 h => ?_)⟩
    refine qf σ H2 _ m2 env h2 hl2 ((er.ext x1).ext x2) (PO.bind h fun z h3 m3 H3 w x3 hl3 r3 h => ?_)
    unfold kDGet23 dgetP at h
    split at h
    · rename_i k ks' e1 e2
      obtain ⟨n', a', vs', q, _, en', ea', ha', rr⟩ := dicO_ok hl3 (rep.ext (x2.trans x3) _ _ r1) e2
      cases q
      cases ea'
      obtain rfl := dKey_ok r2 e1
      refine ⟨valV vs' k, .k ha', ?_⟩
      cases e : valT ks' k with
      | none =>
        rw [e] at h
        rw [(rr.val (k := k)).2 e]
        exact PO.here hl3 h r3
      | some d =>
        rw [e] at h
        obtain ⟨w', ew, rw'⟩ := (rr.val (k := k)).1 d e
        rw [ew]
        exact PO.here hl3 h rw'
    · exact h.elim
  · exact h.elim
/-! {k: v} -/
@[simp] def kDisp3 (n : Nat) (y : D) : Option Key → Option O → HP → R D
  | some k, some (.dic []), h => .ok (.ref n) (h.set n (.dic [(k, y)]))
  | _, _, _ => .stuck
@[simp] def kDisp2 (n : Nat) (kd y : D) (h : HP) : R D := kDisp3 n y (dKey kd) h[n]? h
@[simp] def kDisp1 (fv : M D) (env : EN) (n : Nat) (kd : D) (h : HP) : R D := (fv env h).bind (kDisp2 n kd)
@[simp] def mDisp1 (fk fv : M D) (env : EN) (h : HP) : R D := (fk env (h ++ [.dic []])).bind (kDisp1 fv env h.length)
theorem EV.disp1 {ek ev : Expr} {pos : Pos} {fk fv : M D} (hk : EV g X E ek fk) (hv : EV g X E ev fv) : EV g X E (.Dict [some ek] [ev] pos) (mDisp1 fk fv) := by
  obtain ⟨tk, pk, qk⟩ := hk
  obtain ⟨tv, pv, qv⟩ := hv
  refine ⟨_, pe_disp (pps_cons pk pv pps_nil) rfl rfl (by simp) (by simp), fun σ H Q m env hp hl er h p np => ?_⟩
  obtain ⟨x0, hl0⟩ := hl.push (o := .dK []) (ob := .dic []) np (by simp) fun x => ⟨[], upd_same, by simp [repk]⟩
  refine qk σ _ _ _ env _ hl0 (er.ext x0) (PO.bindB h x0 fun x h1 m1 H1 v x1 hl1 r1 h => ?_)
  refine qv σ H1 _ m1 env h1 hl1 ((er.ext x0).ext x1) (PO.bindB h (x0.trans x1) fun y h2 m2 H2 u x2 hl2 r2 h => ?_)
  unfold kDisp2 kDisp3 at h
  split at h
  · rename_i k e1 e2
    obtain ⟨a, ea, vs, ha, rr⟩ := hl2.at e2 (by simp)
    have e0 : (m ++ [some p])[hp.length]? = some (some a) := (x1.trans x2).mp _ _ ea (by simp [hl.len])
    rw [← hl.len, List.getElem?_append_right (Nat.le_refl _)] at e0
    simp at e0
    subst e0
    simp only [repk] at rr
    subst rr
    obtain rfl := dKey_ok r1 e1
    refine ⟨ha, [(k, u)], rfl, by simp, ?_⟩
    have em : mergeK [] [(k, u)] = [(k, u)] := by simp [mergeK, putK]
    rw [em]
    obtain ⟨x3, hl3⟩ := hl2.write (u := .dK [(k, u)]) (ob' := .dic [(k, y)]) ea e2 (by simp) fun x3 => ⟨[(k, u)], upd_same, by simp only [repk]; exact ⟨u, [], rfl, rep.ext x3 _ _ r2, rfl⟩⟩
    refine h m2 _ _ (((x0.trans x1).trans x2).trans x3) hl3 ?_
    simp only [rep]
    refine ⟨(List.getElem?_eq_some_iff.mp ea).1, fun b eb => ?_⟩
    rw [ea] at eb
    cases eb
    rfl
  · exact h.elim
/-! d[k] = v -/
@[simp] def dputL (n : Nat) (k : Key) (y : D) (env : EN) : Option O → HP → SR
  | some (.dic ks), h => if ks.length < sizeLine then .nx env (h.set n (.dic (putT ks k y))) else .stuck
  | _, _ => .stuck
@[simp] def dputK (n : Nat) (y : D) (env : EN) : Option Key → HP → SR
  | some k, h => dputL n k y env h[n]? h
  | none, _ => .stuck
@[simp] def kDPut2 (env : EN) (y : D) : D → D → HP → SR
  | .ref n, k, h => dputK n y env (dKey k) h
  | _, _, _ => .stuck
@[simp] def kDPut1 (fi : M D) (env : EN) (y o : D) (h : HP) : SR := (fi env h).sbind (kDPut2 env y o)
@[simp] def kDPut (fo fi : M D) (env : EN) (y : D) (h : HP) : SR := (fo env h).sbind (kDPut1 fi env y)
@[simp] def sDPut (fv fo fi : M D) (env : EN) (h : HP) : SR := (fv env h).sbind (kDPut fo fi env)
theorem SV.dput {o i e : Expr} {pos pos' : Pos} {fv fo fi : M D} (hu : X.A.units + 64 < cLine) (hv : EV g X E e fv) (ho : EV g X E o fo) (hi : EV g X E i fi)
    (hs : swapsWith e (some (.Subscript o i pos')) pos.line X.env = pure false) : SV g X E (.Assign [.Subscript o i pos'] e pos) (sDPut fv fo fi) := by
  obtain ⟨tv, pv, qv⟩ := hv
  obtain ⟨to, po, qo⟩ := ho
  obtain ⟨ti, pi, qi⟩ := hi
  refine ⟨_, ps_dput (by omega) po pi pv hs, fun K σ H m env hp hl er h => ?_⟩
  refine qv σ H _ m env hp hl er (SPO.bind h fun y h1 m1 H1 v x1 hl1 r1 h => ?_)
  refine qo σ H1 _ m1 env h1 hl1 (er.ext x1) (SPO.bind h fun od h2 m2 H2 u x2 hl2 r2 h => ?_)
  refine qi σ H2 _ m2 env h2 hl2 ((er.ext x1).ext x2) (SPO.bind h fun kd h3 m3 H3 w x3 hl3 r3 h => ?_)
  unfold kDPut2 at h
  split at h
  · rename_i n
    unfold dputK at h
    split at h
    · rename_i k ek
      unfold dputL at h
      split at h
      · rename_i ks eo
        split at h
        · rename_i lk
          obtain ⟨a, ea, us, hA, rr⟩ := hl3.at eo (by simp)
          have r2' := rep.ext x3 _ _ r2
          simp only [rep] at r2'
          have ry := rep.ext (x2.trans x3) _ _ r1
          obtain rfl := dKey_ok r3 ek
          obtain ⟨x6, hl6⟩ := hl3.write (u := .dK (putK us k v)) (ob' := .dic (putT ks k y)) ea eo (by simp) fun x6 => ⟨putK us k v, upd_same, repk.ext x6 _ _ (rr.put ry)⟩
          exact ⟨a, _, r2'.2 a ea, .k hA (by rw [← rr.length]; exact lk), h m3 _ σ x6 hl6 (((er.ext x1).ext x2).ext x3 |>.ext x6)⟩
        · exact h.elim
      · exact h.elim
    · exact h.elim
  · exact h.elim
end
end Ev
namespace EvZ
open PySem PySem.Spec PyProof.Rows L2
/-! zip of two things, each a list or a tuple (k: a list) -/
def ItB (k : Bool) (h : Heap) (it a : Addr) (i : Nat) : Prop := if k = true then h.IsListIter it a i else h.IsTupleIter it a i
def SqB (k : Bool) (K : PySem.W.Frag) (H : Hp) (a : Addr) (xs : List V) : Prop := if k = true then SqL K H a xs else SqT K H a xs
def HasB (k : Bool) (h : Heap) (a : Addr) (its : Array Value) : Prop := if k = true then h.IsList a its else h.IsTuple a its
def obB (k : Bool) (a : Addr) : Obj := if k = true then { cls := .type "list_iterator", data := .fields #[.ref a, .int 0 0] } else { cls := .type "tuple_iterator", data := .fields #[.ref a, .int 0 0] }
theorem ItB.at {k : Bool} {h h' : Heap} {it a : Addr} {i : Nat} (x : ItB k h it a i) (e : ∀ o, h.get? it = some o → h'.get? it = some o) : ItB k h' it a i := by
  cases k with
  | true => exact Heap.IsListIter.at (show h.IsListIter it a i from x) e
  | false => exact Heap.IsTupleIter.at (show h.IsTupleIter it a i from x) e
theorem ItB.here {k : Bool} {h : Heap} {it a : Addr} {i : Nat} (x : ItB k h it a i) : ∃ o, h.get? it = some o ∧ ∀ v, o.data ≠ .cell v := by
  cases k with
  | true =>
    obtain ⟨o, e, _, d⟩ := (show h.IsListIter it a i from x)
    exact ⟨o, e, fun v q => by rw [d] at q; cases q⟩
  | false =>
    obtain ⟨o, e, _, d⟩ := (show h.IsTupleIter it a i from x)
    exact ⟨o, e, fun v q => by rw [d] at q; cases q⟩
theorem drawB {prog : Program} {w : World} {A : Around} (hh : A.handled = none) (k : Bool) (it a : Addr) (hne : a ≠ it) (its : Array Value) :
    Draws prog w A it [it, a] its.size (fun i v => its[i]? = some v) (fun i h => ItB k h it a i ∧ HasB k h a its) := by
  cases k with
  | true => exact Draws.list hh it a hne its
  | false => exact Draws.tuple hh it a hne its
theorem beginB (k : Bool) (a : Addr) (its : Array Value) : Begins (.ref a) (obB k a) fun h => HasB k h a its := by
  cases k with
  | true => exact begins_list a its
  | false => exact begins_tuple a its
theorem itB_new {k : Bool} {h : Heap} {it a : Addr} (e : h.get? it = some (obB k a)) : ItB k h it a 0 := by
  cases k with
  | true => exact ⟨_, e, rfl, rfl⟩
  | false => exact ⟨_, e, rfl, rfl⟩
theorem HasB.lt {k : Bool} {h : Heap} {a : Addr} {its : Array Value} (x : HasB k h a its) : a < h.objs.size := by
  cases k with
  | true =>
    obtain ⟨o, e, _⟩ := (show h.IsList a its from x)
    exact Heap.lt_size e
  | false =>
    obtain ⟨o, e, _⟩ := (show h.IsTuple a its from x)
    exact Heap.lt_size e
section
variable {X : Cx} {pins : List (Addr × Obj)} {σ : L2.St} {H : Hp} {s : Shared}
theorem has_of (I : Inv X pins σ H s) {k : Bool} {a : Addr} {xs : List V} (q : SqB k X.K H a xs) : ∃ its : List Value, Vals xs its ∧ HasB k s.heap a its.toArray := by
  cases k with
  | true =>
    obtain ⟨its, rv, p, _⟩ := I.list (show SqL X.K H a xs from q)
    exact ⟨its, rv, p.isList⟩
  | false =>
    obtain ⟨its, rv, p, _⟩ := I.tuple (show SqT X.K H a xs from q)
    exact ⟨its, rv, p⟩
theorem sqB_inj (I : Inv X pins σ H s) {k : Bool} {a : Addr} {xs ys : List V} (q : SqB k X.K H a xs) (r : SqB k X.K H a ys) : xs = ys := by
  cases k with
  | true => exact I.list_inj q r
  | false => exact I.tuple_inj q r
end
def ItzB (k1 k2 : Bool) (K : PySem.W.Frag) (a b : Addr) : It :=
  ⟨fun i H => ∃ (xs ys : List V) (x y : V), SqB k1 K H a xs ∧ SqB k2 K H b ys ∧ xs[i]? = some x ∧ ys[i]? = some y,
    fun i H v H' => ∃ T x y, v = .ref T ∧ H T = none ∧ H' = upd H T (.tup [x, y]) ∧ (∀ xs, SqB k1 K H a xs → xs[i]? = some x) ∧ ∀ ys, SqB k2 K H b ys → ys[i]? = some y,
    fun i H => ∃ xs ys : List V, SqB k1 K H a xs ∧ SqB k2 K H b ys ∧ i ≤ xs.length ∧ i ≤ ys.length ∧ (i = xs.length ∨ i = ys.length)⟩
theorem turn_zipB {P : Program} {w : World} {K : PySem.W.Frag} {elts : List Expr} {kk : Nat} {tpos : Pos} {k1 k2 : Bool} {a b z TI TO i1 i2 : Addr} (D : ZipSep2 z TI TO i1 i2 [i1, a] [i2, b]) (n1 : a ≠ i1) (n2 : b ≠ i2) :
    Turn P w K (.Tuple elts kk tpos) (ItzB k1 k2 K a b) [z, TI, TO, i1, i2] z (fun i h => IsZip h z TI TO .none ∧ IsTupOf2 h TI (.ref i1) (.ref i2) ∧ (∃ x y, IsTupOf2 h TO x y) ∧ ItB k1 h i1 a i ∧ ItB k2 h i2 b i) where
  mem := by simp
  obj := fun i h st c hc => by
    obtain ⟨hz, hTI, ⟨x, y, hTO⟩, h1, h2⟩ := st
    simp only [List.mem_cons, List.not_mem_nil, or_false] at hc
    rcases hc with rfl | rfl | rfl | rfl | rfl
    · exact ⟨_, hz, fun v q => nomatch q⟩
    · exact ⟨_, hTI, fun v q => nomatch q⟩
    · exact ⟨_, hTO, fun v q => nomatch q⟩
    · exact h1.here
    · exact h2.here
  keep := fun i h h' st k => by
    obtain ⟨hz, hTI, ⟨x, y, hTO⟩, h1, h2⟩ := st
    exact ⟨k z (by simp) _ hz, k TI (by simp) _ hTI, ⟨x, y, k TO (by simp) _ hTO⟩, h1.at fun o q => k i1 (by simp) o q, h2.at fun o q => k i2 (by simp) o q⟩
  item := by
    intro X hP hw hK hc i pins s σ H E I hf st hg
    subst hP hw hK
    obtain ⟨hz, hTI, ⟨x0, y0, hTO⟩, h1, h2⟩ := st
    obtain ⟨xs, ys, x, y, hqx, hqy, hx, hy⟩ := hg
    obtain ⟨its, rv, p⟩ := has_of I hqx
    obtain ⟨its2, rv2, p2⟩ := has_of I hqy
    obtain ⟨u, hu, ru⟩ := rv.get hx
    obtain ⟨u2, hu2, ru2⟩ := rv2.get hy
    have hh : X.A.in1.handled = none := I.ok.hd hc
    have l1 : i < its.toArray.size := by
      have := (List.getElem?_eq_some_iff.mp hu).1
      simpa using this
    have l2 : i < its2.toArray.size := by
      have := (List.getElem?_eq_some_iff.mp hu2).1
      simpa using this
    have hzl : z < s.heap.objs.size := Heap.lt_size hz
    refine wpAny_pyNext_zipD2_item D (drawB hh k1 i1 a n1 its.toArray) (drawB hh k2 i2 b n2 its2.toArray) hz hTI hTO ⟨h1, p⟩ ⟨h2, p2⟩ l1 l2 fun w1 w2 h' tk y1 y2 z' TO' g1 g2 hT hsz hk => ?_
    have q1 : w1 = u := by
      have : its[i]? = some w1 := by simpa using y1
      rw [this] at hu
      exact Option.some.inj hu
    have q2 : w2 = u2 := by
      have : its2[i]? = some w2 := by simpa using y2
      rw [this] at hu2
      exact Option.some.inj hu2
    subst q1 q2
    refine ⟨_, rfl, wpAny_letOwnedTupleGo_zip (s := { s with heap := h', toks := tk }) z' fun h'' z'' sb => ?_⟩
    have hT2 : h''.get? s.heap.objs.size = some { cls := .type "tuple", data := .seq #[w1, w2] } := (sb.2 _ (Nat.ne_of_gt hzl)).trans hT
    have new : ObjOk X.prog X.w (upd H s.heap.objs.size (.tup [x, y])) h'' s.heap.objs.size (.tup [x, y]) :=
      ⟨by show 2 ≤ sizeLine; decide, [w1, w2], .cons ru (.cons ru2 .nil), ⟨_, hT2, rfl, _, rfl⟩⟩
    have I1 : Inv X pins σ (upd H s.heap.objs.size (.tup [x, y])) { s with heap := h'', toks := tk } :=
      I.turnedNew (t' := tk) (ch := [z, TI, TO, i1, i2]) (fun c o hb q => by
        simp only [List.mem_cons, List.not_mem_nil, or_false, not_or] at hb
        exact (sb.2 c hb.1).trans (hk c o hb.1 hb.2.2.1 hb.2.2.2.1 hb.2.2.2.2 q)) hf (Nat.le_refl _) new
    refine ⟨.ref s.heap.objs.size, _, I1, rfl, ⟨_, x, y, rfl, I.hok.fresh (Nat.le_refl _), rfl, fun l hl => by rw [sqB_inj I hl hqx]; exact hx, fun l hl => by rw [sqB_inj I hl hqy]; exact hy⟩, ⟨z'', ?_, ⟨w1, w2, ?_⟩, ?_, ?_⟩, fun c hcm => ?_⟩
    · exact (sb.2 _ D.TIz).trans (hk _ _ D.TIz D.TITO D.TIi1 D.TIi2 hTI)
    · exact (sb.2 _ D.TOz).trans TO'
    · exact g1.1.at fun o q => (sb.2 _ (Ne.symm D.zi1)).trans q
    · exact g2.1.at fun o q => (sb.2 _ (Ne.symm D.zi2)).trans q
    · have hlt : c < s.heap.objs.size := by
        simp only [List.mem_cons, List.not_mem_nil, or_false] at hcm
        rcases hcm with rfl | rfl | rfl | rfl | rfl
        · exact hzl
        · exact Heap.lt_size hTI
        · exact Heap.lt_size hTO
        · obtain ⟨_, e, _⟩ := h1.here; exact Heap.lt_size e
        · obtain ⟨_, e, _⟩ := h2.here; exact Heap.lt_size e
      rw [upd_ne (Nat.ne_of_lt hlt)]
      exact (hf c hcm).1
  done := by
    intro X hP hw hK hc i pins s σ H E I hf st hg
    subst hP hw hK
    obtain ⟨hz, hTI, ⟨x0, y0, hTO⟩, h1, h2⟩ := st
    obtain ⟨xs, ys, hqx, hqy, i1', i2', hend⟩ := hg
    obtain ⟨its, rv, p⟩ := has_of I hqx
    obtain ⟨its2, rv2, p2⟩ := has_of I hqy
    have hh : X.A.in1.handled = none := I.ok.hd hc
    have e1 : its.toArray.size = xs.length := by simp [rv.length]
    have e2 : its2.toArray.size = ys.length := by simp [rv2.length]
    exact wpAny_pyNext_zipD2_end D (drawB hh k1 i1 a n1 its.toArray) (drawB hh k2 i2 b n2 its2.toArray) hz hTI hTO ⟨h1, p⟩ ⟨h2, p2⟩ (by omega) (by omega) (by omega) fun h' tk hk => ⟨rfl, I.turnedL (t' := tk) (ch := [z, TI, TO, i1, i2]) (fun c o hb q => by
      simp only [List.mem_cons, List.not_mem_nil, or_false, not_or] at hb
      exact hk c o hb.1 hb.2.2.1 hb.2.2.2.1 hb.2.2.2.2 q) hf⟩
  self := fun A i s Q E st h => wpAny_pyIter_zip st.1 h
def iZipB (K : PySem.W.Frag) (ta : TA) : TI := fun σ H R => ta σ H fun vs H1 => ∃ k1 k2 a b xs ys, vs = [.ref a, .ref b] ∧ SqB k1 K H1 a xs ∧ SqB k2 K H1 b ys ∧ R (ItzB k1 k2 K a b) H1
theorem pi_zipB {X : Cx} {e e2 : Expr} {ta : TA} {p pos tpos : Pos} {elts : List Expr} {kk : Nat} (hg : Gl X "zip") (hm : X.mg "zip" = none) (ha : PA X [e, e2] ta)
    (hs : starEach [e, e2] X.env = (false, eval e X.env) :: starEach [e2] X.env) (hpl : (backTo pos (starEach [e2] X.env)).any (·.1) = false) :
    PI X (.Tuple elts kk tpos) (.Call (.Name "zip" p) [e, e2] [] pos) (iZipB X.K ta) := by
  refine ⟨fun pins s σ H R I h => ?_⟩
  refine Call_ (ld_blt I hg hm PyProof.Rows.boot_zip (PyProof.Rows.callWith_type1 (thn (ha.run pos pins s σ H _ I h) fun us s1 ⟨vs, H1, I1, r1, q1⟩ => ?_) hs hpl))
  obtain ⟨k1, k2, a, b, xs, ys, ex, hqx, hqy, q⟩ := q1
  subst ex
  cases r1 with
  | cons r rr =>
    cases rr with
    | cons r' rr =>
      cases rr
      cases r
      cases r'
      obtain ⟨its, rv, p1⟩ := has_of I1 hqx
      obtain ⟨its2, rv2, p2⟩ := has_of I1 hqy
      refine zip_begins2 (beginB k1 a its.toArray) (beginB k2 b its2.toArray) p1 p2 fun h' hz hTI hTO o1 o2 hsz hk => wpAny_pyIter_zip hz ?_
      have I2 : Inv X pins σ H1 { s1 with heap := h' } := I1.kept (t' := s1.toks) hk
      have D := zip_sep2 (N := s1.heap.objs.size) (fp1 := [a]) (fp2 := [b]) (fun c hc => by rw [List.mem_singleton.mp hc]; exact p1.lt) (fun c hc => by rw [List.mem_singleton.mp hc]; exact p2.lt)
      refine ⟨s1.heap.objs.size + 4, [s1.heap.objs.size + 4, s1.heap.objs.size + 2, s1.heap.objs.size + 3, s1.heap.objs.size, s1.heap.objs.size + 1], _, _, H1, rfl, I2, turn_zipB D (Nat.ne_of_lt p1.lt) (Nat.ne_of_lt (Nat.lt_succ_of_lt p2.lt)), ⟨hz, hTI, ⟨_, _, hTO⟩, itB_new o1, itB_new o2⟩, fun c hcm => ?_, q⟩
      have hle : s1.heap.objs.size ≤ c := by
        simp only [List.mem_cons, List.not_mem_nil, or_false] at hcm
        rcases hcm with rfl | rfl | rfl | rfl | rfl
        · exact Nat.le_add_right _ _
        · exact Nat.le_add_right _ _
        · exact Nat.le_add_right _ _
        · exact Nat.le_refl _
        · exact Nat.le_add_right _ _
      exact I1.fpOk hle (I1.hok.fresh hle)
end EvZ

namespace Ev
open PySem PySem.Spec PyProof.Rows L2 EvZ
section
variable {g : G} {X : Cx} {E : XK}
@[simp] def srcD (h : HP) : D → Option (List D × GdL)
  | .tup ds => some (ds, [])
  | d => lview h d
def SSrc (g : G) (k : Bool) (m0 : AM) (H0 : Hp) (a : Addr) (ds : List D) (gd : GdL) : Prop := ∀ m H hp, Ex m0 H0 m H → HL g m H hp → Gd gd hp → ∃ vs, SqB k g.K H a vs ∧ reps g m H ds vs
theorem srcD_ok {m : AM} {H : Hp} {hp : HP} {d : D} {v : V} {p : List D × GdL} (hl : HL g m H hp) (r : rep g m H d v) (e : srcD hp d = some p) : ∃ k a, v = .ref a ∧ SSrc g k m H a p.1 p.2 ∧ Gd p.2 hp := by
  have ls : lview hp d = some p → ∃ k a, v = .ref a ∧ SSrc g k m H a p.1 p.2 ∧ Gd p.2 hp := fun e => by
    obtain ⟨a, ea, s, gd⟩ := lview_ok hl r e
    exact ⟨true, a, ea, s, gd⟩
  cases d with
  | tup ds =>
    cases e
    obtain ⟨a, rfl, s⟩ := tview_ok r
    exact ⟨false, a, rfl, fun m2 H2 hp2 x _ _ => s m2 H2 x, fun p hp => by cases hp⟩
  | _ => exact ls e
theorem foll_zipB {k1 k2 : Bool} {m0 : AM} {H0 : Hp} {a b : Addr} {xs ys : List D} {gd gd' : GdL} (s : SSrc g k1 m0 H0 a xs gd) (s' : SSrc g k2 m0 H0 b ys gd') : Foll g m0 H0 (ItzB k1 k2 g.K a b) (zipD xs ys) (gd ++ gd') := by
  have q : ∀ {m H hp}, Ex m0 H0 m H → HL g m H hp → Gd (gd ++ gd') hp → (∃ vs, SqB k1 g.K H a vs ∧ reps g m H xs vs) ∧ ∃ us, SqB k2 g.K H b us ∧ reps g m H ys us := fun x hl h =>
    ⟨s _ _ _ x hl fun p hp => h p (List.mem_append_left _ hp), s' _ _ _ x hl fun p hp => h p (List.mem_append_right _ hp)⟩
  refine ⟨fun i m H hp hi x hl gd => ?_, fun i m H hp v H' hi x hl gd y => ?_, fun m H hp x hl gd => ?_⟩
  · obtain ⟨⟨vs, s1, r1⟩, us, s2, r2⟩ := q x hl gd
    obtain ⟨h1, h2, _⟩ := zip_at hi
    obtain ⟨w, ew, _⟩ := r1.get (List.getElem?_eq_getElem h1)
    obtain ⟨w2, ew2, _⟩ := r2.get (List.getElem?_eq_getElem h2)
    exact ⟨vs, us, w, w2, s1, s2, ew, ew2⟩
  · obtain ⟨⟨vs, s1, r1⟩, us, s2, r2⟩ := q x hl gd
    obtain ⟨h1, h2, e⟩ := zip_at hi
    obtain ⟨T, x1, y1, rfl, nT, rfl, k1, k2⟩ := y
    obtain ⟨w, ew, rw1⟩ := r1.get (List.getElem?_eq_getElem h1)
    obtain ⟨w2, ew2, rw2⟩ := r2.get (List.getElem?_eq_getElem h2)
    have z1 := k1 vs s1
    have z2 := k2 us s2
    rw [ew] at z1
    rw [ew2] at z2
    cases z1
    cases z2
    obtain ⟨x', hl2, rr⟩ := new_pair hl nT rw1 rw2
    exact ⟨_, e, x', hl2, rr⟩
  · obtain ⟨⟨vs, s1, r1⟩, us, s2, r2⟩ := q x hl gd
    have l1 := reps.length r1
    have l2 := reps.length r2
    refine ⟨vs, us, s1, s2, ?_⟩
    simp only [zipD, List.length_zipWith]
    omega
@[simp] def zipS : Option (List D × GdL) → Option (List D × GdL) → HP → R (List D × GdL)
  | some p, some q, h => .ok (zipD p.1 q.1, p.2 ++ q.2) h
  | _, _, _ => .stuck
@[simp] def kZipS : List D → HP → R (List D × GdL)
  | [x, y], h => zipS (srcD h x) (srcD h y) h
  | _, _ => .stuck
@[simp] def iZipS (a : M (List D)) (env : EN) (hp : HP) : R (List D × GdL) := (a env hp).bind kZipS
theorem IV.zipS {e e2 : Expr} {p pos tpos : Pos} {elts : List Expr} {kk : Nat} {f : M (List D)} (hK : X.K = g.K) (hm : X.mg "zip" = none) (h : AV g X E [e, e2] f) (hg : Gl X "zip")
    (hs : starEach [e, e2] X.env = (false, eval e X.env) :: starEach [e2] X.env) (hpl : (backTo pos (starEach [e2] X.env)).any (·.1) = false) : IV g X E (.Tuple elts kk tpos) (.Call (.Name "zip" p) [e, e2] [] pos) (iZipS f) := by
  obtain ⟨t, p, q⟩ := h
  refine ⟨_, pi_zipB hg hm p hs hpl, fun σ H Rr m env hp hl er h => ?_⟩
  refine q σ H _ m env hp hl er (IPO.bind h fun xs h1 m1 H1 vs x1 hl1 r1 h => ?_)
  rw [hK]
  unfold kZipS at h
  split at h
  · rename_i x y
    obtain ⟨v, u, rfl, rr, rr2⟩ := reps2 r1
    unfold Ev.zipS at h
    split at h
    · rename_i p q e1 e2
      obtain ⟨k1, a, rfl, s, gd⟩ := srcD_ok hl1 rr e1
      obtain ⟨k2, b, rfl, s', gd'⟩ := srcD_ok hl1 rr2 e2
      obtain ⟨vs, sq, _⟩ := s _ _ _ (.refl _ _) hl1 gd
      obtain ⟨us, sq', _⟩ := s' _ _ _ (.refl _ _) hl1 gd'
      exact ⟨k1, k2, a, b, vs, us, rfl, sq, sq', h m1 H1 _ (.refl _ _) hl1 (foll_zipB s s')⟩
    · exact h.elim
  · exact h.elim
end
end Ev
namespace Ev
open PySem PySem.Spec PyProof.Rows L2
/-! keyword-only defaults that stand before the keywords that are told; a default () -/
theorem kbP {K : PySem.W.Frag} {x qual : Str} {params : Arguments} {body : List Stmt} {scope : Scope} {kws : List (Str × V)} {f : Addr} {fd : FuncData} {ps : List Str} (F : FunD K x qual params body scope [] kws f fd) (n : Nat) (ks : List Str) (hk : kws ≠ [])
    (h : ∀ (D : Addr) (doc pm : Value) (an : Option Addr) (cdv ct : Value) (us mv ws : List Value), us.length = n → mv.length = kws.length → ws.length = ks.length →
      KwChain D ((kws.map (·.1)).zip mv) (bindArgs (PySem.W.fnOf x qual params body scope .none (.ref D) doc pm an cdv ct) ⟨us, ks.zip ws⟩) (ps.zip (us ++ (mv ++ ws)))) :
    ∃ mv : List Value, KBn K fd ps n ks (fun us ws => us ++ (mv ++ ws)) (fun vs zs => vs ++ (kws.map (·.2) ++ zs)) :=
  FunD.kbinds0 F n ks kws (fun a b c => a ++ (b ++ c)) hk (fun _ h => h) (fun r1 r2 r3 => r1.append (r2.append r3)) h
@[simp] def gPreD (ds : List D) (xs ys : List D) : List D := xs ++ (ds ++ ys)
theorem ArgO.preD {g : G} {ds : List D} {us : List V} (hd : ∀ m H, reps g m H ds us) : ArgO g (gPreD ds) fun vs ws => vs ++ (us ++ ws) := fun m H xs vs ys ws h1 h2 => reps.append h1 (reps.append (hd m H) h2)
theorem reps_nilT {g : G} {a : Addr} {o : Obj} {n : Nat} (l : g.K.lookup a = some o) (c : o.cls = .type "tuple") (d : o.data = .seq #[] n) (m : AM) (H : Hp) : reps g m H [.tup []] [.ref a] := by
  simp only [reps, rep]
  refine ⟨_, [], rfl, ⟨a, [], rfl, .inr ⟨o, #[], n, l, c, d, by decide, ?_⟩, rfl⟩, rfl⟩
  first | exact .nil | simp
end Ev
namespace EvZ
open PySem PySem.Spec PyProof.Rows L2
/-! enumerate of a list or a tuple -/
set_option maxHeartbeats 1000000 in
theorem meets_enum1 {v : Value} {o : Obj} {H : Heap → Prop} (B : Begins v o H) :
    Meets (Builtin.«enumerate.__new__» ⟨[.type "enumerate", v], []⟩) (fun _ R s => H s.heap ∧
      R (.ok (.ret (.ref (s.heap.push o).objs.size))) { s with heap := (s.heap.push o).push { cls := .type "enumerate", data := .fields #[.none, .bool false, .ref s.heap.objs.size, rawInt 0, .none, .none] } }) :=
  .of_wp fun prog w A R s h => by
    obtain ⟨hp, g, d, tk, os⟩ := s
    obtain ⟨h1, h⟩ := h
    have sub := sub_enumerate
    have q1 : ∀ {A' : Around} {E : Value → Shared → Prop} {Q : Value → Shared → Prop}, Q (.ref hp.objs.size) ⟨hp.push o, g, d, tk, os⟩ → wpAny (model prog w) A' (pyIter v) Q E ⟨hp, g, d, tk, os⟩ :=
      fun q => B.iter prog w _ _ ⟨hp, g, d, tk, os⟩ _ h1 q
    wp_walk using q1
    refine wpAny_stack_any fun st => wpAny_pure ?_
    split
    · rename_i c _ _ _ _ _
      cases (c == Value.type "enumerate")
      · wp_walk using q1
        exact ⟨_, rfl, h⟩
      · wp_walk using q1
        exact ⟨_, rfl, h⟩
    · wp_walk using q1
      exact ⟨_, rfl, h⟩
section
variable {prog : Program} {w : World} {A : Around} {E : Value → Shared → Prop} {s : Shared}
theorem enum1_begins {v : Value} {o : Obj} {H : Heap → Prop} {Q : Value → Shared → Prop} (B : Begins v o H) (h1 : H s.heap)
    (h : ∀ h', IsEnum h' (s.heap.objs.size + 1) s.heap.objs.size 0 .none → h'.get? s.heap.objs.size = some o → h'.objs.size = s.heap.objs.size + 2 →
      (∀ b o, s.heap.get? b = some o → h'.get? b = some o) → Q (.ref (s.heap.objs.size + 1)) { s with heap := h' }) :
    wpAny (model prog w) A (call (.type "enumerate") [v]) Q E s := by
  refine callType_new F.called_enumerate (by decide) (F.typeCall_enumerate_1 _) (F.newCall_enumerate_1 _) (fun obj => F.args_object_init_2 obj _) F.entry_enumerate_new (meets_enum1 B) ⟨h1, ?_⟩
  have hz : (s.heap.push o).objs.size = s.heap.objs.size + 1 := Heap.size_push ..
  show _ ∧ _
  rw [hz]
  have he : IsEnum ((s.heap.push o).push { cls := .type "enumerate", data := .fields #[.none, .bool false, .ref s.heap.objs.size, rawInt 0, .none, .none] }) (s.heap.objs.size + 1) s.heap.objs.size 0 .none := by
    have := Heap.get?_push_size (s.heap.push o) (o := { cls := .type "enumerate", data := .fields #[.none, .bool false, .ref s.heap.objs.size, rawInt 0, .none, .none] }) rfl
    rw [hz] at this
    exact this
  exact ⟨⟨_, he, rfl⟩, h _ he (Heap.get?_push_of_some _ (Heap.get?_push_size _ B.free)) (by rw [Heap.size_push, hz]) fun b o x => Heap.get?_push_of_some _ (Heap.get?_push_of_some _ x)⟩
end
def IteB (k : Bool) (K : PySem.W.Frag) (a : Addr) : It :=
  ⟨fun i H => ∃ (xs : List V) (x : V), SqB k K H a xs ∧ xs[i]? = some x, fun i H v H' => ∃ T x, v = .ref T ∧ H T = none ∧ H' = upd H T (.tup [.int (i : Nat), x]) ∧ ∀ xs, SqB k K H a xs → xs[i]? = some x, fun i H => ∃ xs : List V, SqB k K H a xs ∧ xs.length = i⟩
theorem turn_enumB {P : Program} {w : World} {K : PySem.W.Frag} {elts : List Expr} {kk : Nat} {tpos : Pos} {k : Bool} {a e it : Addr} (hea : e ≠ a) (hei : e ≠ it) (hai : a ≠ it) :
    Turn P w K (.Tuple elts kk tpos) (IteB k K a) [e, it] e (fun i h => (∃ old, IsEnum h e it ((i : Nat) : Int) old) ∧ ItB k h it a i) where
  mem := by simp
  obj := fun i h st b hb => by
    obtain ⟨⟨old, he⟩, hi⟩ := st
    simp only [List.mem_cons, List.not_mem_nil, or_false] at hb
    rcases hb with rfl | rfl
    · exact ⟨_, he, fun v q => nomatch q⟩
    · exact hi.here
  keep := fun i h h' st kp => by
    obtain ⟨⟨old, he⟩, hi⟩ := st
    exact ⟨⟨old, kp e (by simp) _ he⟩, hi.at fun o q => kp it (by simp) o q⟩
  item := by
    intro X hP hw hK hc i pins s σ H E I hf st hg
    subst hP hw hK
    obtain ⟨⟨old, he⟩, hit⟩ := st
    obtain ⟨xs, x, hq, hx⟩ := hg
    obtain ⟨its, rv, p⟩ := has_of I hq
    obtain ⟨u, hu, ru⟩ := rv.get hx
    have hh : X.A.in1.handled = none := I.ok.hd hc
    have l1 : i < its.toArray.size := by
      have := (List.getElem?_eq_some_iff.mp hu).1
      simpa using this
    have hel : e < s.heap.objs.size := Heap.lt_size he
    have hil : it < s.heap.objs.size := by
      obtain ⟨_, q, _⟩ := hit.here
      exact Heap.lt_size q
    refine wpAny_pyNext_enum_itemC (drawB hh k it a hai its.toArray) he ⟨hit, p⟩ l1 hei (by simp [hei, hea]) fun y h' tk y1 ho st' hT hsz hk => ?_
    have q1 : y = u := by
      have : its[i]? = some y := by simpa using y1
      rw [this] at hu
      exact Option.some.inj hu
    subst q1
    refine ⟨_, rfl, wpAny_letOwnedTupleGo_enum (s := { s with heap := h', toks := tk + 1 }) ho fun h'' he' sb => ?_⟩
    have hT2 : h''.get? s.heap.objs.size = some { cls := .type "tuple", data := .seq #[.int i tk, y] } := (sb.2 _ (Nat.ne_of_gt hel)).trans hT
    have new : ObjOk X.prog X.w (upd H s.heap.objs.size (.tup [.int (i : Nat), x])) h'' s.heap.objs.size (.tup [.int (i : Nat), x]) :=
      ⟨by show 2 ≤ sizeLine; decide, [.int i tk, y], .cons ⟨_, rfl⟩ (.cons ru .nil), ⟨_, hT2, rfl, _, rfl⟩⟩
    have I1 : Inv X pins σ (upd H s.heap.objs.size (.tup [.int (i : Nat), x])) { s with heap := h'', toks := tk + 1 } :=
      I.turnedNew (ch := [e, it]) (fun b ob hb q => by
        simp only [List.mem_cons, List.not_mem_nil, or_false, not_or] at hb
        exact (sb.2 b hb.1).trans (hk b ob hb.1 hb.2 q)) hf (Nat.le_refl _) new
    refine ⟨.ref s.heap.objs.size, _, I1, rfl, ⟨_, x, rfl, I.hok.fresh (Nat.le_refl _), rfl, fun ys hy => by rw [sqB_inj I hy hq]; exact hx⟩, ⟨⟨y, ?_⟩, st'.1.at fun o q => (sb.2 it (Ne.symm hei)).trans q⟩, fun b hb => ?_⟩
    · have e1 : ((i + 1 : Nat) : Int) = (i : Int) + 1 := by omega
      rw [e1]
      exact he'
    · have hb' : b < s.heap.objs.size := by
        simp only [List.mem_cons, List.not_mem_nil, or_false] at hb
        rcases hb with rfl | rfl
        · exact hel
        · exact hil
      rw [upd_ne (Nat.ne_of_lt hb')]
      exact (hf b hb).1
  done := by
    intro X hP hw hK hc i pins s σ H E I hf st hg
    subst hP hw hK
    obtain ⟨⟨old, he⟩, hit⟩ := st
    obtain ⟨xs, hq, hx⟩ := hg
    obtain ⟨its, rv, p⟩ := has_of I hq
    have hh : X.A.in1.handled = none := I.ok.hd hc
    have e1 : i = its.toArray.size := by simp [← rv.length, hx]
    obtain ⟨f0, f1, f2, f3, f4, f5⟩ := hf it (by simp)
    refine wpAny_pyNext_enum_endD (drawB hh k it a hai its.toArray) he (by rw [← e1]; exact ⟨hit, p⟩) fun h' eb => ⟨rfl, I.turned (t' := s.toks) (fun b o hb q => eb b o hb q) f0 f1 f3 f4 f5⟩
  self := fun A i s Q E st h => let ⟨⟨_, he⟩, _⟩ := st; wpAny_pyIter_enum he h
def iEnumB (K : PySem.W.Frag) (ta : TA) : TI := fun σ H R => ta σ H fun vs H1 => ∃ k a xs, vs = [.ref a] ∧ SqB k K H1 a xs ∧ R (IteB k K a) H1
theorem pi_enumB {X : Cx} {e : Expr} {ta : TA} {p pos tpos : Pos} {elts : List Expr} {kk : Nat} (hg : Gl X "enumerate") (hm : X.mg "enumerate" = none) (ha : PA X [e] ta) (hs : starEach [e] X.env = [(false, eval e X.env)]) :
    PI X (.Tuple elts kk tpos) (.Call (.Name "enumerate" p) [e] [] pos) (iEnumB X.K ta) := by
  refine ⟨fun pins s σ H R I h => ?_⟩
  refine Call_ (ld_blt I hg hm boot_enumerate (PyProof.Rows.callWith_type1 (thn (ha.run pos pins s σ H _ I h) fun us s1 ⟨vs, H1, I1, r1, q1⟩ => ?_) hs rfl))
  obtain ⟨k, a, xs, ex, hq, q⟩ := q1
  subst ex
  cases r1 with
  | cons r rr =>
    cases rr
    cases r
    obtain ⟨its, rv, p1⟩ := has_of I1 hq
    refine enum1_begins (beginB k a its.toArray) p1 fun h' he o1 hsz hk => wpAny_pyIter_enum he ?_
    have I2 : Inv X pins σ H1 { s1 with heap := h' } := I1.kept (t' := s1.toks) hk
    refine ⟨s1.heap.objs.size + 1, [s1.heap.objs.size + 1, s1.heap.objs.size], _, _, H1, rfl, I2, turn_enumB (k := k) (a := a) (Ne.symm (Nat.ne_of_lt (Nat.lt_succ_of_lt p1.lt))) (Nat.succ_ne_self _) (Nat.ne_of_lt p1.lt), ⟨⟨.none, he⟩, itB_new o1⟩, fun b hb => ?_, q⟩
    have hle : s1.heap.objs.size ≤ b := by
      simp only [List.mem_cons, List.not_mem_nil, or_false] at hb
      rcases hb with rfl | rfl
      · exact Nat.le_add_right _ _
      · exact Nat.le_refl _
    exact I1.fpOk hle (I1.hok.fresh hle)
end EvZ
namespace Ev
open PySem PySem.Spec PyProof.Rows L2 EvZ
section
variable {g : G} {X : Cx} {E : XK}
def enumD (xs : List D) : List D := xs.mapIdx fun i d => .tup [.int (i : Nat), d]
theorem foll_enumB {k : Bool} {m0 : AM} {H0 : Hp} {a : Addr} {xs : List D} {gd : GdL} (s : SSrc g k m0 H0 a xs gd) : Foll g m0 H0 (IteB k g.K a) (enumD xs) gd := by
  have el : (enumD xs).length = xs.length := by simp [enumD]
  refine ⟨fun i m H hp hi x hl gd => ?_, fun i m H hp v H' hi x hl gd y => ?_, fun m H hp x hl gd => ?_⟩
  · obtain ⟨vs, s1, r1⟩ := s _ _ _ x hl gd
    have hi' : i < xs.length := by omega
    obtain ⟨w, ew, _⟩ := r1.get (List.getElem?_eq_getElem hi')
    exact ⟨vs, w, s1, ew⟩
  · obtain ⟨vs, s1, r1⟩ := s _ _ _ x hl gd
    have hi' : i < xs.length := by omega
    obtain ⟨T, x1, rfl, nT, rfl, k1⟩ := y
    obtain ⟨w, ew, rw1⟩ := r1.get (List.getElem?_eq_getElem hi')
    have z1 := k1 vs s1
    rw [ew] at z1
    cases z1
    obtain ⟨x', hl2, rr⟩ := new_pair hl nT (a := .int (i : Nat)) (x := .int (i : Nat)) (by simp [rep]) rw1
    exact ⟨_, by simp [enumD, List.getElem?_mapIdx, List.getElem?_eq_getElem hi'], x', hl2, rr⟩
  · obtain ⟨vs, s1, r1⟩ := s _ _ _ x hl gd
    exact ⟨vs, s1, by rw [el, ← reps.length r1]⟩
@[simp] def enumS : Option (List D × GdL) → HP → R (List D × GdL)
  | some p, h => .ok (enumD p.1, p.2) h
  | none, _ => .stuck
@[simp] def kEnumS : List D → HP → R (List D × GdL)
  | [x], h => enumS (srcD h x) h
  | _, _ => .stuck
@[simp] def iEnumS (a : M (List D)) (env : EN) (hp : HP) : R (List D × GdL) := (a env hp).bind kEnumS
theorem IV.enumS {e : Expr} {p pos tpos : Pos} {elts : List Expr} {kk : Nat} {f : M (List D)} (hK : X.K = g.K) (hm : X.mg "enumerate" = none) (h : AV g X E [e] f) (hg : Gl X "enumerate")
    (hs : starEach [e] X.env = [(false, eval e X.env)]) : IV g X E (.Tuple elts kk tpos) (.Call (.Name "enumerate" p) [e] [] pos) (iEnumS f) := by
  obtain ⟨t, p, q⟩ := h
  refine ⟨_, pi_enumB hg hm p hs, fun σ H Rr m env hp hl er h => ?_⟩
  refine q σ H _ m env hp hl er (IPO.bind h fun xs h1 m1 H1 vs x1 hl1 r1 h => ?_)
  rw [hK]
  unfold kEnumS at h
  split at h
  · rename_i x
    obtain ⟨v, rfl, rr⟩ := reps1 r1
    unfold Ev.enumS at h
    split at h
    · rename_i p e1
      obtain ⟨k1, a, rfl, s, gd⟩ := srcD_ok hl1 rr e1
      obtain ⟨vs, sq, _⟩ := s _ _ _ (.refl _ _) hl1 gd
      exact ⟨k1, a, vs, rfl, sq, h m1 H1 _ (.refl _ _) hl1 (foll_enumB s)⟩
    · exact h.elim
  · exact h.elim
end
end Ev
namespace Ev
open PySem PySem.Spec PyProof.Rows L2
section
variable {g : G} {X : Cx} {E : XK}
/-! tuple(range(n)) -/
theorem reps_ints {m : AM} {H : Hp} (f : Nat → Int) : ∀ l : List Nat, reps g m H (l.map fun i => .int (f i)) (l.map fun i => V.int (f i))
  | [] => by simp [reps]
  | x :: l => by
    simp only [List.map_cons, reps]
    exact ⟨_, _, rfl, by simp [rep], reps_ints f l⟩
@[simp] def kTupR : D → HP → R D
  | .int n, h => if 0 ≤ n ∧ n ≤ 16000000 then .ok (.tup (rngD 0 n.toNat)) h else .stuck
  | _, _ => .stuck
@[simp] def mTupR (f : M D) (env : EN) (h : HP) : R D := (f env h).bind kTupR
theorem EV.tupR {e : Expr} {p p2 pos pos2 : Pos} {f : M D} (hc : X.calm = true) (hm : X.mg "tuple" = none) (hm2 : X.mg "range" = none) (he : EV g X E e f) (hg : Gl X "tuple") (hg2 : Gl X "range")
    (na : starEach [e] X.env = (false, eval e X.env) :: starEach [] X.env) (na2 : starEach [.Call (.Name "range" p2) [e] [] pos2] X.env = (false, eval (.Call (.Name "range" p2) [e] [] pos2) X.env) :: starEach [] X.env) :
    EV g X E (.Call (.Name "tuple" p) [.Call (.Name "range" p2) [e] [] pos2] [] pos) (mTupR f) := by
  obtain ⟨t, p, q⟩ := he
  refine ⟨_, pe_tupRg hc hg hm (prg_1 hg2 hm2 p na) na2, fun σ H Q m env hp hl er h => ?_⟩
  refine q σ H _ m env hp hl er (PO.bind h fun x h1 m1 H1 v x1 hl1 r1 h => ?_)
  unfold kTupR at h
  split at h
  · rename_i n
    split at h
    · rename_i c
      refine ⟨n, rInt r1, RgOk.of_le (by omega) (by omega) (by omega) (by omega), fun q np => ?_⟩
      obtain ⟨x2, hl2, pm⟩ := hl1.new (o := .tup (rgV 0 n)) np
      refine h m1 _ _ x2 hl2 ?_
      simp only [rep]
      refine ⟨q, rgV 0 n, rfl, .inl ⟨.inl upd_same, pm⟩, ?_⟩
      unfold rngD rgV
      rw [show (n - 0).toNat = n.toNat by omega]
      exact reps_ints _ _
    · exact h.elim
  · exact h.elim
end
end Ev
namespace Ev
open PySem PySem.Spec PyProof.Rows L2
section
variable {g : G} {X : Cx} {E : XK}
/-! a comprehension with two fors -/
open Classical in
noncomputable def lc2E (asg : TF) (cond : M Bool) (it1 : IM) (own1 : List Nat) (asg1 : TF) (cond1 : M Bool) (elt : M D) (envw : EN) (n : Nat) (gd : GdL) : List D → HP → R Unit
  | [], h => if Gd gd h then .ok () h else .stuck
  | d :: ds, h => if Gd gd h then (match asg d envw h with
      | some e => (cond e h).nx.bind fun b h1 => if b = true then (it1 e h1).nx.bind fun p h2 => (lcE asg1 cond1 elt (wipeE e own1) n p.2 p.1 h2).bind fun _ h3 => lc2E asg cond it1 own1 asg1 cond1 elt envw n gd ds h3
          else lc2E asg cond it1 own1 asg1 cond1 elt envw n gd ds h1
      | none => .stuck)
    else .stuck
noncomputable def mLc2 (live : Bool) (it : IM) (own : List Nat) (asg : TF) (cond : M Bool) (it1 : IM) (own1 : List Nat) (asg1 : TF) (cond1 : M Bool) (elt : M D) : M D := fun env hp => (it env hp).bind fun p h =>
  (lc2E asg cond it1 own1 asg1 cond1 elt (wipeE env own) h.length p.2 p.1 (h ++ [.lst []])).bind fun _ h' => outL live h h'
theorem lc2_sem {wi wi1 : TI} {gt gt1 : TG} {tt tt1 : TT} {te : TE} {fi fi1 : IM} {own is own1 is1 : List Nat} {asg asg1 : TF} {cond cond1 : M Bool} {elt : M D} (live : Bool)
    (hi : ∀ σ H Rr m env hp, HL g m H hp → ER g m H σ env → IPO g m H E Rr (fi env hp) → wi σ H Rr)
    (hg : ∀ v σ H Q m env hp d, HL g m H hp → ER g m H σ env → rep g m H d v → (∃ env', asg d env hp = some env' ∧ ∀ σ', Turned is σ σ' → ER g m H σ' env' → Q σ' H) → gt v σ H Q)
    (ht : ∀ σ H Q m env hp, HL g m H hp → ER g m H σ env → PO g m H E0 rB Q (cond env hp) → tt σ H Q)
    (hi1 : ∀ σ H Rr m env hp, HL g m H hp → ER g m H σ env → IPO g m H E0 Rr (fi1 env hp) → wi1 σ H Rr)
    (hg1 : ∀ v σ H Q m env hp d, HL g m H hp → ER g m H σ env → rep g m H d v → (∃ env', asg1 d env hp = some env' ∧ ∀ σ', Turned is1 σ σ' → ER g m H σ' env' → Q σ' H) → gt1 v σ H Q)
    (ht1 : ∀ σ H Q m env hp, HL g m H hp → ER g m H σ env → PO g m H E0 rB Q (cond1 env hp) → tt1 σ H Q)
    (he : ∀ σ H Q m env hp, HL g m H hp → ER g m H σ env → PO g m H E0 (rep g) Q (elt env hp) → te σ H Q)
    (hsub : ∀ i ∈ is, i ∈ own) (hsub1 : ∀ i ∈ is1, i ∈ own1)
    {σ : L2.St} {H : Hp} {Q : VK} {m : AM} {env : EN} {hp : HP} (hl : HL g m H hp) (er : ER g m H σ env) (h : PO g m H E (rep g) Q (mLc2 live fi own asg cond fi1 own1 asg1 cond1 elt env hp)) : tLc2 wi gt tt wi1 gt1 tt1 te own own1 σ H Q := by
  unfold mLc2 at h
  refine hi σ H _ m env hp hl er ?_
  revert h
  cases fi env hp with
  | exc c fs h1 => exact fun h => h
  | stuck => exact fun h => h
  | ok p h1 =>
    obtain ⟨items, gd⟩ := p
    intro h m1 H1 J x1 hl1 fo D hD
    have h : PO g m H E (rep g) Q ((lc2E asg cond fi1 own1 asg1 cond1 elt (wipeE env own) h1.length gd items (h1 ++ [.lst []])).bind fun _ h' => outL live h1 h') := h
    obtain ⟨x2, hl2⟩ := hl1.push (o := .lst []) (ob := .lst []) hD (by simp) fun x => ⟨[], upd_same, by simp [reps]⟩
    have er1 := (er.ext x1).wipe own
    have eD : ∀ {m' : AM} {H' : Hp} {b : Addr}, Ex (m1 ++ [some D]) (upd H1 D (.lst [])) m' H' → m'[h1.length]? = some (some b) → b = D := fun {m' H' b} x e => by
      have := x.mp h1.length b e (by simp [hl1.len])
      rw [← hl1.len, List.getElem?_append_right (Nat.le_refl _)] at this
      simp at this
      exact this.symm
    let Wn : Nat → Hp → Prop := fun i H' => i ≤ items.length ∧ ∃ m' hp', Ex (m1 ++ [some D]) (upd H1 D (.lst [])) m' H' ∧ HL g m' H' hp' ∧
        PO g m1 H1 E (rep g) Q ((lc2E asg cond fi1 own1 asg1 cond1 elt (wipeE env own) h1.length gd (items.drop i) hp').bind fun _ h' => outL live h1 h')
    refine ⟨fun i k H' => k = items.length - i ∧ Wn i H', ⟨items.length, rfl, Nat.zero_le _, m1 ++ [some D], h1 ++ [.lst []], .refl _ _, hl2, by rw [List.drop_zero]; exact PO.mono x1 h⟩, ?_⟩
    rintro i k H' ⟨rfl, hi', m', hp', x', hl', po⟩
    have xm1 : Ex m1 H1 m' H' := x2.trans x'
    by_cases hlt : i < items.length
    · have ed : items.drop i = items[i] :: items.drop (i + 1) := List.drop_eq_getElem_cons hlt
      rw [ed] at po
      unfold lc2E at po
      by_cases hgd : Gd gd hp'
      · rw [if_pos hgd] at po
        refine .inr ⟨fo.go i m' H' hp' hlt xm1 hl' hgd, fun H'' => ∃ k', k' < items.length - i ∧ (k' = items.length - (i + 1) ∧ Wn (i + 1) H''), fun H'' z => z, fun x H'' y => ?_⟩
        obtain ⟨d, ed', xe, hl3, rd⟩ := fo.yld i m' H' hp' x H'' hlt xm1 hl' hgd y
        rw [List.getElem?_eq_getElem hlt] at ed'
        cases ed'
        split at po
        · rename_i env' easg
          have erw : ER g m' H'' (L2.wipe σ own) (wipeE env own) := er1.ext (xm1.trans xe)
          refine hg x (L2.wipe σ own) H'' _ m' (wipeE env own) hp' _ hl3 erw rd ⟨env', easg, fun σ' tn er' => ?_⟩
          refine ⟨by rw [wipe_turned tn hsub, wipe_wipe], ?_⟩
          rw [R.bind_assoc] at po
          refine ht σ' H'' _ m' env' hp' hl3 er' (PO.nx (E := E) (PO.bindB po (xm1.trans xe) fun b h4 m4 H4 v4 x4 hl4 r4 po => ?_))
          cases (show b = v4 from r4)
          have er4 := er'.ext x4
          cases b with
          | false =>
            rw [if_neg Bool.false_ne_true] at po ⊢
            exact ⟨items.length - (i + 1), by omega, rfl, hlt, m4, h4, (x'.trans xe).trans x4, hl4, po⟩
          | true =>
            rw [if_pos rfl] at po ⊢
            refine hi1 σ' H4 _ m4 env' h4 hl4 er4 ?_
            revert po
            cases fi1 env' h4 with
            | exc c fs h5 => exact fun po => po.elim
            | stuck => exact fun po => po
            | ok p h5 =>
              obtain ⟨its, gd1⟩ := p
              intro po m5 H5 J1 x5 hl5 fo1
              have po : PO g m1 H1 E (rep g) Q (((lcE asg1 cond1 elt (wipeE env' own1) h1.length gd1 its h5).bind fun _ h3 => lc2E asg cond fi1 own1 asg1 cond1 elt (wipeE env own) h1.length gd (items.drop (i + 1)) h3).bind fun _ h' => outL live h1 h') := po
              rw [R.bind_assoc] at po
              have x05 := ((x'.trans xe).trans x4).trans x5
              have er5 := (er4.ext x5).wipe own1
              refine ⟨fun j k H6 => k = its.length - j ∧ j ≤ its.length ∧ ∃ m6 hp6, Ex m5 H5 m6 H6 ∧ HL g m6 H6 hp6 ∧
                PO g m1 H1 E (rep g) Q ((lcE asg1 cond1 elt (wipeE env' own1) h1.length gd1 (its.drop j) hp6).bind fun _ h3 => (lc2E asg cond fi1 own1 asg1 cond1 elt (wipeE env own) h1.length gd (items.drop (i + 1)) h3).bind fun _ h' => outL live h1 h'),
                ⟨its.length, rfl, Nat.zero_le _, m5, h5, .refl _ _, hl5, by rw [List.drop_zero]; exact po⟩, ?_⟩
              rintro j k H6 ⟨rfl, hj', m6, hp6, x6, hl6, po⟩
              have xm6 : Ex m1 H1 m6 H6 := x2.trans (x05.trans x6)
              by_cases hlt1 : j < its.length
              · have ed1 : its.drop j = its[j] :: its.drop (j + 1) := List.drop_eq_getElem_cons hlt1
                rw [ed1] at po
                unfold lcE at po
                by_cases hgd1 : Gd gd1 hp6
                · rw [if_pos hgd1] at po
                  refine .inr ⟨fo1.go j m6 H6 hp6 hlt1 x6 hl6 hgd1, fun H7 => ∃ k', k' < its.length - j ∧ (k' = its.length - (j + 1) ∧ j + 1 ≤ its.length ∧ ∃ m6 hp6, Ex m5 H5 m6 H7 ∧ HL g m6 H7 hp6 ∧
                    PO g m1 H1 E (rep g) Q ((lcE asg1 cond1 elt (wipeE env' own1) h1.length gd1 (its.drop (j + 1)) hp6).bind fun _ h3 => (lc2E asg cond fi1 own1 asg1 cond1 elt (wipeE env own) h1.length gd (items.drop (i + 1)) h3).bind fun _ h' => outL live h1 h')), fun H7 z => z, fun x7 H7 y7 => ?_⟩
                  obtain ⟨d7, ed7, xe7, hl7, rd7⟩ := fo1.yld j m6 H6 hp6 x7 H7 hlt1 x6 hl6 hgd1 y7
                  rw [List.getElem?_eq_getElem hlt1] at ed7
                  cases ed7
                  split at po
                  · rename_i env7 easg7
                    have erw7 : ER g m6 H7 (L2.wipe σ' own1) (wipeE env' own1) := er5.ext (x6.trans xe7)
                    refine hg1 x7 (L2.wipe σ' own1) H7 _ m6 (wipeE env' own1) hp6 _ hl7 erw7 rd7 ⟨env7, easg7, fun σ7 tn7 er7 => ?_⟩
                    refine ⟨by rw [wipe_turned tn7 hsub1, wipe_wipe], ?_⟩
                    rw [R.bind_assoc] at po
                    refine ht1 σ7 H7 _ m6 env7 hp6 hl7 er7 (PO.nx (E := E) (PO.bindB po (xm6.trans xe7) fun b h8 m8 H8 v8 x8 hl8 r8 po => ?_))
                    cases (show b = v8 from r8)
                    cases b with
                    | true =>
                      rw [if_pos rfl] at po ⊢
                      rw [R.bind_assoc] at po
                      refine he σ7 H8 _ m8 env7 h8 hl8 (er7.ext x8) (PO.nx (E := E) (PO.bindB po ((xm6.trans xe7).trans x8) fun y' h9 m9 H9 v9 x9 hl9 r9 po => ?_))
                      rw [R.bind_assoc] at po
                      unfold appL at po
                      split at po
                      · rename_i acc eacc
                        split at po
                        · rename_i hz
                          obtain ⟨b, eb, vs, hb, rs⟩ := hl9.at eacc (by simp)
                          have x99 := ((x6.trans xe7).trans (x8.trans x9))
                          obtain rfl := eD (x05.trans x99) eb
                          refine ⟨vs, hb, by rw [← reps.length rs]; exact hz, ?_⟩
                          obtain ⟨xA, hlA⟩ := hl9.write (u := .lst (vs ++ [v9])) (ob' := .lst (acc ++ [y'])) eb eacc (by simp) fun xA => ⟨vs ++ [v9], upd_same, reps.ext xA _ _ (reps.append rs (by simp only [reps]; exact ⟨v9, [], rfl, r9, rfl⟩))⟩
                          exact ⟨its.length - (j + 1), by omega, rfl, hlt1, m9, _, x99.trans xA, hlA, po⟩
                        · exact po.elim
                      · exact po.elim
                    | false =>
                      rw [if_neg Bool.false_ne_true] at po ⊢
                      exact ⟨its.length - (j + 1), by omega, rfl, hlt1, m8, h8, (x6.trans xe7).trans x8, hl8, po⟩
                  · exact po.elim
                · rw [if_neg hgd1] at po
                  exact po.elim
              · have e : j = its.length := by omega
                subst e
                rw [List.drop_length] at po
                unfold lcE at po
                by_cases hgd1 : Gd gd1 hp6
                · rw [if_pos hgd1] at po
                  exact .inl ⟨fo1.stop m6 H6 hp6 x6 hl6 hgd1, items.length - (i + 1), by omega, rfl, hlt, m6, hp6, x05.trans x6, hl6, po⟩
                · rw [if_neg hgd1] at po
                  exact po.elim
        · exact po.elim
      · rw [if_neg hgd] at po
        exact po.elim
    · have e : i = items.length := by omega
      subst e
      rw [List.drop_length] at po
      unfold lc2E at po
      by_cases hgd : Gd gd hp'
      · rw [if_pos hgd] at po
        refine .inl ⟨fo.stop m' H' hp' xm1 hl' hgd, ?_⟩
        have po : PO g m1 H1 E (rep g) Q (outL live h1 hp') := po
        have rr : rep g m' H' (.ref h1.length) (.ref D) := by
          simp only [rep]
          refine ⟨Nat.lt_of_lt_of_le (by simp [hl1.len]) x'.le, fun a ea => ?_⟩
          rw [eD x' ea]
        unfold outL at po
        cases live with
        | true =>
          rw [if_pos rfl] at po
          exact po m' H' _ xm1 hl' rr
        | false =>
          rw [if_neg Bool.false_ne_true] at po
          exact PO.pure_ hl1 xm1 hl' rr po
      · rw [if_neg hgd] at po
        exact po.elim
structure LCV2 (g : G) (X : Cx) (E : XK) (elt tg it : Expr) (ifs : List Expr) (tg1 it1 : Expr) (ifs1 : List Expr) (scope : Scope) (own : List (Str × Nat)) (vs1 : List Nat) (f : Bool → M D) : Prop where
  ok : BlkOk X.N X.env.scope scope own
  hv : ∀ i ∈ vs1, i ∈ own.map (·.2)
  ex : ∃ wi gt tt wi1 gt1 tt1 te, PI X tg it wi ∧ (∀ s H C cl fp, PG (Blk X scope s H C cl fp) tg gt) ∧ (∀ s H C cl fp, PTs (Blk X scope s H C cl fp) ifs tt) ∧
    (∀ s H C cl fp, PI (Blk X scope s H C cl fp) tg1 it1 wi1) ∧ (∀ s H C cl fp, PG (Blk X scope s H C cl fp) tg1 gt1) ∧ (∀ s H C cl fp, PTs (Blk X scope s H C cl fp) ifs1 tt1) ∧ (∀ s H C cl fp, PE (Blk X scope s H C cl fp) elt te) ∧
    ∀ live σ H Q m env hp, HL g m H hp → ER g m H σ env → PO g m H E (rep g) Q (f live env hp) → tLc2 wi gt tt wi1 gt1 tt1 te (own.map (·.2)) vs1 σ H Q
theorem PI.weak {tg e : Expr} {t t' : TI} (h : PI X tg e t) (w : ∀ σ H R, t' σ H R → t σ H R) : PI X tg e t' := ⟨fun pins s σ H R I q => h.run pins s σ H R I (w σ H R q)⟩
theorem LCV2.mk' {elt tg it tg1 it1 : Expr} {ifs ifs1 : List Expr} {scope : Scope} {own : List (Str × Nat)} {vs1 is is1 : List Nat} {fi fi1 : IM} {asg asg1 : TF} {cond cond1 : M Bool} {fe : M D}
    (ok : blkC X.N X.env.scope scope own = true) (hv : ∀ i ∈ vs1, i ∈ own.map (·.2)) (hi : IV g X E tg it fi) (hg : ∀ s H C cl fp, GV g (Blk X scope s H C cl fp) tg is asg) (ht : ∀ s H C cl fp, CV1 g (Blk X scope s H C cl fp) ifs cond)
    (hi1 : ∀ s H C cl fp, IV g (Blk X scope s H C cl fp) E0 tg1 it1 fi1) (hg1 : ∀ s H C cl fp, GV g (Blk X scope s H C cl fp) tg1 is1 asg1) (ht1 : ∀ s H C cl fp, CV1 g (Blk X scope s H C cl fp) ifs1 cond1)
    (he : ∀ s H C cl fp, EV g (Blk X scope s H C cl fp) E0 elt fe) (hs : ∀ i ∈ is, i ∈ own.map (·.2)) (hs1 : ∀ i ∈ is1, i ∈ vs1) : LCV2 g X E elt tg it ifs tg1 it1 ifs1 scope own vs1 (fun live => mLc2 live fi (own.map (·.2)) asg cond fi1 vs1 asg1 cond1 fe) := by
  obtain ⟨wi, pi, qi⟩ := hi
  refine ⟨blkOk_by ok, hv, wi, fun v σ H Q => ∀ s H' C cl fp, Classical.choose (hg s H' C cl fp).ex v σ H Q, fun σ H Q => ∀ s H' C cl fp, Classical.choose (ht s H' C cl fp).ex σ H Q,
    fun σ H Q => ∀ s H' C cl fp, Classical.choose (hi1 s H' C cl fp).ex σ H Q, fun v σ H Q => ∀ s H' C cl fp, Classical.choose (hg1 s H' C cl fp).ex v σ H Q, fun σ H Q => ∀ s H' C cl fp, Classical.choose (ht1 s H' C cl fp).ex σ H Q,
    fun σ H Q => ∀ s H' C cl fp, Classical.choose (he s H' C cl fp).ex σ H Q, pi, fun s H C cl fp => ?_, fun s H C cl fp => ?_, fun s H C cl fp => ?_, fun s H C cl fp => ?_, fun s H C cl fp => ?_, fun s H C cl fp => ?_, fun live σ H Q m env hp hl er h => ?_⟩
  · exact PG.weak (Classical.choose_spec (hg s H C cl fp).ex).1 fun v σ H' Q q => q s H C cl fp
  · exact PTs.weak (Classical.choose_spec (ht s H C cl fp).ex).1 fun σ H' Q q => q s H C cl fp
  · exact PI.weak (Classical.choose_spec (hi1 s H C cl fp).ex).1 fun σ H' Q q => q s H C cl fp
  · exact PG.weak (Classical.choose_spec (hg1 s H C cl fp).ex).1 fun v σ H' Q q => q s H C cl fp
  · exact PTs.weak (Classical.choose_spec (ht1 s H C cl fp).ex).1 fun σ H' Q q => q s H C cl fp
  · exact PE.weak (Classical.choose_spec (he s H C cl fp).ex).1 fun σ H' Q q => q s H C cl fp
  · refine lc2_sem live qi (fun v σ H Q m env hp d hl er r h s H' C cl fp => ?_) (fun σ H Q m env hp hl er h s H' C cl fp => ?_) (fun σ H Q m env hp hl er h s H' C cl fp => ?_) (fun v σ H Q m env hp d hl er r h s H' C cl fp => ?_) (fun σ H Q m env hp hl er h s H' C cl fp => ?_) (fun σ H Q m env hp hl er h s H' C cl fp => ?_) hs hs1 hl er h
    · exact (Classical.choose_spec (hg s H' C cl fp).ex).2 v σ H Q m env hp d hl er r h
    · exact (Classical.choose_spec (ht s H' C cl fp).ex).2 σ H Q m env hp hl er h
    · exact (Classical.choose_spec (hi1 s H' C cl fp).ex).2 σ H Q m env hp hl er h
    · exact (Classical.choose_spec (hg1 s H' C cl fp).ex).2 v σ H Q m env hp d hl er r h
    · exact (Classical.choose_spec (ht1 s H' C cl fp).ex).2 σ H Q m env hp hl er h
    · exact (Classical.choose_spec (he s H' C cl fp).ex).2 σ H Q m env hp hl er h
theorem EV.lc2 {elt tg it tg1 it1 : Expr} {ifs ifs1 : List Expr} {scope : Scope} {own : List (Str × Nat)} {vs1 : List Nat} {pos : Pos} {f : Bool → M D} (live : Bool) (hc : X.calm = true) (hN : X.N.Nodup) (h : LCV2 g X E elt tg it ifs tg1 it1 ifs1 scope own vs1 f)
    (hs : ∀ x, foldedSetIterable it X.env x = pure x) (hs1 : ∀ env x, foldedSetIterable it1 env x = pure x) :
    EV g X E (.ListComp elt [⟨tg, it, ifs, 0⟩, ⟨tg1, it1, ifs1, 0⟩] scope pos) (f live) := by
  obtain ⟨ok, hv, wi, gt, tt, wi1, gt1, tt1, te, p1, p2, p3, p4, p5, p6, p7, q⟩ := h
  exact ⟨_, pe_lc2 hc hN p1 ok hv p2 p3 p4 p5 p6 p7 hs hs1, fun σ H Q m env hp hl er h => q live σ H Q m env hp hl er h⟩
theorem SV.setLc2 {i : Nat} {y : Str} {py : Pos} {elt tg it tg1 it1 : Expr} {ifs ifs1 : List Expr} {scope : Scope} {own : List (Str × Nat)} {vs1 : List Nat} {pos spos : Pos} {f : Bool → M D} (live : Bool) (hc : X.calm = true) (hN : X.N.Nodup) (h : LCV2 g X E elt tg it ifs tg1 it1 ifs1 scope own vs1 f)
    (hy : X.N[i]? = some y) (hyl : X.env.scope.names.lookup y = some .local) (hsw : swapsWith (.ListComp elt [⟨tg, it, ifs, 0⟩, ⟨tg1, it1, ifs1, 0⟩] scope pos) (some (.Name y py)) spos.line X.env = pure true)
    (hs : ∀ x, foldedSetIterable it X.env x = pure x) (hs1 : ∀ env x, foldedSetIterable it1 env x = pure x) :
    SV g X E (.Assign [.Name y py] (.ListComp elt [⟨tg, it, ifs, 0⟩, ⟨tg1, it1, ifs1, 0⟩] scope pos) spos) (sAsg (f live) (gNm i)) := by
  obtain ⟨ok, hv, wi, gt, tt, wi1, gt1, tt1, te, p1, p2, p3, p4, p5, p6, p7, q⟩ := h
  refine ⟨_, ps_setLc2 hc hN hy hyl hsw p1 ok hv p2 p3 p4 p5 p6 p7 hs hs1, fun K σ H m env hp hl er h => ?_⟩
  refine q live σ H _ m env hp hl er (SPO.bind h fun x h1 m1 H1 v x1 hl1 r1 h => ?_)
  exact h m1 H1 _ (.refl _ _) hl1 ((er.ext x1).set r1)
end
/-! its value -/
theorem lc2E_flat (asg : TF) (it1 : IM) (own1 : List Nat) (asg1 : TF) (elt : M D) (envw : EN) (h : HP) (L : D → List D) (F : D → D → D) : ∀ (items : List D) (acc : List D), acc.length + (items.flatMap L).length ≤ sizeLine →
    (∀ d ∈ items, ∀ h' : HP, ∃ e, asg d envw h' = some e ∧ it1 e h' = .ok (L d, []) h' ∧ ∀ d1 ∈ L d, ∀ h'' : HP, ∃ e1, asg1 d1 (wipeE e own1) h'' = some e1 ∧ elt e1 h'' = .ok (F d d1) h'') →
    lc2E asg cYes it1 own1 asg1 cYes elt envw h.length [] items (h ++ [.lst acc]) = .ok () (h ++ [.lst (acc ++ items.flatMap fun d => (L d).map (F d))])
  | [], acc, _, _ => by
    unfold lc2E
    rw [if_pos (by simp [Gd])]
    simp
  | d :: ds, acc, hz, H => by
    unfold lc2E
    rw [if_pos (by simp [Gd])]
    obtain ⟨e, e1, e2, e3⟩ := H d (List.mem_cons_self ..) (h ++ [.lst acc])
    have hz' : acc.length + (L d).length + (ds.flatMap L).length ≤ sizeLine := by
      simp only [List.flatMap_cons, List.length_append] at hz
      omega
    simp only [e1, cYes, R.nx, R.bind, if_true, e2]
    rw [lcE_map asg1 cYes elt (wipeE e own1) h (F d) (fun _ => true) (L d) acc (by omega) fun d1 h1 h' => let ⟨e1, a, b⟩ := e3 d1 h1 h'; ⟨e1, a, rfl, fun _ => b⟩, List.filter_eq_self.mpr (fun _ _ => rfl)]
    simp only [R.bind]
    rw [lc2E_flat asg it1 own1 asg1 elt envw h L F ds (acc ++ (L d).map (F d)) (by simp only [List.length_append, List.length_map]; omega) fun d' hd h' => H d' (List.mem_cons_of_mem _ hd) h']
    simp [List.append_assoc]
theorem mLc2_flat {it it1 : IM} {own own1 : List Nat} {asg asg1 : TF} {elt : M D} {env : EN} {h h1 : HP} {items : List D} (L : D → List D) (F : D → D → D) (hi : it env h = .ok (items, []) h1) (hz : (items.flatMap L).length ≤ sizeLine)
    (H : ∀ d ∈ items, ∀ h' : HP, ∃ e, asg d (wipeE env own) h' = some e ∧ it1 e h' = .ok (L d, []) h' ∧ ∀ d1 ∈ L d, ∀ h'' : HP, ∃ e1, asg1 d1 (wipeE e own1) h'' = some e1 ∧ elt e1 h'' = .ok (F d d1) h'') (c : ∀ d ∈ items, ∀ d1 ∈ L d, clean (F d d1)) :
    mLc2 false it own asg cYes it1 own1 asg1 cYes elt env h = .ok (.lst (items.flatMap fun d => (L d).map (F d))) h1 := by
  unfold mLc2
  rw [hi]
  simp only [R.bind]
  rw [lc2E_flat asg it1 own1 asg1 elt _ h1 L F items [] (by simpa using hz) H]
  simp only [List.nil_append, outL, if_neg Bool.false_ne_true]
  exact pure_list h1 (by
    intro d hd
    obtain ⟨x, hx, hd⟩ := List.mem_flatMap.mp hd
    obtain ⟨y, hy, rfl⟩ := List.mem_map.mp hd
    exact c x hx y hy)
end Ev
namespace EvS
open PySem PySem.Spec PyProof.Rows L2
section
variable {prog : Program} {w : World} {A : Around} {R : Result → Shared → Prop} {I : Addr} {fp wr : List Addr} {n : Nat} {P : Nat → Value → Prop} {St : Nat → Heap → Prop}
/-- all over things whose truth stands in the heap -/
theorem allH_loop (h0 : Heap) (W : Walks prog w A.in1 I fp wr n P St) (tr : Nat → Bool)
    (ht : ∀ i v (s : Shared) (Q : Bool → Shared → Prop) (E : Value → Shared → Prop), P i v → (∀ b o, b ∉ wr → h0.get? b = some o → s.heap.get? b = some o) → (∀ t', Q (tr i) { s with toks := t' }) → wpAny (model prog w) A.in1 (truthy v) Q E s) :
    ∀ (k i : Nat) (s : Shared), n - i = k → i ≤ n → St i s.heap → (∀ b o, b ∉ wr → h0.get? b = some o → s.heap.get? b = some o) →
      (∀ h' tk, (∀ b o, b ∉ wr → s.heap.get? b = some o → h'.get? b = some o) → R (.ok (.ret (.bool (((List.range n).drop i).all tr)))) { s with heap := h', toks := tk }) →
      codeAny (model prog w) A (.builtin "all.loop" ⟨[.ref I], []⟩) R s := by
  intro k
  induction k with
  | zero =>
    intro i s hk hi st kp hR
    have e : i = n := by omega
    subst e
    refine codeAny_builtin F.entry_all_loop ?_; rw [Around.under_plainId F.plain_all_loop _]
    show wpAny _ A.in1 (pyNext (.ref I) >>= _) _ _ s; refine wpAny_bind (W.done s _ _ st fun h' tk hk' => ?_); refine wpAny_bind (wpAny_rule (wpAny_pure ?_))
    have z := hR h' tk hk'
    rw [List.drop_of_length_le (by simp)] at z
    exact z
  | succ k ih =>
    intro i s hk hi st kp hR
    have hlt : i < n := by omega
    have hd : (List.range n).drop i = i :: (List.range n).drop (i + 1) := by rw [List.drop_eq_getElem_cons (by simpa using hlt)]; simp
    refine codeAny_builtin F.entry_all_loop ?_; rw [Around.under_plainId F.plain_all_loop _]
    show wpAny _ A.in1 (pyNext (.ref I) >>= _) _ _ s; refine wpAny_bind (W.item i s _ _ hlt st fun v h' tk hP st' hk' => ?_)
    have kp' : ∀ b o, b ∉ wr → h0.get? b = some o → h'.get? b = some o := fun b o nb e => hk' b o nb (kp b o nb e)
    refine wpAny_bind (wpAny_holding (ht i v _ _ _ hP kp' fun t' => ?_)); refine wpAny_bind (wpAny_letGo ?_)
    cases hb : tr i with
    | true =>
      simp only [if_true]; refine wpAny_pure ⟨plainId_quiet F.plain_all_loop _, ih (i + 1) _ (by omega) hlt st' kp' fun h'' tk'' hk'' => ?_⟩
      have z := hR h'' tk'' fun b o nb e => hk'' b o nb (hk' b o nb e)
      rw [hd, List.all_cons, hb, Bool.true_and] at z
      exact z
    | false =>
      simp only [Bool.false_eq_true, if_false]; refine wpAny_bind (wpAny_rule (wpAny_pure ?_))
      have z := hR h' t' hk'
      rw [hd, List.all_cons, hb, Bool.false_and] at z
      exact z
end
section
variable {X : Cx}
def rAllT (K : PySem.W.Frag) : List V → Hp → VK → Prop := fun vs H Q => ∃ (a : Addr) (xs : List V) (bs : List Bool), vs = [V.ref a] ∧ SqL K H a xs ∧ xs.length = bs.length ∧ (∀ (i : Nat) (x : V), xs[i]? = some x → ∃ p ys, x = V.ref p ∧ SqT K H p ys ∧ bs[i]? = some (!ys.isEmpty)) ∧ Q (.bl (bs.all id)) H
theorem cr_allT (hc : X.calm = true) : CallR X (.builtin "all") (rAllT X.K) := by
  intro pins s σ H vs us Q I r h
  obtain ⟨a, xs, bs, rfl, hs, hlen, hb, q⟩ := h
  obtain ⟨its, rv, hl, _⟩ := I.list hs
  rw [Vals.ref1 r]
  have hh := I.ok.hd hc
  refine PySem.call_function_tree F.kind_all F.plain_all F.entry_all (F.args_all1 _) ?_
  unfold Builtin.«all»
  refine wpAny_bind (m := oneArg "all" _) (wpAny_pure ?_)
  refine wpAny_bind (iter_any hl.isList fun s₂ e2 st hne => ?_)
  subst e2
  have kp0 : ∀ b o, b ∉ [s.heap.objs.size] → s.heap.get? b = some o → (s.heap.push { cls := .type "list_iterator", data := .fields #[.ref a, .int 0 0] }).get? b = some o := fun b o _ e => Heap.get?_push_of_some _ e
  refine wpAny_pure ⟨plainId_quiet F.plain_all_loop _, allH_loop (A := X.A) s.heap (Walks.list (A := X.A.in1) hh _ a hne its.toArray) (fun i => bs.getD i false) (fun i v s2 Q E hP kp hq => ?_) its.toArray.size 0 _ (by omega) (Nat.zero_le _) st kp0 fun h' tk hk => ?_⟩
  · have hv : its[i]? = some v := by simpa using hP
    have hi : i < its.length := (List.getElem?_eq_some_iff.mp hv).1
    have hi' : i < xs.length := by rw [rv.length]; exact hi
    obtain ⟨p, ys, ex, sq, eb⟩ := hb i _ (List.getElem?_eq_getElem hi')
    obtain ⟨u, eu, ru⟩ := rv.get (List.getElem?_eq_getElem hi')
    rw [hv] at eu
    cases eu
    rw [ex] at ru
    cases ru
    obtain ⟨its2, r2, pl, hz⟩ := I.tuple sq
    have hl2 := r2.length
    have zz := sizeLine_eq
    obtain ⟨o, e, c, n, d⟩ := pl
    have ne : p ∉ [s.heap.objs.size] := fun m => by
      rw [List.mem_singleton.mp m] at e
      exact absurd (Heap.lt_size e) (Nat.lt_irrefl _)
    have pl2 : IsTup s2.heap p its2.toArray := ⟨o, kp p o ne e, c, n, d⟩
    have eg : bs.getD i false = !ys.isEmpty := by rw [List.getD_eq_getElem?_getD, eb]; rfl
    refine truthy_tuple pl2 (by simp only [List.size_toArray]; omega) ?_
    have hq := hq (s2.toks + 1 + 1)
    rw [eg] at hq
    rw [isEmpty_of r2]
    exact hq
  · rw [List.drop_zero]
    refine ⟨.bl _, H, I.kept fun b o eo => hk b o (fun hmem => ?_) (Heap.get?_push_of_some _ eo), ?_, q⟩
    · have e1 := List.mem_singleton.mp hmem
      exact absurd (e1 ▸ Heap.lt_size eo) (Nat.lt_irrefl _)
    · show Value.bool _ = Value.bool _
      rw [← L2.all_range, List.size_toArray, ← rv.length, hlen]
end

/-! set(..) of ints -/
section
variable {P : Program} {w : World} {A : Around} {E : Value → Shared → Prop} {s : Shared}
abbrev freshS (w : World) : Obj := { cls := .type "set", dict := none, data := .set #[] 0 (.fresh 0 0 (!w.params.followText "set-order")) }
set_option maxHeartbeats 3200000 in
theorem call_set_lstI {l : Addr} {items : Array Value} (ns : List Int) {Q : Value → Shared → Prop} (hh : A.handled = none) (hl : s.heap.IsList l items) (hit : IntsAre items.toList ns) (hb : ns.length + 1 < scanBound)
    (h : ∀ (h' : Heap) (tk c : Nat), SetR w h' s.heap.objs.size (fun j => decide (j ∈ ns)) c → c ≤ ns.length → (∀ b o, s.heap.get? b = some o → h'.get? b = some o) → Q (.ref s.heap.objs.size) { s with heap := h', toks := tk }) :
    wpAny (model P w) A (call (.type "set") [.ref l]) Q E s := by
  have hisz : items.size = ns.length := by have q := IntsAre.length hit; rw [Array.length_toList] at q; exact q
  obtain ⟨c, tl, hmro⟩ := F.called_set.mro; have hmade := F.called_set.made; have hsub := F.called_set.sub
  refine wpAny_call (codeAny_of_tree ?_); show wpAny _ _ (callAny (.type "set") _) _ _ _
  refine wpAny_pure ⟨Code.quiet_builtin _ (by decide +kernel), codeAny_builtin F.entry_type_call ?_⟩; rw [Around.under_plain (weight_type_call_type "set" [.ref l] []) rfl]
  have h1 := F.called_set.notType; have h2 := F.called_set.canCreate; have hct := F.typeCall_set_1 (.ref l); repeat (any_goals (first | assumption | wp_step))
  refine codeAny_mono (code_set_led1 (.ref l) (E := E) (Q₁ := fun obj s₁ => obj = .ref s.heap.objs.size ∧ s₁ = { s with heap := s.heap.push (freshS w) }) ⟨rfl, rfl⟩) fun r s₁ hr => ?_
  cases r with
  | error e => exact hr
  | ok fl =>
    cases fl with
    | ret obj =>
      obtain ⟨rfl, rfl⟩ := hr
      have hS : (s.heap.push (freshS w)).get? s.heap.objs.size = some (freshS w) := Heap.get?_push_size _ rfl
      have hT : Shared.TypeIs { s with heap := s.heap.push (freshS w) } (.ref s.heap.objs.size) "set" := ⟨_, hS, rfl⟩
      have hli := F.called_set.init.lookup; have hbi := F.called_set.init.bind (.ref s.heap.objs.size); repeat (any_goals (first | assumption | wp_step))
      refine codeAny_mono (codeAny_call_builtin (R := wants (fun r s₂ => r = .none ∧ ∃ h' tk c, s₂ = { s with heap := h', toks := tk } ∧ SetR w h' s.heap.objs.size (fun j => decide (j ∈ ns)) c ∧ c ≤ ns.length ∧
          ∀ b o, s.heap.get? b = some o → h'.get? b = some o) E) F.called_set.init.plain F.entry_set_init (check_set_init_1 hT ?_)) fun r₂ s₂ hr₂ => ?_
      · obtain ⟨ol, hol, hcl, nl, hdl⟩ := hl; obtain ⟨ocls, odict, odata, oslots⟩ := ol; simp only at hcl hdl; subst hcl; subst hdl
        have hol' : (s.heap.push (freshS w)).get? l = some { cls := .type "list", dict := odict, data := .seq items nl, slots := oslots } := Heap.get?_push_of_some _ hol
        have hsls := PySem.F.sub_list_set; have hslf := PySem.F.sub_list_frozenset; have hne : (Value.type "list" == Value.type "dict") = false := by decide
        have hl1 : (s.heap.push (freshS w)).IsList l items := ⟨_, hol', rfl, nl, rfl⟩
        unfold Builtin.«set.__init__» noKeywords Builtin.Frozenset.updateFrom
        generalize hPI : pyIter = PI; wp_walk; subst hPI
        refine wpAny_pyIter_list hl1 ?_; refine wpAny_bind (wpAny_runValue ?_)
        have hlS : l < s.heap.objs.size := Heap.lt_size hol
        have hh3 : A.in1.in1.in1.handled = none := by simp [hh]
        have hz1 : (s.heap.push (freshS w)).objs.size = s.heap.objs.size + 1 := Heap.size_push ..
        have hval : ∀ (i : Nat) (v : Value), items[i]? = some v → ∃ k t, ns[i]? = some k ∧ v = .int k t := fun i v hv => by
          have hi : i < ns.length := by rw [← hisz]; exact (Array.getElem?_eq_some_iff.mp hv).1
          obtain ⟨t, e⟩ := PyProof.Rows.IntsAre.int_at hit i v (by rw [Array.getElem?_toList]; exact hv)
          refine ⟨ns[i], t, List.getElem?_eq_getElem hi, ?_⟩; rw [e, List.getD_eq_getElem?_getD, List.getElem?_eq_getElem hi] <;> rfl
        refine set_update_ints ((Walks.list hh3 _ l (by rw [hz1]; exact Nat.ne_of_lt (Nat.lt_succ_of_lt hlS)) items).toS) s.heap.objs.size
          (by rw [hz1]; simp only [List.mem_cons, List.not_mem_nil, or_false, not_or]; exact ⟨Nat.ne_of_lt (Nat.lt_succ_self _), Nat.ne_of_gt hlS⟩) ns hisz hb hval (items.size - 0) 0 _ (by omega) (Nat.zero_le _)
          ⟨⟨_, Heap.get?_push_size _ rfl, rfl, rfl⟩, hl1.push _⟩ ⟨0, Nat.le_refl 0, setR_new_at (Heap.get?_push_of_some _ hS)⟩ ?_
        intro s' c' hm hc' hS'
        obtain ⟨h', g2, d', tk', os'⟩ := s'
        have eg : g2 = s.gens := hm.gens; have ed : d' = s.drawn := hm.drawn; have eo : os' = s.os := hm.os; subst eg; subst ed; subst eo
        show wpAny _ _ _ _ _ _; refine wpAny_pure ?_; show wpAny _ _ (ret Value.none) _ _ _; rw [hisz] at hc'
        refine wpAny_pure ⟨rfl, h', tk', c', rfl, hS', hc', fun b o e => ?_⟩
        have hb0 : b < s.heap.objs.size := Heap.lt_size e
        exact hm.heap b o (by simp only [List.mem_cons, List.not_mem_nil, or_false, not_or]; exact ⟨Nat.ne_of_lt hb0, by rw [hz1]; exact Nat.ne_of_lt (Nat.lt_succ_of_lt hb0)⟩) (Heap.get?_push_of_some _ (Heap.get?_push_of_some _ e))
      · cases r₂ with
        | error e => exact hr₂
        | ok fl₂ =>
          cases fl₂ with
          | ret r =>
            obtain ⟨rfl, h', tk, c', rfl, hS', hc', hk'⟩ := hr₂
            repeat (any_goals (first | assumption | wp_step))
            exact h _ _ _ hS' hc' hk'
          | _ => exact hr₂.elim
    | _ => exact hr.elim
end
end EvS
namespace EvS
open PySem PySem.Spec PyProof.Rows L2 EvZ
/-! the members in order, each once -/
def ins1 (k : Int) : List Int → List Int
  | [] => [k]
  | x :: xs => if k < x then k :: x :: xs else if k = x then x :: xs else x :: ins1 k xs
def srt : List Int → List Int
  | [] => []
  | k :: ks => ins1 k (srt ks)
theorem mem_ins1 {j k : Int} : ∀ {xs : List Int}, j ∈ ins1 k xs ↔ j = k ∨ j ∈ xs
  | [] => by simp [ins1]
  | x :: xs => by
    unfold ins1
    split
    · simp
    · split
      · rename_i e
        subst e
        simp
      · simp only [List.mem_cons, mem_ins1 (xs := xs)]
        constructor
        · rintro (h | h | h) <;> simp [h]
        · rintro (h | h | h) <;> simp [h]
theorem mem_srt {j : Int} : ∀ {xs : List Int}, j ∈ srt xs ↔ j ∈ xs
  | [] => by simp [srt]
  | x :: xs => by
    unfold srt
    rw [mem_ins1, mem_srt (xs := xs), List.mem_cons]
theorem ins1_pw {k : Int} : ∀ {xs : List Int}, xs.Pairwise (· < ·) → (ins1 k xs).Pairwise (· < ·)
  | [], _ => by simp [ins1]
  | x :: xs, h => by
    unfold ins1
    have h2 := List.pairwise_cons.mp h
    split
    · rename_i c
      refine List.pairwise_cons.mpr ⟨fun y hy => ?_, h⟩
      rcases List.mem_cons.mp hy with rfl | hy
      · exact c
      · exact Int.lt_trans c (h2.1 y hy)
    · split
      · exact h
      · refine List.pairwise_cons.mpr ⟨fun y hy => ?_, ins1_pw h2.2⟩
        rcases mem_ins1.mp hy with rfl | hy
        · omega
        · exact h2.1 y hy
theorem srt_pw : ∀ {xs : List Int}, (srt xs).Pairwise (· < ·)
  | [] => by simp [srt]
  | x :: xs => by
    unfold srt
    exact ins1_pw srt_pw
theorem pw_same : ∀ {xs ys : List Int}, xs.Pairwise (· < ·) → ys.Pairwise (· < ·) → (∀ j, j ∈ xs ↔ j ∈ ys) → xs = ys
  | [], [], _, _, _ => rfl
  | [], y :: ys, _, _, h => absurd ((h y).mpr (by simp)) (by simp)
  | x :: xs, [], _, _, h => absurd ((h x).mp (by simp)) (by simp)
  | x :: xs, y :: ys, h1, h2, h => by
    have a1 := List.pairwise_cons.mp h1
    have a2 := List.pairwise_cons.mp h2
    have e : x = y := by
      rcases List.mem_cons.mp ((h x).mp (by simp)) with e | m
      · exact e
      · rcases List.mem_cons.mp ((h y).mpr (by simp)) with e | m2
        · exact e.symm
        · have := a2.1 x m
          have := a1.1 y m2
          omega
    subst e
    congr 1
    refine pw_same a1.2 a2.2 fun j => ⟨fun m => ?_, fun m => ?_⟩
    · rcases List.mem_cons.mp ((h j).mp (List.mem_cons_of_mem _ m)) with e | m2
      · have := a1.1 j m
        omega
      · exact m2
    · rcases List.mem_cons.mp ((h j).mpr (List.mem_cons_of_mem _ m)) with e | m2
      · have := a2.1 j m
        omega
      · exact m2
theorem nodup_le : ∀ {xs ys : List Int}, xs.Nodup → (∀ j ∈ xs, j ∈ ys) → xs.length ≤ ys.length
  | [], _, _, _ => Nat.zero_le _
  | x :: xs, ys, h, k => by
    obtain ⟨h1, h2⟩ := List.nodup_cons.mp h
    have m := k x (by simp)
    have := nodup_le (xs := xs) (ys := ys.erase x) h2 fun j hj => (List.mem_erase_of_ne (by intro e; subst e; exact h1 hj)).mpr (k j (List.mem_cons_of_mem _ hj))
    have e := List.length_erase_of_mem m
    have : 0 < ys.length := List.length_pos_of_mem m
    simp only [List.length_cons]
    omega
section
variable {X : Cx}
/-- set(x) of ints, x a list or a tuple -/
def rSetI (K : PySem.W.Frag) : List V → Hp → VK → Prop := fun vs H Q => ∃ (a : Addr) (ns : List Int), vs = [V.ref a] ∧ (SqL K H a (ns.map V.int) ∨ SqT K H a (ns.map V.int)) ∧ ns.length ≤ 1000 ∧ ∀ p n, H p = none → Q (.ref p) (upd H p (.set (fun j => decide (j ∈ ns)) n))
theorem cr_setI (hc : X.calm = true) : CallR X (.type "set") (rSetI X.K) := by
  intro pins s σ H vs us Q I r h
  obtain ⟨a, ns, rfl, hs, hl, q⟩ := h
  rw [Vals.ref1 r]
  have hn := I.hok.fresh (Nat.le_refl s.heap.objs.size)
  have fin : ∀ (h' : Heap) (tk c : Nat), SetR X.w h' s.heap.objs.size (fun j => decide (j ∈ ns)) c → c ≤ ns.length → (∀ b o, s.heap.get? b = some o → h'.get? b = some o) → EP X pins σ Q (.ref s.heap.objs.size) { s with heap := h', toks := tk } := fun h' tk c R1 hcn k =>
    ⟨.ref s.heap.objs.size, _, I.laid (t' := tk) k (Nat.le_refl _) (show ObjOk X.prog X.w _ h' s.heap.objs.size (.set (fun j => decide (j ∈ ns)) c) from R1.setOf), rfl, q _ c hn⟩
  rcases hs with hs | hs
  · obtain ⟨its, rv, pl, hz⟩ := I.list hs
    exact call_set_lstI ns (I.ok.hd hc) pl.isList (by simpa using ints_of_vals rv) (by unfold scanBound; omega) fin
  · obtain ⟨its, rv, pt, hz⟩ := I.tuple hs
    exact call_set_tupI ns (I.ok.hd hc) (show s.heap.IsTuple a its.toArray from pt) (by simpa using ints_of_vals rv) (by unfold scanBound; omega) fin
/-- the same, ahead of sorted: a list -/
def rSetS (K : PySem.W.Frag) (w : World) : List V → Hp → VK → Prop := fun vs H Q => ∃ (a : Addr) (ns : List Int), vs = [V.ref a] ∧ SqL K H a (ns.map V.int) ∧ ns.length ≤ 1000 ∧ ∀ p n, H p = none → n ≤ (srt ns).length → Q (.ref p) (upd H p (SetO w p (fun j => decide (j ∈ ns)) n))
theorem cr_setS (hc : X.calm = true) : CallR X (.type "set") (rSetS X.K X.w) := by
  intro pins s σ H vs us Q I r h
  obtain ⟨a, ns, rfl, hs, hl, q⟩ := h
  rw [Vals.ref1 r]
  obtain ⟨its, rv, pl, hz⟩ := I.list hs
  refine call_set_lstI ns (I.ok.hd hc) pl.isList (by simpa using ints_of_vals rv) (by unfold scanBound; omega) fun h' tk c R1 hcn k => ?_
  have hc2 : c ≤ (srt ns).length := by
    have R2 := R1
    obtain ⟨o, es, ep, t, _, _, _, _, nd, hm, _, _, e, _⟩ := R2
    have := nodup_le nd fun j hj => mem_srt.mpr (decide_eq_true_eq.mp ((hm j).mpr hj))
    rw [List.length_map, Array.length_toList, e] at this
    exact this
  exact ⟨.ref s.heap.objs.size, _, I.laid (t' := tk) k (Nat.le_refl _) (setO_new R1), rfl, q _ c (I.hok.fresh (Nat.le_refl _)) hc2⟩
def rSetIn (neg : Bool) : V → V → Hp → VK → Prop := fun x y H Q => ∃ (k : Int) (a : Addr) (S : Int → Bool) (n : Nat), x = V.int k ∧ y = V.ref a ∧ H a = some (.set S n) ∧ Q (.bl (if neg then !(S k) else S k)) H
theorem op_sin : OpR X (compareOp .In) (rSetIn false) := by
  intro pins s σ H x y v u Q I rx ry h
  obtain ⟨k, a, S, n, rfl, rfl, ha, q⟩ := h
  obtain ⟨tk, rfl⟩ := rx
  cases ry
  exact wpAny_inSet_of (intKind_is _ _ _ _) rfl (show s.heap.SetOf (intKind X.prog X.w) a S n from I.hok a _ ha) ⟨.bl (S k), H, I.tok _, rfl, q⟩
theorem op_snotin : OpR X (compareOp .NotIn) (rSetIn true) := by
  intro pins s σ H x y v u Q I rx ry h
  obtain ⟨k, a, S, n, rfl, rfl, ha, q⟩ := h
  obtain ⟨tk, rfl⟩ := rx
  cases ry
  exact wpAny_notInSet_of (intKind_is _ _ _ _) rfl (show s.heap.SetOf (intKind X.prog X.w) a S n from I.hok a _ ha) ⟨.bl (!S k), H, I.tok _, rfl, q⟩
end
end EvS
namespace Ev
open PySem PySem.Spec PyProof.Rows L2 EvS
section
variable {g : G} {X : Cx} {E : XK}
@[simp] def setN : Option (List Int) → HP → R D
  | some ns, h => if ns.length ≤ 1000 then .ok (.set ns) h else .stuck
  | none, _ => .stuck
@[simp] def setD1 : Option (List D) → HP → R D
  | some es, h => setN (intsD es) h
  | none, _ => .stuck
@[simp] def bSet : List D → HP → R D
  | [x], h => setD1 (seqD h x) h
  | _, _ => .stuck
theorem cv_set (hK : X.K = g.K) (hc : X.calm = true) : CV X g E (.type "set") bSet := by
  refine ⟨_, cr_setI hc, fun m H hp ds vs Q hl r h => ?_⟩
  rw [hK]
  unfold bSet at h
  split at h
  · unfold setD1 at h
    split at h
    · rename_i es e
      unfold setN at h
      split at h
      · rename_i ns en
        split at h
        · rename_i c
          obtain ⟨v, rfl, rr⟩ := reps1 r
          obtain ⟨a, us, rfl, hs, rs⟩ := seqD_ok hl rr e
          obtain rfl := intsD_ok rs en
          refine ⟨a, ns, rfl, hs, c, fun p n np => ?_⟩
          obtain ⟨x, hl2, pm⟩ := hl.new (o := .set (fun j => decide (j ∈ ns)) n) np
          exact h m _ _ x hl2 (by simp only [rep]; exact ⟨p, n, rfl, upd_same, pm⟩)
        · exact h.elim
      · exact h.elim
    · exact h.elim
  · exact h.elim
@[simp] def fSIn (neg : Bool) : D → D → HP → R D
  | .int k, .set ks, h => .ok (.bl (if neg then !(decide (k ∈ ks)) else decide (k ∈ ks))) h
  | _, _, _ => .stuck
theorem fSIn_ok {neg : Bool} {m : AM} {H : Hp} {hp : HP} {x y : D} {v u : V} {Q : V → Hp → Prop} (hl : HL g m H hp) (rx : rep g m H x v) (ry : rep g m H y u) (h : PO g m H E (rep g) Q (fSIn neg x y hp)) : rSetIn neg v u H Q := by
  unfold fSIn at h
  split at h
  · rename_i k ks
    obtain rfl := rInt rx
    simp only [rep] at ry
    obtain ⟨a, n, rfl, ha, _⟩ := ry
    exact ⟨k, a, _, n, rfl, rfl, ha, PO.here hl h (by simp [rep])⟩
  · exact h.elim
theorem ok_sin : OKS X g E (compareOp .In) (fSIn false) := ⟨_, op_sin, fun m H hp x y v u Q hl rx ry h => fSIn_ok hl rx ry h⟩
theorem ok_snotin : OKS X g E (compareOp .NotIn) (fSIn true) := ⟨_, op_snotin, fun m H hp x y v u Q hl rx ry h => fSIn_ok hl rx ry h⟩
theorem repsI {m : AM} {H : Hp} : ∀ l : List Int, reps g m H (l.map D.int) (l.map V.int)
  | [] => by simp [reps]
  | x :: l => by
    simp only [List.map_cons, reps]
    exact ⟨_, _, rfl, by simp [rep], repsI l⟩
/-! sorted(set(x)), x a list -/
@[simp] def srtN : Option (List Int) → HP → R D
  | some ns, h => if ns.length ≤ 1000 ∧ (srt ns).length < 64 then .ok (.lst ((srt ns).map D.int)) h else .stuck
  | none, _ => .stuck
@[simp] def srtD1 : Option (List D) → HP → R D
  | some es, h => srtN (intsD es) h
  | none, _ => .stuck
@[simp] def kSortSet (x : D) (h : HP) : R D := srtD1 (asL h x) h
@[simp] def mSortSet (a : M D) (env : EN) (hp : HP) : R D := (a env hp).bind kSortSet
theorem EV.sortSet {e : Expr} {p p2 pos pos2 : Pos} {fa : M D} (hK : X.K = g.K) (hc : X.calm = true) (hm : X.mg "sorted" = none) (hm2 : X.mg "set" = none) (ha : EV g X E e fa) (hg : Gl X "sorted") (hg2 : Gl X "set")
    (he2 : starEach [e] X.env = (false, eval e X.env) :: starEach [] X.env)
    (he : starEach [.Call (.Name "set" p2) [e] [] pos2] X.env = (false, eval (.Call (.Name "set" p2) [e] [] pos2) X.env) :: starEach [] X.env) (hpl : (backTo pos2 (starEach [] X.env)).any (·.1) = false) (hpl2 : (backTo pos (starEach [] X.env)).any (·.1) = false) :
    EV g X E (.Call (.Name "sorted" p) [.Call (.Name "set" p2) [e] [] pos2] [] pos) (mSortSet fa) := by
  obtain ⟨ta, pa, qa⟩ := ha
  refine ⟨_, pe_callB (cr_sortedSet hc) hg hm (by decide +kernel) (pa_cons (pe_callTy (cr_setS hc) hg2 hm2 (by decide +kernel) (pa_cons pa pa_nil he2) (by decide) (by decide) he2 hpl) pa_nil he) (by decide) (by decide) he hpl2, fun σ H Q m env hp hl er h => ?_⟩
  refine qa σ H _ m env hp hl er (PO.bind h fun x h1 m1 H1 v x1 hl1 r1 h => ?_)
  unfold kSortSet srtD1 at h
  rw [hK]
  split at h
  · rename_i es ee
    unfold srtN at h
    split at h
    · rename_i ns en
      split at h
      · rename_i c
        obtain ⟨a, us, rfl, hs, rs⟩ := asL_ok hl1 r1 ee
        obtain rfl := intsD_ok rs en
        refine ⟨a, ns, rfl, hs, c.1, fun p n np hn => ?_⟩
        obtain ⟨x2, hl2, pm⟩ := hl1.new (o := SetO X.w p (fun j => decide (j ∈ ns)) n) np
        refine ⟨p, _, n, rfl, upd_same, by omega, fun ms q pw hm hl3 nq => ?_⟩
        have e : ms = srt ns := pw_same pw srt_pw fun j => by rw [hm j, decide_eq_true_eq, mem_srt]
        subst e
        obtain ⟨x3, hl4, pm3⟩ := hl2.new (o := .lst ((srt ns).map V.int)) nq
        refine h m1 _ _ (x2.trans x3) hl4 ?_
        simp only [rep]
        refine ⟨q, _, rfl, upd_same, pm3, ?_⟩
        exact repsI _
      · exact h.elim
    · exact h.elim
  · exact h.elim
/-! all of a list of tuples -/
@[simp] def neT : D → Option Bool
  | .tup ds => some (!ds.isEmpty)
  | _ => none
@[simp] def nesT : List D → Option (List Bool)
  | [] => some []
  | d :: ds => (neT d).bind fun b => (nesT ds).map (b :: ·)
@[simp] def allT2 : Option (List Bool) → HP → R D
  | some bs, h => .ok (.bl (bs.all id)) h
  | none, _ => .stuck
@[simp] def allT1 : Option (List D) → HP → R D
  | some es, h => allT2 (nesT es) h
  | none, _ => .stuck
@[simp] def bAllT : List D → HP → R D
  | [x], h => allT1 (asL h x) h
  | _, _ => .stuck
theorem nesT_ok {m : AM} {H : Hp} : ∀ {ds : List D} {vs : List V} {bs : List Bool}, reps g m H ds vs → nesT ds = some bs → vs.length = bs.length ∧ ∀ (i : Nat) (x : V), vs[i]? = some x → ∃ p ys, x = V.ref p ∧ SqT g.K H p ys ∧ bs[i]? = some (!ys.isEmpty)
  | [], vs, bs, r, e => by
    simp only [reps] at r
    subst r
    cases e
    exact ⟨rfl, fun i x h => by simp at h⟩
  | d :: ds, vs, bs, r, e => by
    simp only [reps] at r
    obtain ⟨v, r', rfl, h1, h2⟩ := r
    cases d with
    | tup es =>
      simp only [nesT, neT, Option.bind_some] at e
      obtain ⟨cs, e1, rfl⟩ := Option.map_eq_some_iff.mp e
      obtain ⟨k1, k2⟩ := nesT_ok h2 e1
      refine ⟨by simp [k1], fun i x hx => ?_⟩
      cases i with
      | zero =>
        simp only [List.getElem?_cons_zero, Option.some.injEq] at hx
        subst hx
        simp only [rep] at h1
        obtain ⟨a, ys, rfl, f, rr⟩ := h1
        exact ⟨a, ys, rfl, f.sq, by simp [isEmpty_len (reps.length rr)]⟩
      | succ i => exact k2 i x (by simpa using hx)
    | _ => simp [nesT] at e
theorem cv_allT (hK : X.K = g.K) (hc : X.calm = true) : CV X g E (.builtin "all") bAllT := by
  refine ⟨_, cr_allT hc, fun m H hp ds vs Q hl r h => ?_⟩
  rw [hK]
  unfold bAllT at h
  split at h
  · unfold allT1 at h
    split at h
    · rename_i es e
      unfold allT2 at h
      split at h
      · rename_i bs en
        obtain ⟨v, rfl, rr⟩ := reps1 r
        obtain ⟨a, us, rfl, hs, rs⟩ := asL_ok hl rr e
        obtain ⟨k1, k2⟩ := nesT_ok rs en
        exact ⟨a, us, bs, rfl, hs, k1, k2, PO.here hl h (by simp [rep])⟩
      · exact h.elim
    · exact h.elim
  · exact h.elim
end
end Ev
namespace Ev
open PySem PySem.Spec PyProof.Rows L2
section
variable {g : G} {X : Cx} {E : XK}
/-! a slice of a list that is written to later -/
@[simp] def slLL (lo hi : Option Int) : Option (List D) → HP → R D
  | some ds, h => newL true (cutD ds lo hi) h
  | none, _ => .stuck
@[simp] def kSlL2 (hi : M (Option Int)) (env : EN) (x : D) (l : Option Int) (h : HP) : R D := (hi env h).bind fun r h2 => slLL l r (asL h2 x) h2
@[simp] def kSlL1 (lo hi : M (Option Int)) (env : EN) (x : D) (h : HP) : R D := (lo env h).bind (kSlL2 hi env x)
@[simp] def mSlL (a : M D) (lo hi : M (Option Int)) (env : EN) (hp : HP) : R D := (a env hp).bind (kSlL1 lo hi env)
theorem EV.slL {e : Expr} {lo hi : Option Expr} {p2 pos : Pos} {f : M D} {fl fh : M (Option Int)} (hK : X.K = g.K) (he : EV g X E e f) (hl : PV g X E lo fl) (hh : PV g X E hi fh) : EV g X E (.Subscript e (.Slice lo hi none p2) pos) (mSlL f fl fh) := by
  obtain ⟨t, p, q⟩ := he
  obtain ⟨tl, pl, ql⟩ := hl
  obtain ⟨th, ph, qh⟩ := hh
  refine ⟨_, pe_slice sl_list p pl ph, fun σ H Q m env hp hl er h => ?_⟩
  refine q σ H _ m env hp hl er (PO.bind h fun x h1 m1 H1 v x1 hl1 r1 h => ?_)
  refine ql σ H1 _ m1 env h1 hl1 (er.ext x1) (PO.bind h fun y h2 m2 H2 u x2 hl2 r2 h => ?_)
  refine qh σ H2 _ m2 env h2 hl2 ((er.ext x1).ext x2) (PO.bind h fun z h3 m3 H3 w x3 hl3 r3 h => ?_)
  subst r2
  subst r3
  have r1 := rep.ext (x2.trans x3) _ _ r1
  rw [hK]
  unfold slLL at h
  split at h
  · rename_i ds e
    obtain ⟨a, vs, rfl, hs, rs⟩ := asL_ok hl3 r1 e
    exact ⟨a, vs, rfl, hs, (PO.newL hl3 rs.cut h).2⟩
  · exact h.elim
end
end Ev
namespace LibT
open PySem PySem.Spec PyProof.Rows L2 Ev Lib
@[simp] theorem nb_moment_boxes : (("moment" : Str) == ("boxes" : Str)) = false := by decide +kernel
@[simp] theorem ne_moment_boxes : (("moment" : Str) = ("boxes" : Str)) = False := eq_false (by decide +kernel)
@[simp] theorem nb_boxes_moment : (("boxes" : Str) == ("moment" : Str)) = false := by decide +kernel
@[simp] theorem ne_boxes_moment : (("boxes" : Str) = ("moment" : Str)) = False := eq_false (by decide +kernel)
noncomputable def F_clocks_farther : FA := fnP 4 (sRet (mBin fGt (mBin fMul (mFld "per" (mVar 0)) (mFn 2 F_gap (aCons (mBin fIx (mVar 2) (mNeg (mCst (.int 1)))) (aCons (mBin fIx (mVar 3) (mNeg (mCst (.int 1)))) aNil)))) (mBin fMul (mFld "drift" (mVar 0)) (mVar 1))))
noncomputable def F_farther : FA := fnP 5 (sSeq (sAsg (mBin fMul (mBin fPow (mFld "per" (mVar 0)) (mCst (.int 2))) (mFn 2 F_between (aCons (mSl (mVar 2) pNo (pYes (mNeg (mCst (.int 1))))) (aCons (mSl (mVar 3) pNo (pYes (mNeg (mCst (.int 1))))) aNil)))) (gNm 4))
  (sRet (mOr (mBin fGt (mVar 4) (mBin fPow (mBin fMul (mFld "speed" (mVar 0)) (mVar 1)) (mCst (.int 2)))) (mFn 4 F_clocks_farther (aCons (mVar 0) (aCons (mVar 1) (aCons (mVar 2) (aCons (mVar 3) aNil))))))))
noncomputable abbrev C_places_ending_1 (live : Bool) : M D := mLc live (iAny (mSl (mVar 0) pNo (pYes (mCst (.int 1))))) [5] (gNm 5) cYes (mTupR (mCall bLen (aCons (mFld "boxes" (mVar 5)) aNil)))
noncomputable abbrev C_places_ending_2 (live : Bool) : M D := mLc2 live (iAny (mBin fIx (mVar 2) (mNeg (mCst (.int 1))))) [6, 7] (gNm 6) cYes (iAny (mBin fIx (mVar 3) (mVar 6))) [7] (gNm 7) cYes (mVar 7)
noncomputable abbrev B_places_ending_1 : SM := (sSeq (sAsg (C_places_ending_2 false) (gNm 4))
  (sExp (mBm tyL lAppend (mVar 2) (aCons (mCall bTuple (aCons (mSortSet (mVar 4)) aNil)) aNil))))
noncomputable def F_places_ending : FA := fnP 8 (sSeq (sAsg (C_places_ending_1 true) (gNm 2))
  (sSeq (sFor (iAny (mVar 1)) (gNm 3) B_places_ending_1)
  (sRet (mVar 2))))
noncomputable def F__ticks : FA := fnP 2 (sRet (mCall bAbs (aCons (mBin fSub (mFld "moment" (mVar 1)) (mFld "moment" (mVar 0))) aNil)))
noncomputable abbrev C__linked_with_1 (live : Bool) : M D := mLc live (iEnumS (aCons (mFld "boxes" (mVar 3)) aNil)) [6, 7] (gTp 2 (gsCons (gNm 6) (gsCons (gNm 7) gsNil))) (tmNot (mTru (mFn 4 F_farther (aCons (mVar 0) (aCons (mVar 4) (aCons (mVar 5) (aCons (mVar 7) aNil))))))) (mVar 6)
noncomputable def F__linked_with : FA := fnP 8 (sSeq (sAsg (mTup (aCons (mFn 2 F__ticks (aCons (mVar 1) (aCons (mVar 3) aNil))) (aCons (mBin fIx (mFld "boxes" (mVar 1)) (mVar 2)) aNil))) (gTp 2 (gsCons (gNm 4) (gsCons (gNm 5) gsNil))))
  (sRet (mCall bTuple (aCons (C__linked_with_1 false) aNil))))
noncomputable abbrev C_linked_1 (live : Bool) : M D := mLc live (iRange1 (aCons (mCall bLen (aCons (mFld "boxes" (mVar 1)) aNil)) aNil)) [3] (gNm 3) cYes (mFn 4 F__linked_with (aCons (mVar 0) (aCons (mVar 1) (aCons (mVar 3) (aCons (mVar 2) aNil)))))
noncomputable def F_linked : FA := fnP 4 (sRet (C_linked_1 false))
noncomputable abbrev C__links_1 (live : Bool) : M D := mLc live (iZip2 (aCons (mVar 1) (aCons (mSl (mVar 1) (pYes (mCst (.int 1))) pNo) aNil))) [2, 3] (gTp 2 (gsCons (gNm 2) (gsCons (gNm 3) gsNil))) cYes (mFn 3 F_linked (aCons (mVar 0) (aCons (mVar 2) (aCons (mVar 3) aNil))))
noncomputable def F__links : FA := fnP 4 (sRet (C__links_1 false))
noncomputable def F_has_chain : FA := fnP 2 (sRet (mCall bAllT (aCons (mFn 2 F_places_ending (aCons (mVar 1) (aCons (mFn 2 F__links (aCons (mVar 0) (aCons (mVar 1) aNil))) aNil))) aNil)))
noncomputable def F_Layer__init__ : FA := fnR 3 (sSeq (sPut "moment" (mVar 1) (mVar 0))
  (sPut "boxes" (mVar 2) (mVar 0)))
noncomputable def F_Pace__init__ : FA := fnR 4 (sSeq (sPut "speed" (mVar 1) (mVar 0))
  (sSeq (sPut "drift" (mVar 2) (mVar 0))
  (sPut "per" (mVar 3) (mVar 0))))
noncomputable abbrev B__law_layer_1 : SM := (sSeq (sAsg (mBin fSub (mBin fMod (mCall bInt (aCons (mBin fDiv (mVar 7) (mBin fIx (mLst false (aCons (mCst (.int 1)) (aCons (mCst (.int 21)) (aCons (mCst (.int 441)) aNil)))) (mVar 9))) aNil)) (mCst (.int 21))) (mCst (.int 10))) (gNm 10))
  (sExp (mBm tyL lAppend (mVar 8) (aCons (mTup (aCons (mVar 10) (aCons (mBin fAdd (mVar 10) (mBin fMod (mCall bInt (aCons (mBin fDiv (mVar 7) (mBin fIx (mLst false (aCons (mCst (.int 9261)) (aCons (mCst (.int 27783)) (aCons (mCst (.int 83349)) aNil)))) (mVar 9))) aNil)) (mCst (.int 3)))) aNil))) aNil))))
noncomputable abbrev B__law_layer_2 : SM := (sSeq (sAsg (mFn 2 F__law_number (aCons (mVar 0) (aCons (mBin fAdd (mVar 1) (mVar 6)) aNil))) (gNm 7))
  (sSeq (sAsg (mLst true aNil) (gNm 8))
  (sSeq (sFor (iRange1 (aCons (mVar 2) aNil)) (gNm 9) B__law_layer_1)
  (sSeq (sAsg (mBin fSub (mBin fMod (mCall bInt (aCons (mBin fDiv (mVar 7) (mCst (.int 250047))) aNil)) (mCst (.int 7))) (mCst (.int 3))) (gNm 10))
  (sSeq (sExp (mBm tyL lAppend (mVar 8) (aCons (mTup (aCons (mVar 10) (aCons (mBin fAdd (mVar 10) (mBin fMod (mCall bInt (aCons (mBin fDiv (mVar 7) (mCst (.int 1750329))) aNil)) (mCst (.int 3)))) aNil))) aNil)))
  (sExp (mBm tyL lAppend (mVar 5) (aCons (mCall bTuple (aCons (mVar 8) aNil)) aNil))))))))
noncomputable def F__law_layer : FA := fnP 11 (sSeq (sAsg (mLst true aNil) (gNm 5))
  (sSeq (sFor (iRange1 (aCons (mVar 4) aNil)) (gNm 6) B__law_layer_2)
  (sRet (mMkP 17 2 F_Layer__init__ (aCons (mVar 3) (aCons (mCall bTuple (aCons (mVar 5) aNil)) aNil))))))
noncomputable abbrev B__law_layers_1 : SM := (sSeq (sAsg (mFn 2 F__law_number (aCons (mVar 0) (aCons (mBin fAdd (mBin fAdd (mVar 1) (mCst (.int 1))) (mBin fMul (mCst (.int 4)) (mVar 7))) aNil))) (gNm 8))
  (sSeq (sAsg (mBin fIx (mLst false (aCons (mCst (.int 1)) (aCons (mCst (.int 2)) (aCons (mCst (.int 3)) (aCons (mCst (.int 2)) (aCons (mCst (.int 1)) (aCons (mCst (.int 3)) (aCons (mCst (.int 2)) (aCons (mCst (.int 0)) aNil))))))))) (mBin fMod (mCall bInt (aCons (mVar 8) aNil)) (mCst (.int 8)))) (gNm 9))
  (sSeq (sIf (mTru (mVar 6)) (sAsg (mBin fAdd (mCst (.int 4)) (mBin fMod (mCall bInt (aCons (mBin fDiv (mVar 8) (mCst (.int 48))) aNil)) (mCst (.int 6)))) (gNm 9)) sNil)
  (sSeq (sExp (mBm tyL lAppend (mVar 4) (aCons (mFn 5 F__law_layer (aCons (mVar 0) (aCons (mBin fAdd (mBin fAdd (mBin fAdd (mVar 1) (mCst (.int 2))) (mBin fMul (mCst (.int 4)) (mVar 7))) (mBin fMul (mBin fMul (mCst (.int 6)) (mCall bInt (aCons (mVar 6) aNil))) (mVar 7))) (aCons (mVar 2) (aCons (mVar 5) (aCons (mVar 9) aNil)))))) aNil)))
  (sAsg (mBin fAdd (mBin fAdd (mVar 5) (mCst (.int 1))) (mBin fMod (mCall bInt (aCons (mBin fDiv (mVar 8) (mCst (.int 8))) aNil)) (mCst (.int 6)))) (gNm 5))))))
noncomputable def F__law_layers : FA := fnP 10 (sSeq (sAsg (mFn 2 F__law_number (aCons (mVar 0) (aCons (mVar 1) aNil))) (gNm 3))
  (sSeq (sAsg (mLst true aNil) (gNm 4))
  (sSeq (sAsg (mBin fSub (mBin fMod (mCall bInt (aCons (mVar 3) aNil)) (mCst (.int 9))) (mCst (.int 4))) (gNm 5))
  (sSeq (sAsg (mBin fEq (mBin fMod (mCall bInt (aCons (mBin fDiv (mVar 3) (mCst (.int 45))) aNil)) (mCst (.int 5))) (mCst (.int 0))) (gNm 6))
  (sSeq (sFor (iRange1 (aCons (mBin fIx (mLst false (aCons (mBin fMod (mCall bInt (aCons (mBin fDiv (mVar 3) (mCst (.int 9))) aNil)) (mCst (.int 5))) (aCons (mCst (.int 2)) aNil))) (mCall bInt (aCons (mVar 6) aNil))) aNil)) (gNm 7) B__law_layers_1)
  (sRet (mVar 4)))))))
noncomputable abbrev C__leading_to_1 (live : Bool) : M D := mLc live (iAny (mBin fIx (mVar 0) (mVar 4))) [5] (gNm 5) cYes (mBin (fSIn false) (mVar 5) (mVar 3))
noncomputable abbrev C__leading_to_2 (live : Bool) : M D := mLc live (iAny (mVar 1)) [4] (gNm 4) (mTru (mCall bAny (aCons (C__leading_to_1 false) aNil))) (mVar 4)
noncomputable def F__leading_to : FA := fnP 6 (sSeq (sAsg (mCall bSet (aCons (mVar 2) aNil)) (gNm 3))
  (sRet (mCall bTuple (aCons (C__leading_to_2 false) aNil))))
noncomputable abbrev B_places_alive_1 : SM := (sExp (mBm tyL lAppend (mVar 3) (aCons (mFn 3 F__leading_to (aCons (mVar 4) (aCons (mVar 5) (aCons (mBin fIx (mVar 3) (mNeg (mCst (.int 1)))) aNil)))) aNil)))
noncomputable def F_places_alive : FA := fnP 6 (sSeq (sAsg (mFn 2 F_places_ending (aCons (mVar 0) (aCons (mVar 1) aNil))) (gNm 2))
  (sSeq (sAsg (mSlL (mVar 2) (pYes (mNeg (mCst (.int 1)))) pNo) (gNm 3))
  (sSeq (sFor (iZip2 (aCons (mRevS (mVar 1)) (aCons (mRevS (mSl (mVar 2) pNo (pYes (mNeg (mCst (.int 1)))))) aNil))) (gTp 2 (gsCons (gNm 4) (gsCons (gNm 5) gsNil))) B_places_alive_1)
  (sRet (mRevS (mVar 3))))))
noncomputable def F__law_pace : FA := fnP 1 (sRet (mMkP 18 3 F_Pace__init__ (aCons (mBin fMod (mCall bInt (aCons (mVar 0) aNil)) (mCst (.int 8))) (aCons (mBin fMod (mCall bInt (aCons (mBin fDiv (mVar 0) (mCst (.int 8))) aNil)) (mCst (.int 3))) (aCons (mBin fAdd (mCst (.int 1)) (mBin fMod (mCall bInt (aCons (mBin fDiv (mVar 0) (mCst (.int 24))) aNil)) (mCst (.int 3)))) aNil)))))
noncomputable abbrev B__law_gap_1 : SM := (sSeq (sAsg (mCall bMax (aCons (mBin fSub (mBin fIx (mBin fIx (mVar 1) (mVar 3)) (mCst (.int 0))) (mBin fIx (mBin fIx (mVar 0) (mVar 3)) (mCst (.int 1)))) (aCons (mBin fSub (mBin fIx (mBin fIx (mVar 0) (mVar 3)) (mCst (.int 0))) (mBin fIx (mBin fIx (mVar 1) (mVar 3)) (mCst (.int 1)))) (aCons (mCst (.int 0)) aNil)))) (gNm 4))
  (sAsg (mBin fAdd (mVar 2) (mBin fMul (mVar 4) (mVar 4))) (gNm 2)))
noncomputable def F__law_gap : FA := fnP 5 (sSeq (sAsg (mCst (.int 0)) (gNm 2))
  (sSeq (sFor (iRange1 (aCons (mBin fSub (mCall bLen (aCons (mVar 0) aNil)) (mCst (.int 1))) aNil)) (gNm 3) B__law_gap_1)
  (sRet (mVar 2))))
noncomputable def F__law_linked : FA := fnP 6 (sSeq (sAsg (mBin fMul (mFld "speed" (mVar 0)) (mVar 1)) (gNm 4))
  (sSeq (sIf (mB (mBin fGt (mBin fMul (mBin fMul (mFld "per" (mVar 0)) (mFld "per" (mVar 0))) (mFn 2 F__law_gap (aCons (mVar 2) (aCons (mVar 3) aNil)))) (mBin fMul (mVar 4) (mVar 4)))) (sRet (mCst (.bl false))) sNil)
  (sSeq (sAsg (mCall bMax (aCons (mBin fSub (mBin fIx (mBin fIx (mVar 3) (mNeg (mCst (.int 1)))) (mCst (.int 0))) (mBin fIx (mBin fIx (mVar 2) (mNeg (mCst (.int 1)))) (mCst (.int 1)))) (aCons (mBin fSub (mBin fIx (mBin fIx (mVar 2) (mNeg (mCst (.int 1)))) (mCst (.int 0))) (mBin fIx (mBin fIx (mVar 3) (mNeg (mCst (.int 1)))) (mCst (.int 1)))) (aCons (mCst (.int 0)) aNil)))) (gNm 5))
  (sRet (mBin fLe (mBin fMul (mFld "per" (mVar 0)) (mVar 5)) (mBin fMul (mFld "drift" (mVar 0)) (mVar 1)))))))
noncomputable abbrev B__law_is_chain_1 : SM := (sSeq (sIf (tmOr (mB (mBin fLt (mBin fIx (mVar 2) (mVar 3)) (mCst (.int 0)))) (mB (mBin fGe (mBin fIx (mVar 2) (mVar 3)) (mCall bLen (aCons (mFld "boxes" (mBin fIx (mVar 1) (mVar 3))) aNil))))) (sRet (mCst (.bl false))) sNil)
  (sIf (mB (mBin fGt (mVar 3) (mCst (.int 0)))) (sSeq (sAsg (mBin fSub (mFld "moment" (mBin fIx (mVar 1) (mVar 3))) (mFld "moment" (mBin fIx (mVar 1) (mBin fSub (mVar 3) (mCst (.int 1)))))) (gNm 4))
  (sSeq (sAsg (mBin fIx (mFld "boxes" (mBin fIx (mVar 1) (mBin fSub (mVar 3) (mCst (.int 1))))) (mBin fIx (mVar 2) (mBin fSub (mVar 3) (mCst (.int 1))))) (gNm 5))
  (sIf (tmNot (mTru (mFn 4 F__law_linked (aCons (mVar 0) (aCons (mVar 4) (aCons (mVar 5) (aCons (mBin fIx (mFld "boxes" (mBin fIx (mVar 1) (mVar 3))) (mBin fIx (mVar 2) (mVar 3))) aNil))))))) (sRet (mCst (.bl false))) sNil))) sNil))
noncomputable def F__law_is_chain : FA := fnP 6 (sSeq (sIf (mB (mBin fNe (mCall bLen (aCons (mVar 2) aNil)) (mCall bLen (aCons (mVar 1) aNil)))) (sRet (mCst (.bl false))) sNil)
  (sSeq (sFor (iRange1 (aCons (mCall bLen (aCons (mVar 1) aNil)) aNil)) (gNm 3) B__law_is_chain_1)
  (sRet (mCst (.bl true)))))
noncomputable abbrev B__law_chains_1 : SM := (sIf (mTru (mFn 3 F__law_is_chain (aCons (mVar 0) (aCons (mSl (mVar 1) pNo (pYes (mBin fAdd (mVar 3) (mCst (.int 1))))) (aCons (mBin fAdd (mVar 5) (mTup (aCons (mVar 6) aNil))) aNil))))) (sExp (mBm tyL lAppend (mVar 4) (aCons (mBin fAdd (mVar 5) (mTup (aCons (mVar 6) aNil))) aNil))) sNil)
noncomputable abbrev B__law_chains_2 : SM := (sFor (iRange1 (aCons (mCall bLen (aCons (mFld "boxes" (mBin fIx (mVar 1) (mVar 3))) aNil)) aNil)) (gNm 6) B__law_chains_1)
noncomputable abbrev B__law_chains_3 : SM := (sSeq (sAsg (mLst true aNil) (gNm 4))
  (sSeq (sFor (iAny (mVar 2)) (gNm 5) B__law_chains_2)
  (sAsg (mCall (bList false) (aCons (mVar 4) aNil)) (gNm 2))))
noncomputable def F__law_chains : FA := fnP 7 (sSeq (sAsg (mLst false (aCons (mTup aNil) aNil)) (gNm 2))
  (sSeq (sFor (iRange1 (aCons (mCall bLen (aCons (mVar 1) aNil)) aNil)) (gNm 3) B__law_chains_3)
  (sRet (mVar 2))))
noncomputable abbrev C__passes_on_1 (live : Bool) : M D := mLc live (iAny (mFn 4 F__linked_with (aCons (mVar 0) (aCons (mVar 1) (aCons (mVar 6) (aCons (mVar 2) aNil)))))) [7] (gNm 7) cYes (mBin (fSIn false) (mVar 7) (mVar 5))
noncomputable abbrev B__passes_on_1 : SM := (sIf (mB (mCh2 fLe fLt (mCst (.int 0)) (mVar 6) (mCall bLen (aCons (mFld "boxes" (mVar 1)) aNil)))) (sIf (tmNot (mTru (mCall bAll (aCons (C__passes_on_1 false) aNil)))) (sRet (mCst (.bl false))) sNil) sNil)
noncomputable def F__passes_on : FA := fnP 8 (sSeq (sAsg (mCall bSet (aCons (mVar 4) aNil)) (gNm 5))
  (sSeq (sFor (iAny (mVar 3)) (gNm 6) B__passes_on_1)
  (sRet (mCst (.bl true)))))
end LibT
namespace LibT
open PySem PySem.Spec PyProof.Rows L2 Ev Lib
/-! layers and paces -/
abbrev Bx := List (Int × Int)
structure Ly where
  m : Int
  bs : List Bx
@[simp] def layF (L : Ly) : List (Str × D) := [("moment", .int L.m), ("boxes", .tup (L.bs.map boxD))]
def layD (L : Ly) : D := .ins 17 (layF L)
@[simp] theorem asI_lay (L : Ly) (h : HP) : asI h (layD L) = some (17, layF L) := rfl
theorem clean_boxes (bs : List Bx) : clean (.tup (bs.map boxD)) := clean_tup fun d hd => by
  obtain ⟨b, _, rfl⟩ := List.mem_map.mp hd
  exact clean_box b
theorem clean_lay (L : Ly) : clean (layD L) := clean_ins (by simp [clean_int, clean_boxes])
@[simp] def paF (S : SetV) : List (Str × D) := [("speed", .int S.s), ("drift", .int S.r), ("per", .int S.p)]
def paD (S : SetV) : D := .ins 18 (paF S)
@[simp] theorem asI_pa (S : SetV) (h : HP) : asI h (paD S) = some (18, paF S) := rfl
theorem clean_pa (S : SetV) : clean (paD S) := clean_ins (by simp [clean_int])
theorem mk_lay (L : Ly) (h : HP) : mkR h (F_Layer__init__ [.ref h.length, .int L.m, .tup (L.bs.map boxD)] (h ++ [.ins 17 []])) = .ok (layD L) h := by
  have e : F_Layer__init__ [.ref h.length, .int L.m, .tup (L.bs.map boxD)] (h ++ [.ins 17 []]) = .ok .non (h ++ [.ins 17 (layF L)]) := by
    simp only [layF]
    generalize L.bs.map boxD = xs
    simp [F_Layer__init__]
  rw [e]
  exact pure_ins (by simp [clean_int, clean_boxes])
theorem mk_pa (S : SetV) (h : HP) : mkR h (F_Pace__init__ [.ref h.length, .int S.s, .int S.r, .int S.p] (h ++ [.ins 18 []])) = .ok (paD S) h := by
  have e : F_Pace__init__ [.ref h.length, .int S.s, .int S.r, .int S.p] (h ++ [.ins 18 []]) = .ok .non (h ++ [.ins 18 (paF S)]) := by
    simp [F_Pace__init__]
  rw [e]
  exact pure_ins (by simp [clean_int])
/-! far -/
theorem F_clk {S : SetV} (k : S.ok) {t : Int} (ht : t.natAbs < 18446744073709551616) {a b : List (Int × Int)} {c e : Int × Int} (hc : Sm c) (he : Sm e) (h : HP) :
    F_clocks_farther [paD S, .int t, boxD (a ++ [c]), boxD (b ++ [e])] h = .ok (.bl (decide (S.r * t < S.p * gapS c e))) h := by
  have pr := fun b => pure_clean h (clean_bl b)
  obtain ⟨s1, s2, s3, s4⟩ := set_sz k
  have st := sz64 ht
  have fg := fun h => F_gap' c e h
  have m2 : CMulE S.p (gapS c e) := mulX 64 64 s4 (sz64 (gap_sm hc he)) (by decide)
  have m4 : CMulE S.r t := mulX 64 64 s3 st (by decide)
  have l1 := last_box a c
  have l2 := last_box b e
  unfold boxD at *
  generalize (a ++ [c]).map sideD = xs at *
  generalize (b ++ [e]).map sideD = ys at *
  simp [F_clocks_farther, List.lookup, l1, l2, fg, m2, m4, pr]
theorem F_far {S : SetV} (k : S.ok) {t : Int} (ht : t.natAbs < 18446744073709551616) {n : Nat} (hn : n ≤ 10) {a b : List (Int × Int)} {c e : Int × Int} (ha : a.length = n) (hb : b.length = n) (hr : ∀ s ∈ a, Sm s) (hs : ∀ s ∈ b, Sm s) (hc : Sm c) (he : Sm e) (h : HP) :
    F_farther [paD S, .int t, boxD (a ++ [c]), boxD (b ++ [e])] h = .ok (.bl (farB S n t a c b e)) h := by
  have pr := fun b => pure_clean h (clean_bl b)
  obtain ⟨s1, s2, s3, s4⟩ := set_sz k
  have st := sz64 ht
  have fb := fun h => F_between' hn ha hb hr hs h
  obtain ⟨q1, q2⟩ := sg_sq_sz hn (bet_sm ha hb hr hs)
  have p1 : CPowW S.p 2 := powX 64 s4 (by decide)
  have m1 : CMulE (S.p * S.p) (betQ n a b) := mulX 129 140 (by have := sz_mul S.p S.p; omega) (by unfold betQ; omega) (by decide)
  have m3 : CMulE S.s t := mulX 64 64 s2 st (by decide)
  have p2 : CPowW (S.s * t) 2 := powX 129 (by have := sz_mul S.s t; omega) (by decide)
  have i1 := init_box a c
  have i2 := init_box b e
  have fc := fun h => F_clk (a := a) (b := b) k ht hc he h
  unfold farB
  unfold betQ at m1 ⊢
  generalize (sg n fun i => betS a b i * betS a b i) = B at *
  unfold boxD at *
  generalize (a ++ [c]).map sideD = xs at *
  generalize (b ++ [e]).map sideD = ys at *
  by_cases z : S.s * t * (S.s * t) < S.p * S.p * B
  · simp [F_farther, List.lookup, p1, pow2, i1, i2, fb, m1, m3, p2, fc, z, pr]
  · simp [F_farther, List.lookup, p1, pow2, i1, i2, fb, m1, m3, p2, fc, z, pr]
/-- a box of n directions and a clock, its numbers small -/
def BO (n : Nat) (b : Bx) : Prop := b.length = n + 1 ∧ ∀ s ∈ b, Sm s
theorem BO.eq {n : Nat} {b : Bx} (h : BO n b) : b = b.take n ++ [sd b n] := by
  have e := h.1
  rw [sd_get (by omega), List.take_append_getElem (by omega), List.take_of_length_le (by omega)]
theorem BO.parts {n : Nat} {b : Bx} (h : BO n b) : (b.take n).length = n ∧ (∀ s ∈ b.take n, Sm s) ∧ Sm (sd b n) := by
  have e := h.1
  refine ⟨by rw [List.length_take]; omega, fun s hs => h.2 s (List.mem_of_mem_take hs), ?_⟩
  rw [sd_get (by omega)]
  exact h.2 _ (List.getElem_mem _)
def farX (S : SetV) (n : Nat) (t : Int) (a b : Bx) : Bool := farB S n t (a.take n) (sd a n) (b.take n) (sd b n)
theorem F_farX {S : SetV} (k : S.ok) {t : Int} (ht : t.natAbs < 18446744073709551616) {n : Nat} (hn : n ≤ 10) {a b : Bx} (ha : BO n a) (hb : BO n b) (h : HP) : F_farther [paD S, .int t, boxD a, boxD b] h = .ok (.bl (farX S n t a b)) h := by
  have p := ha.parts
  have q := hb.parts
  have := F_far k ht hn p.1 q.1 p.2.1 q.2.1 p.2.2 q.2.2 h
  rw [← ha.eq, ← hb.eq] at this
  exact this
theorem F_clkX {S : SetV} (k : S.ok) {t : Int} (ht : t.natAbs < 18446744073709551616) {n : Nat} {a b : Bx} (ha : BO n a) (hb : BO n b) (h : HP) : F_clocks_farther [paD S, .int t, boxD a, boxD b] h = .ok (.bl (decide (S.r * t < S.p * gapS (sd a n) (sd b n)))) h := by
  have := F_clk (a := a.take n) (b := b.take n) k ht ha.parts.2.2 hb.parts.2.2 h
  rw [← ha.eq, ← hb.eq] at this
  exact this
/-- layers of such boxes, one after the other -/
structure LsO (n : Nat) (Ls : List Ly) : Prop where
  few : Ls.length ≤ 4
  asc : Ls.Pairwise fun a b => a.m < b.m
  each : ∀ L ∈ Ls, L.m.natAbs ≤ 100000 ∧ L.bs.length ≤ 9 ∧ ∀ b ∈ L.bs, BO n b
def LyO (n : Nat) (L : Ly) : Prop := L.m.natAbs ≤ 100000 ∧ L.bs.length ≤ 9 ∧ ∀ b ∈ L.bs, BO n b
def ab (i : Int) : Int := if i < 0 then -i else i
def tk (L O : Ly) : Int := ab (O.m - L.m)
theorem tk_small {n : Nat} {L O : Ly} (h : LyO n L) (k : LyO n O) : (tk L O).natAbs < 18446744073709551616 := by
  have := h.1
  have := k.1
  unfold tk ab
  split <;> omega
theorem F_ticks (L O : Ly) (h : HP) : F__ticks [layD L, layD O] h = .ok (.int (tk L O)) h := by
  have pr := fun b => pure_clean h (clean_int b)
  simp [F__ticks, List.lookup, pr, tk, ab]
/-- the places of os that are linked with b -/
def lk (S : SetV) (n : Nat) (t : Int) (b : Bx) (os : List Bx) : List Int := ((List.range os.length).filter fun k => !farX S n t b (os.getD k [])).map fun k : Nat => (k : Int)
theorem enum_map (os : List Bx) : enumD (os.map boxD) = (List.range os.length).map fun k => .tup [.int (k : Nat), boxD (os.getD k [])] := by
  refine List.ext_getElem (by simp [enumD]) fun i h1 h2 => ?_
  have hi : i < os.length := by simpa using h2
  simp [enumD, hi]
theorem clean_ints (xs : List Int) : clean (.tup (xs.map D.int)) := clean_tup fun d hd => by
  obtain ⟨b, _, rfl⟩ := List.mem_map.mp hd
  exact clean_int b
theorem F_linked_with {S : SetV} (k : S.ok) {n : Nat} (hn : n ≤ 10) {L O : Ly} (hL : LyO n L) (hO : LyO n O) {p : Nat} (hp : p < L.bs.length) (h : HP) :
    F__linked_with [paD S, layD L, .int p, layD O] h = .ok (.tup ((lk S n (tk L O) (L.bs.getD p []) O.bs).map D.int)) h := by
  have ft := F_ticks L O
  have ht := tk_small hL hO
  have bp : BO n (L.bs.getD p []) := by
    rw [List.getD_eq_getElem?_getD, List.getElem?_eq_getElem hp]
    exact hL.2.2 _ (List.getElem_mem hp)
  have at1 : atI (L.bs.map boxD) (p : Int) = some (boxD (L.bs.getD p [])) := by
    rw [at_map boxD hp, List.getD_eq_getElem?_getD, List.getElem?_eq_getElem hp]
    rfl
  generalize L.bs.getD p [] = b at *
  generalize tk L O = t at *
  have lc : C__linked_with_1 false [some (paD S), some (layD L), some (.int p), some (layD O), some (.int t), some (boxD b), none, none] h = _ :=
    mLc_tyF (h1 := h) (List.range O.bs.length) (fun k => .tup [.int (k : Nat), boxD (O.bs.getD k [])]) (fun k => .int (k : Nat)) (fun k => !farX S n t b (O.bs.getD k []))
      (by simp [List.lookup, enum_map]) (by have := hO.2.1; simp; omega)
      (fun q hq h' => by
        have hq := List.mem_range.mp hq
        have bo : BO n (O.bs.getD q []) := by
          rw [List.getD_eq_getElem?_getD, List.getElem?_eq_getElem hq]
          exact hO.2.2 _ (List.getElem_mem hq)
        have ff := fun h => F_farX k ht hn bp bo h
        generalize O.bs.getD q [] = o at *
        refine ⟨[some (paD S), some (layD L), some (.int p), some (layD O), some (.int t), some (boxD b), some (.int q), some (boxD o)], by simp, by simp [ff], by simp⟩)
      fun q _ _ => clean_int _
  have e : ((List.range O.bs.length).filter fun k => !farX S n t b (O.bs.getD k [])).map (fun k => D.int (k : Nat)) = (lk S n t b O.bs).map D.int := by
    unfold lk
    rw [List.map_map]
    rfl
  rw [e] at lc
  have pr := pure_clean h (clean_ints (lk S n t b O.bs))
  have lz : (lk S n t b O.bs).length ≤ 9 := by
    unfold lk
    rw [List.length_map]
    have := List.length_filter_le (fun k => !farX S n t b (O.bs.getD k [])) (List.range O.bs.length)
    have := hO.2.1
    simp at *
    omega
  have lz2 : ((lk S n t b O.bs).map D.int).length ≤ 16000000 := by rw [List.length_map]; omega
  generalize (lk S n t b O.bs).map D.int = ys at *
  simp [F__linked_with, ft, List.lookup, at1, lc, pr, lz2]
def tbl (S : SetV) (n : Nat) (L O : Ly) : List (List Int) := L.bs.map fun b => lk S n (tk L O) b O.bs
def tupI (xs : List Int) : D := .tup (xs.map D.int)
theorem F_linked' {S : SetV} (k : S.ok) {n : Nat} (hn : n ≤ 10) {L O : Ly} (hL : LyO n L) (hO : LyO n O) (h : HP) :
    F_linked [paD S, layD L, layD O] h = .ok (.lst ((tbl S n L O).map tupI)) h := by
  have lc : C_linked_1 false [some (paD S), some (layD L), some (layD O), none] h = _ :=
    mLc_ty (h1 := h) (List.range L.bs.length) (fun k => .int (k : Nat)) (fun p => tupI (lk S n (tk L O) (L.bs.getD p []) O.bs)) (by
        have rg := rg_nat (n := L.bs.length) (by have := hL.2.1; omega)
        simp [List.lookup, rg, rngD_eq]) (by have := hL.2.1; simp; omega)
      (fun p hp h' => by
        have hp := List.mem_range.mp hp
        have ff := fun h => F_linked_with k hn hL hO hp h
        exact ⟨[some (paD S), some (layD L), some (layD O), some (.int p)], by simp, by simp [ff, tupI]⟩)
      fun p _ => clean_ints _
  have e : (List.range L.bs.length).map (fun p => tupI (lk S n (tk L O) (L.bs.getD p []) O.bs)) = (tbl S n L O).map tupI := by
    refine List.ext_getElem (by simp [tbl]) fun i h1 h2 => ?_
    have hi : i < L.bs.length := by simpa [tbl] using h2
    simp [tbl, hi]
  rw [e] at lc
  have pr : pure_ h (.lst ((tbl S n L O).map tupI)) h = _ := pure_clean h (clean_lst fun d hd => by
    obtain ⟨x, _, rfl⟩ := List.mem_map.mp hd
    exact clean_ints x)
  generalize (tbl S n L O).map tupI = ys at *
  simp [F_linked, lc, pr]
end LibT
namespace LibT
open PySem PySem.Spec PyProof.Rows L2 Ev Lib
/-! links -/
theorem LsO.ly {n : Nat} {Ls : List Ly} (h : LsO n Ls) {L : Ly} (m : L ∈ Ls) : LyO n L := h.each L m
theorem zip_lay (xs ys : List Ly) : zipD (xs.map layD) (ys.map layD) = (xs.zip ys).map fun p => .tup [layD p.1, layD p.2] := by
  unfold zipD
  rw [List.zipWith_map, List.zip, List.map_zipWith]
def tblD (t : List (List Int)) : D := .lst (t.map tupI)
theorem clean_tbl (t : List (List Int)) : clean (tblD t) := clean_lst fun d hd => by
  obtain ⟨x, _, rfl⟩ := List.mem_map.mp hd
  exact clean_ints x
def lnks (S : SetV) (n : Nat) (Ls : List Ly) : List (List (List Int)) := (Ls.zip (Ls.drop 1)).map fun p => tbl S n p.1 p.2
theorem F_links' {S : SetV} (k : S.ok) {n : Nat} (hn : n ≤ 10) {Ls : List Ly} (hL : LsO n Ls) (h : HP) :
    F__links [paD S, .lst (Ls.map layD)] h = .ok (.lst ((lnks S n Ls).map tblD)) h := by
  have lc : C__links_1 false [some (paD S), some (.lst (Ls.map layD)), none, none] h = _ :=
    mLc_ty (h1 := h) (Ls.zip (Ls.drop 1)) (fun p => .tup [layD p.1, layD p.2]) (fun p => tblD (tbl S n p.1 p.2)) (by
        have c : Ev.cutD (Ls.map layD) (some 1) none = (Ls.drop 1).map layD := by
          by_cases z : 1 ≤ (Ls.map layD).length
          · rw [show (1 : Int) = ((1 : Nat) : Int) from rfl, cut_from z, List.map_drop]
          · have e : Ls = [] := by
              cases Ls with
              | nil => rfl
              | cons a r => simp at z
            subst e
            rfl
        have zl := zip_lay Ls (Ls.drop 1)
        generalize (Ls.drop 1).map layD = ys at *
        generalize Ls.map layD = xs at *
        simp [c, zl]) (by have := hL.few; simp only [List.length_zip]; omega)
      (fun p hp h' => by
        obtain ⟨L, O⟩ := p
        have hp := List.of_mem_zip hp
        have ff := fun h => F_linked' k hn (hL.ly hp.1) (hL.ly (List.mem_of_mem_drop hp.2)) h
        exact ⟨[some (paD S), some (.lst (Ls.map layD)), some (layD L), some (layD O)], by simp, by simp [ff, tblD]⟩)
      fun p _ => clean_tbl _
  have e : (Ls.zip (Ls.drop 1)).map (fun p => tblD (tbl S n p.1 p.2)) = (lnks S n Ls).map tblD := by
    unfold lnks
    rw [List.map_map]
    rfl
  rw [e] at lc
  have pr : pure_ h (.lst ((lnks S n Ls).map tblD)) h = _ := pure_clean h (clean_lst fun d hd => by
    obtain ⟨x, _, rfl⟩ := List.mem_map.mp hd
    exact clean_tbl x)
  generalize (lnks S n Ls).map tblD = ys at *
  generalize Ls.map layD = xs at *
  simp [F__links, lc, pr]
/-! where chains end -/
def nextE (E : List Int) (t : List (List Int)) : List Int := EvS.srt (E.flatMap fun p => t.getD p.toNat [])
def ends (E : List Int) : List (List (List Int)) → List (List Int)
  | [] => [E]
  | t :: r => E :: ends (nextE E t) r
/-- the numbers of E are places of t, those of t are below 64 -/
def EO (E : List Int) (m : Nat) : Prop := E.length ≤ 9 ∧ ∀ p ∈ E, 0 ≤ p ∧ p < m
def TO (t : List (List Int)) (m q : Nat) : Prop := t.length = m ∧ ∀ r ∈ t, EO r q
theorem srt_len {xs : List Int} {q : Nat} (h : ∀ p ∈ xs, 0 ≤ p ∧ p < q) : (EvS.srt xs).length ≤ q := by
  have n1 : (EvS.srt xs).Nodup := List.Pairwise.imp (fun h => Int.ne_of_lt h) EvS.srt_pw
  have := EvS.nodup_le (ys := (List.range q).map fun k : Nat => (k : Int)) n1 fun j hj => by
    have := h j (EvS.mem_srt.mp hj)
    exact List.mem_map.mpr ⟨j.toNat, List.mem_range.mpr (by omega), by omega⟩
  simpa using this
theorem next_mem {E : List Int} {t : List (List Int)} {m q : Nat} (hE : EO E m) (hT : TO t m q) : ∀ p ∈ E.flatMap (fun p => t.getD p.toNat []), 0 ≤ p ∧ p < q := fun p hp => by
  obtain ⟨a, ha, hp⟩ := List.mem_flatMap.mp hp
  have := hE.2 a ha
  have hl : a.toNat < t.length := by rw [hT.1]; omega
  rw [List.getD_eq_getElem?_getD, List.getElem?_eq_getElem hl] at hp
  exact (hT.2 _ (List.getElem_mem hl)).2 p hp
theorem next_ok {E : List Int} {t : List (List Int)} {m q : Nat} (hq : q ≤ 9) (hE : EO E m) (hT : TO t m q) : EO (nextE E t) q :=
  ⟨Nat.le_trans (srt_len (next_mem hE hT)) hq, fun p hp => next_mem hE hT p (EvS.mem_srt.mp hp)⟩
theorem flat_len {E : List Int} {t : List (List Int)} {m q : Nat} (hE : EO E m) (hT : TO t m q) : (E.flatMap fun p => t.getD p.toNat []).length ≤ 81 := by
  have key : ∀ l : List Int, (∀ p ∈ l, 0 ≤ p ∧ p < m) → (l.flatMap fun p => t.getD p.toNat []).length ≤ l.length * 9 := by
    intro l
    induction l with
    | nil => simp
    | cons a l ih =>
      intro h
      have h1 := ih fun p hp => h p (List.mem_cons_of_mem _ hp)
      have := h a (by simp)
      have hl : a.toNat < t.length := by rw [hT.1]; omega
      have h2 := (hT.2 _ (List.getElem_mem hl)).1
      rw [List.flatMap_cons, List.length_append, List.length_cons, List.getD_eq_getElem?_getD, List.getElem?_eq_getElem hl]
      simp only [Option.getD_some]
      omega
  have := key E hE.2
  have := hE.1
  omega
theorem at_tbl {t : List (List Int)} {p : Int} (h0 : 0 ≤ p) (hl : p < t.length) : atI (t.map tupI) p = some (tupI (t.getD p.toNat [])) := by
  obtain ⟨k, rfl⟩ : ∃ k : Nat, p = k := ⟨p.toNat, by omega⟩
  have hl2 : k < t.length := by omega
  rw [at_map tupI hl2, Int.toNat_natCast, List.getD_eq_getElem?_getD, List.getElem?_eq_getElem hl2]
  rfl
theorem at_last {xs : List D} {d : D} : atI (xs ++ [d]) (-1) = some d := by
  have e : ixN (xs.length + 1) (-1) = some xs.length := by unfold ixN; simp; omega
  simp [atI, e]
theorem ends_turn {E : List Int} {t : List (List Int)} {m q : Nat} (hm : m ≤ 9) (hq : q ≤ 9) (hE : EO E m) (hT : TO t m q) (z0 z1 y4 y5 y6 y7 : Option D) (h : HP) {acc : List (List Int)} (ha : acc.length ≤ 100) :
    ∃ x4, B_places_ending_1 [z0, z1, some (.ref h.length), some (tblD t), y4, y5, y6, y7] (h ++ [.lst ((acc ++ [E]).map tupI)]) =
      .nx [z0, z1, some (.ref h.length), some (tblD t), x4, y5, y6, y7] (h ++ [.lst ((acc ++ [E] ++ [nextE E t]).map tupI)]) := by
  have ae : (acc ++ [E]).map tupI = acc.map tupI ++ [tupI E] := by simp
  have lc : C_places_ending_2 false [z0, z1, some (.ref h.length), some (tblD t), y4, y5, y6, y7] (h ++ [.lst ((acc ++ [E]).map tupI)]) = _ :=
    mLc2_flat (h1 := h ++ [.lst ((acc ++ [E]).map tupI)]) (items := E.map D.int) (fun d => match d with | .int p => (t.getD p.toNat []).map D.int | _ => []) (fun _ d => d) (by
        rw [ae]
        have al := at_last (xs := acc.map tupI) (d := tupI E)
        generalize acc.map tupI ++ [tupI E] = xs at *
        simp [al, tupI]) (by
        have := flat_len hE hT
        rw [List.flatMap_map]
        simp only
        rw [show (E.flatMap fun a => (t.getD a.toNat []).map D.int) = (E.flatMap fun a => t.getD a.toNat []).map D.int from (List.map_flatMap ..).symm, List.length_map, sizeLine_eq]
        omega)
      (fun d hd h' => by
        obtain ⟨p, hp, rfl⟩ := List.mem_map.mp hd
        have b := hE.2 p hp
        have at1 := at_tbl (t := t) b.1 (by rw [hT.1]; exact b.2)
        simp only [tblD]
        generalize t.getD p.toNat [] = r at *
        generalize t.map tupI = ts at *
        refine ⟨[z0, z1, some (.ref h.length), some (.lst ts), y4, y5, some (.int p), none], by simp [tblD], by simp [at1, tupI], fun d1 hd1 h'' => ⟨[z0, z1, some (.ref h.length), some (.lst ts), y4, y5, some (.int p), some d1], by simp, by simp⟩⟩)
      fun d hd d1 hd1 => by
        obtain ⟨p, hp, rfl⟩ := List.mem_map.mp hd
        obtain ⟨x, _, rfl⟩ := List.mem_map.mp hd1
        exact clean_int x
  have fl := flat_len hE hT
  have e : ((E.map D.int).flatMap fun d => ((fun d => match d with | .int p => (t.getD p.toNat []).map D.int | _ => []) d : List D).map ((fun _ d => d) d)) = (E.flatMap fun p => t.getD p.toNat []).map D.int := by
    rw [List.flatMap_map, List.map_flatMap]
    congr 1
    funext p
    simp
  rw [e] at lc
  have nx := next_ok hq hE hT
  have nl : (EvS.srt (E.flatMap fun p => t.getD p.toNat [])).length < 64 := Nat.lt_of_le_of_lt nx.1 (by omega)
  unfold nextE
  generalize E.flatMap (fun p => t.getD p.toNat []) = F at *
  have iF := intsD_map F
  have lF : F.length ≤ 1000 := by omega
  have lz : (EvS.srt F).length ≤ 16000000 := by omega
  have ap := appL_last (y := tupI (EvS.srt F)) (ds := (acc ++ [E]).map tupI) h (by rw [sizeLine_eq]; simp; omega)
  have e2 : (acc ++ [E] ++ [EvS.srt F]).map tupI = (acc ++ [E]).map tupI ++ [tupI (EvS.srt F)] := by simp
  rw [e2]
  unfold tupI at *
  refine ⟨some (.lst (F.map D.int)), ?_⟩
  generalize ((acc ++ [E]).map fun xs => D.tup (xs.map D.int)) = xs at *
  generalize F.map D.int = fs at *
  simp [lc, iF, lF, nl, lz, ap]
theorem ends_ne (E : List Int) (T : List (List (List Int))) : ∃ acc l, ends E T = acc ++ [l] := by
  cases T with
  | nil => exact ⟨[], E, rfl⟩
  | cons t r =>
    obtain ⟨a, l, e⟩ := ends_ne (nextE E t) r
    exact ⟨E :: a, l, by simp [ends, e]⟩
/-- sizes along the tables -/
def Chn : Nat → List (List (List Int)) → Prop
  | _, [] => True
  | m, t :: r => ∃ q, q ≤ 9 ∧ TO t m q ∧ Chn q r
theorem ends_loop (z0 z1 y5 y6 y7 : Option D) (h : HP) : ∀ (T : List (List (List Int))) {E : List Int} {m : Nat} (hm : m ≤ 9) (hE : EO E m) (hT : Chn m T) {acc : List (List Int)} (ha : acc.length + T.length ≤ 100) (y3 y4 : Option D),
    ∃ x3 x4, forE (gNm 3) B_places_ending_1 [] (T.map tblD) [z0, z1, some (.ref h.length), y3, y4, y5, y6, y7] (h ++ [.lst ((acc ++ [E]).map tupI)]) = .nx [z0, z1, some (.ref h.length), x3, x4, y5, y6, y7] (h ++ [.lst ((acc ++ ends E T).map tupI)])
  | [], E, m, hm, hE, hT, acc, ha, y3, y4 => ⟨y3, y4, by rw [List.map_nil]; unfold forE; rw [if_pos (by simp [Gd])]; rfl⟩
  | t :: r, E, m, hm, hE, hT, acc, ha, y3, y4 => by
    obtain ⟨q, hq, to, ch⟩ := hT
    simp only [List.length_cons] at ha
    obtain ⟨x4, e1⟩ := ends_turn hm hq hE to z0 z1 y4 y5 y6 y7 h (acc := acc) (by omega)
    obtain ⟨x3, x4', e2⟩ := ends_loop z0 z1 y5 y6 y7 h r hq (next_ok hq hE to) ch (acc := acc ++ [E]) (by simp; omega) (some (tblD t)) x4
    refine ⟨x3, x4', ?_⟩
    rw [List.map_cons, for_nx (by simp) e1, e2]
    simp [ends]
def rngI (n : Nat) : List Int := (List.range n).map fun k : Nat => (k : Int)
theorem rngI_D (n : Nat) : (rngI n).map D.int = rngD 0 n := by simp [rngI, rngD]
theorem rngI_ok {n : Nat} (h : n ≤ 9) : EO (rngI n) n := ⟨by simpa [rngI] using h, fun p hp => by
  obtain ⟨k, hk, rfl⟩ := List.mem_map.mp hp
  have := List.mem_range.mp hk
  omega⟩
theorem lk_ok (S : SetV) (n : Nat) (t : Int) (b : Bx) {os : List Bx} (h : os.length ≤ 9) : EO (lk S n t b os) os.length := by
  unfold lk
  refine ⟨?_, fun p hp => ?_⟩
  · rw [List.length_map]
    have := List.length_filter_le (fun k => !farX S n t b (os.getD k [])) (List.range os.length)
    simp at *
    omega
  · obtain ⟨k, hk, rfl⟩ := List.mem_map.mp hp
    have := List.mem_range.mp (List.mem_filter.mp hk).1
    omega
theorem tbl_ok (S : SetV) (n : Nat) {L O : Ly} (h : O.bs.length ≤ 9) : TO (tbl S n L O) L.bs.length O.bs.length := by
  unfold tbl
  refine ⟨by simp, fun r hr => ?_⟩
  obtain ⟨b, _, rfl⟩ := List.mem_map.mp hr
  exact lk_ok S n _ b h
theorem lnks_ok (S : SetV) (n : Nat) : ∀ (L : Ly) (Ls : List Ly), (∀ O ∈ L :: Ls, O.bs.length ≤ 9) → Chn L.bs.length (lnks S n (L :: Ls))
  | L, [], _ => by simp [lnks, Chn]
  | L, O :: r, h => by
    have e : lnks S n (L :: O :: r) = tbl S n L O :: lnks S n (O :: r) := by simp [lnks]
    rw [e]
    have hO := h O (by simp)
    exact ⟨O.bs.length, hO, tbl_ok S n hO, lnks_ok S n O r fun X hX => h X (List.mem_cons_of_mem _ hX)⟩
theorem lnks_len (S : SetV) (n : Nat) (Ls : List Ly) : (lnks S n Ls).length = Ls.length - 1 := by simp [lnks]
def endsL (S : SetV) (n : Nat) : List Ly → List (List Int)
  | [] => []
  | L :: r => ends (rngI L.bs.length) (lnks S n (L :: r))
theorem F_ending' (S : SetV) {n : Nat} {Ls : List Ly} (hL : LsO n Ls) (h : HP) :
    F_places_ending [.lst (Ls.map layD), .lst ((lnks S n Ls).map tblD)] h = .ok (.lst ((endsL S n Ls).map tupI)) h := by
  have cl : ∀ xs : List (List Int), ∀ d ∈ xs.map tupI, clean d := fun xs d hd => by
    obtain ⟨x, _, rfl⟩ := List.mem_map.mp hd
    exact clean_ints x
  cases Ls with
  | nil =>
    have pr := pure_list h (cl [])
    simp only [List.map_nil] at pr
    have lc : C_places_ending_1 true [some (.lst []), some (.lst []), none, none, none, none, none, none] h = .ok (.ref h.length) (h ++ [.lst []]) := by
      have := mLc_tyL (it := iAny (mSl (mVar 0) pNo (pYes (mCst (.int 1))))) (own := [5]) (asg := gNm 5) (elt := mTupR (mCall bLen (aCons (mFld "boxes" (mVar 5)) aNil))) (env := [some (.lst []), some (.lst []), none, none, none, none, none, none]) (h := h) (h1 := h) (gd := []) ([] : List Ly) layD layD (by simp [Ev.cutD]) (by simp [Gd]) (by simp) (by simp)
      exact this
    have fn : ∀ env h, forE (gNm 3) B_places_ending_1 [] [] env h = .nx env h := fun env h => by unfold forE; rw [if_pos (by simp [Gd])]
    simp [F_places_ending, lnks, endsL, lc, pr, fn]
  | cons L r =>
    have hl := hL.each L (by simp)
    have c : Ev.cutD ((L :: r).map layD) none (some 1) = [L].map layD := by
      rw [show (1 : Int) = ((1 : Nat) : Int) from rfl, cut_to (by simp)]
      simp
    have lc : C_places_ending_1 true [some (.lst ((L :: r).map layD)), some (.lst ((lnks S n (L :: r)).map tblD)), none, none, none, none, none, none] h = _ :=
      mLc_tyL (h1 := h) (gd := []) [L] layD (fun L => tupI (rngI L.bs.length)) (by
        generalize (L :: r).map layD = xs at *
        simp [c]) (by simp [Gd]) (by simp) fun x hx y => by
        rw [List.mem_singleton] at hx
        subst hx
        have e := rngI_D x.bs.length
        have l9 := hl.2.1
        have z1 : (x.bs.length : Int) ≤ 16000000 := by omega
        refine ⟨[some (.lst ((x :: r).map layD)), some (.lst ((lnks S n (x :: r)).map tblD)), none, none, none, some (layD x), none, none], by simp, ?_⟩
        simp [List.lookup, tupI, e, z1]
    obtain ⟨x3, x4, lp⟩ := ends_loop (some (.lst ((L :: r).map layD))) (some (.lst ((lnks S n (L :: r)).map tblD))) none none none h (lnks S n (L :: r)) hl.2.1 (rngI_ok hl.2.1) (lnks_ok S n L r fun O hO => (hL.each O hO).2.1) (acc := []) (by have h4 := hL.few; have e := lnks_len S n (L :: r); simp only [List.length_nil, List.length_cons] at h4 e ⊢; omega) none none
    have pr := pure_list h (cl (endsL S n (L :: r)))
    have ee : ([] : List (List Int)) ++ ends (rngI L.bs.length) (lnks S n (L :: r)) = endsL S n (L :: r) := rfl
    rw [ee] at lp
    have e1 : [L].map (fun L => tupI (rngI L.bs.length)) = (([] : List (List Int)) ++ [rngI L.bs.length]).map tupI := by simp
    rw [e1] at lc
    generalize (endsL S n (L :: r)).map tupI = es at *
    generalize ((([] : List (List Int)) ++ [rngI L.bs.length]).map tupI) = e0 at *
    generalize (lnks S n (L :: r)).map tblD = ts at *
    generalize (L :: r).map layD = xs at *
    simp [F_places_ending, lc, lp, pr]
theorem nes_map : ∀ xs : List (List Int), nesT (xs.map tupI) = some (xs.map fun x => !x.isEmpty)
  | [] => rfl
  | x :: xs => by
    have ih := nes_map xs
    rw [List.map_cons, nesT, ih]
    cases x <;> simp [tupI]
theorem F_has' {S : SetV} (k : S.ok) {n : Nat} (hn : n ≤ 10) {Ls : List Ly} (hL : LsO n Ls) (h : HP) :
    F_has_chain [paD S, .lst (Ls.map layD)] h = .ok (.bl (((endsL S n Ls).map fun x => !x.isEmpty).all id)) h := by
  have f1 := fun h => F_links' k hn hL h
  have f2 := fun h => F_ending' S hL h
  have f3 := nes_map (endsL S n Ls)
  have pr := fun b => pure_clean h (clean_bl b)
  generalize (endsL S n Ls).map tupI = es at *
  generalize (lnks S n Ls).map tblD = ts at *
  generalize Ls.map layD = xs at *
  simp [F_has_chain, f1, f2, f3, pr]
end LibT
namespace LibT
open PySem PySem.Spec PyProof.Rows L2 Ev Lib
/-! the layers of the laws -/
def d1 (i : Nat) : Int := [1, 21, 441].getD i 1
def d2 (i : Nat) : Int := [9261, 27783, 83349].getD i 1
def sideV (c : Int) (i : Nat) : Int × Int := (c / d1 i % 21 - 10, c / d1 i % 21 - 10 + c / d2 i % 3)
def clkV (c : Int) : Int × Int := (c / 250047 % 7 - 3, c / 250047 % 7 - 3 + c / 1750329 % 3)
def boxV (n : Nat) (c : Int) : Bx := (List.range n).map (sideV c) ++ [clkV c]
theorem appJ {a : List D} (y : D) (h j : HP) (c : a.length < sizeLine) : appL h.length y (h ++ .lst a :: j) = .ok () (h ++ .lst (a ++ [y]) :: j) := by
  simp [appL, c]
theorem side_turn {i : Nat} (hi : i < 3) (c : Int) (z0 z1 z2 z3 z4 z5 z6 y10 : Option D) (h : HP) {acc : List D} (ha : acc.length ≤ 100) :
    ∃ x10, B__law_layer_1 [z0, z1, z2, z3, z4, z5, z6, some (.int c), some (.ref h.length), some (.int i), y10] (h ++ [.lst acc]) =
      .nx [z0, z1, z2, z3, z4, z5, z6, some (.int c), some (.ref h.length), some (.int i), x10] (h ++ [.lst (acc ++ [sideD (sideV c i)])]) := by
  have ap := fun y => appL_last (y := y) (ds := acc) h (by rw [sizeLine_eq]; omega)
  rcases (show i = 0 ∨ i = 1 ∨ i = 2 by omega) with rfl | rfl | rfl
  · exact ⟨some (.int (c % 21 - 10)), by simp [lg, ap, sideD, sideV, d1, d2]⟩
  · exact ⟨some (.int (c / 21 % 21 - 10)), by simp [lg, ap, sideD, sideV, d1, d2]⟩
  · exact ⟨some (.int (c / 441 % 21 - 10)), by simp [lg, ap, sideD, sideV, d1, d2]⟩
theorem side_loop {n : Nat} (hn : n ≤ 3) (c : Int) (z0 z1 z2 z3 z4 z5 z6 y9 y10 : Option D) (h : HP) :
    ∃ x9 x10, forE (gNm 9) B__law_layer_1 [] (rngD 0 n) [z0, z1, z2, z3, z4, z5, z6, some (.int c), some (.ref h.length), y9, y10] (h ++ [.lst []]) =
      .nx [z0, z1, z2, z3, z4, z5, z6, some (.int c), some (.ref h.length), x9, x10] (h ++ [.lst (((List.range n).map (sideV c)).map sideD)]) := by
  obtain ⟨_, h1, e1, ⟨x9, x10, rfl⟩, hh⟩ := for_rng (asg := gNm 9) (body := B__law_layer_1) (n := n)
    (fun i env h' => (∃ x9 x10, env = [z0, z1, z2, z3, z4, z5, z6, some (.int c), some (.ref h.length), x9, x10]) ∧ h' = h ++ [.lst (((List.range i).map (sideV c)).map sideD)])
    (fun i env h' hi hI => by
      obtain ⟨⟨x9, x10, rfl⟩, rfl⟩ := hI
      obtain ⟨y, e⟩ := side_turn (by omega : i < 3) c z0 z1 z2 z3 z4 z5 z6 x10 h (acc := ((List.range i).map (sideV c)).map sideD) (by simp; omega)
      refine ⟨_, rfl, _, _, .inl e, ⟨_, _, rfl⟩, ?_⟩
      rw [List.range_succ]
      simp)
    (env := [z0, z1, z2, z3, z4, z5, z6, some (.int c), some (.ref h.length), y9, y10]) (h := h ++ [.lst []]) ⟨⟨y9, y10, rfl⟩, by simp⟩
  rw [hh] at e1
  exact ⟨x9, x10, e1⟩
theorem lay_turn {ns : List Int} (hn : Okn ns) {k n i : Nat} (hk : k ≤ 500) (h3 : n ≤ 3) (hi : i < 9) (z3 z4 y7 y8 y9 y10 : Option D) (h j : HP) {acc : List D} (ha : acc.length ≤ 100) :
    ∃ x7 x8 x9 x10 j', B__law_layer_2 [some (Sc ns), some (.int k), some (.int n), z3, z4, some (.ref h.length), some (.int i), y7, y8, y9, y10] (h ++ .lst acc :: j) =
      .nx [some (Sc ns), some (.int k), some (.int n), z3, z4, some (.ref h.length), some (.int i), x7, x8, x9, x10] (h ++ .lst (acc ++ [boxD (boxV n (num ns (k + i)))]) :: j') := by
  have n1 : ∀ h, F__law_number [Sc ns, .int ((k : Int) + (i : Int))] h = .ok (.int (num ns (k + i))) h := fun h => by
    have := F_number hn (k := k + i) (by omega) h
    rw [show ((k + i : Nat) : Int) = (k : Int) + (i : Int) by omega] at this
    exact this
  generalize num ns (k + i) = c at n1 ⊢
  obtain ⟨x9, x10, lp⟩ := side_loop h3 c (some (Sc ns)) (some (.int k)) (some (.int n)) z3 z4 (some (.ref h.length)) (some (.int i)) y9 y10 (h ++ .lst acc :: j)
  have rg := rg_nat (n := n) (by omega)
  have a1 := appL_last (y := sideD (clkV c)) (ds := ((List.range n).map (sideV c)).map sideD) (h ++ .lst acc :: j) (by rw [sizeLine_eq]; simp; omega)
  have eb : ((List.range n).map (sideV c)).map sideD ++ [sideD (clkV c)] = (boxV n c).map sideD := by simp [boxV]
  rw [eb] at a1
  have lz : ((boxV n c).map sideD).length ≤ 16000000 := by simp [boxV]; omega
  have a2 := appJ (a := acc) (boxD (boxV n c)) h (j ++ [.lst ((boxV n c).map sideD)]) (by rw [sizeLine_eq]; omega)
  have ix : ((h ++ .lst acc :: j) ++ [.lst ((boxV n c).map sideD)])[(h ++ .lst acc :: j).length]? = some (.lst ((boxV n c).map sideD)) := by simp
  have ec : sideD (clkV c) = .tup [.int (c / 250047 % 7 - 3), .int (c / 250047 % 7 - 3 + c / 1750329 % 3)] := rfl
  rw [ec] at a1
  have es : (h ++ .lst acc :: j) ++ [O.lst ((boxV n c).map sideD)] = h ++ .lst acc :: (j ++ [.lst ((boxV n c).map sideD)]) := by simp
  refine ⟨some (.int c), some (.ref (h ++ .lst acc :: j).length), x9, some (.int (c / 250047 % 7 - 3)), j ++ [.lst ((boxV n c).map sideD)], ?_⟩
  rw [es] at a1 ix
  unfold boxD at *
  generalize (boxV n c).map sideD = bs at *
  generalize ((List.range n).map (sideV c)).map sideD = cs at *
  generalize h ++ .lst acc :: j = H at *
  simp [n1, rg, lp, lg, a1, ix, lz, a2]
theorem lay_loop {ns : List Int} (hn : Okn ns) {k n many : Nat} (hk : k ≤ 500) (h3 : n ≤ 3) (hm : many ≤ 9) (z3 z4 : Option D) (h : HP) :
    ∃ x6 x7 x8 x9 x10 j, forE (gNm 6) B__law_layer_2 [] (rngD 0 many) [some (Sc ns), some (.int k), some (.int n), z3, z4, some (.ref h.length), none, none, none, none, none] (h ++ [.lst []]) =
      .nx [some (Sc ns), some (.int k), some (.int n), z3, z4, some (.ref h.length), x6, x7, x8, x9, x10] (h ++ .lst (((List.range many).map fun i => boxV n (num ns (k + i))).map boxD) :: j) := by
  obtain ⟨_, h1, e1, ⟨x6, x7, x8, x9, x10, rfl⟩, j, hh⟩ := for_rng (asg := gNm 6) (body := B__law_layer_2) (n := many)
    (fun i env h' => (∃ x6 x7 x8 x9 x10, env = [some (Sc ns), some (.int k), some (.int n), z3, z4, some (.ref h.length), x6, x7, x8, x9, x10]) ∧ ∃ j, h' = h ++ .lst (((List.range i).map fun i => boxV n (num ns (k + i))).map boxD) :: j)
    (fun i env h' hi hI => by
      obtain ⟨⟨x6, x7, x8, x9, x10, rfl⟩, j, rfl⟩ := hI
      obtain ⟨y7, y8, y9, y10, j', e⟩ := lay_turn hn hk h3 (by omega : i < 9) z3 z4 x7 x8 x9 x10 h j (acc := ((List.range i).map fun i => boxV n (num ns (k + i))).map boxD) (by simp; omega)
      refine ⟨_, rfl, _, _, .inl e, ⟨_, _, _, _, _, rfl⟩, j', ?_⟩
      rw [List.range_succ]
      simp)
    (env := [some (Sc ns), some (.int k), some (.int n), z3, z4, some (.ref h.length), none, none, none, none, none]) (h := h ++ [.lst []]) ⟨⟨none, none, none, none, none, rfl⟩, [], by simp⟩
  rw [hh] at e1
  exact ⟨x6, x7, x8, x9, x10, j, e1⟩
def layV (ns : List Int) (k n : Nat) (m : Int) (many : Nat) : Ly := ⟨m, (List.range many).map fun i => boxV n (num ns (k + i))⟩
theorem F_layer' {ns : List Int} (hn : Okn ns) {k n many : Nat} (hk : k ≤ 500) (h3 : n ≤ 3) (hm : many ≤ 9) (m : Int) (h : HP) :
    F__law_layer [Sc ns, .int k, .int n, .int m, .int many] h = .ok (layD (layV ns k n m many)) h := by
  obtain ⟨x6, x7, x8, x9, x10, j, lp⟩ := lay_loop hn hk h3 hm (some (.int m)) (some (.int many)) h
  have rg := rg_nat (n := many) (by omega)
  have mk := mk_lay (layV ns k n m many) (h ++ .lst (((List.range many).map fun i => boxV n (num ns (k + i))).map boxD) :: j)
  have pr := pure_junk (d := layD (layV ns k n m many)) h (.lst (((List.range many).map fun i => boxV n (num ns (k + i))).map boxD) :: j) (clean_lay _ _)
  have lz : (((List.range many).map fun i => boxV n (num ns (k + i))).map boxD).length ≤ 16000000 := by simp; omega
  have e : (layV ns k n m many).bs.map boxD = ((List.range many).map fun i => boxV n (num ns (k + i))).map boxD := rfl
  have em : (layV ns k n m many).m = m := rfl
  rw [e, em] at mk
  generalize ((List.range many).map fun i => boxV n (num ns (k + i))).map boxD = bs at *
  generalize layD (layV ns k n m many) = L at *
  simp at mk
  simp [F__law_layer, rg, lp, lz, mk, pr]
def wd (ns : List Int) (k : Nat) : Bool := decide (num ns k / 45 % 5 = 0)
def mo (ns : List Int) (k : Nat) : Nat → Int
  | 0 => num ns k % 9 - 4
  | i + 1 => mo ns k i + 1 + num ns (k + 1 + 4 * i) / 8 % 6
def mny (ns : List Int) (k i : Nat) : Nat := if wd ns k = true then (4 + num ns (k + 1 + 4 * i) / 48 % 6).toNat else [1, 2, 3, 2, 1, 3, 2, 0].getD (num ns (k + 1 + 4 * i) % 8).toNat 0
def cnt (ns : List Int) (k : Nat) : Nat := if wd ns k = true then 2 else (num ns k / 9 % 5).toNat
def lyV (ns : List Int) (k n i : Nat) : Ly := layV ns (k + 2 + 4 * i + 6 * (if wd ns k = true then 1 else 0) * i) n (mo ns k i) (mny ns k i)
def lsV (ns : List Int) (k n : Nat) : List Ly := (List.range (cnt ns k)).map (lyV ns k n)
theorem cnt_le (ns : List Int) (k : Nat) : cnt ns k ≤ 4 := by
  unfold cnt
  split <;> omega
theorem mny_le (ns : List Int) (k i : Nat) : mny ns k i ≤ 9 := by
  unfold mny
  split
  · omega
  · have h1 := Int.emod_nonneg (num ns (k + 1 + 4 * i)) (show (8 : Int) ≠ 0 by decide)
    have h2 := Int.emod_lt_of_pos (num ns (k + 1 + 4 * i)) (show (0 : Int) < 8 by decide)
    generalize num ns (k + 1 + 4 * i) % 8 = q at *
    obtain ⟨c, rfl⟩ : ∃ c : Nat, q = c := ⟨q.toNat, by omega⟩
    have hc : c < 8 := by omega
    rw [Int.toNat_natCast]
    match c, hc with
    | 0, _ => decide
    | 1, _ => decide
    | 2, _ => decide
    | 3, _ => decide
    | 4, _ => decide
    | 5, _ => decide
    | 6, _ => decide
    | 7, _ => decide
end LibT
namespace LibT
open PySem PySem.Spec PyProof.Rows L2 Ev Lib
theorem at8 {c : Int} : atI [D.int 1, D.int 2, D.int 3, D.int 2, D.int 1, D.int 3, D.int 2, D.int 0] (c % 8) = some (.int (([1, 2, 3, 2, 1, 3, 2, 0].getD (c % 8).toNat 0 : Nat) : Int)) := by
  have h1 := Int.emod_nonneg c (show (8 : Int) ≠ 0 by decide)
  have h2 := Int.emod_lt_of_pos c (show (0 : Int) < 8 by decide)
  generalize c % 8 = q at *
  obtain ⟨c, rfl⟩ : ∃ c : Nat, q = c := ⟨q.toNat, by omega⟩
  have hc : c < 8 := by omega
  rw [Int.toNat_natCast]
  match c, hc with
  | 0, _ => rfl
  | 1, _ => rfl
  | 2, _ => rfl
  | 3, _ => rfl
  | 4, _ => rfl
  | 5, _ => rfl
  | 6, _ => rfl
  | 7, _ => rfl
theorem lays_turn {ns : List Int} (hn : Okn ns) {k n i : Nat} (hk : k ≤ 100) (h3 : n ≤ 3) (hi : i < 4) (z3 y8 y9 : Option D) (h : HP) {acc : List Ly} (ha : acc.length ≤ 100) :
    ∃ x8 x9, B__law_layers_1 [some (Sc ns), some (.int k), some (.int n), z3, some (.ref h.length), some (.int (mo ns k i)), some (.bl (wd ns k)), some (.int i), y8, y9] (h ++ [.lst (acc.map layD)]) =
      .nx [some (Sc ns), some (.int k), some (.int n), z3, some (.ref h.length), some (.int (mo ns k (i + 1))), some (.bl (wd ns k)), some (.int i), x8, x9] (h ++ [.lst ((acc ++ [lyV ns k n i]).map layD)]) := by
  have n1 : ∀ h, F__law_number [Sc ns, .int ((k : Int) + 1 + 4 * (i : Int))] h = .ok (.int (num ns (k + 1 + 4 * i))) h := fun h => by
    have := F_number hn (k := k + 1 + 4 * i) (by omega) h
    rw [show ((k + 1 + 4 * i : Nat) : Int) = (k : Int) + 1 + 4 * (i : Int) by omega] at this
    exact this
  have m1 : CMulE 4 (i : Int) := mul64 (by decide) (by omega)
  have m2 : CMulE 6 (i : Int) := mul64 (by decide) (by omega)
  have m3 : CMulE 0 (i : Int) := mul64 (by decide) (by omega)
  have m4 : CMulE 6 1 := mul64 (by decide) (by omega)
  have m5 : CMulE 6 0 := mul64 (by decide) (by omega)
  have em : mo ns k (i + 1) = mo ns k i + 1 + num ns (k + 1 + 4 * i) / 8 % 6 := rfl
  have ny := mny_le ns k i
  have ey : mny ns k i = if wd ns k = true then (4 + num ns (k + 1 + 4 * i) / 48 % 6).toNat else [1, 2, 3, 2, 1, 3, 2, 0].getD (num ns (k + 1 + 4 * i) % 8).toNat 0 := rfl
  have el : lyV ns k n i = layV ns (k + 2 + 4 * i + 6 * (if wd ns k = true then 1 else 0) * i) n (mo ns k i) (mny ns k i) := rfl
  have a8 := at8 (c := num ns (k + 1 + 4 * i))
  have ap := appL_last (y := layD (lyV ns k n i)) (ds := acc.map layD) h (by rw [sizeLine_eq]; simp; omega)
  have e2 : (acc ++ [lyV ns k n i]).map layD = acc.map layD ++ [layD (lyV ns k n i)] := by simp
  rw [e2, em]
  cases w : wd ns k with
  | true =>
    rw [w, if_pos rfl] at ey el
    have hm : (4 + num ns (k + 1 + 4 * i) / 48 % 6) = (mny ns k i : Int) := by rw [ey]; omega
    have fl := fun h => F_layer' hn (k := k + 2 + 4 * i + 6 * 1 * i) (n := n) (by omega) h3 ny (mo ns k i) h
    rw [← el] at fl
    have ek : ((k + 2 + 4 * i + 6 * 1 * i : Nat) : Int) = (k : Int) + 2 + 4 * (i : Int) + 6 * (i : Int) := by omega
    rw [ek] at fl
    generalize num ns (k + 1 + 4 * i) = c at *
    generalize mny ns k i = mm at *
    generalize layD (lyV ns k n i) = L at *
    generalize acc.map layD = xs at *
    exact ⟨some (.int c), some (.int mm), by simp [n1, m1, m2, m4, lg, a8, hm, fl, ap]⟩
  | false =>
    rw [w, if_neg Bool.false_ne_true] at ey el
    rw [← ey] at a8
    have fl := fun h => F_layer' hn (k := k + 2 + 4 * i + 6 * 0 * i) (n := n) (by omega) h3 ny (mo ns k i) h
    rw [← el] at fl
    have ek : ((k + 2 + 4 * i + 6 * 0 * i : Nat) : Int) = (k : Int) + 2 + 4 * (i : Int) := by omega
    rw [ek] at fl
    generalize num ns (k + 1 + 4 * i) = c at *
    generalize mny ns k i = mm at *
    generalize layD (lyV ns k n i) = L at *
    generalize acc.map layD = xs at *
    exact ⟨some (.int c), some (.int mm), by simp [n1, m1, m3, m5, lg, a8, fl, ap]⟩
theorem F_layers' {ns : List Int} (hn : Okn ns) {k n : Nat} (hk : k ≤ 100) (h3 : n ≤ 3) (h : HP) : F__law_layers [Sc ns, .int k, .int n] h = .ok (.lst ((lsV ns k n).map layD)) h := by
  have n1 := fun h => F_number hn (k := k) (by omega) h
  have c4 := cnt_le ns k
  obtain ⟨_, h1, e1, ⟨x5, x7, x8, x9, rfl⟩, hh⟩ := for_rng (asg := gNm 7) (body := B__law_layers_1) (n := cnt ns k)
    (fun i env h' => (∃ x7 x8 x9, env = [some (Sc ns), some (.int k), some (.int n), some (.int (num ns k)), some (.ref h.length), some (.int (mo ns k i)), some (.bl (wd ns k)), x7, x8, x9]) ∧ h' = h ++ [.lst (((List.range i).map (lyV ns k n)).map layD)])
    (fun i env h' hi hI => by
      obtain ⟨⟨x7, x8, x9, rfl⟩, rfl⟩ := hI
      obtain ⟨y8, y9, e⟩ := lays_turn hn hk h3 (by omega : i < 4) (some (.int (num ns k))) x8 x9 h (acc := (List.range i).map (lyV ns k n)) (by simp; omega)
      refine ⟨_, rfl, _, _, .inl e, ⟨_, _, _, rfl⟩, ?_⟩
      rw [List.range_succ]
      simp)
    (env := [some (Sc ns), some (.int k), some (.int n), some (.int (num ns k)), some (.ref h.length), some (.int (mo ns k 0)), some (.bl (wd ns k)), none, none, none]) (h := h ++ [.lst []]) ⟨⟨none, none, none, rfl⟩, by simp⟩
  rw [hh] at e1
  have e0 : mo ns k 0 = num ns k % 9 - 4 := rfl
  rw [e0] at e1
  have pr : pure_ h (.ref h.length) (h ++ [.lst ((lsV ns k n).map layD)]) = _ := pure_list h fun d hd => by
    obtain ⟨L, _, rfl⟩ := List.mem_map.mp hd
    exact clean_lay L
  have eL : ((List.range (cnt ns k)).map (lyV ns k n)).map layD = (lsV ns k n).map layD := rfl
  rw [eL] at e1
  have rg := rg_nat (n := cnt ns k) (by omega)
  generalize (lsV ns k n).map layD = xs at *
  have ew : wd ns k = decide (num ns k / 45 % 5 = 0) := rfl
  by_cases q : num ns k / 45 % 5 = 0
  · have w : wd ns k = true := by rw [ew]; exact decide_eq_true q
    have c2 : cnt ns k = 2 := by unfold cnt; rw [if_pos w]
    rw [w, c2] at e1
    have rg2 : Rg (2 : Int) := rg_nat (n := 2) (by omega)
    simp [F__law_layers, n1, lg, q, sh_int, PyData.eqv, rg2, e1, pr]
  · have w : wd ns k = false := by rw [ew]; exact decide_eq_false q
    have c2 : (cnt ns k : Int) = num ns k / 9 % 5 := by unfold cnt; rw [if_neg (by rw [w]; exact Bool.false_ne_true)]; omega
    rw [w] at e1
    have qb : (num ns k / 45 % 5 == 0) = false := by simpa using q
    simp [F__law_layers, n1, lg, qb, sh_int, PyData.eqv, ← c2, rg, e1, pr]
theorem boxV_ok (n : Nat) (c : Int) : (boxV n c).length = n + 1 ∧ ∀ s ∈ boxV n c, s.1.natAbs ≤ 100 ∧ s.2.natAbs ≤ 100 := by
  refine ⟨by simp [boxV], fun s hs => ?_⟩
  rcases List.mem_append.mp hs with hs | hs
  · obtain ⟨i, _, rfl⟩ := List.mem_map.mp hs
    unfold sideV
    simp only
    have := Int.emod_nonneg (c / d1 i) (show (21 : Int) ≠ 0 by decide)
    have := Int.emod_lt_of_pos (c / d1 i) (show (0 : Int) < 21 by decide)
    have := Int.emod_nonneg (c / d2 i) (show (3 : Int) ≠ 0 by decide)
    have := Int.emod_lt_of_pos (c / d2 i) (show (0 : Int) < 3 by decide)
    omega
  · rw [List.mem_singleton] at hs
    subst hs
    unfold clkV
    simp only
    omega
theorem mo_lt (ns : List Int) (k i : Nat) : mo ns k i < mo ns k (i + 1) ∧ mo ns k (i + 1) ≤ mo ns k i + 6 := by
  have e : mo ns k (i + 1) = mo ns k i + 1 + num ns (k + 1 + 4 * i) / 8 % 6 := rfl
  omega
theorem mo_mono (ns : List Int) (k : Nat) {i : Nat} : ∀ {j : Nat}, i < j → mo ns k i < mo ns k j
  | j + 1, h => by
    have := mo_lt ns k j
    by_cases e : i = j
    · subst e
      exact this.1
    · have := mo_mono ns k (i := i) (j := j) (by omega)
      omega
theorem mo_bd (ns : List Int) (k : Nat) : ∀ i, (mo ns k i).natAbs ≤ 10 + 6 * i
  | 0 => by
    have e : mo ns k 0 = num ns k % 9 - 4 := rfl
    omega
  | i + 1 => by
    have := mo_bd ns k i
    have := mo_lt ns k i
    omega
/-- what the laws' layers are like -/
structure LsS (n : Nat) (Ls : List Ly) : Prop where
  few : Ls.length ≤ 4
  asc : Ls.Pairwise fun a b => a.m < b.m
  each : ∀ L ∈ Ls, L.m.natAbs ≤ 100 ∧ L.bs.length ≤ 9 ∧ ∀ b ∈ L.bs, b.length = n + 1 ∧ ∀ s ∈ b, s.1.natAbs ≤ 100 ∧ s.2.natAbs ≤ 100
theorem lsV_ok (ns : List Int) (k n : Nat) : LsS n (lsV ns k n) := by
  have c4 := cnt_le ns k
  refine ⟨by simpa [lsV] using c4, ?_, fun L hL => ?_⟩
  · unfold lsV
    refine List.pairwise_map.mpr (List.Pairwise.imp (fun h => ?_) List.pairwise_lt_range)
    exact mo_mono ns k h
  · obtain ⟨i, hi, rfl⟩ := List.mem_map.mp hL
    have hi := List.mem_range.mp hi
    have := mo_bd ns k i
    refine ⟨?_, ?_, fun b hb => ?_⟩
    · show (mo ns k i).natAbs ≤ 100
      omega
    · show ((List.range (mny ns k i)).map _).length ≤ 9
      have := mny_le ns k i
      simpa using this
    · obtain ⟨j, _, rfl⟩ := List.mem_map.mp (show b ∈ (List.range (mny ns k i)).map _ from hb)
      exact boxV_ok n _
theorem LsS.o {n : Nat} {Ls : List Ly} (h : LsS n Ls) : LsO n Ls := ⟨h.few, h.asc, fun L hL => by
  obtain ⟨h1, h2, h3⟩ := h.each L hL
  refine ⟨by omega, h2, fun b hb => ⟨(h3 b hb).1, fun s hs => ?_⟩⟩
  have := (h3 b hb).2 s hs
  unfold Sm
  omega⟩
end LibT
namespace LibT
open PySem PySem.Spec PyProof.Rows L2 Ev Lib
/-! what the laws call linked -/
theorem take_sd {n : Nat} {a : Bx} {i : Nat} (hi : i < n) : sd (a.take n) i = sd a i := by
  unfold sd
  rw [List.getD_eq_getElem?_getD, List.getD_eq_getElem?_getD, List.getElem?_take, if_pos hi]
theorem betQ_take (n : Nat) (a b : Bx) : betQ n (a.take n) (b.take n) = betQ n a b := sg_congr fun i hi => by
  unfold betS
  rw [take_sd hi, take_sd hi]
theorem BO.sm {n : Nat} {b : Bx} (h : BO n b) {i : Nat} (hi : i ≤ n) : Sm (sd b i) := sd_sm h.2 (by have := h.1; omega)
theorem gap_turn {n : Nat} {a b : Bx} (ha : BO n a) (hb : BO n b) {i : Nat} (hi : i < n) (f : Int) (y4 : Option D) (h : HP) :
    B__law_gap_1 [some (boxD a), some (boxD b), some (.int f), some (.int i), y4] h = .nx [some (boxD a), some (boxD b), some (.int (f + betS a b i * betS a b i)), some (.int i), some (.int (betS a b i))] h := by
  have a1 := at_box (b := a) (i := i) (by have := ha.1; omega)
  have a2 := at_box (b := b) (i := i) (by have := hb.1; omega)
  rw [← sd_get] at a1 a2
  have sm : (betS a b i).natAbs < 18446744073709551616 := gap_sm (ha.sm (by omega)) (hb.sm (by omega))
  have m := mul64 sm sm
  have g := gap3 (sd a i) (sd b i)
  have gb : gapS (sd a i) (sd b i) = betS a b i := rfl
  rw [gb] at g
  unfold boxD
  generalize a.map sideD = xs at *
  generalize b.map sideD = ys at *
  unfold sideD at a1 a2
  generalize sd a i = s at *
  generalize sd b i = o at *
  generalize betS a b i = w at *
  simp [a1, a2]
  simp at g
  simp [g, m]
theorem F_gapL {n : Nat} (hn : n ≤ 10) {a b : Bx} (ha : BO n a) (hb : BO n b) (h : HP) : F__law_gap [boxD a, boxD b] h = .ok (.int (betQ n a b)) h := by
  obtain ⟨_, h1, e1, ⟨x3, x4, rfl⟩, hh⟩ := for_rng (asg := gNm 3) (body := B__law_gap_1) (n := n)
    (fun i env h' => (∃ x3 x4, env = [some (boxD a), some (boxD b), some (.int (betQ i a b)), x3, x4]) ∧ h' = h)
    (fun i env h' hi hI => by
      obtain ⟨⟨x3, x4, rfl⟩, rfl⟩ := hI
      refine ⟨_, rfl, _, _, .inl (gap_turn ha hb hi _ _ _), ⟨some (.int i), some (.int (betS a b i)), ?_⟩, rfl⟩
      unfold betQ
      rw [sg_succ])
    (env := [some (boxD a), some (boxD b), some (.int 0), none, none]) (h := h) ⟨⟨none, none, rfl⟩, rfl⟩
  rw [hh] at e1
  have la : (a.map sideD).length = n + 1 := by rw [List.length_map, ha.1]
  have rg := rg_nat (n := n) (by omega)
  have pr := pure_clean h (clean_int (betQ n a b))
  unfold boxD at *
  generalize a.map sideD = xs at *
  generalize b.map sideD = ys at *
  simp [F__law_gap, la, rg, e1, pr]
theorem at_lastB {n : Nat} {b : Bx} (h : b.length = n + 1) : atI (b.map sideD) (-1) = some (sideD (sd b n)) := by
  have e : ixN (n + 1) (-1) = some n := by unfold ixN; simp; omega
  have hn : n < b.length := by omega
  simp [atI, h, e, hn, sd]
theorem F_lkL {S : SetV} (k : S.ok) {n : Nat} (hn : n ≤ 10) {t : Int} (ht : t.natAbs < 18446744073709551616) {a b : Bx} (ha : BO n a) (hb : BO n b) (h : HP) : F__law_linked [paD S, .int t, boxD a, boxD b] h = .ok (.bl (!farX S n t a b)) h := by
  have fg := fun h => F_gapL hn ha hb h
  obtain ⟨s1, s2, s3, s4⟩ := set_sz k
  have st := sz64 ht
  have pr := fun b => pure_clean h (clean_bl b)
  have q2 : sz (betQ n a b) < 140 := by
    rw [← betQ_take]
    exact (sg_sq_sz hn (bet_sm ha.parts.1 hb.parts.1 ha.parts.2.1 hb.parts.2.1)).2
  have m0 : CMulE S.p S.p := mulX 64 64 s4 s4 (by decide)
  have m1 : CMulE (S.p * S.p) (betQ n a b) := mulX 129 140 (by have := sz_mul S.p S.p; omega) (by omega) (by decide)
  have m2 : CMulE S.p (gapS (sd a n) (sd b n)) := mulX 64 64 s4 (sz64 (gap_sm (ha.sm (Nat.le_refl _)) (hb.sm (Nat.le_refl _)))) (by decide)
  have m3 : CMulE S.s t := mulX 64 64 s2 st (by decide)
  have m4 : CMulE S.r t := mulX 64 64 s3 st (by decide)
  have m5 : CMulE (S.s * t) (S.s * t) := mulX 129 129 (by have := sz_mul S.s t; omega) (by have := sz_mul S.s t; omega) (by decide)
  have e : farX S n t a b = (decide (S.s * t * (S.s * t) < S.p * S.p * betQ n a b) || decide (S.r * t < S.p * gapS (sd a n) (sd b n))) := by
    unfold farX farB
    rw [betQ_take]
  rw [e]
  have l1 := at_lastB ha.1
  have l2 := at_lastB hb.1
  have g := gap3 (sd a n) (sd b n)
  unfold boxD at *
  generalize betQ n a b = B at *
  generalize a.map sideD = xs at *
  generalize b.map sideD = ys at *
  unfold sideD at l1 l2
  generalize sd a n = s at *
  generalize sd b n = o at *
  generalize gapS s o = G at *
  have gs := g
  simp at gs
  by_cases z : S.s * t * (S.s * t) < S.p * S.p * B
  · simp [F__law_linked, List.lookup, m0, m1, m3, m5, fg, z, pr]
  · by_cases y : S.r * t < S.p * G
    · have y2 : ¬ S.p * G ≤ S.r * t := by omega
      simp [F__law_linked, List.lookup, m0, m1, m3, m5, fg, z, l1, l2]
      simp [List.lookup, gs, m2, m4, y, y2, pr]
    · have y2 : S.p * G ≤ S.r * t := by omega
      simp [F__law_linked, List.lookup, m0, m1, m3, m5, fg, z, l1, l2]
      simp [List.lookup, gs, m2, m4, y, y2, pr]
/-! chains -/
def lyA (Ls : List Ly) (i : Nat) : Ly := Ls.getD i ⟨0, []⟩
def szI (Ls : List Ly) (i : Nat) : Nat := (lyA Ls i).bs.length
def lkI (S : SetV) (n : Nat) (Ls : List Ly) (i p q : Nat) : Bool := !farX S n (tk (lyA Ls i) (lyA Ls (i + 1))) ((lyA Ls i).bs.getD p []) ((lyA Ls (i + 1)).bs.getD q [])
def inI (Ls : List Ly) (c : List Int) (i : Nat) : Bool := decide (0 ≤ c.getD i 0) && decide (c.getD i 0 < szI Ls i)
def lkc (S : SetV) (n : Nat) (Ls : List Ly) (c : List Int) : Nat → Bool
  | 0 => true
  | j + 1 => lkI S n Ls j (c.getD j 0).toNat (c.getD (j + 1) 0).toNat
def okAt (S : SetV) (n : Nat) (Ls : List Ly) (c : List Int) (i : Nat) : Bool := inI Ls c i && lkc S n Ls c i
def isC (S : SetV) (n : Nat) (Ls : List Ly) (c : List Int) : Bool := decide (c.length = Ls.length) && (List.range Ls.length).all (okAt S n Ls c)
theorem lyA_mem {Ls : List Ly} {i : Nat} (hi : i < Ls.length) : lyA Ls i ∈ Ls := by
  unfold lyA
  rw [List.getD_eq_getElem?_getD, List.getElem?_eq_getElem hi]
  exact List.getElem_mem hi
theorem at_lay {Ls : List Ly} {i : Nat} (hi : i < Ls.length) : atI (Ls.map layD) (i : Int) = some (layD (lyA Ls i)) := by
  unfold lyA
  rw [at_map layD hi, List.getD_eq_getElem?_getD, List.getElem?_eq_getElem hi]
  rfl
theorem at_intD {c : List Int} {i : Nat} (hi : i < c.length) : atI (c.map D.int) (i : Int) = some (.int (c.getD i 0)) := by
  rw [at_int hi, List.getD_eq_getElem?_getD, List.getElem?_eq_getElem hi]
  rfl
theorem at_bx {L : Ly} {p : Int} (h0 : 0 ≤ p) (h1 : p < L.bs.length) : atI (L.bs.map boxD) p = some (boxD (L.bs.getD p.toNat [])) := by
  obtain ⟨k, rfl⟩ : ∃ k : Nat, p = k := ⟨p.toNat, by omega⟩
  have hk : k < L.bs.length := by omega
  rw [at_map boxD hk, Int.toNat_natCast, List.getD_eq_getElem?_getD, List.getElem?_eq_getElem hk]
  rfl
theorem bx_ok {n : Nat} {L : Ly} (hL : LyO n L) {p : Int} (h0 : 0 ≤ p) (h1 : p < L.bs.length) : BO n (L.bs.getD p.toNat []) := by
  have hk : p.toNat < L.bs.length := by omega
  rw [List.getD_eq_getElem?_getD, List.getElem?_eq_getElem hk]
  exact hL.2.2 _ (List.getElem_mem hk)
theorem tk_asc {n : Nat} {Ls : List Ly} (hL : LsO n Ls) {j : Nat} (hj : j + 1 < Ls.length) : (lyA Ls (j + 1)).m - (lyA Ls j).m = tk (lyA Ls j) (lyA Ls (j + 1)) ∧ 0 < tk (lyA Ls j) (lyA Ls (j + 1)) := by
  have := List.pairwise_iff_getElem.mp hL.asc j (j + 1) (by omega) hj (by omega)
  have e1 : lyA Ls j = Ls[j] := by unfold lyA; rw [List.getD_eq_getElem?_getD, List.getElem?_eq_getElem (by omega : j < Ls.length)]; rfl
  have e2 : lyA Ls (j + 1) = Ls[j + 1] := by unfold lyA; rw [List.getD_eq_getElem?_getD, List.getElem?_eq_getElem hj]; rfl
  rw [e1, e2]
  unfold tk ab
  split <;> omega
theorem chk_turn {S : SetV} (k : S.ok) {n : Nat} (hn : n ≤ 10) {Ls : List Ly} (hL : LsO n Ls) {c : List Int} (hc : c.length = Ls.length) {i : Nat} (hi : i < Ls.length) (hp : ∀ j < i, okAt S n Ls c j = true) (y4 y5 : Option D) (h : HP) :
    ∃ x4 x5, B__law_is_chain_1 [some (paD S), some (.lst (Ls.map layD)), some (tupI c), some (.int i), y4, y5] h = if okAt S n Ls c i = true then .nx [some (paD S), some (.lst (Ls.map layD)), some (tupI c), some (.int i), x4, x5] h else .rt (.bl false) h := by
  have ac := at_intD (c := c) (i := i) (by omega)
  have al := at_lay hi
  have ll : ((lyA Ls i).bs.map boxD).length = szI Ls i := by simp [szI]
  have ei : inI Ls c i = (decide (0 ≤ c.getD i 0) && decide (c.getD i 0 < szI Ls i)) := rfl
  by_cases q : inI Ls c i = true
  · have q2 := q
    rw [ei, Bool.and_eq_true, decide_eq_true_eq, decide_eq_true_eq] at q2
    have n1 : ¬ c.getD i 0 < 0 := by omega
    have n2 : ¬ (szI Ls i : Int) ≤ c.getD i 0 := by omega
    cases i with
    | zero =>
      have e : okAt S n Ls c 0 = true := by unfold okAt; rw [q]; rfl
      refine ⟨y4, y5, ?_⟩
      rw [if_pos e]
      unfold tupI at *
      generalize c.getD 0 0 = c0 at *
      generalize c.map D.int = cs at *
      generalize hl1 : layD (lyA Ls 0) = l1 at *
      have i1 : ∀ h, asI h l1 = some (17, layF (lyA Ls 0)) := fun h => by rw [← hl1]; rfl
      simp only [layF] at i1
      generalize (lyA Ls 0).bs.map boxD = bs at *
      generalize Ls.map layD = xs at *
      have ac' : atI cs 0 = some (.int c0) := ac
      have al' : atI xs 0 = some l1 := al
      simp [i1, List.lookup, ac', al', ll, n1, n2]
    | succ j =>
      have p1 := hp j (by omega)
      unfold okAt at p1
      rw [Bool.and_eq_true] at p1
      have p2 := p1.1
      unfold inI at p2
      rw [Bool.and_eq_true, decide_eq_true_eq, decide_eq_true_eq] at p2
      have ac0 := at_intD (c := c) (i := j) (by omega)
      have al0 := at_lay (Ls := Ls) (i := j) (by omega)
      have m0 := hL.ly (lyA_mem (Ls := Ls) (i := j) (by omega))
      have m1 := hL.ly (lyA_mem hi)
      have ab0 := at_bx p2.1 (show c.getD j 0 < ((lyA Ls j).bs.length : Int) from p2.2)
      have ab1 := at_bx q2.1 (show c.getD (j + 1) 0 < ((lyA Ls (j + 1)).bs.length : Int) from q2.2)
      have bo0 := bx_ok m0 p2.1 (show c.getD j 0 < ((lyA Ls j).bs.length : Int) from p2.2)
      have bo1 := bx_ok m1 q2.1 (show c.getD (j + 1) 0 < ((lyA Ls (j + 1)).bs.length : Int) from q2.2)
      have tks := tk_small m0 m1
      have fl := fun h => F_lkL k hn tks bo0 bo1 h
      obtain ⟨ta, _⟩ := tk_asc hL hi
      have eo : okAt S n Ls c (j + 1) = !farX S n (tk (lyA Ls j) (lyA Ls (j + 1))) ((lyA Ls j).bs.getD (c.getD j 0).toNat []) ((lyA Ls (j + 1)).bs.getD (c.getD (j + 1) 0).toNat []) := by
        unfold okAt
        rw [q]
        rfl
      rw [eo]
      have ci : ((j + 1 : Nat) : Int) = (j : Int) + 1 := by omega
      rw [ci] at ac al ⊢
      refine ⟨some (.int (tk (lyA Ls j) (lyA Ls (j + 1)))), some (boxD ((lyA Ls j).bs.getD (c.getD j 0).toNat [])), ?_⟩
      generalize hT : tk (lyA Ls j) (lyA Ls (j + 1)) = T at *
      generalize (lyA Ls j).bs.getD (c.getD j 0).toNat [] = b0 at *
      generalize (lyA Ls (j + 1)).bs.getD (c.getD (j + 1) 0).toNat [] = b1 at *
      unfold tupI at *
      have jn : ((j : Int) + 1 > 0) := by omega
      have pos : (0 : Int) < (j : Int) + 1 := by omega
      generalize c.getD j 0 = c0 at *
      generalize c.getD (j + 1) 0 = c1 at *
      generalize c.map D.int = cs at *
      generalize hl0 : layD (lyA Ls j) = l0 at *
      generalize hl1 : layD (lyA Ls (j + 1)) = l1 at *
      have i0 : ∀ h, asI h l0 = some (17, layF (lyA Ls j)) := fun h => by rw [← hl0]; rfl
      have i1 : ∀ h, asI h l1 = some (17, layF (lyA Ls (j + 1))) := fun h => by rw [← hl1]; rfl
      simp only [layF] at i0 i1
      generalize (lyA Ls j).bs.map boxD = bs0 at *
      generalize (lyA Ls (j + 1)).bs.map boxD = bs1 at *
      generalize Ls.map layD = xs at *
      cases f : farX S n T b0 b1 with
      | true =>
        rw [f] at fl
        simp [i0, i1, List.lookup, ac, ac0, al, al0, ll, n1, n2, pos, ta, ab0, ab1, fl]
      | false =>
        rw [f] at fl
        simp [i0, i1, List.lookup, ac, ac0, al, al0, ll, n1, n2, pos, ta, ab0, ab1, fl]
  · have q : inI Ls c i = false := by simpa using q
    have e : okAt S n Ls c i = false := by unfold okAt; rw [q]; rfl
    refine ⟨y4, y5, ?_⟩
    rw [e, if_neg Bool.false_ne_true]
    rw [ei, Bool.and_eq_false_iff, decide_eq_false_iff_not, decide_eq_false_iff_not] at q
    unfold tupI at *
    generalize c.getD i 0 = c0 at *
    generalize c.map D.int = cs at *
    generalize hl1 : layD (lyA Ls i) = l1 at *
    have i1 : ∀ h, asI h l1 = some (17, layF (lyA Ls i)) := fun h => by rw [← hl1]; rfl
    simp only [layF] at i1
    generalize (lyA Ls i).bs.map boxD = bs at *
    generalize Ls.map layD = xs at *
    by_cases z : c0 < 0
    · simp [ac, z]
    · have z2 : (szI Ls i : Int) ≤ c0 := by omega
      simp [i1, List.lookup, ac, al, ll, z, z2]
end LibT
namespace LibT
open PySem PySem.Spec PyProof.Rows L2 Ev Lib
theorem F_isC {S : SetV} (k : S.ok) {n : Nat} (hn : n ≤ 10) {Ls : List Ly} (hL : LsO n Ls) (c : List Int) (h : HP) : F__law_is_chain [paD S, .lst (Ls.map layD), tupI c] h = .ok (.bl (isC S n Ls c)) h := by
  have pr := fun b => pure_clean h (clean_bl b)
  have f4 := hL.few
  have e1 : (Ls.map layD).length = Ls.length := by simp
  have e2 : (c.map D.int).length = c.length := by simp
  by_cases q : c.length = Ls.length
  · have lp := for_rngE (asg := gNm 3) (body := B__law_is_chain_1) (n := Ls.length)
      (fun i env h' => (∃ x3 x4 x5, env = [some (paD S), some (.lst (Ls.map layD)), some (tupI c), x3, x4, x5]) ∧ h' = h ∧ ∀ j < i, okAt S n Ls c j = true)
      (fun r h' => r = .bl false ∧ h' = h ∧ ∃ j < Ls.length, okAt S n Ls c j = false)
      (fun i env h' hi hI => by
        obtain ⟨⟨x3, x4, x5, rfl⟩, rfl, hj⟩ := hI
        obtain ⟨y4, y5, e⟩ := chk_turn k hn hL q hi hj x4 x5 h'
        refine ⟨_, rfl, ?_⟩
        cases o : okAt S n Ls c i with
        | true =>
          rw [o, if_pos rfl] at e
          refine .inl ⟨_, _, e, ⟨_, _, _, rfl⟩, rfl, fun j hji => ?_⟩
          by_cases z : j = i
          · rw [z]; exact o
          · exact hj j (by omega)
        | false =>
          rw [o, if_neg Bool.false_ne_true] at e
          exact .inr ⟨_, _, e, rfl, rfl, i, hi, o⟩)
      (env := [some (paD S), some (.lst (Ls.map layD)), some (tupI c), none, none, none]) (h := h) ⟨⟨none, none, none, rfl⟩, rfl, fun j hj => absurd hj (by omega)⟩
    have rg := rg_nat (n := Ls.length) (by omega)
    have ev : isC S n Ls c = (List.range Ls.length).all (okAt S n Ls c) := by unfold isC; rw [decide_eq_true q, Bool.true_and]
    rw [ev]
    rcases lp with ⟨_, _, lp, ⟨x3, x4, x5, rfl⟩, rfl, hj⟩ | ⟨_, _, lp, rfl, rfl, j, hj, bad⟩
    · have al : (List.range Ls.length).all (okAt S n Ls c) = true := List.all_eq_true.mpr fun j hj' => hj j (List.mem_range.mp hj')
      rw [al]
      generalize Ls.map layD = xs at *
      unfold tupI at *
      generalize c.map D.int = cs at *
      simp [F__law_is_chain, e1, e2, q, sh_int, PyData.eqv, rg, lp, pr]
    · have al : (List.range Ls.length).all (okAt S n Ls c) = false := by
        rw [List.all_eq_false]
        exact ⟨j, List.mem_range.mpr hj, by rw [bad]; simp⟩
      rw [al]
      generalize Ls.map layD = xs at *
      unfold tupI at *
      generalize c.map D.int = cs at *
      simp [F__law_is_chain, e1, e2, q, sh_int, PyData.eqv, rg, lp, pr]
  · have ev : isC S n Ls c = false := by unfold isC; rw [decide_eq_false q]; rfl
    rw [ev]
    have q2 : ((c.length : Int) == (Ls.length : Int)) = false := by
      rw [beq_eq_false_iff_ne]
      omega
    generalize Ls.map layD = xs at *
    unfold tupI at *
    generalize c.map D.int = cs at *
    simp [F__law_is_chain, e1, e2, sh_int, PyData.eqv, q2, pr]
theorem LsO.take {n : Nat} {Ls : List Ly} (h : LsO n Ls) (i : Nat) : LsO n (Ls.take i) :=
  ⟨by have := h.few; rw [List.length_take]; omega, h.asc.sublist (List.take_sublist ..), fun L hL => h.each L (List.mem_of_mem_take hL)⟩
/-! all chains, as the laws find them -/
def grow (S : SetV) (n : Nat) (Ls : List Ly) (i : Nat) (row : List Int) : List (List Int) := ((rngI (szI Ls i)).filter fun p => isC S n (Ls.take (i + 1)) (row ++ [p])).map fun p => row ++ [p]
def csV (S : SetV) (n : Nat) (Ls : List Ly) : Nat → List (List Int)
  | 0 => [[]]
  | i + 1 => (csV S n Ls i).flatMap (grow S n Ls i)
theorem szI_le {n : Nat} {Ls : List Ly} (h : LsO n Ls) {i : Nat} (hi : i < Ls.length) : szI Ls i ≤ 9 := (h.each _ (lyA_mem hi)).2.1
theorem grow_len {S : SetV} {n : Nat} {Ls : List Ly} (h : LsO n Ls) {i : Nat} (hi : i < Ls.length) (row : List Int) : (grow S n Ls i row).length ≤ 9 := by
  unfold grow
  rw [List.length_map]
  refine Nat.le_trans (List.length_filter_le _ _) ?_
  simpa [rngI] using szI_le h hi
theorem flat_le {α β : Type} {f : α → List β} {m : Nat} : ∀ {xs : List α}, (∀ x ∈ xs, (f x).length ≤ m) → (xs.flatMap f).length ≤ xs.length * m
  | [], _ => by simp
  | x :: xs, h => by
    have := flat_le (f := f) (xs := xs) fun y hy => h y (List.mem_cons_of_mem _ hy)
    have := h x (by simp)
    rw [List.flatMap_cons, List.length_append, List.length_cons, Nat.succ_mul]
    omega
theorem cs_len {S : SetV} {n : Nat} {Ls : List Ly} (h : LsO n Ls) : ∀ {i : Nat}, i ≤ Ls.length → (csV S n Ls i).length ≤ 9 ^ i ∧ ∀ r ∈ csV S n Ls i, r.length = i
  | 0, _ => ⟨by simp [csV], fun r hr => by simp [csV] at hr; subst hr; rfl⟩
  | i + 1, hi => by
    obtain ⟨h1, h2⟩ := cs_len h (i := i) (by omega)
    refine ⟨?_, fun r hr => ?_⟩
    · have := flat_le (f := grow S n Ls i) (xs := csV S n Ls i) fun r _ => grow_len h (by omega) r
      show ((csV S n Ls i).flatMap (grow S n Ls i)).length ≤ 9 ^ (i + 1)
      rw [Nat.pow_succ]
      exact Nat.le_trans this (Nat.mul_le_mul_right 9 h1)
    · obtain ⟨a, ha, hr⟩ := List.mem_flatMap.mp hr
      obtain ⟨p, _, rfl⟩ := List.mem_map.mp hr
      simp [h2 a ha]
theorem grow_turn {S : SetV} (k : S.ok) {n : Nat} (hn : n ≤ 10) {Ls : List Ly} (hL : LsO n Ls) {i : Nat} (hi : i < Ls.length) {row : List Int} (hr : row.length ≤ 100) (p : Nat) (z2 : Option D) (H : HP) {acc : List D} (ha : acc.length ≤ 10000) :
    B__law_chains_1 [some (paD S), some (.lst (Ls.map layD)), z2, some (.int i), some (.ref H.length), some (tupI row), some (.int p)] (H ++ [.lst acc]) =
      .nx [some (paD S), some (.lst (Ls.map layD)), z2, some (.int i), some (.ref H.length), some (tupI row), some (.int p)] (H ++ [.lst (acc ++ if isC S n (Ls.take (i + 1)) (row ++ [(p : Int)]) = true then [tupI (row ++ [(p : Int)])] else [])]) := by
  have fc := fun h => F_isC k hn (hL.take (i + 1)) (row ++ [(p : Int)]) h
  have ct : Ev.cutD (Ls.map layD) none (some ((i : Int) + 1)) = (Ls.take (i + 1)).map layD := by
    rw [show (i : Int) + 1 = ((i + 1 : Nat) : Int) by omega, cut_to (by simp; omega), List.map_take]
  have er : (row ++ [(p : Int)]).map D.int = row.map D.int ++ [.int p] := by simp
  have ap := fun y => appL_last (y := y) (ds := acc) H (by rw [sizeLine_eq]; omega)
  have lz : row.length + 1 ≤ 16000000 := by omega
  unfold tupI at *
  rw [er] at fc
  have lz : (row.map D.int).length + 1 ≤ 16000000 := by rw [List.length_map]; omega
  cases q : isC S n (Ls.take (i + 1)) (row ++ [(p : Int)]) with
  | true =>
    rw [q] at fc
    rw [if_pos rfl, er]
    generalize row.map D.int = rw at *
    generalize (Ls.take (i + 1)).map layD = ts at *
    generalize Ls.map layD = xs at *
    simp [ct, lz, fc, ap]
  | false =>
    rw [q] at fc
    rw [if_neg Bool.false_ne_true, List.append_nil]
    generalize row.map D.int = rw at *
    generalize (Ls.take (i + 1)).map layD = ts at *
    generalize Ls.map layD = xs at *
    simp [ct, lz, fc]
theorem grow_loop {S : SetV} (k : S.ok) {n : Nat} (hn : n ≤ 10) {Ls : List Ly} (hL : LsO n Ls) {i : Nat} (hi : i < Ls.length) {row : List Int} (hr : row.length ≤ 100) (z2 y6 : Option D) (H : HP) {acc : List D} (ha : acc.length ≤ 9000) :
    ∃ x6, B__law_chains_2 [some (paD S), some (.lst (Ls.map layD)), z2, some (.int i), some (.ref H.length), some (tupI row), y6] (H ++ [.lst acc]) =
      .nx [some (paD S), some (.lst (Ls.map layD)), z2, some (.int i), some (.ref H.length), some (tupI row), x6] (H ++ [.lst (acc ++ (grow S n Ls i row).map tupI)]) := by
  have z9 := szI_le hL hi
  obtain ⟨_, h1, e1, ⟨x6, rfl⟩, hh⟩ := for_rng (asg := gNm 6) (body := B__law_chains_1) (n := szI Ls i)
    (fun p env h' => (∃ x6, env = [some (paD S), some (.lst (Ls.map layD)), z2, some (.int i), some (.ref H.length), some (tupI row), x6]) ∧ h' = H ++ [.lst (acc ++ (((rngI p).filter fun p => isC S n (Ls.take (i + 1)) (row ++ [p])).map fun p => row ++ [p]).map tupI)])
    (fun p env h' hp hI => by
      obtain ⟨⟨x6, rfl⟩, rfl⟩ := hI
      refine ⟨_, rfl, _, _, .inl (grow_turn k hn hL hi hr p z2 H ?_), ⟨_, rfl⟩, ?_⟩
      · have := List.length_filter_le (fun p => isC S n (Ls.take (i + 1)) (row ++ [p])) (rngI p)
        have e : (rngI p).length = p := by simp [rngI]
        simp only [List.length_append, List.length_map]
        omega
      · have e : rngI (p + 1) = rngI p ++ [(p : Int)] := by unfold rngI; rw [List.range_succ, List.map_append]; rfl
        rw [e, List.filter_append, List.map_append, List.map_append, List.append_assoc]
        cases q : isC S n (Ls.take (i + 1)) (row ++ [(p : Int)]) <;> simp [q])
    (env := [some (paD S), some (.lst (Ls.map layD)), z2, some (.int i), some (.ref H.length), some (tupI row), y6]) (h := H ++ [.lst acc]) ⟨⟨y6, rfl⟩, by simp [rngI]⟩
  rw [hh] at e1
  refine ⟨x6, ?_⟩
  have al := at_lay hi
  have rg := rg_nat (n := szI Ls i) (by omega)
  have eg : ((rngI (szI Ls i)).filter fun p => isC S n (Ls.take (i + 1)) (row ++ [p])).map (fun p => row ++ [p]) = grow S n Ls i row := rfl
  rw [eg] at e1
  have ll : ((lyA Ls i).bs.map boxD).length = szI Ls i := by simp [szI]
  generalize hl1 : layD (lyA Ls i) = l1 at *
  have i1 : ∀ h, asI h l1 = some (17, layF (lyA Ls i)) := fun h => by rw [← hl1]; rfl
  simp only [layF] at i1
  generalize (lyA Ls i).bs.map boxD = bs at *
  generalize (grow S n Ls i row).map tupI = gs at *
  generalize Ls.map layD = xs at *
  generalize tupI row = r at *
  simp [i1, List.lookup, al, ll, rg, e1]
theorem rows_loop {S : SetV} (k : S.ok) {n : Nat} (hn : n ≤ 10) {Ls : List Ly} (hL : LsO n Ls) {i : Nat} (hi : i < Ls.length) (z2 : Option D) (H : HP) : ∀ (rows : List (List Int)) (hr : ∀ r ∈ rows, r.length ≤ 100) (acc : List D), acc.length + rows.length * 9 ≤ 9000 → ∀ y5 y6 : Option D,
    ∃ x5 x6, forE (gNm 5) B__law_chains_2 [] (rows.map tupI) [some (paD S), some (.lst (Ls.map layD)), z2, some (.int i), some (.ref H.length), y5, y6] (H ++ [.lst acc]) =
      .nx [some (paD S), some (.lst (Ls.map layD)), z2, some (.int i), some (.ref H.length), x5, x6] (H ++ [.lst (acc ++ (rows.flatMap (grow S n Ls i)).map tupI)])
  | [], _, acc, _, y5, y6 => ⟨y5, y6, by rw [List.map_nil]; unfold forE; rw [if_pos (by simp [Gd])]; simp⟩
  | r :: rows, hr, acc, hz, y5, y6 => by
    simp only [List.length_cons, Nat.succ_mul] at hz
    obtain ⟨x6, e1⟩ := grow_loop k hn hL hi (hr r (by simp)) z2 y6 H (acc := acc) (by omega)
    have gl := grow_len (S := S) hL hi r
    obtain ⟨x5', x6', e2⟩ := rows_loop k hn hL hi z2 H rows (fun r hr' => hr r (List.mem_cons_of_mem _ hr')) (acc ++ (grow S n Ls i r).map tupI) (by simp only [List.length_append, List.length_map]; omega) (some (tupI r)) x6
    refine ⟨x5', x6', ?_⟩
    rw [List.map_cons, for_nx (by simp) e1, e2]
    simp
theorem F_chains' {S : SetV} (k : S.ok) {n : Nat} (hn : n ≤ 10) {Ls : List Ly} (hL : LsO n Ls) (h : HP) : F__law_chains [paD S, .lst (Ls.map layD)] h = .ok (.lst ((csV S n Ls Ls.length).map tupI)) h := by
  have f4 := hL.few
  obtain ⟨_, h1, e1, ⟨x3, x4, x5, x6, rfl⟩, j, hh⟩ := for_rng (asg := gNm 3) (body := B__law_chains_3) (n := Ls.length)
    (fun i env h' => (∃ x3 x4 x5 x6, env = [some (paD S), some (.lst (Ls.map layD)), some (.lst ((csV S n Ls i).map tupI)), x3, x4, x5, x6]) ∧ ∃ j, h' = h ++ j)
    (fun i env h' hi hI => by
      obtain ⟨⟨x3, x4, x5, x6, rfl⟩, j, rfl⟩ := hI
      obtain ⟨c1, c2⟩ := cs_len (S := S) hL (i := i) (by omega)
      have p4 : 9 ^ i ≤ 9 ^ 3 := Nat.pow_le_pow_right (by decide) (by omega)
      obtain ⟨y5, y6, e⟩ := rows_loop k hn hL hi (some (.lst ((csV S n Ls i).map tupI))) (h ++ j) (csV S n Ls i) (fun r hr => by rw [c2 r hr]; omega) [] (by simp; omega) x5 x6
      have ec : (csV S n Ls i).flatMap (grow S n Ls i) = csV S n Ls (i + 1) := rfl
      rw [ec, List.nil_append] at e
      refine ⟨_, rfl, [some (paD S), some (.lst (Ls.map layD)), some (.lst ((csV S n Ls (i + 1)).map tupI)), some (.int i), some (.ref (h ++ j).length), y5, y6], (h ++ j) ++ [.lst ((csV S n Ls (i + 1)).map tupI)], .inl ?_, ⟨_, _, _, _, rfl⟩, j ++ [.lst ((csV S n Ls (i + 1)).map tupI)], by simp⟩
      have lz : ((csV S n Ls (i + 1)).map tupI).length ≤ 16000000 := by
        rw [List.length_map]
        have c3 := (cs_len (S := S) hL (i := i + 1) (by omega)).1
        have p5 : 9 ^ (i + 1) ≤ 9 ^ 4 := Nat.pow_le_pow_right (by decide) (by omega)
        omega
      generalize (csV S n Ls (i + 1)).map tupI = ys at *
      generalize (csV S n Ls i).map tupI = xs at *
      generalize Ls.map layD = ls at *
      generalize h ++ j = H at *
      simp [e, lz])
    (env := [some (paD S), some (.lst (Ls.map layD)), some (.lst ((csV S n Ls 0).map tupI)), none, none, none, none]) (h := h) ⟨⟨none, none, none, none, rfl⟩, [], by simp⟩
  rw [hh] at e1
  have e0 : (csV S n Ls 0).map tupI = [.tup []] := rfl
  rw [e0] at e1
  have ll : (Ls.map layD).length = Ls.length := by simp
  have rg := rg_nat (n := Ls.length) (by omega)
  have pr := pure_cleanJ h j (clean_lst (ds := (csV S n Ls Ls.length).map tupI) fun d hd => by
    obtain ⟨x, _, rfl⟩ := List.mem_map.mp hd
    exact clean_ints x)
  generalize (csV S n Ls Ls.length).map tupI = ys at *
  generalize Ls.map layD = xs at *
  simp [F__law_chains, ll, rg, e1, pr]
end LibT
namespace LibT
open PySem PySem.Spec PyProof.Rows L2 Ev Lib
/-! chains as such -/
def Ch (S : SetV) (n : Nat) (Ls : List Ly) (N : Nat) (c : List Int) : Prop := c.length = N ∧ ∀ j < N, okAt S n Ls c j = true
section
variable {S : SetV} {n : Nat} {Ls : List Ly}
theorem getD_app {α : Type} {xs ys : List α} {i : Nat} {d : α} (h : i < xs.length) : (xs ++ ys).getD i d = xs.getD i d := by
  rw [List.getD_eq_getElem?_getD, List.getD_eq_getElem?_getD, List.getElem?_append_left h]
theorem getD_end {α : Type} {xs : List α} {y d : α} {i : Nat} (h : i = xs.length) : (xs ++ [y]).getD i d = y := by
  subst h
  simp
theorem lkc_succ {c : List Int} {j : Nat} : lkc S n Ls c (j + 1) = lkI S n Ls j (c.getD j 0).toNat (c.getD (j + 1) 0).toNat := rfl
theorem okAt_app {row : List Int} {y : Int} {j : Nat} (h : j < row.length) : okAt S n Ls (row ++ [y]) j = okAt S n Ls row j := by
  unfold okAt inI
  rw [getD_app h]
  cases j with
  | zero => rfl
  | succ j =>
    rw [lkc_succ, lkc_succ, getD_app h, getD_app (by omega)]
theorem lyA_take {i j : Nat} (h : j < i) : lyA (Ls.take i) j = lyA Ls j := by
  unfold lyA
  rw [List.getD_eq_getElem?_getD, List.getD_eq_getElem?_getD, List.getElem?_take, if_pos h]
theorem okAt_take {c : List Int} {i j : Nat} (h : j < i) : okAt S n (Ls.take i) c j = okAt S n Ls c j := by
  unfold okAt inI szI
  rw [lyA_take h]
  cases j with
  | zero => rfl
  | succ j =>
    rw [lkc_succ, lkc_succ]
    unfold lkI
    rw [lyA_take h, lyA_take (by omega)]
theorem isC_iff {c : List Int} {i : Nat} (hi : i ≤ Ls.length) : isC S n (Ls.take i) c = true ↔ Ch S n Ls i c := by
  unfold isC Ch
  have e : (Ls.take i).length = i := by rw [List.length_take]; omega
  rw [e, Bool.and_eq_true, decide_eq_true_eq, List.all_eq_true]
  constructor
  · rintro ⟨h1, h2⟩
    exact ⟨h1, fun j hj => by rw [← okAt_take hj]; exact h2 j (List.mem_range.mpr hj)⟩
  · rintro ⟨h1, h2⟩
    exact ⟨h1, fun j hj => by rw [okAt_take (List.mem_range.mp hj)]; exact h2 j (List.mem_range.mp hj)⟩
theorem isC_all {c : List Int} : isC S n Ls c = true ↔ Ch S n Ls Ls.length c := by
  have := isC_iff (S := S) (n := n) (Ls := Ls) (c := c) (Nat.le_refl _)
  rw [List.take_length] at this
  exact this
theorem Ch.bd {N : Nat} {c : List Int} (h : Ch S n Ls N c) {j : Nat} (hj : j < N) : 0 ≤ c.getD j 0 ∧ c.getD j 0 < szI Ls j := by
  have := h.2 j hj
  unfold okAt inI at this
  rw [Bool.and_eq_true, Bool.and_eq_true, decide_eq_true_eq, decide_eq_true_eq] at this
  exact this.1
theorem Ch.lk {N : Nat} {c : List Int} (h : Ch S n Ls N c) {j : Nat} (hj : j + 1 < N) : lkI S n Ls j (c.getD j 0).toNat (c.getD (j + 1) 0).toNat = true := by
  have := h.2 (j + 1) hj
  unfold okAt at this
  rw [Bool.and_eq_true] at this
  exact this.2
theorem Ch.zero : Ch S n Ls 0 [] := ⟨rfl, fun j hj => absurd hj (by omega)⟩
theorem Ch.snoc {i : Nat} {row : List Int} {p : Int} : Ch S n Ls (i + 1) (row ++ [p]) ↔ Ch S n Ls i row ∧ 0 ≤ p ∧ p < szI Ls i ∧ (∀ j, i = j + 1 → lkI S n Ls j (row.getD j 0).toNat p.toNat = true) := by
  constructor
  · intro h
    have hl : row.length = i := by have := h.1; simpa using this
    have b := h.bd (j := i) (by omega)
    rw [getD_end hl.symm] at b
    refine ⟨⟨hl, fun j hj => by rw [← okAt_app (y := p) (by omega)]; exact h.2 j (by omega)⟩, b.1, b.2, fun j e => ?_⟩
    subst e
    have := h.lk (j := j) (by omega)
    rw [getD_app (by omega), getD_end hl.symm] at this
    exact this
  · rintro ⟨h, p0, p1, hk⟩
    have hl := h.1
    refine ⟨by simp [hl], fun j hj => ?_⟩
    by_cases z : j < i
    · rw [okAt_app (by omega)]
      exact h.2 j z
    · have e : j = i := by omega
      subst e
      unfold okAt inI
      rw [getD_end hl.symm, decide_eq_true p0, decide_eq_true p1]
      cases j with
      | zero => rfl
      | succ j =>
        rw [lkc_succ, getD_app (by omega), getD_end hl.symm]
        simpa using hk j rfl
theorem Ch.split {i : Nat} {c : List Int} (h : Ch S n Ls (i + 1) c) : ∃ row p, c = row ++ [p] ∧ Ch S n Ls i row := by
  have hl := h.1
  have ne : c ≠ [] := by intro e; subst e; simp at hl
  refine ⟨c.dropLast, c.getLast ne, (List.dropLast_concat_getLast ne).symm, ?_⟩
  have e := (List.dropLast_concat_getLast ne).symm
  rw [e] at h
  exact (Ch.snoc.mp h).1
theorem mem_rngI {m : Nat} {p : Int} : p ∈ rngI m ↔ 0 ≤ p ∧ p < m := by
  unfold rngI
  rw [List.mem_map]
  constructor
  · rintro ⟨k, hk, rfl⟩
    have := List.mem_range.mp hk
    omega
  · rintro ⟨h0, h1⟩
    exact ⟨p.toNat, List.mem_range.mpr (by omega), by omega⟩
theorem mem_cs {i : Nat} (hi : i ≤ Ls.length) : ∀ {c : List Int}, c ∈ csV S n Ls i ↔ Ch S n Ls i c := by
  induction i with
  | zero =>
    intro c
    simp only [csV, List.mem_singleton]
    constructor
    · rintro rfl
      exact Ch.zero
    · rintro ⟨h, _⟩
      exact List.eq_nil_of_length_eq_zero h
  | succ i ih =>
    intro c
    have ih := fun {c} => ih (by omega) (c := c)
    show c ∈ (csV S n Ls i).flatMap (grow S n Ls i) ↔ _
    rw [List.mem_flatMap]
    constructor
    · rintro ⟨row, hr, hc⟩
      obtain ⟨p, hp, rfl⟩ := List.mem_map.mp hc
      exact (isC_iff hi).mp (List.mem_filter.mp hp).2
    · intro h
      obtain ⟨row, p, rfl, hr⟩ := h.split
      have k := Ch.snoc.mp h
      exact ⟨row, ih.mpr hr, List.mem_map.mpr ⟨p, List.mem_filter.mpr ⟨mem_rngI.mpr ⟨k.2.1, k.2.2.1⟩, (isC_iff hi).mpr h⟩, rfl⟩⟩
/-! where chains end, by places -/
def tblI (S : SetV) (n : Nat) (Ls : List Ly) (i : Nat) : List (List Int) := tbl S n (lyA Ls i) (lyA Ls (i + 1))
def endI (S : SetV) (n : Nat) (Ls : List Ly) : Nat → List Int
  | 0 => rngI (szI Ls 0)
  | i + 1 => nextE (endI S n Ls i) (tblI S n Ls i)
theorem mem_next {E : List Int} {t : List (List Int)} {j : Int} : j ∈ nextE E t ↔ ∃ p ∈ E, j ∈ t.getD p.toNat [] := by
  unfold nextE
  rw [EvS.mem_srt, List.mem_flatMap]
theorem mem_lk {t : Int} {b : Bx} {os : List Bx} {q : Int} : q ∈ lk S n t b os ↔ 0 ≤ q ∧ q < os.length ∧ farX S n t b (os.getD q.toNat []) = false := by
  unfold lk
  rw [List.mem_map]
  constructor
  · rintro ⟨k, hk, rfl⟩
    obtain ⟨h1, h2⟩ := List.mem_filter.mp hk
    have := List.mem_range.mp h1
    exact ⟨by omega, by omega, by rw [Int.toNat_natCast]; simpa using h2⟩
  · rintro ⟨h0, h1, h⟩
    exact ⟨q.toNat, List.mem_filter.mpr ⟨List.mem_range.mpr (by omega), by simpa using h⟩, by omega⟩
theorem mem_tbl {i : Nat} {p q : Int} (h0 : 0 ≤ p) (h1 : p < szI Ls i) : q ∈ (tblI S n Ls i).getD p.toNat [] ↔ 0 ≤ q ∧ q < szI Ls (i + 1) ∧ lkI S n Ls i p.toNat q.toNat = true := by
  unfold tblI tbl
  have hp : p.toNat < (lyA Ls i).bs.length := by
    have e : szI Ls i = (lyA Ls i).bs.length := rfl
    omega
  rw [List.getD_eq_getElem?_getD, List.getElem?_map, List.getElem?_eq_getElem hp]
  have e2 : (lyA Ls i).bs[p.toNat] = (lyA Ls i).bs.getD p.toNat [] := by rw [List.getD_eq_getElem?_getD, List.getElem?_eq_getElem hp]; rfl
  rw [e2]
  show q ∈ lk S n (tk (lyA Ls i) (lyA Ls (i + 1))) _ (lyA Ls (i + 1)).bs ↔ _
  rw [mem_lk]
  unfold lkI szI
  simp
theorem endI_ok (hL : LsO n Ls) : ∀ {i : Nat}, i < Ls.length → EO (endI S n Ls i) (szI Ls i)
  | 0, h => rngI_ok (szI_le hL h)
  | i + 1, h => next_ok (szI_le hL h) (endI_ok hL (by omega)) (tbl_ok S n (szI_le hL h))
theorem endI_pw : ∀ i, (endI S n Ls i).Pairwise (· < ·)
  | 0 => by
    unfold endI rngI
    rw [List.pairwise_map]
    exact List.Pairwise.imp (fun h => by omega) List.pairwise_lt_range
  | i + 1 => EvS.srt_pw
theorem mem_end (hL : LsO n Ls) : ∀ {i : Nat}, i < Ls.length → ∀ {q : Int}, q ∈ endI S n Ls i ↔ ∃ row, Ch S n Ls (i + 1) (row ++ [q])
  | 0, h, q => by
    show q ∈ rngI _ ↔ _
    rw [mem_rngI]
    constructor
    · rintro ⟨h0, h1⟩
      exact ⟨[], Ch.snoc.mpr ⟨Ch.zero, h0, h1, fun j e => by omega⟩⟩
    · rintro ⟨row, hr⟩
      have := Ch.snoc.mp hr
      exact ⟨this.2.1, this.2.2.1⟩
  | i + 1, h, q => by
    show q ∈ nextE _ _ ↔ _
    rw [mem_next]
    have ok := endI_ok (S := S) hL (i := i) (by omega)
    constructor
    · rintro ⟨p, hp, hq⟩
      have b := ok.2 p hp
      obtain ⟨q0, q1, lkq⟩ := (mem_tbl b.1 b.2).mp hq
      obtain ⟨row, hr⟩ := (mem_end hL (i := i) (by omega)).mp hp
      have hl : row.length = i := by have := hr.1; simpa using this
      refine ⟨row ++ [p], Ch.snoc.mpr ⟨hr, q0, q1, fun j e => ?_⟩⟩
      have e : j = i := by omega
      subst e
      rw [getD_end hl.symm]
      exact lkq
    · rintro ⟨row, hr⟩
      obtain ⟨h1, q0, q1, hk⟩ := Ch.snoc.mp hr
      obtain ⟨row', p, rfl, _⟩ := h1.split
      have hl : row'.length = i := by have := h1.1; simpa using this
      have hk := hk i rfl
      rw [getD_end hl.symm] at hk
      have hp := (mem_end hL (i := i) (by omega)).mpr ⟨row', h1⟩
      have b := ok.2 p hp
      exact ⟨p, hp, (mem_tbl b.1 b.2).mpr ⟨q0, q1, hk⟩⟩
theorem ends_eq : ∀ (T : List (List (List Int))) (E : List Int) (f : Nat → List Int), f 0 = E → (∀ i (h : i < T.length), f (i + 1) = nextE (f i) T[i]) → ends E T = (List.range (T.length + 1)).map f
  | [], E, f, h0, _ => by simp [ends, h0]
  | t :: T, E, f, h0, h => by
    have := ends_eq T (nextE E t) (fun i => f (i + 1)) (by have := h 0 (by simp); rw [h0] at this; exact this) fun i hi => h (i + 1) (by simp; omega)
    show E :: ends (nextE E t) T = _
    rw [this, List.length_cons, range_succ_map (T.length + 1) f, h0]
theorem lnks_get {i : Nat} (h : i < (lnks S n Ls).length) : (lnks S n Ls)[i] = tblI S n Ls i := by
  have hl := lnks_len S n Ls
  have h1 : i + 1 < Ls.length := by omega
  have hz : i < (Ls.zip (Ls.drop 1)).length := by simp; omega
  have k : (lnks S n Ls)[i]? = some (tblI S n Ls i) := by
    unfold lnks
    rw [List.getElem?_map, List.getElem?_eq_getElem hz, Option.map_some, List.getElem_zip]
    simp only [List.getElem_drop]
    unfold tblI lyA
    rw [List.getD_eq_getElem?_getD, List.getD_eq_getElem?_getD, List.getElem?_eq_getElem h1, List.getElem?_eq_getElem (show i < Ls.length by omega)]
    simp only [Option.getD_some, Nat.add_comm 1 i]
  rw [List.getElem?_eq_getElem h] at k
  exact Option.some.inj k
theorem endsL_eq : endsL S n Ls = (List.range Ls.length).map (endI S n Ls) := by
  cases Ls with
  | nil => rfl
  | cons L r =>
    have hl := lnks_len S n (L :: r)
    have := ends_eq (lnks S n (L :: r)) (rngI L.bs.length) (endI S n (L :: r)) rfl fun i h => by
      rw [lnks_get h]
      rfl
    show ends (rngI L.bs.length) (lnks S n (L :: r)) = _
    rw [this, hl]
    simp
theorem lnks_eq : lnks S n Ls = (List.range (Ls.length - 1)).map (tblI S n Ls) := by
  refine List.ext_getElem (by simp [lnks_len]) fun i h1 h2 => ?_
  rw [lnks_get h1]
  simp
/-! from where they lead on -/
def leadV (t : List (List Int)) (ps fs : List Int) : List Int := ps.filter fun p => (t.getD p.toNat []).any fun q => decide (q ∈ fs)
/-- j: how far from the end -/
def alR (S : SetV) (n : Nat) (Ls : List Ly) : Nat → List Int
  | 0 => endI S n Ls (Ls.length - 1)
  | j + 1 => leadV (tblI S n Ls (Ls.length - 2 - j)) (endI S n Ls (Ls.length - 2 - j)) (alR S n Ls j)
theorem alR_sub {j : Nat} : ∀ p ∈ alR S n Ls j, p ∈ endI S n Ls (Ls.length - 1 - j) := by
  cases j with
  | zero => exact fun p hp => hp
  | succ j =>
    intro p hp
    have := (List.mem_filter.mp hp).1
    rw [show Ls.length - 1 - (j + 1) = Ls.length - 2 - j by omega]
    exact this
theorem alR_pw {j : Nat} : (alR S n Ls j).Pairwise (· < ·) := by
  cases j with
  | zero => exact endI_pw _
  | succ j => exact List.Pairwise.filter _ (endI_pw _)
/-- a chain up to a place from where one leads on can be led on to the end -/
theorem alR_on (hL : LsO n Ls) : ∀ {j : Nat}, j < Ls.length → ∀ {row : List Int} {p : Int}, p ∈ alR S n Ls j → Ch S n Ls (Ls.length - j) (row ++ [p]) → ∃ c, Ch S n Ls Ls.length (row ++ p :: c)
  | 0, h, row, p, hp, hc => ⟨[], by simpa using hc⟩
  | j + 1, h, row, p, hp, hc => by
    obtain ⟨h1, h2⟩ := List.mem_filter.mp hp
    obtain ⟨q, hq, hf⟩ := List.any_eq_true.mp h2
    have hf := decide_eq_true_eq.mp hf
    have b := (endI_ok (S := S) hL (i := Ls.length - 2 - j) (by omega)).2 p h1
    obtain ⟨q0, q1, lkq⟩ := (mem_tbl b.1 b.2).mp hq
    have hl : row.length = Ls.length - 2 - j := by
      have := hc.1
      simp only [List.length_append, List.length_cons, List.length_nil] at this
      omega
    have hc2 : Ch S n Ls (Ls.length - j) ((row ++ [p]) ++ [q]) := by
      rw [show Ls.length - j = (Ls.length - (j + 1)) + 1 by omega]
      refine Ch.snoc.mpr ⟨hc, q0, ?_, fun i e => ?_⟩
      · rw [show Ls.length - (j + 1) = Ls.length - 2 - j + 1 by omega]
        exact q1
      · have e : i = Ls.length - 2 - j := by omega
        subst e
        rw [getD_end hl.symm]
        exact lkq
    obtain ⟨c, hc3⟩ := alR_on hL (j := j) (by omega) hf hc2
    exact ⟨q :: c, by simpa using hc3⟩
theorem Ch.take {N : Nat} {c : List Int} (h : Ch S n Ls N c) {i : Nat} (hi : i ≤ N) : Ch S n Ls i (c.take i) := by
  have hl := h.1
  refine ⟨by rw [List.length_take]; omega, fun j hj => ?_⟩
  have e : c = c.take i ++ c.drop i := (List.take_append_drop i c).symm
  have k := h.2 j (by omega)
  have g : ∀ m, m < i → (c.take i).getD m 0 = c.getD m 0 := fun m hm => by
    rw [List.getD_eq_getElem?_getD, List.getD_eq_getElem?_getD, List.getElem?_take, if_pos hm]
  unfold okAt inI at k ⊢
  rw [g j hj]
  cases j with
  | zero => exact k
  | succ j =>
    rw [lkc_succ] at k ⊢
    rw [g (j + 1) hj, g j (by omega)]
    exact k
theorem take_snoc {c : List Int} {i : Nat} (h : i < c.length) : c.take (i + 1) = c.take i ++ [c.getD i 0] := by
  rw [List.take_add_one, List.getD_eq_getElem?_getD, List.getElem?_eq_getElem h]
  rfl
theorem mem_alR (hL : LsO n Ls) : ∀ {j : Nat}, j < Ls.length → ∀ {p : Int}, p ∈ alR S n Ls j ↔ ∃ c, Ch S n Ls Ls.length c ∧ c.getD (Ls.length - 1 - j) 0 = p := fun {j} => by
  intro hj p
  constructor
  · intro hp
    obtain ⟨row, hr⟩ := (mem_end hL (i := Ls.length - 1 - j) (by omega)).mp (alR_sub p hp)
    have hl : row.length = Ls.length - 1 - j := by have := hr.1; simpa using this
    obtain ⟨c, hc⟩ := alR_on hL hj hp (by rw [show Ls.length - j = Ls.length - 1 - j + 1 by omega]; exact hr)
    refine ⟨_, hc, ?_⟩
    rw [← hl]
    simp
  · rintro ⟨c, hc, rfl⟩
    have key : ∀ j, j < Ls.length → c.getD (Ls.length - 1 - j) 0 ∈ alR S n Ls j := fun j => by
      have he : ∀ i, i < Ls.length → c.getD i 0 ∈ endI S n Ls i := fun i hi => by
        refine (mem_end hL hi).mpr ⟨c.take i, ?_⟩
        rw [← take_snoc (by rw [hc.1]; exact hi)]
        exact hc.take hi
      induction j with
      | zero => exact fun h => he _ (by omega)
      | succ j ih =>
        intro h
        have ih := ih (by omega)
        have e1 : Ls.length - 1 - (j + 1) = Ls.length - 2 - j := by omega
        rw [e1]
        have b := hc.bd (j := Ls.length - 2 - j) (by omega)
        have b2 := hc.bd (j := Ls.length - 2 - j + 1) (by omega)
        have l := hc.lk (j := Ls.length - 2 - j) (by omega)
        refine List.mem_filter.mpr ⟨he _ (by omega), List.any_eq_true.mpr ⟨c.getD (Ls.length - 2 - j + 1) 0, (mem_tbl b.1 b.2).mpr ⟨b2.1, b2.2, l⟩, decide_eq_true ?_⟩⟩
        rw [show Ls.length - 2 - j + 1 = Ls.length - 1 - j by omega]
        exact ih
    exact key j hj
end
end LibT
namespace LibT
open PySem PySem.Spec PyProof.Rows L2 Ev Lib
/-! places_alive -/
theorem F_leading {t : List (List Int)} {ps fs : List Int} {m q : Nat} (hT : TO t m q) (hP : EO ps m) (hF : fs.length ≤ 1000) (h : HP) : F__leading_to [tblD t, tupI ps, tupI fs] h = .ok (tupI (leadV t ps fs)) h := by
  have i1 := intsD_map fs
  have lc1 : ∀ (p : Int) (hp : p ∈ ps) (x5 : Option D) (h' : HP), C__leading_to_1 false [some (tblD t), some (tupI ps), some (tupI fs), some (.set fs), some (.int p), x5] h' = .ok (.lst (((t.getD p.toNat []).map fun q => decide (q ∈ fs)).map D.bl)) h' := fun p hp x5 h' => by
    have b := hP.2 p hp
    have a1 := at_tbl (t := t) b.1 (by rw [hT.1]; exact b.2)
    have l9 : (t.getD p.toNat []).length ≤ 9 := by
      have hl : p.toNat < t.length := by rw [hT.1]; omega
      rw [List.getD_eq_getElem?_getD, List.getElem?_eq_getElem hl]
      exact (hT.2 _ (List.getElem_mem hl)).1
    have := mLc_ty (it := iAny (mBin fIx (mVar 0) (mVar 4))) (own := [5]) (asg := gNm 5) (elt := mBin (fSIn false) (mVar 5) (mVar 3)) (env := [some (tblD t), some (tupI ps), some (tupI fs), some (.set fs), some (.int p), x5]) (h := h') (h1 := h') (t.getD p.toNat []) D.int (fun q => .bl (decide (q ∈ fs))) (by
        simp only [tblD]
        generalize t.getD p.toNat [] = r at *
        generalize t.map tupI = ts at *
        simp [a1, tupI]) (by omega)
      (fun q hq h'' => ⟨[some (tblD t), some (tupI ps), some (tupI fs), some (.set fs), some (.int p), some (.int q)], by simp, by simp⟩)
      fun q _ => clean_bl _
    rw [List.map_map]
    exact this
  have lc2 : C__leading_to_2 false [some (tblD t), some (tupI ps), some (tupI fs), some (.set fs), none, none] h = _ :=
    mLc_tyF (h1 := h) ps D.int D.int (fun p => (t.getD p.toNat []).any fun q => decide (q ∈ fs)) (by simp [tupI]) (by have := hP.1; omega)
      (fun p hp h' => by
        have l1 := lc1 p hp none h'
        have b1 := blsD_map ((t.getD p.toNat []).map fun q => decide (q ∈ fs))
        have e : ((t.getD p.toNat []).map fun q => decide (q ∈ fs)).any id = (t.getD p.toNat []).any fun q => decide (q ∈ fs) := by rw [List.any_map]; rfl
        rw [← e]
        generalize ((t.getD p.toNat []).map fun q => decide (q ∈ fs)) = bs at *
        generalize bs.map D.bl = ds at *
        exact ⟨[some (tblD t), some (tupI ps), some (tupI fs), some (.set fs), some (.int p), none], by simp, by simp [l1, b1], by simp⟩)
      fun p _ _ => clean_int p
  have pr := pure_clean h (clean_ints (leadV t ps fs))
  have lz : (leadV t ps fs).length ≤ 16000000 := by
    have := List.length_filter_le (fun p => (t.getD p.toNat []).any fun q => decide (q ∈ fs)) ps
    have := hP.1
    unfold leadV
    omega
  have e : (ps.filter fun p => (t.getD p.toNat []).any fun q => decide (q ∈ fs)) = leadV t ps fs := rfl
  rw [e] at lc2
  unfold tupI at *
  have lz2 : ((leadV t ps fs).map D.int).length ≤ 16000000 := by rw [List.length_map]; exact lz
  generalize (leadV t ps fs).map D.int = vs at *
  generalize ps.map D.int = pD at *
  generalize fs.map D.int = fD at *
  generalize tblD t = tD at *
  simp [F__leading_to, i1, hF, lc2, lz2, pr]
section
variable {S : SetV} {n : Nat} {Ls : List Ly}
theorem alR_len (hL : LsO n Ls) {j : Nat} (hj : j < Ls.length) : (alR S n Ls j).length ≤ 9 := by
  have h1 := EvS.nodup_le (List.Pairwise.imp (fun h => Int.ne_of_lt h) (alR_pw (S := S) (n := n) (Ls := Ls) (j := j))) (alR_sub (S := S) (n := n) (Ls := Ls) (j := j))
  have h2 := (endI_ok (S := S) hL (i := Ls.length - 1 - j) (by omega)).1
  omega
def alV (S : SetV) (n : Nat) (Ls : List Ly) : List (List Int) := (List.range Ls.length).map fun i => alR S n Ls (Ls.length - 1 - i)
theorem rev_range {α : Type} (f : Nat → α) (m : Nat) : ((List.range m).map f).reverse = (List.range m).map fun j => f (m - 1 - j) := by
  refine List.ext_getElem (by simp) fun i h1 h2 => ?_
  simp
theorem al_turn (hL : LsO n Ls) {j : Nat} (hj : j + 1 < Ls.length) (z0 z1 z2 : Option D) (h : HP) :
    B_places_alive_1 [z0, z1, z2, some (.ref h.length), some (tblD (tblI S n Ls (Ls.length - 2 - j))), some (tupI (endI S n Ls (Ls.length - 2 - j)))] (h ++ [.lst (((List.range (j + 1)).map (alR S n Ls)).map tupI)]) =
      .nx [z0, z1, z2, some (.ref h.length), some (tblD (tblI S n Ls (Ls.length - 2 - j))), some (tupI (endI S n Ls (Ls.length - 2 - j)))] (h ++ [.lst (((List.range (j + 2)).map (alR S n Ls)).map tupI)]) := by
  have e1 : ((List.range (j + 1)).map (alR S n Ls)).map tupI = ((List.range j).map (alR S n Ls)).map tupI ++ [tupI (alR S n Ls j)] := by rw [List.range_succ]; simp
  have al := at_last (xs := ((List.range j).map (alR S n Ls)).map tupI) (d := tupI (alR S n Ls j))
  rw [← e1] at al
  have e2 : ((List.range (j + 2)).map (alR S n Ls)).map tupI = ((List.range (j + 1)).map (alR S n Ls)).map tupI ++ [tupI (alR S n Ls (j + 1))] := by rw [List.range_succ]; simp
  rw [e2]
  have t1 : TO (tblI S n Ls (Ls.length - 2 - j)) (szI Ls (Ls.length - 2 - j)) (szI Ls (Ls.length - 2 - j + 1)) := tbl_ok S n (szI_le hL (by omega))
  have fl := fun h => F_leading t1 (endI_ok (S := S) hL (i := Ls.length - 2 - j) (by omega)) (Nat.le_trans (alR_len (S := S) hL (j := j) (by omega)) (by omega)) h
  have el : leadV (tblI S n Ls (Ls.length - 2 - j)) (endI S n Ls (Ls.length - 2 - j)) (alR S n Ls j) = alR S n Ls (j + 1) := rfl
  rw [el] at fl
  have f4 := hL.few
  have ap := appL_last (y := tupI (alR S n Ls (j + 1))) (ds := ((List.range (j + 1)).map (alR S n Ls)).map tupI) h (by rw [sizeLine_eq]; simp; omega)
  generalize ((List.range (j + 1)).map (alR S n Ls)).map tupI = xs at *
  generalize tupI (alR S n Ls (j + 1)) = a1 at *
  generalize tupI (alR S n Ls j) = a0 at *
  generalize tblD (tblI S n Ls (Ls.length - 2 - j)) = tt at *
  generalize tupI (endI S n Ls (Ls.length - 2 - j)) = ee at *
  simp [al, fl, ap]
theorem F_places_alive' (hL : LsO n Ls) (h : HP) : F_places_alive [.lst (Ls.map layD), .lst ((lnks S n Ls).map tblD)] h = .ok (.lst ((alV S n Ls).map tupI)) h := by
  have fe := fun h => F_ending' S hL h
  have f4 := hL.few
  have cl : ∀ xs : List (List Int), ∀ d ∈ xs.map tupI, clean d := fun xs d hd => by
    obtain ⟨x, _, rfl⟩ := List.mem_map.mp hd
    exact clean_ints x
  by_cases h0 : Ls.length = 0
  · have e0 : Ls = [] := List.eq_nil_of_length_eq_zero h0
    subst e0
    have fn : ∀ env h, forE (gTp 2 (gsCons (gNm 4) (gsCons (gNm 5) gsNil))) B_places_alive_1 [] [] env h = .nx env h := fun env h => by unfold forE; rw [if_pos (by simp [Gd])]
    have pr := pure_clean h (clean_lst (ds := []) (by simp))
    have prj := pure_junk (d := .lst []) h [.lst []] rfl
    simp only [endsL, lnks, List.map_nil, List.zip_nil_left] at fe
    simp [F_places_alive, lnks, alV, fe, Ev.cutD, zipD, fn, prj]
  · have l1 := lnks_len S n Ls
    rw [endsL_eq] at fe
    obtain ⟨N, hN⟩ : ∃ N, Ls.length = N + 1 := ⟨Ls.length - 1, by omega⟩
    have ce1 : Ev.cutD (((List.range Ls.length).map (endI S n Ls)).map tupI) (some (-1)) none = [tupI (endI S n Ls N)] := by
      rw [hN, List.range_succ, List.map_append, List.map_append]
      unfold Ev.cutD
      have s1 : HT.sIx ((((List.range N).map (endI S n Ls)).map tupI) ++ (([N].map (endI S n Ls)).map tupI)).length 0 (some (-1)) = N := by
        simp [HT.sIx]
        omega
      have s2 : HT.sIx ((((List.range N).map (endI S n Ls)).map tupI) ++ (([N].map (endI S n Ls)).map tupI)).length ((((List.range N).map (endI S n Ls)).map tupI) ++ (([N].map (endI S n Ls)).map tupI)).length none = N + 1 := by
        simp [HT.sIx]
      have dn : (((List.range N).map (endI S n Ls)).map tupI).drop N = [] := List.drop_eq_nil_of_le (by simp)
      rw [s1, s2, List.drop_append_of_le_length (by simp), dn]
      simp
    have ce2 : Ev.cutD (((List.range Ls.length).map (endI S n Ls)).map tupI) none (some (-1)) = ((List.range N).map (endI S n Ls)).map tupI := by
      rw [cut_init (by simp; omega), hN, List.range_succ, List.map_append, List.map_append]
      simp
    have rl : ((lnks S n Ls).map tblD).reverse = (List.range N).map fun j => tblD (tblI S n Ls (Ls.length - 2 - j)) := by
      rw [lnks_eq, hN, Nat.add_sub_cancel, List.map_map, rev_range]
      refine List.map_congr_left fun j _ => ?_
      show tblD (tblI S n Ls (N - 1 - j)) = _
      congr 2
    have re : (((List.range N).map (endI S n Ls)).map tupI).reverse = (List.range N).map fun j => tupI (endI S n Ls (Ls.length - 2 - j)) := by
      rw [List.map_map, rev_range]
      refine List.map_congr_left fun j _ => ?_
      show tupI (endI S n Ls (N - 1 - j)) = _
      congr 2
      omega
    have zp : zipD ((List.range N).map fun j => tblD (tblI S n Ls (Ls.length - 2 - j))) ((List.range N).map fun j => tupI (endI S n Ls (Ls.length - 2 - j))) = (List.range N).map fun j => .tup [tblD (tblI S n Ls (Ls.length - 2 - j)), tupI (endI S n Ls (Ls.length - 2 - j))] := zip_vec N _ _
    have lp : ∀ z0 z1 z2, ∃ x4 x5, forE (gTp 2 (gsCons (gNm 4) (gsCons (gNm 5) gsNil))) B_places_alive_1 [] ((List.range N).map fun j => .tup [tblD (tblI S n Ls (Ls.length - 2 - j)), tupI (endI S n Ls (Ls.length - 2 - j))]) [z0, z1, z2, some (.ref h.length), none, none] (h ++ [.lst [tupI (endI S n Ls N)]]) =
        .nx [z0, z1, z2, some (.ref h.length), x4, x5] (h ++ [.lst (((List.range Ls.length).map (alR S n Ls)).map tupI)]) := fun z0 z1 z2 => by
      obtain ⟨_, h1, e1, ⟨x4, x5, rfl⟩, hh⟩ := for_ty (asg := gTp 2 (gsCons (gNm 4) (gsCons (gNm 5) gsNil))) (body := B_places_alive_1) (gd := [])
        (fun i env h' => (∃ x4 x5, env = [z0, z1, z2, some (.ref h.length), x4, x5]) ∧ h' = h ++ [.lst (((List.range (i + 1)).map (alR S n Ls)).map tupI)]) (List.range N) (fun j => .tup [tblD (tblI S n Ls (Ls.length - 2 - j)), tupI (endI S n Ls (Ls.length - 2 - j))]) (fun _ _ _ _ => by simp [Gd])
        (fun i env h' hi hI => by
          obtain ⟨⟨x4, x5, rfl⟩, rfl⟩ := hI
          have hi' : i < N := by simpa using hi
          rw [List.getElem_range]
          exact ⟨_, by simp, _, _, .inl (al_turn hL (by omega) z0 z1 z2 h), ⟨_, _, rfl⟩, rfl⟩)
        (env := [z0, z1, z2, some (.ref h.length), none, none]) (h := h ++ [.lst [tupI (endI S n Ls N)]]) ⟨⟨none, none, rfl⟩, by
          have e : alR S n Ls 0 = endI S n Ls N := by
            show endI S n Ls (Ls.length - 1) = _
            rw [hN, Nat.add_sub_cancel]
          simp [e]⟩
      rw [hh, List.length_range, ← hN] at e1
      exact ⟨x4, x5, e1⟩
    obtain ⟨x4, x5, lp⟩ := lp (some (.lst (Ls.map layD))) (some (.lst ((lnks S n Ls).map tblD))) (some (.lst (((List.range Ls.length).map (endI S n Ls)).map tupI)))
    have rv : (((List.range Ls.length).map (alR S n Ls)).map tupI).reverse = (alV S n Ls).map tupI := by
      unfold alV
      rw [List.map_map, rev_range, List.map_map]
      rfl
    have prj := pure_cleanJ (d := .lst ((alV S n Ls).map tupI)) h [.lst (((List.range Ls.length).map (alR S n Ls)).map tupI)] (clean_lst (cl _))
    generalize (alV S n Ls).map tupI = vs at *
    generalize ((List.range Ls.length).map (alR S n Ls)).map tupI = ws at *
    generalize ((List.range Ls.length).map (endI S n Ls)).map tupI = es at *
    generalize ((List.range N).map (endI S n Ls)).map tupI = es2 at *
    generalize (lnks S n Ls).map tblD = ls at *
    generalize (List.range N).map (fun j => tblD (tblI S n Ls (Ls.length - 2 - j))) = aa at *
    generalize (List.range N).map (fun j => tupI (endI S n Ls (Ls.length - 2 - j))) = bb at *
    generalize Ls.map layD = xs at *
    generalize tupI (endI S n Ls N) = e0 at *
    simp [F_places_alive, fe, ce1, ce2, rl, re, zp, lp, rv, prj]
end
end LibT
namespace LibT
open PySem PySem.Spec PyProof.Rows L2 Ev Lib
/-! paces; lists of tuples compared -/
def paV (c : Int) : SetV := ⟨2, c % 8, c / 8 % 3, 1 + c / 24 % 3⟩
theorem paV_ok (c : Int) : (paV c).ok := by
  unfold paV SetV.ok
  simp only
  omega
theorem F_pace (c : Int) (h : HP) : F__law_pace [.int c] h = .ok (paD (paV c)) h := by
  have mk := mk_pa (paV c) h
  have pr := pure_clean h (clean_pa (paV c))
  generalize hP : paD (paV c) = P at *
  unfold paV at mk
  simp only at mk
  simp [F__law_pace, lg, mk, pr]
def pyI (xs : List Int) : PyData := .tuple (xs.map PyData.int)
theorem toP_I (xs : List Int) : toP (tupI xs) = some (pyI xs) := by
  unfold tupI pyI
  rw [toP, toPs_map D.int PyData.int xs fun x _ => rfl]
  rfl
theorem shp_I (xs : List Int) : Shp 1 (pyI xs) := Shp.tup fun p hp => by
  obtain ⟨x, _, rfl⟩ := List.mem_map.mp hp
  exact Shp.int 0 x
def pyL (xs : List (List Int)) : PyData := .list (xs.map pyI)
theorem toP_L (xs : List (List Int)) : toP (.lst (xs.map tupI)) = some (pyL xs) := by
  unfold pyL
  rw [toP, toPs_map tupI pyI xs fun x _ => toP_I x]
  rfl
theorem shp_L (xs : List (List Int)) : Shp 2 (pyL xs) := Shp.list fun p hp => by
  obtain ⟨x, _, rfl⟩ := List.mem_map.mp hp
  exact shp_I x
theorem eq_L (xs : List (List Int)) : SeqAt.shaped (pyL xs) = true ∧ PyData.eqv (pyL xs) (pyL xs) = true := ⟨(shp_L xs).ok (by omega), (shp_L xs).self⟩
end LibT
namespace Pg
open PySem PySem.Spec PyProof.Rows L2 Ev
def topS (i : Nat) : Stmt := PySem.Challenge.pw_sureplace_k89_boxes_on_chains.main.body.getD i (.Pass ⟨0, 0, 0, 0⟩)
theorem bt_abs : bootBuiltins "abs" = some (.builtin "abs") := by decide +kernel
theorem bt_any : bootBuiltins "any" = some (.builtin "any") := by decide +kernel
theorem bt_int : bootBuiltins "int" = some (.type "int") := by decide +kernel
theorem bt_len : bootBuiltins "len" = some (.builtin "len") := by decide +kernel
theorem bt_list : bootBuiltins "list" = some (.type "list") := by decide +kernel
theorem bt_max : bootBuiltins "max" = some (.builtin "max") := by decide +kernel
theorem bt_set : bootBuiltins "set" = some (.type "set") := by decide +kernel
theorem bt_sorted : bootBuiltins "sorted" = some (.builtin "sorted") := by decide +kernel
theorem bt_sum : bootBuiltins "sum" = some (.builtin "sum") := by decide +kernel
theorem bt_tuple : bootBuiltins "tuple" = some (.type "tuple") := by decide +kernel
abbrev s__law_number : Stmt := topS 20
theorem sc__law_number : FnScope ["script", "k", "cell", "one", "two"] ["script", "k"] (defScope s__law_number) := ⟨rfl, rfl, rfl, by decide +kernel, rfl, by decide +kernel, by decide +kernel⟩
noncomputable abbrev F__law_number : FA := Lib.F__law_number
abbrev s_Pace__init__ : Stmt := inClass (topS 18) 0
theorem sc_Pace__init__ : FnScope ["self", "speed", "drift", "per"] ["self", "speed", "drift", "per"] (defScope s_Pace__init__) := ⟨rfl, rfl, rfl, by decide +kernel, rfl, by decide +kernel, by decide +kernel⟩
noncomputable abbrev F_Pace__init__ : FA := LibT.F_Pace__init__
abbrev s__law_pace : Stmt := topS 23
theorem sc__law_pace : FnScope ["cell"] ["cell"] (defScope s__law_pace) := ⟨rfl, rfl, rfl, by decide +kernel, rfl, by decide +kernel, by decide +kernel⟩
noncomputable abbrev F__law_pace : FA := LibT.F__law_pace
abbrev s_Layer__init__ : Stmt := inClass (topS 17) 0
theorem sc_Layer__init__ : FnScope ["self", "moment", "boxes"] ["self", "moment", "boxes"] (defScope s_Layer__init__) := ⟨rfl, rfl, rfl, by decide +kernel, rfl, by decide +kernel, by decide +kernel⟩
noncomputable abbrev F_Layer__init__ : FA := LibT.F_Layer__init__
abbrev s__law_layer : Stmt := topS 21
theorem sc__law_layer : FnScope ["script", "k", "dims", "moment", "many", "boxes", "at", "cell", "box", "axis", "low"] ["script", "k", "dims", "moment", "many"] (defScope s__law_layer) := ⟨rfl, rfl, rfl, by decide +kernel, rfl, by decide +kernel, by decide +kernel⟩
noncomputable abbrev F__law_layer : FA := LibT.F__law_layer
abbrev s__law_layers : Stmt := topS 22
theorem sc__law_layers : FnScope ["script", "k", "dims", "first", "layers", "moment", "wide", "at", "cell", "many"] ["script", "k", "dims"] (defScope s__law_layers) := ⟨rfl, rfl, rfl, by decide +kernel, rfl, by decide +kernel, by decide +kernel⟩
noncomputable abbrev F__law_layers : FA := LibT.F__law_layers
abbrev s__law_gap : Stmt := topS 24
theorem sc__law_gap : FnScope ["box", "other", "square", "axis", "gap_v"] ["box", "other"] (defScope s__law_gap) := ⟨rfl, rfl, rfl, by decide +kernel, rfl, by decide +kernel, by decide +kernel⟩
noncomputable abbrev F__law_gap : FA := LibT.F__law_gap
abbrev s__law_linked : Stmt := topS 25
theorem sc__law_linked : FnScope ["pace", "ticks", "box", "other", "far", "clock"] ["pace", "ticks", "box", "other"] (defScope s__law_linked) := ⟨rfl, rfl, rfl, by decide +kernel, rfl, by decide +kernel, by decide +kernel⟩
noncomputable abbrev F__law_linked : FA := LibT.F__law_linked
abbrev s__law_is_chain : Stmt := topS 26
theorem sc__law_is_chain : FnScope ["pace", "layers", "chain", "at", "ticks", "last"] ["pace", "layers", "chain"] (defScope s__law_is_chain) := ⟨rfl, rfl, rfl, by decide +kernel, rfl, by decide +kernel, by decide +kernel⟩
noncomputable abbrev F__law_is_chain : FA := LibT.F__law_is_chain
abbrev s__law_chains : Stmt := topS 27
theorem sc__law_chains : FnScope ["pace", "layers", "rows", "at", "more", "row", "place"] ["pace", "layers"] (defScope s__law_chains) := ⟨rfl, rfl, rfl, by decide +kernel, rfl, by decide +kernel, by decide +kernel⟩
noncomputable abbrev F__law_chains : FA := LibT.F__law_chains
abbrev s_places_ending : Stmt := topS 7
theorem sc_places_ending : FnScope ["layers", "links", "found", "table", "reached", "layer", "before", "place"] ["layers", "links"] (defScope s_places_ending) := ⟨rfl, rfl, rfl, by decide +kernel, rfl, by decide +kernel, by decide +kernel⟩
noncomputable abbrev F_places_ending : FA := LibT.F_places_ending
abbrev s__leading_to : Stmt := topS 8
theorem sc__leading_to : FnScope ["table", "places", "following", "wanted", "place", "other"] ["table", "places", "following"] (defScope s__leading_to) := ⟨rfl, rfl, rfl, by decide +kernel, rfl, by decide +kernel, by decide +kernel⟩
noncomputable abbrev F__leading_to : FA := LibT.F__leading_to
abbrev s_places_alive : Stmt := topS 9
theorem sc_places_alive : FnScope ["layers", "links", "ending", "found", "table", "places"] ["layers", "links"] (defScope s_places_alive) := ⟨rfl, rfl, rfl, by decide +kernel, rfl, by decide +kernel, by decide +kernel⟩
noncomputable abbrev F_places_alive : FA := LibT.F_places_alive
abbrev s__ticks : Stmt := topS 11
theorem sc__ticks : FnScope ["layer", "other"] ["layer", "other"] (defScope s__ticks) := ⟨rfl, rfl, rfl, by decide +kernel, rfl, by decide +kernel, by decide +kernel⟩
noncomputable abbrev F__ticks : FA := LibT.F__ticks
abbrev s_gap : Stmt := topS 1
theorem sc_gap : FnScope ["side", "other"] ["side", "other"] (defScope s_gap) := ⟨rfl, rfl, rfl, by decide +kernel, rfl, by decide +kernel, by decide +kernel⟩
noncomputable abbrev F_gap : FA := Lib.F_gap
abbrev s_between : Stmt := topS 2
theorem sc_between : FnScope ["box", "other", "side", "there"] ["box", "other"] (defScope s_between) := ⟨rfl, rfl, rfl, by decide +kernel, rfl, by decide +kernel, by decide +kernel⟩
noncomputable abbrev F_between : FA := Lib.F_between
abbrev s_clocks_farther : Stmt := topS 4
theorem sc_clocks_farther : FnScope ["setting", "ticks", "box", "other"] ["setting", "ticks", "box", "other"] (defScope s_clocks_farther) := ⟨rfl, rfl, rfl, by decide +kernel, rfl, by decide +kernel, by decide +kernel⟩
noncomputable abbrev F_clocks_farther : FA := LibT.F_clocks_farther
abbrev s_farther : Stmt := topS 5
theorem sc_farther : FnScope ["setting", "ticks", "box", "other", "places"] ["setting", "ticks", "box", "other"] (defScope s_farther) := ⟨rfl, rfl, rfl, by decide +kernel, rfl, by decide +kernel, by decide +kernel⟩
noncomputable abbrev F_farther : FA := LibT.F_farther
abbrev s__linked_with : Stmt := topS 12
theorem sc__linked_with : FnScope ["pace", "layer", "place", "other", "ticks", "box", "number", "there"] ["pace", "layer", "place", "other"] (defScope s__linked_with) := ⟨rfl, rfl, rfl, by decide +kernel, rfl, by decide +kernel, by decide +kernel⟩
noncomputable abbrev F__linked_with : FA := LibT.F__linked_with
abbrev s_linked : Stmt := topS 13
theorem sc_linked : FnScope ["pace", "layer", "other", "place"] ["pace", "layer", "other"] (defScope s_linked) := ⟨rfl, rfl, rfl, by decide +kernel, rfl, by decide +kernel, by decide +kernel⟩
noncomputable abbrev F_linked : FA := LibT.F_linked
abbrev s__links : Stmt := topS 14
theorem sc__links : FnScope ["pace", "layers", "layer", "other"] ["pace", "layers"] (defScope s__links) := ⟨rfl, rfl, rfl, by decide +kernel, rfl, by decide +kernel, by decide +kernel⟩
noncomputable abbrev F__links : FA := LibT.F__links
abbrev s_alive : Stmt := topS 15
theorem sc_alive : FnScope ["pace", "layers"] ["pace", "layers"] (defScope s_alive) := ⟨rfl, rfl, rfl, by decide +kernel, rfl, by decide +kernel, by decide +kernel⟩
noncomputable def F_alive : FA := fnP 2 (sRet (mFn 2 F_places_alive (aCons (mVar 1) (aCons (mFn 2 F__links (aCons (mVar 0) (aCons (mVar 1) aNil))) aNil))))
abbrev s_law : Stmt := topS 28
theorem sc_law : FnScope ["script", "first", "pace", "layers", "chains", "due", "at", "places", "place", "actual", "chain"] ["script"] (defScope s_law) := ⟨rfl, rfl, rfl, by decide +kernel, rfl, by decide +kernel, by decide +kernel⟩
noncomputable abbrev C_law_1 (live : Bool) : M D := mLc live (iAny (mVar 4)) [10] (gNm 10) (mB (mBin fEq (mBin fIx (mVar 10) (mVar 6)) (mVar 8))) (mVar 10)
noncomputable abbrev B_law_1 : SM := (sIf (mB (mBin fGt (mCall bLen (aCons (C_law_1 false) aNil)) (mCst (.int 0)))) (sExp (mBm tyL lAppend (mVar 7) (aCons (mVar 8) aNil))) sNil)
noncomputable abbrev B_law_2 : SM := (sSeq (sAsg (mLst true aNil) (gNm 7))
  (sSeq (sFor (iRange1 (aCons (mCall bLen (aCons (mFld "boxes" (mBin fIx (mVar 3) (mVar 6))) aNil)) aNil)) (gNm 8) B_law_1)
  (sExp (mBm tyL lAppend (mVar 5) (aCons (mCall bTuple (aCons (mVar 7) aNil)) aNil)))))
noncomputable def F_law : FA := fnP 11 (sSeq (sAsg (mFn 2 F__law_number (aCons (mVar 0) (aCons (mCst (.int 0)) aNil))) (gNm 1))
  (sSeq (sAsg (mFn 1 F__law_pace (aCons (mBin fDiv (mVar 1) (mCst (.int 2))) aNil)) (gNm 2))
  (sSeq (sAsg (mFn 3 F__law_layers (aCons (mVar 0) (aCons (mCst (.int 1)) (aCons (mBin fAdd (mCst (.int 2)) (mBin fMod (mCall bInt (aCons (mVar 1) aNil)) (mCst (.int 2)))) aNil)))) (gNm 3))
  (sSeq (sAsg (mFn 2 F__law_chains (aCons (mVar 2) (aCons (mVar 3) aNil))) (gNm 4))
  (sSeq (sAsg (mLst true aNil) (gNm 5))
  (sSeq (sFor (iRange1 (aCons (mCall bLen (aCons (mVar 3) aNil)) aNil)) (gNm 6) B_law_2)
  (sSeq (sAsg (mFn 2 F_alive (aCons (mVar 2) (aCons (mVar 3) aNil))) (gNm 9))
  (sRet (mAnd (mIsi "list" (mVar 9)) (mBin fEq (mVar 9) (mVar 5)))))))))))
section
variable {P : Program} {w : World} {K : PySem.W.Frag} {mg : Str → Option Value} {base : Heap} {cA : Nat → Addr}
theorem passE {X : Cx} {E : XK} : Passes CX0 X E := fun _ _ _ _ _ _ _ h => h.elim
abbrev gg (K : PySem.W.Frag) (cA : Nat → Addr) : G := ⟨K, cA⟩
set_option maxHeartbeats 4000000 in
theorem ok__law_number {f : Addr} {fd : FuncData} (F : Fun K "_law_number" "_law_number" s__law_number f fd) (z_int : mg "int" = none) (z_len : mg "len" = none) : FnOk P w K mg base CX0 1 f fd ["script", "k"] (spF (gg K cA) 2 F__law_number) := by
  refine Fn0 F sc__law_number (fun hl h => fnP_ends (N := 5) hl h) fun cdv A outer s H E hr => ?_
  have nd := sc__law_number.nd
  exact (.cons (.set (i := 2) (.bin (ok_add rfl) (.bin ok_mul .int (.var (i := 1) rfl rfl (by first | exact Or.inl rfl | exact Or.inr (Or.inl rfl) | exact Or.inr (Or.inr rfl)) (by decide) (by decide))) .int) nd rfl (by first | exact Or.inl rfl | exact Or.inr rfl) rfl (Or.inl rfl))
  (.cons (.if_ (.cmp ok_lt (.var (i := 1) rfl rfl (by first | exact Or.inl rfl | exact Or.inr (Or.inl rfl) | exact Or.inr (Or.inr rfl)) (by decide) (by decide)) (.callB (cv_len rfl) z_len (.cons (.var (i := 0) rfl rfl (by first | exact Or.inl rfl | exact Or.inr (Or.inl rfl) | exact Or.inr (Or.inr rfl)) (by decide) (by decide)) .nil rfl) (by rfl) bt_len (by decide) (by decide) rfl rfl) rfl) (.one (.set (i := 2) (.callT cv_int z_int (.cons (.ix rfl (.var (i := 0) rfl rfl (by first | exact Or.inl rfl | exact Or.inr (Or.inl rfl) | exact Or.inr (Or.inr rfl)) (by decide) (by decide)) (.var (i := 1) rfl rfl (by first | exact Or.inl rfl | exact Or.inr (Or.inl rfl) | exact Or.inr (Or.inr rfl)) (by decide) (by decide)) (fun _ _ => rfl)) .nil rfl) (by rfl) bt_int (by decide) (by decide) rfl rfl) nd rfl (by first | exact Or.inl rfl | exact Or.inr rfl) rfl (Or.inl rfl))) .nil)
  (.cons (.if_ (.cmp ok_lt (.var (i := 2) rfl rfl (by first | exact Or.inl rfl | exact Or.inr (Or.inl rfl) | exact Or.inr (Or.inr rfl)) (by decide) (by decide)) .int rfl) (.one (.set (i := 2) (.bin ok_sub .int (.bin ok_mul .int (.var (i := 2) rfl rfl (by first | exact Or.inl rfl | exact Or.inr (Or.inl rfl) | exact Or.inr (Or.inr rfl)) (by decide) (by decide)))) nd rfl (by first | exact Or.inl rfl | exact Or.inr rfl) rfl (Or.inl rfl))) .nil)
  (.cons (.if_ (.cmp ok_lt (.var (i := 2) rfl rfl (by first | exact Or.inl rfl | exact Or.inr (Or.inl rfl) | exact Or.inr (Or.inr rfl)) (by decide) (by decide)) .int rfl) (.cons (.set (i := 3) (.bin ok_mod (.callT cv_int z_int (.cons (.bin (ok_add rfl) (.bin (ok_add rfl) (.bin ok_mul (.var (i := 2) rfl rfl (by first | exact Or.inl rfl | exact Or.inr (Or.inl rfl) | exact Or.inr (Or.inr rfl)) (by decide) (by decide)) .int) (.bin ok_mul (.var (i := 1) rfl rfl (by first | exact Or.inl rfl | exact Or.inr (Or.inl rfl) | exact Or.inr (Or.inr rfl)) (by decide) (by decide)) .int)) .int) .nil rfl) (by rfl) bt_int (by decide) (by decide) rfl rfl) .int) nd rfl (by first | exact Or.inl rfl | exact Or.inr rfl) rfl (Or.inl rfl))
  (.cons (.set (i := 4) (.bin ok_mod (.callT cv_int z_int (.cons (.bin (ok_add rfl) (.bin (ok_add rfl) (.bin ok_mul (.var (i := 3) rfl rfl (by first | exact Or.inl rfl | exact Or.inr (Or.inl rfl) | exact Or.inr (Or.inr rfl)) (by decide) (by decide)) .int) (.bin ok_mul (.var (i := 1) rfl rfl (by first | exact Or.inl rfl | exact Or.inr (Or.inl rfl) | exact Or.inr (Or.inr rfl)) (by decide) (by decide)) .int)) .int) .nil rfl) (by rfl) bt_int (by decide) (by decide) rfl rfl) .int) nd rfl (by first | exact Or.inl rfl | exact Or.inr rfl) rfl (Or.inl rfl))
  (.one (.set (i := 2) (.bin (ok_add rfl) (.bin ok_mul (.var (i := 3) rfl rfl (by first | exact Or.inl rfl | exact Or.inr (Or.inl rfl) | exact Or.inr (Or.inr rfl)) (by decide) (by decide)) .int) (.var (i := 4) rfl rfl (by first | exact Or.inl rfl | exact Or.inr (Or.inl rfl) | exact Or.inr (Or.inr rfl)) (by decide) (by decide))) nd rfl (by first | exact Or.inl rfl | exact Or.inr rfl) rfl (Or.inl rfl))))) .nil)
  (.one (.ret (.var (i := 2) rfl rfl (by first | exact Or.inl rfl | exact Or.inr (Or.inl rfl) | exact Or.inr (Or.inr rfl)) (by decide) (by decide))))))))
set_option maxHeartbeats 4000000 in
theorem ok_Pace__init__ {f : Addr} {fd : FuncData} (F : Fun K "__init__" "Pace.__init__" s_Pace__init__ f fd) (T : ∀ c, ClsT K (cA c) ["boxes", "speed", "drift", "per", "moment"]) : FnOk P w K mg base CX0 1 f fd ["self", "speed", "drift", "per"] (spF (gg K cA) 4 F_Pace__init__) := by
  refine Fn0 F sc_Pace__init__ (fun hl h => fnR_ends (N := 4) h) fun cdv A outer s H E hr => ?_
  have nd := sc_Pace__init__.nd
  exact (.cons (.put rfl (.of T (by simp)) (.var (i := 1) rfl rfl (by first | exact Or.inl rfl | exact Or.inr (Or.inl rfl) | exact Or.inr (Or.inr rfl)) (by decide) (by decide)) (.var (i := 0) rfl rfl (by first | exact Or.inl rfl | exact Or.inr (Or.inl rfl) | exact Or.inr (Or.inr rfl)) (by decide) (by decide)) rfl)
  (.cons (.put rfl (.of T (by simp)) (.var (i := 2) rfl rfl (by first | exact Or.inl rfl | exact Or.inr (Or.inl rfl) | exact Or.inr (Or.inr rfl)) (by decide) (by decide)) (.var (i := 0) rfl rfl (by first | exact Or.inl rfl | exact Or.inr (Or.inl rfl) | exact Or.inr (Or.inr rfl)) (by decide) (by decide)) rfl)
  (.one (.put rfl (.of T (by simp)) (.var (i := 3) rfl rfl (by first | exact Or.inl rfl | exact Or.inr (Or.inl rfl) | exact Or.inr (Or.inr rfl)) (by decide) (by decide)) (.var (i := 0) rfl rfl (by first | exact Or.inl rfl | exact Or.inr (Or.inl rfl) | exact Or.inr (Or.inr rfl)) (by decide) (by decide)) rfl))))
set_option maxHeartbeats 4000000 in
theorem ok__law_pace {f : Addr} {fd : FuncData} (F : Fun K "_law_pace" "_law_pace" s__law_pace f fd) (T : ∀ c, ClsT K (cA c) ["boxes", "speed", "drift", "per", "moment"]) {f_Pace__init__ : Addr} {fd_Pace__init__ : FuncData} (o_Pace__init__ : FnOk P w K mg base CX0 1 f_Pace__init__ fd_Pace__init__ ["self", "speed", "drift", "per"] (spF (gg K cA) 4 F_Pace__init__)) (b_Pace__init__ : Binds K fd_Pace__init__ ["self", "speed", "drift", "per"] []) (M_Pace : Mk K (cA 18) f_Pace__init__) (mC_Pace : mg "Pace" = some (.ref (cA 18))) (z_int : mg "int" = none) : FnOk P w K mg base CX0 3 f fd ["cell"] (spF (gg K cA) 1 F__law_pace) := by
  refine Fn0 F sc__law_pace (fun hl h => fnP_ends (N := 1) hl h) fun cdv A outer s H E hr => ?_
  have nd := sc__law_pace.nd
  exact (.one (.ret (.mkP (c := 18) M_Pace o_Pace__init__ (hr.mono (by decide)) mC_Pace b_Pace__init__ passE (.cons (.bin ok_mod (.callT cv_int z_int (.cons (.var (i := 0) rfl rfl (by first | exact Or.inl rfl | exact Or.inr (Or.inl rfl) | exact Or.inr (Or.inr rfl)) (by decide) (by decide)) .nil rfl) (by rfl) bt_int (by decide) (by decide) rfl rfl) .int) (.cons (.bin ok_mod (.callT cv_int z_int (.cons (.bin ok_div (.var (i := 0) rfl rfl (by first | exact Or.inl rfl | exact Or.inr (Or.inl rfl) | exact Or.inr (Or.inr rfl)) (by decide) (by decide)) .int) .nil rfl) (by rfl) bt_int (by decide) (by decide) rfl rfl) .int) (.cons (.bin (ok_add rfl) .int (.bin ok_mod (.callT cv_int z_int (.cons (.bin ok_div (.var (i := 0) rfl rfl (by first | exact Or.inl rfl | exact Or.inr (Or.inl rfl) | exact Or.inr (Or.inr rfl)) (by decide) (by decide)) .int) .nil rfl) (by rfl) bt_int (by decide) (by decide) rfl rfl) .int)) .nil rfl) rfl) rfl) (by rfl) (by decide) rfl rfl)))
set_option maxHeartbeats 4000000 in
theorem ok_Layer__init__ {f : Addr} {fd : FuncData} (F : Fun K "__init__" "Layer.__init__" s_Layer__init__ f fd) (T : ∀ c, ClsT K (cA c) ["boxes", "speed", "drift", "per", "moment"]) : FnOk P w K mg base CX0 1 f fd ["self", "moment", "boxes"] (spF (gg K cA) 3 F_Layer__init__) := by
  refine Fn0 F sc_Layer__init__ (fun hl h => fnR_ends (N := 3) h) fun cdv A outer s H E hr => ?_
  have nd := sc_Layer__init__.nd
  exact (.cons (.put rfl (.of T (by simp)) (.var (i := 1) rfl rfl (by first | exact Or.inl rfl | exact Or.inr (Or.inl rfl) | exact Or.inr (Or.inr rfl)) (by decide) (by decide)) (.var (i := 0) rfl rfl (by first | exact Or.inl rfl | exact Or.inr (Or.inl rfl) | exact Or.inr (Or.inr rfl)) (by decide) (by decide)) rfl)
  (.one (.put rfl (.of T (by simp)) (.var (i := 2) rfl rfl (by first | exact Or.inl rfl | exact Or.inr (Or.inl rfl) | exact Or.inr (Or.inr rfl)) (by decide) (by decide)) (.var (i := 0) rfl rfl (by first | exact Or.inl rfl | exact Or.inr (Or.inl rfl) | exact Or.inr (Or.inr rfl)) (by decide) (by decide)) rfl)))
set_option maxHeartbeats 4000000 in
theorem ok__law_layer {f : Addr} {fd : FuncData} (F : Fun K "_law_layer" "_law_layer" s__law_layer f fd) (T : ∀ c, ClsT K (cA c) ["boxes", "speed", "drift", "per", "moment"]) {f__law_number : Addr} {fd__law_number : FuncData} (o__law_number : FnOk P w K mg base CX0 1 f__law_number fd__law_number ["script", "k"] (spF (gg K cA) 2 F__law_number)) (b__law_number : Binds K fd__law_number ["script", "k"] []) (m__law_number : mg "_law_number" = some (.ref f__law_number)) (k__law_number : PySem.W.keepIn K (.ref f__law_number) = true) {f_Layer__init__ : Addr} {fd_Layer__init__ : FuncData} (o_Layer__init__ : FnOk P w K mg base CX0 1 f_Layer__init__ fd_Layer__init__ ["self", "moment", "boxes"] (spF (gg K cA) 3 F_Layer__init__)) (b_Layer__init__ : Binds K fd_Layer__init__ ["self", "moment", "boxes"] []) (M_Layer : Mk K (cA 17) f_Layer__init__) (mC_Layer : mg "Layer" = some (.ref (cA 17))) (z_int : mg "int" = none) (z_range : mg "range" = none) (z_tuple : mg "tuple" = none) : FnOk P w K mg base CX0 3 f fd ["script", "k", "dims", "moment", "many"] (spF (gg K cA) 5 F__law_layer) := by
  refine Fn0 F sc__law_layer (fun hl h => fnP_ends (N := 11) hl h) fun cdv A outer s H E hr => ?_
  have nd := sc__law_layer.nd
  exact (.cons (.set (i := 5) (.lst true .nil) nd rfl (by first | exact Or.inl rfl | exact Or.inr rfl) rfl (Or.inl rfl))
  (.cons (.for_ PassesOwn.never rfl (.range1 z_range (.cons (.var (i := 4) rfl rfl (by first | exact Or.inl rfl | exact Or.inr (Or.inl rfl) | exact Or.inr (Or.inr rfl)) (by decide) (by decide)) .nil rfl) (by rfl) (by rfl)) (.name nd rfl (by first | exact Or.inl rfl | exact Or.inr rfl) (by first | exact Or.inl rfl | exact Or.inr rfl)) (.cons (.set (i := 7) (.call o__law_number (hr.mono (by decide)) m__law_number k__law_number b__law_number passE (.cons (.var (i := 0) rfl rfl (by first | exact Or.inl rfl | exact Or.inr (Or.inl rfl) | exact Or.inr (Or.inr rfl)) (by decide) (by decide)) (.cons (.bin (ok_add rfl) (.var (i := 1) rfl rfl (by first | exact Or.inl rfl | exact Or.inr (Or.inl rfl) | exact Or.inr (Or.inr rfl)) (by decide) (by decide)) (.var (i := 6) rfl rfl (by first | exact Or.inl rfl | exact Or.inr (Or.inl rfl) | exact Or.inr (Or.inr rfl)) (by decide) (by decide))) .nil rfl) rfl) (by rfl) (by decide) rfl rfl) nd rfl (by first | exact Or.inl rfl | exact Or.inr rfl) rfl (Or.inl rfl))
  (.cons (.set (i := 8) (.lst true .nil) nd rfl (by first | exact Or.inl rfl | exact Or.inr rfl) rfl (Or.inl rfl))
  (.cons (.for_ PassesOwn.never rfl (.range1 z_range (.cons (.var (i := 2) rfl rfl (by first | exact Or.inl rfl | exact Or.inr (Or.inl rfl) | exact Or.inr (Or.inr rfl)) (by decide) (by decide)) .nil rfl) (by rfl) (by rfl)) (.name nd rfl (by first | exact Or.inl rfl | exact Or.inr rfl) (by first | exact Or.inl rfl | exact Or.inr rfl)) (.cons (.set (i := 10) (.bin ok_sub (.bin ok_mod (.callT cv_int z_int (.cons (.bin ok_div (.var (i := 7) rfl rfl (by first | exact Or.inl rfl | exact Or.inr (Or.inl rfl) | exact Or.inr (Or.inr rfl)) (by decide) (by decide)) (.ix rfl (.lst false (.cons .int (.cons .int (.cons .int .nil rfl) rfl) rfl)) (.var (i := 9) rfl rfl (by first | exact Or.inl rfl | exact Or.inr (Or.inl rfl) | exact Or.inr (Or.inr rfl)) (by decide) (by decide)) (fun _ _ => rfl))) .nil rfl) (by rfl) bt_int (by decide) (by decide) rfl rfl) .int) .int) nd rfl (by first | exact Or.inl rfl | exact Or.inr rfl) rfl (Or.inl rfl))
  (.one (.exp (.bm rfl PySem.F.plainAttrs_list PySem.F.slot_list_append PySem.F.type_list_append bm_append (.var (i := 8) rfl rfl (by first | exact Or.inl rfl | exact Or.inr (Or.inl rfl) | exact Or.inr (Or.inr rfl)) (by decide) (by decide)) (.cons (.tup (.cons (.var (i := 10) rfl rfl (by first | exact Or.inl rfl | exact Or.inr (Or.inl rfl) | exact Or.inr (Or.inr rfl)) (by decide) (by decide)) (.cons (.bin (ok_add rfl) (.var (i := 10) rfl rfl (by first | exact Or.inl rfl | exact Or.inr (Or.inl rfl) | exact Or.inr (Or.inr rfl)) (by decide) (by decide)) (.bin ok_mod (.callT cv_int z_int (.cons (.bin ok_div (.var (i := 7) rfl rfl (by first | exact Or.inl rfl | exact Or.inr (Or.inl rfl) | exact Or.inr (Or.inr rfl)) (by decide) (by decide)) (.ix rfl (.lst false (.cons .int (.cons .int (.cons .int .nil rfl) rfl) rfl)) (.var (i := 9) rfl rfl (by first | exact Or.inl rfl | exact Or.inr (Or.inl rfl) | exact Or.inr (Or.inr rfl)) (by decide) (by decide)) (fun _ _ => rfl))) .nil rfl) (by rfl) bt_int (by decide) (by decide) rfl rfl) .int)) .nil rfl) rfl)) .nil rfl) rfl rfl rfl rfl rfl) rfl))) (fun _ => rfl))
  (.cons (.set (i := 10) (.bin ok_sub (.bin ok_mod (.callT cv_int z_int (.cons (.bin ok_div (.var (i := 7) rfl rfl (by first | exact Or.inl rfl | exact Or.inr (Or.inl rfl) | exact Or.inr (Or.inr rfl)) (by decide) (by decide)) .int) .nil rfl) (by rfl) bt_int (by decide) (by decide) rfl rfl) .int) .int) nd rfl (by first | exact Or.inl rfl | exact Or.inr rfl) rfl (Or.inl rfl))
  (.cons (.exp (.bm rfl PySem.F.plainAttrs_list PySem.F.slot_list_append PySem.F.type_list_append bm_append (.var (i := 8) rfl rfl (by first | exact Or.inl rfl | exact Or.inr (Or.inl rfl) | exact Or.inr (Or.inr rfl)) (by decide) (by decide)) (.cons (.tup (.cons (.var (i := 10) rfl rfl (by first | exact Or.inl rfl | exact Or.inr (Or.inl rfl) | exact Or.inr (Or.inr rfl)) (by decide) (by decide)) (.cons (.bin (ok_add rfl) (.var (i := 10) rfl rfl (by first | exact Or.inl rfl | exact Or.inr (Or.inl rfl) | exact Or.inr (Or.inr rfl)) (by decide) (by decide)) (.bin ok_mod (.callT cv_int z_int (.cons (.bin ok_div (.var (i := 7) rfl rfl (by first | exact Or.inl rfl | exact Or.inr (Or.inl rfl) | exact Or.inr (Or.inr rfl)) (by decide) (by decide)) .int) .nil rfl) (by rfl) bt_int (by decide) (by decide) rfl rfl) .int)) .nil rfl) rfl)) .nil rfl) rfl rfl rfl rfl rfl) rfl)
  (.one (.exp (.bm rfl PySem.F.plainAttrs_list PySem.F.slot_list_append PySem.F.type_list_append bm_append (.var (i := 5) rfl rfl (by first | exact Or.inl rfl | exact Or.inr (Or.inl rfl) | exact Or.inr (Or.inr rfl)) (by decide) (by decide)) (.cons (.callT (cv_tuple rfl) z_tuple (.cons (.var (i := 8) rfl rfl (by first | exact Or.inl rfl | exact Or.inr (Or.inl rfl) | exact Or.inr (Or.inr rfl)) (by decide) (by decide)) .nil rfl) (by rfl) bt_tuple (by decide) (by decide) rfl rfl) .nil rfl) rfl rfl rfl rfl rfl) rfl))))))) (fun _ => rfl))
  (.one (.ret (.mkP (c := 17) M_Layer o_Layer__init__ (hr.mono (by decide)) mC_Layer b_Layer__init__ passE (.cons (.var (i := 3) rfl rfl (by first | exact Or.inl rfl | exact Or.inr (Or.inl rfl) | exact Or.inr (Or.inr rfl)) (by decide) (by decide)) (.cons (.callT (cv_tuple rfl) z_tuple (.cons (.var (i := 5) rfl rfl (by first | exact Or.inl rfl | exact Or.inr (Or.inl rfl) | exact Or.inr (Or.inr rfl)) (by decide) (by decide)) .nil rfl) (by rfl) bt_tuple (by decide) (by decide) rfl rfl) .nil rfl) rfl) (by rfl) (by decide) rfl rfl)))))
set_option maxHeartbeats 4000000 in
theorem ok__law_layers {f : Addr} {fd : FuncData} (F : Fun K "_law_layers" "_law_layers" s__law_layers f fd) {f__law_number : Addr} {fd__law_number : FuncData} (o__law_number : FnOk P w K mg base CX0 1 f__law_number fd__law_number ["script", "k"] (spF (gg K cA) 2 F__law_number)) (b__law_number : Binds K fd__law_number ["script", "k"] []) (m__law_number : mg "_law_number" = some (.ref f__law_number)) (k__law_number : PySem.W.keepIn K (.ref f__law_number) = true) {f__law_layer : Addr} {fd__law_layer : FuncData} (o__law_layer : FnOk P w K mg base CX0 3 f__law_layer fd__law_layer ["script", "k", "dims", "moment", "many"] (spF (gg K cA) 5 F__law_layer)) (b__law_layer : Binds K fd__law_layer ["script", "k", "dims", "moment", "many"] []) (m__law_layer : mg "_law_layer" = some (.ref f__law_layer)) (k__law_layer : PySem.W.keepIn K (.ref f__law_layer) = true) (z_int : mg "int" = none) (z_range : mg "range" = none) : FnOk P w K mg base CX0 4 f fd ["script", "k", "dims"] (spF (gg K cA) 3 F__law_layers) := by
  refine Fn0 F sc__law_layers (fun hl h => fnP_ends (N := 10) hl h) fun cdv A outer s H E hr => ?_
  have nd := sc__law_layers.nd
  exact (.cons (.set (i := 3) (.call o__law_number (hr.mono (by decide)) m__law_number k__law_number b__law_number passE (.cons (.var (i := 0) rfl rfl (by first | exact Or.inl rfl | exact Or.inr (Or.inl rfl) | exact Or.inr (Or.inr rfl)) (by decide) (by decide)) (.cons (.var (i := 1) rfl rfl (by first | exact Or.inl rfl | exact Or.inr (Or.inl rfl) | exact Or.inr (Or.inr rfl)) (by decide) (by decide)) .nil rfl) rfl) (by rfl) (by decide) rfl rfl) nd rfl (by first | exact Or.inl rfl | exact Or.inr rfl) rfl (Or.inl rfl))
  (.cons (.set (i := 4) (.lst true .nil) nd rfl (by first | exact Or.inl rfl | exact Or.inr rfl) rfl (Or.inl rfl))
  (.cons (.set (i := 5) (.bin ok_sub (.bin ok_mod (.callT cv_int z_int (.cons (.var (i := 3) rfl rfl (by first | exact Or.inl rfl | exact Or.inr (Or.inl rfl) | exact Or.inr (Or.inr rfl)) (by decide) (by decide)) .nil rfl) (by rfl) bt_int (by decide) (by decide) rfl rfl) .int) .int) nd rfl (by first | exact Or.inl rfl | exact Or.inr rfl) rfl (Or.inl rfl))
  (.cons (.set (i := 6) (.cmp (ok_eq rfl hr.units) (.bin ok_mod (.callT cv_int z_int (.cons (.bin ok_div (.var (i := 3) rfl rfl (by first | exact Or.inl rfl | exact Or.inr (Or.inl rfl) | exact Or.inr (Or.inr rfl)) (by decide) (by decide)) .int) .nil rfl) (by rfl) bt_int (by decide) (by decide) rfl rfl) .int) .int rfl) nd rfl (by first | exact Or.inl rfl | exact Or.inr rfl) rfl (Or.inl rfl))
  (.cons (.for_ PassesOwn.never rfl (.range1 z_range (.cons (.ix rfl (.lst false (.cons (.bin ok_mod (.callT cv_int z_int (.cons (.bin ok_div (.var (i := 3) rfl rfl (by first | exact Or.inl rfl | exact Or.inr (Or.inl rfl) | exact Or.inr (Or.inr rfl)) (by decide) (by decide)) .int) .nil rfl) (by rfl) bt_int (by decide) (by decide) rfl rfl) .int) (.cons .int .nil rfl) rfl)) (.callT cv_int z_int (.cons (.var (i := 6) rfl rfl (by first | exact Or.inl rfl | exact Or.inr (Or.inl rfl) | exact Or.inr (Or.inr rfl)) (by decide) (by decide)) .nil rfl) (by rfl) bt_int (by decide) (by decide) rfl rfl) (fun _ _ => rfl)) .nil rfl) (by rfl) (by rfl)) (.name nd rfl (by first | exact Or.inl rfl | exact Or.inr rfl) (by first | exact Or.inl rfl | exact Or.inr rfl)) (.cons (.set (i := 8) (.call o__law_number (hr.mono (by decide)) m__law_number k__law_number b__law_number passE (.cons (.var (i := 0) rfl rfl (by first | exact Or.inl rfl | exact Or.inr (Or.inl rfl) | exact Or.inr (Or.inr rfl)) (by decide) (by decide)) (.cons (.bin (ok_add rfl) (.bin (ok_add rfl) (.var (i := 1) rfl rfl (by first | exact Or.inl rfl | exact Or.inr (Or.inl rfl) | exact Or.inr (Or.inr rfl)) (by decide) (by decide)) .int) (.bin ok_mul .int (.var (i := 7) rfl rfl (by first | exact Or.inl rfl | exact Or.inr (Or.inl rfl) | exact Or.inr (Or.inr rfl)) (by decide) (by decide)))) .nil rfl) rfl) (by rfl) (by decide) rfl rfl) nd rfl (by first | exact Or.inl rfl | exact Or.inr rfl) rfl (Or.inl rfl))
  (.cons (.set (i := 9) (.ix rfl (.lst false (.cons .int (.cons .int (.cons .int (.cons .int (.cons .int (.cons .int (.cons .int (.cons .int .nil rfl) rfl) rfl) rfl) rfl) rfl) rfl) rfl)) (.bin ok_mod (.callT cv_int z_int (.cons (.var (i := 8) rfl rfl (by first | exact Or.inl rfl | exact Or.inr (Or.inl rfl) | exact Or.inr (Or.inr rfl)) (by decide) (by decide)) .nil rfl) (by rfl) bt_int (by decide) (by decide) rfl rfl) .int) (fun _ _ => rfl)) nd rfl (by first | exact Or.inl rfl | exact Or.inr rfl) rfl (Or.inl rfl))
  (.cons (.if_ (.tru rfl (.var (i := 6) rfl rfl (by first | exact Or.inl rfl | exact Or.inr (Or.inl rfl) | exact Or.inr (Or.inr rfl)) (by decide) (by decide)) (fun _ => rfl)) (.one (.set (i := 9) (.bin (ok_add rfl) .int (.bin ok_mod (.callT cv_int z_int (.cons (.bin ok_div (.var (i := 8) rfl rfl (by first | exact Or.inl rfl | exact Or.inr (Or.inl rfl) | exact Or.inr (Or.inr rfl)) (by decide) (by decide)) .int) .nil rfl) (by rfl) bt_int (by decide) (by decide) rfl rfl) .int)) nd rfl (by first | exact Or.inl rfl | exact Or.inr rfl) rfl (Or.inl rfl))) .nil)
  (.cons (.exp (.bm rfl PySem.F.plainAttrs_list PySem.F.slot_list_append PySem.F.type_list_append bm_append (.var (i := 4) rfl rfl (by first | exact Or.inl rfl | exact Or.inr (Or.inl rfl) | exact Or.inr (Or.inr rfl)) (by decide) (by decide)) (.cons (.call o__law_layer (hr.mono (by decide)) m__law_layer k__law_layer b__law_layer passE (.cons (.var (i := 0) rfl rfl (by first | exact Or.inl rfl | exact Or.inr (Or.inl rfl) | exact Or.inr (Or.inr rfl)) (by decide) (by decide)) (.cons (.bin (ok_add rfl) (.bin (ok_add rfl) (.bin (ok_add rfl) (.var (i := 1) rfl rfl (by first | exact Or.inl rfl | exact Or.inr (Or.inl rfl) | exact Or.inr (Or.inr rfl)) (by decide) (by decide)) .int) (.bin ok_mul .int (.var (i := 7) rfl rfl (by first | exact Or.inl rfl | exact Or.inr (Or.inl rfl) | exact Or.inr (Or.inr rfl)) (by decide) (by decide)))) (.bin ok_mul (.bin ok_mul .int (.callT cv_int z_int (.cons (.var (i := 6) rfl rfl (by first | exact Or.inl rfl | exact Or.inr (Or.inl rfl) | exact Or.inr (Or.inr rfl)) (by decide) (by decide)) .nil rfl) (by rfl) bt_int (by decide) (by decide) rfl rfl)) (.var (i := 7) rfl rfl (by first | exact Or.inl rfl | exact Or.inr (Or.inl rfl) | exact Or.inr (Or.inr rfl)) (by decide) (by decide)))) (.cons (.var (i := 2) rfl rfl (by first | exact Or.inl rfl | exact Or.inr (Or.inl rfl) | exact Or.inr (Or.inr rfl)) (by decide) (by decide)) (.cons (.var (i := 5) rfl rfl (by first | exact Or.inl rfl | exact Or.inr (Or.inl rfl) | exact Or.inr (Or.inr rfl)) (by decide) (by decide)) (.cons (.var (i := 9) rfl rfl (by first | exact Or.inl rfl | exact Or.inr (Or.inl rfl) | exact Or.inr (Or.inr rfl)) (by decide) (by decide)) .nil rfl) rfl) rfl) rfl) rfl) (by rfl) (by decide) rfl rfl) .nil rfl) rfl rfl rfl rfl rfl) rfl)
  (.one (.set (i := 5) (.bin (ok_add rfl) (.bin (ok_add rfl) (.var (i := 5) rfl rfl (by first | exact Or.inl rfl | exact Or.inr (Or.inl rfl) | exact Or.inr (Or.inr rfl)) (by decide) (by decide)) .int) (.bin ok_mod (.callT cv_int z_int (.cons (.bin ok_div (.var (i := 8) rfl rfl (by first | exact Or.inl rfl | exact Or.inr (Or.inl rfl) | exact Or.inr (Or.inr rfl)) (by decide) (by decide)) .int) .nil rfl) (by rfl) bt_int (by decide) (by decide) rfl rfl) .int)) nd rfl (by first | exact Or.inl rfl | exact Or.inr rfl) rfl (Or.inl rfl))))))) (fun _ => rfl))
  (.one (.ret (.var (i := 4) rfl rfl (by first | exact Or.inl rfl | exact Or.inr (Or.inl rfl) | exact Or.inr (Or.inr rfl)) (by decide) (by decide)))))))))
set_option maxHeartbeats 4000000 in
theorem ok__law_gap {f : Addr} {fd : FuncData} (F : Fun K "_law_gap" "_law_gap" s__law_gap f fd) (z_len : mg "len" = none) (z_max : mg "max" = none) (z_range : mg "range" = none) : FnOk P w K mg base CX0 1 f fd ["box", "other"] (spF (gg K cA) 2 F__law_gap) := by
  refine Fn0 F sc__law_gap (fun hl h => fnP_ends (N := 5) hl h) fun cdv A outer s H E hr => ?_
  have nd := sc__law_gap.nd
  exact (.cons (.set (i := 2) .int nd rfl (by first | exact Or.inl rfl | exact Or.inr rfl) rfl (Or.inl rfl))
  (.cons (.for_ PassesOwn.never rfl (.range1 z_range (.cons (.bin ok_sub (.callB (cv_len rfl) z_len (.cons (.var (i := 0) rfl rfl (by first | exact Or.inl rfl | exact Or.inr (Or.inl rfl) | exact Or.inr (Or.inr rfl)) (by decide) (by decide)) .nil rfl) (by rfl) bt_len (by decide) (by decide) rfl rfl) .int) .nil rfl) (by rfl) (by rfl)) (.name nd rfl (by first | exact Or.inl rfl | exact Or.inr rfl) (by first | exact Or.inl rfl | exact Or.inr rfl)) (.cons (.set (i := 4) (.callB (cv_max rfl rfl) z_max (.cons (.bin ok_sub (.ix rfl (.ix rfl (.var (i := 1) rfl rfl (by first | exact Or.inl rfl | exact Or.inr (Or.inl rfl) | exact Or.inr (Or.inr rfl)) (by decide) (by decide)) (.var (i := 3) rfl rfl (by first | exact Or.inl rfl | exact Or.inr (Or.inl rfl) | exact Or.inr (Or.inr rfl)) (by decide) (by decide)) (fun _ _ => rfl)) .int (fun _ _ => rfl)) (.ix rfl (.ix rfl (.var (i := 0) rfl rfl (by first | exact Or.inl rfl | exact Or.inr (Or.inl rfl) | exact Or.inr (Or.inr rfl)) (by decide) (by decide)) (.var (i := 3) rfl rfl (by first | exact Or.inl rfl | exact Or.inr (Or.inl rfl) | exact Or.inr (Or.inr rfl)) (by decide) (by decide)) (fun _ _ => rfl)) .int (fun _ _ => rfl))) (.cons (.bin ok_sub (.ix rfl (.ix rfl (.var (i := 0) rfl rfl (by first | exact Or.inl rfl | exact Or.inr (Or.inl rfl) | exact Or.inr (Or.inr rfl)) (by decide) (by decide)) (.var (i := 3) rfl rfl (by first | exact Or.inl rfl | exact Or.inr (Or.inl rfl) | exact Or.inr (Or.inr rfl)) (by decide) (by decide)) (fun _ _ => rfl)) .int (fun _ _ => rfl)) (.ix rfl (.ix rfl (.var (i := 1) rfl rfl (by first | exact Or.inl rfl | exact Or.inr (Or.inl rfl) | exact Or.inr (Or.inr rfl)) (by decide) (by decide)) (.var (i := 3) rfl rfl (by first | exact Or.inl rfl | exact Or.inr (Or.inl rfl) | exact Or.inr (Or.inr rfl)) (by decide) (by decide)) (fun _ _ => rfl)) .int (fun _ _ => rfl))) (.cons .int .nil rfl) rfl) rfl) (by rfl) bt_max (by decide) (by decide) rfl rfl) nd rfl (by first | exact Or.inl rfl | exact Or.inr rfl) rfl (Or.inl rfl))
  (.one (.set (i := 2) (.bin (ok_add rfl) (.var (i := 2) rfl rfl (by first | exact Or.inl rfl | exact Or.inr (Or.inl rfl) | exact Or.inr (Or.inr rfl)) (by decide) (by decide)) (.bin ok_mul (.var (i := 4) rfl rfl (by first | exact Or.inl rfl | exact Or.inr (Or.inl rfl) | exact Or.inr (Or.inr rfl)) (by decide) (by decide)) (.var (i := 4) rfl rfl (by first | exact Or.inl rfl | exact Or.inr (Or.inl rfl) | exact Or.inr (Or.inr rfl)) (by decide) (by decide)))) nd rfl (by first | exact Or.inl rfl | exact Or.inr rfl) rfl (Or.inl rfl)))) (fun _ => rfl))
  (.one (.ret (.var (i := 2) rfl rfl (by first | exact Or.inl rfl | exact Or.inr (Or.inl rfl) | exact Or.inr (Or.inr rfl)) (by decide) (by decide))))))
set_option maxHeartbeats 4000000 in
theorem ok__law_linked {f : Addr} {fd : FuncData} (F : Fun K "_law_linked" "_law_linked" s__law_linked f fd) (T : ∀ c, ClsT K (cA c) ["boxes", "speed", "drift", "per", "moment"]) {f__law_gap : Addr} {fd__law_gap : FuncData} (o__law_gap : FnOk P w K mg base CX0 1 f__law_gap fd__law_gap ["box", "other"] (spF (gg K cA) 2 F__law_gap)) (b__law_gap : Binds K fd__law_gap ["box", "other"] []) (m__law_gap : mg "_law_gap" = some (.ref f__law_gap)) (k__law_gap : PySem.W.keepIn K (.ref f__law_gap) = true) (z_max : mg "max" = none) : FnOk P w K mg base CX0 2 f fd ["pace", "ticks", "box", "other"] (spF (gg K cA) 4 F__law_linked) := by
  refine Fn0 F sc__law_linked (fun hl h => fnP_ends (N := 6) hl h) fun cdv A outer s H E hr => ?_
  have nd := sc__law_linked.nd
  exact (.cons (.set (i := 4) (.bin ok_mul (.fld rfl (.of T (by simp)) (.var (i := 0) rfl rfl (by first | exact Or.inl rfl | exact Or.inr (Or.inl rfl) | exact Or.inr (Or.inr rfl)) (by decide) (by decide)) rfl) (.var (i := 1) rfl rfl (by first | exact Or.inl rfl | exact Or.inr (Or.inl rfl) | exact Or.inr (Or.inr rfl)) (by decide) (by decide))) nd rfl (by first | exact Or.inl rfl | exact Or.inr rfl) rfl (Or.inl rfl))
  (.cons (.if_ (.cmp ok_gt (.bin ok_mul (.bin ok_mul (.fld rfl (.of T (by simp)) (.var (i := 0) rfl rfl (by first | exact Or.inl rfl | exact Or.inr (Or.inl rfl) | exact Or.inr (Or.inr rfl)) (by decide) (by decide)) rfl) (.fld rfl (.of T (by simp)) (.var (i := 0) rfl rfl (by first | exact Or.inl rfl | exact Or.inr (Or.inl rfl) | exact Or.inr (Or.inr rfl)) (by decide) (by decide)) rfl)) (.call o__law_gap (hr.mono (by decide)) m__law_gap k__law_gap b__law_gap passE (.cons (.var (i := 2) rfl rfl (by first | exact Or.inl rfl | exact Or.inr (Or.inl rfl) | exact Or.inr (Or.inr rfl)) (by decide) (by decide)) (.cons (.var (i := 3) rfl rfl (by first | exact Or.inl rfl | exact Or.inr (Or.inl rfl) | exact Or.inr (Or.inr rfl)) (by decide) (by decide)) .nil rfl) rfl) (by rfl) (by decide) rfl rfl)) (.bin ok_mul (.var (i := 4) rfl rfl (by first | exact Or.inl rfl | exact Or.inr (Or.inl rfl) | exact Or.inr (Or.inr rfl)) (by decide) (by decide)) (.var (i := 4) rfl rfl (by first | exact Or.inl rfl | exact Or.inr (Or.inl rfl) | exact Or.inr (Or.inr rfl)) (by decide) (by decide))) rfl) (.one (.ret .bl)) .nil)
  (.cons (.set (i := 5) (.callB (cv_max rfl rfl) z_max (.cons (.bin ok_sub (.ix rfl (.ix rfl (.var (i := 3) rfl rfl (by first | exact Or.inl rfl | exact Or.inr (Or.inl rfl) | exact Or.inr (Or.inr rfl)) (by decide) (by decide)) (.neg .int) (fun _ _ => rfl)) .int (fun _ _ => rfl)) (.ix rfl (.ix rfl (.var (i := 2) rfl rfl (by first | exact Or.inl rfl | exact Or.inr (Or.inl rfl) | exact Or.inr (Or.inr rfl)) (by decide) (by decide)) (.neg .int) (fun _ _ => rfl)) .int (fun _ _ => rfl))) (.cons (.bin ok_sub (.ix rfl (.ix rfl (.var (i := 2) rfl rfl (by first | exact Or.inl rfl | exact Or.inr (Or.inl rfl) | exact Or.inr (Or.inr rfl)) (by decide) (by decide)) (.neg .int) (fun _ _ => rfl)) .int (fun _ _ => rfl)) (.ix rfl (.ix rfl (.var (i := 3) rfl rfl (by first | exact Or.inl rfl | exact Or.inr (Or.inl rfl) | exact Or.inr (Or.inr rfl)) (by decide) (by decide)) (.neg .int) (fun _ _ => rfl)) .int (fun _ _ => rfl))) (.cons .int .nil rfl) rfl) rfl) (by rfl) bt_max (by decide) (by decide) rfl rfl) nd rfl (by first | exact Or.inl rfl | exact Or.inr rfl) rfl (Or.inl rfl))
  (.one (.ret (.cmp ok_le (.bin ok_mul (.fld rfl (.of T (by simp)) (.var (i := 0) rfl rfl (by first | exact Or.inl rfl | exact Or.inr (Or.inl rfl) | exact Or.inr (Or.inr rfl)) (by decide) (by decide)) rfl) (.var (i := 5) rfl rfl (by first | exact Or.inl rfl | exact Or.inr (Or.inl rfl) | exact Or.inr (Or.inr rfl)) (by decide) (by decide))) (.bin ok_mul (.fld rfl (.of T (by simp)) (.var (i := 0) rfl rfl (by first | exact Or.inl rfl | exact Or.inr (Or.inl rfl) | exact Or.inr (Or.inr rfl)) (by decide) (by decide)) rfl) (.var (i := 1) rfl rfl (by first | exact Or.inl rfl | exact Or.inr (Or.inl rfl) | exact Or.inr (Or.inr rfl)) (by decide) (by decide))) rfl))))))
set_option maxHeartbeats 4000000 in
theorem ok__law_is_chain {f : Addr} {fd : FuncData} (F : Fun K "_law_is_chain" "_law_is_chain" s__law_is_chain f fd) (T : ∀ c, ClsT K (cA c) ["boxes", "speed", "drift", "per", "moment"]) {f__law_linked : Addr} {fd__law_linked : FuncData} (o__law_linked : FnOk P w K mg base CX0 2 f__law_linked fd__law_linked ["pace", "ticks", "box", "other"] (spF (gg K cA) 4 F__law_linked)) (b__law_linked : Binds K fd__law_linked ["pace", "ticks", "box", "other"] []) (m__law_linked : mg "_law_linked" = some (.ref f__law_linked)) (k__law_linked : PySem.W.keepIn K (.ref f__law_linked) = true) (z_len : mg "len" = none) (z_range : mg "range" = none) : FnOk P w K mg base CX0 3 f fd ["pace", "layers", "chain"] (spF (gg K cA) 3 F__law_is_chain) := by
  refine Fn0 F sc__law_is_chain (fun hl h => fnP_ends (N := 6) hl h) fun cdv A outer s H E hr => ?_
  have nd := sc__law_is_chain.nd
  exact (.cons (.if_ (.cmp (ok_ne rfl hr.units) (.callB (cv_len rfl) z_len (.cons (.var (i := 2) rfl rfl (by first | exact Or.inl rfl | exact Or.inr (Or.inl rfl) | exact Or.inr (Or.inr rfl)) (by decide) (by decide)) .nil rfl) (by rfl) bt_len (by decide) (by decide) rfl rfl) (.callB (cv_len rfl) z_len (.cons (.var (i := 1) rfl rfl (by first | exact Or.inl rfl | exact Or.inr (Or.inl rfl) | exact Or.inr (Or.inr rfl)) (by decide) (by decide)) .nil rfl) (by rfl) bt_len (by decide) (by decide) rfl rfl) rfl) (.one (.ret .bl)) .nil)
  (.cons (.for_ PassesOwn.never rfl (.range1 z_range (.cons (.callB (cv_len rfl) z_len (.cons (.var (i := 1) rfl rfl (by first | exact Or.inl rfl | exact Or.inr (Or.inl rfl) | exact Or.inr (Or.inr rfl)) (by decide) (by decide)) .nil rfl) (by rfl) bt_len (by decide) (by decide) rfl rfl) .nil rfl) (by rfl) (by rfl)) (.name nd rfl (by first | exact Or.inl rfl | exact Or.inr rfl) (by first | exact Or.inl rfl | exact Or.inr rfl)) (.cons (.if_ (WV.tv (.or_ (.cmp ok_lt (.ix rfl (.var (i := 2) rfl rfl (by first | exact Or.inl rfl | exact Or.inr (Or.inl rfl) | exact Or.inr (Or.inr rfl)) (by decide) (by decide)) (.var (i := 3) rfl rfl (by first | exact Or.inl rfl | exact Or.inr (Or.inl rfl) | exact Or.inr (Or.inr rfl)) (by decide) (by decide)) (fun _ _ => rfl)) .int rfl) (.or1 (.cmp ok_ge (.ix rfl (.var (i := 2) rfl rfl (by first | exact Or.inl rfl | exact Or.inr (Or.inl rfl) | exact Or.inr (Or.inr rfl)) (by decide) (by decide)) (.var (i := 3) rfl rfl (by first | exact Or.inl rfl | exact Or.inr (Or.inl rfl) | exact Or.inr (Or.inr rfl)) (by decide) (by decide)) (fun _ _ => rfl)) (.callB (cv_len rfl) z_len (.cons (.fld rfl (.of T (by simp)) (.ix rfl (.var (i := 1) rfl rfl (by first | exact Or.inl rfl | exact Or.inr (Or.inl rfl) | exact Or.inr (Or.inr rfl)) (by decide) (by decide)) (.var (i := 3) rfl rfl (by first | exact Or.inl rfl | exact Or.inr (Or.inl rfl) | exact Or.inr (Or.inr rfl)) (by decide) (by decide)) (fun _ _ => rfl)) rfl) .nil rfl) (by rfl) bt_len (by decide) (by decide) rfl rfl) rfl)))) (.one (.ret .bl)) .nil)
  (.one (.if_ (.cmp ok_gt (.var (i := 3) rfl rfl (by first | exact Or.inl rfl | exact Or.inr (Or.inl rfl) | exact Or.inr (Or.inr rfl)) (by decide) (by decide)) .int rfl) (.cons (.set (i := 4) (.bin ok_sub (.fld rfl (.of T (by simp)) (.ix rfl (.var (i := 1) rfl rfl (by first | exact Or.inl rfl | exact Or.inr (Or.inl rfl) | exact Or.inr (Or.inr rfl)) (by decide) (by decide)) (.var (i := 3) rfl rfl (by first | exact Or.inl rfl | exact Or.inr (Or.inl rfl) | exact Or.inr (Or.inr rfl)) (by decide) (by decide)) (fun _ _ => rfl)) rfl) (.fld rfl (.of T (by simp)) (.ix rfl (.var (i := 1) rfl rfl (by first | exact Or.inl rfl | exact Or.inr (Or.inl rfl) | exact Or.inr (Or.inr rfl)) (by decide) (by decide)) (.bin ok_sub (.var (i := 3) rfl rfl (by first | exact Or.inl rfl | exact Or.inr (Or.inl rfl) | exact Or.inr (Or.inr rfl)) (by decide) (by decide)) .int) (fun _ _ => rfl)) rfl)) nd rfl (by first | exact Or.inl rfl | exact Or.inr rfl) rfl (Or.inl rfl))
  (.cons (.set (i := 5) (.ix rfl (.fld rfl (.of T (by simp)) (.ix rfl (.var (i := 1) rfl rfl (by first | exact Or.inl rfl | exact Or.inr (Or.inl rfl) | exact Or.inr (Or.inr rfl)) (by decide) (by decide)) (.bin ok_sub (.var (i := 3) rfl rfl (by first | exact Or.inl rfl | exact Or.inr (Or.inl rfl) | exact Or.inr (Or.inr rfl)) (by decide) (by decide)) .int) (fun _ _ => rfl)) rfl) (.ix rfl (.var (i := 2) rfl rfl (by first | exact Or.inl rfl | exact Or.inr (Or.inl rfl) | exact Or.inr (Or.inr rfl)) (by decide) (by decide)) (.bin ok_sub (.var (i := 3) rfl rfl (by first | exact Or.inl rfl | exact Or.inr (Or.inl rfl) | exact Or.inr (Or.inr rfl)) (by decide) (by decide)) .int) (fun _ _ => rfl)) (fun _ _ => rfl)) nd rfl (by first | exact Or.inl rfl | exact Or.inr rfl) rfl (Or.inl rfl))
  (.one (.if_ (.not_ (.tru rfl (.call o__law_linked (hr.mono (by decide)) m__law_linked k__law_linked b__law_linked passE (.cons (.var (i := 0) rfl rfl (by first | exact Or.inl rfl | exact Or.inr (Or.inl rfl) | exact Or.inr (Or.inr rfl)) (by decide) (by decide)) (.cons (.var (i := 4) rfl rfl (by first | exact Or.inl rfl | exact Or.inr (Or.inl rfl) | exact Or.inr (Or.inr rfl)) (by decide) (by decide)) (.cons (.var (i := 5) rfl rfl (by first | exact Or.inl rfl | exact Or.inr (Or.inl rfl) | exact Or.inr (Or.inr rfl)) (by decide) (by decide)) (.cons (.ix rfl (.fld rfl (.of T (by simp)) (.ix rfl (.var (i := 1) rfl rfl (by first | exact Or.inl rfl | exact Or.inr (Or.inl rfl) | exact Or.inr (Or.inr rfl)) (by decide) (by decide)) (.var (i := 3) rfl rfl (by first | exact Or.inl rfl | exact Or.inr (Or.inl rfl) | exact Or.inr (Or.inr rfl)) (by decide) (by decide)) (fun _ _ => rfl)) rfl) (.ix rfl (.var (i := 2) rfl rfl (by first | exact Or.inl rfl | exact Or.inr (Or.inl rfl) | exact Or.inr (Or.inr rfl)) (by decide) (by decide)) (.var (i := 3) rfl rfl (by first | exact Or.inl rfl | exact Or.inr (Or.inl rfl) | exact Or.inr (Or.inr rfl)) (by decide) (by decide)) (fun _ _ => rfl)) (fun _ _ => rfl)) .nil rfl) rfl) rfl) rfl) (by rfl) (by decide) rfl rfl) (fun _ => rfl))) (.one (.ret .bl)) .nil)))) .nil))) (fun _ => rfl))
  (.one (.ret .bl))))
set_option maxHeartbeats 4000000 in
theorem ok__law_chains {f : Addr} {fd : FuncData} (F : Fun K "_law_chains" "_law_chains" s__law_chains f fd) (T : ∀ c, ClsT K (cA c) ["boxes", "speed", "drift", "per", "moment"]) {f__law_is_chain : Addr} {fd__law_is_chain : FuncData} (o__law_is_chain : FnOk P w K mg base CX0 3 f__law_is_chain fd__law_is_chain ["pace", "layers", "chain"] (spF (gg K cA) 3 F__law_is_chain)) (b__law_is_chain : Binds K fd__law_is_chain ["pace", "layers", "chain"] []) (m__law_is_chain : mg "_law_is_chain" = some (.ref f__law_is_chain)) (k__law_is_chain : PySem.W.keepIn K (.ref f__law_is_chain) = true) (z_len : mg "len" = none) (z_list : mg "list" = none) (z_range : mg "range" = none) : FnOk P w K mg base CX0 4 f fd ["pace", "layers"] (spF (gg K cA) 2 F__law_chains) := by
  refine Fn0 F sc__law_chains (fun hl h => fnP_ends (N := 7) hl h) fun cdv A outer s H E hr => ?_
  have nd := sc__law_chains.nd
  exact (.cons (.set (i := 2) (.lst false (.cons (.tup .nil) .nil rfl)) nd rfl (by first | exact Or.inl rfl | exact Or.inr rfl) rfl (Or.inl rfl))
  (.cons (.for_ PassesOwn.never rfl (.range1 z_range (.cons (.callB (cv_len rfl) z_len (.cons (.var (i := 1) rfl rfl (by first | exact Or.inl rfl | exact Or.inr (Or.inl rfl) | exact Or.inr (Or.inr rfl)) (by decide) (by decide)) .nil rfl) (by rfl) bt_len (by decide) (by decide) rfl rfl) .nil rfl) (by rfl) (by rfl)) (.name nd rfl (by first | exact Or.inl rfl | exact Or.inr rfl) (by first | exact Or.inl rfl | exact Or.inr rfl)) (.cons (.set (i := 4) (.lst true .nil) nd rfl (by first | exact Or.inl rfl | exact Or.inr rfl) rfl (Or.inl rfl))
  (.cons (.for_ PassesOwn.never rfl (.any rfl (.var (i := 2) rfl rfl (by first | exact Or.inl rfl | exact Or.inr (Or.inl rfl) | exact Or.inr (Or.inr rfl)) (by decide) (by decide))) (.name nd rfl (by first | exact Or.inl rfl | exact Or.inr rfl) (by first | exact Or.inl rfl | exact Or.inr rfl)) (.one (.for_ PassesOwn.never rfl (.range1 z_range (.cons (.callB (cv_len rfl) z_len (.cons (.fld rfl (.of T (by simp)) (.ix rfl (.var (i := 1) rfl rfl (by first | exact Or.inl rfl | exact Or.inr (Or.inl rfl) | exact Or.inr (Or.inr rfl)) (by decide) (by decide)) (.var (i := 3) rfl rfl (by first | exact Or.inl rfl | exact Or.inr (Or.inl rfl) | exact Or.inr (Or.inr rfl)) (by decide) (by decide)) (fun _ _ => rfl)) rfl) .nil rfl) (by rfl) bt_len (by decide) (by decide) rfl rfl) .nil rfl) (by rfl) (by rfl)) (.name nd rfl (by first | exact Or.inl rfl | exact Or.inr rfl) (by first | exact Or.inl rfl | exact Or.inr rfl)) (.one (.if_ (.tru rfl (.call o__law_is_chain (hr.mono (by decide)) m__law_is_chain k__law_is_chain b__law_is_chain passE (.cons (.var (i := 0) rfl rfl (by first | exact Or.inl rfl | exact Or.inr (Or.inl rfl) | exact Or.inr (Or.inr rfl)) (by decide) (by decide)) (.cons (.sl rfl (.var (i := 1) rfl rfl (by first | exact Or.inl rfl | exact Or.inr (Or.inl rfl) | exact Or.inr (Or.inr rfl)) (by decide) (by decide)) .no (.yes (.bin (ok_add rfl) (.var (i := 3) rfl rfl (by first | exact Or.inl rfl | exact Or.inr (Or.inl rfl) | exact Or.inr (Or.inr rfl)) (by decide) (by decide)) .int))) (.cons (.bin (ok_add rfl) (.var (i := 5) rfl rfl (by first | exact Or.inl rfl | exact Or.inr (Or.inl rfl) | exact Or.inr (Or.inr rfl)) (by decide) (by decide)) (.tup (.cons (.var (i := 6) rfl rfl (by first | exact Or.inl rfl | exact Or.inr (Or.inl rfl) | exact Or.inr (Or.inr rfl)) (by decide) (by decide)) .nil rfl))) .nil rfl) rfl) rfl) (by rfl) (by decide) rfl rfl) (fun _ => rfl)) (.one (.exp (.bm rfl PySem.F.plainAttrs_list PySem.F.slot_list_append PySem.F.type_list_append bm_append (.var (i := 4) rfl rfl (by first | exact Or.inl rfl | exact Or.inr (Or.inl rfl) | exact Or.inr (Or.inr rfl)) (by decide) (by decide)) (.cons (.bin (ok_add rfl) (.var (i := 5) rfl rfl (by first | exact Or.inl rfl | exact Or.inr (Or.inl rfl) | exact Or.inr (Or.inr rfl)) (by decide) (by decide)) (.tup (.cons (.var (i := 6) rfl rfl (by first | exact Or.inl rfl | exact Or.inr (Or.inl rfl) | exact Or.inr (Or.inr rfl)) (by decide) (by decide)) .nil rfl))) .nil rfl) rfl rfl rfl rfl rfl) rfl)) .nil)) (fun _ => rfl))) (fun _ => rfl))
  (.one (.set (i := 2) (.callT (cv_list false rfl) z_list (.cons (.var (i := 4) rfl rfl (by first | exact Or.inl rfl | exact Or.inr (Or.inl rfl) | exact Or.inr (Or.inr rfl)) (by decide) (by decide)) .nil rfl) (by rfl) bt_list (by decide) (by decide) rfl rfl) nd rfl (by first | exact Or.inl rfl | exact Or.inr rfl) rfl (Or.inl rfl))))) (fun _ => rfl))
  (.one (.ret (.var (i := 2) rfl rfl (by first | exact Or.inl rfl | exact Or.inr (Or.inl rfl) | exact Or.inr (Or.inr rfl)) (by decide) (by decide))))))
set_option maxHeartbeats 4000000 in
theorem ok_places_ending {f : Addr} {fd : FuncData} (F : Fun K "places_ending" "places_ending" s_places_ending f fd) (T : ∀ c, ClsT K (cA c) ["boxes", "speed", "drift", "per", "moment"]) (z_len : mg "len" = none) (z_range : mg "range" = none) (z_set : mg "set" = none) (z_sorted : mg "sorted" = none) (z_tuple : mg "tuple" = none) : FnOk P w K mg base CX0 1 f fd ["layers", "links"] (spF (gg K cA) 2 F_places_ending) := by
  refine Fn0 F sc_places_ending (fun hl h => fnP_ends (N := 8) hl h) fun cdv A outer s H E hr => ?_
  have nd := sc_places_ending.nd
  exact (.cons (.setLc (i := 2) true rfl nd (LCV.mk' (own := [("layer", 5)]) (is := [5]) (by kernel_rfl) (.any rfl (.sl rfl (.var (i := 0) rfl rfl (by first | exact Or.inl rfl | exact Or.inr (Or.inl rfl) | exact Or.inr (Or.inr rfl)) (by decide) (by decide)) .no (.yes .int))) (fun _ _ _ _ _ => (.name nd rfl (by first | exact Or.inl rfl | exact Or.inr rfl) (by first | exact Or.inl rfl | exact Or.inr rfl))) (fun _ _ _ _ _ => .nil) (fun _ _ _ _ _ => (.tupR rfl z_tuple z_range (.callB (cv_len rfl) z_len (.cons (.fld rfl (.of T (by simp)) (.var (i := 5) rfl rfl (by first | exact Or.inl rfl | exact Or.inr (Or.inl rfl) | exact Or.inr (Or.inr rfl)) (by decide) (by decide)) rfl) .nil rfl) (by rfl) bt_len (by decide) (by decide) rfl rfl) (by rfl) (by rfl) rfl rfl)) (by decide)) rfl rfl (sw_true rfl rfl rfl rfl) (fun _ => rfl))
  (.cons (.for_ PassesOwn.never rfl (.any rfl (.var (i := 1) rfl rfl (by first | exact Or.inl rfl | exact Or.inr (Or.inl rfl) | exact Or.inr (Or.inr rfl)) (by decide) (by decide))) (.name nd rfl (by first | exact Or.inl rfl | exact Or.inr rfl) (by first | exact Or.inl rfl | exact Or.inr rfl)) (.cons (.setLc2 (i := 4) false rfl nd (LCV2.mk' (own := [("before", 6), ("place", 7)]) (vs1 := [7]) (is := [6]) (is1 := [7]) (by kernel_rfl) (by decide) (.any rfl (.ix rfl (.var (i := 2) rfl rfl (by first | exact Or.inl rfl | exact Or.inr (Or.inl rfl) | exact Or.inr (Or.inr rfl)) (by decide) (by decide)) (.neg .int) (fun _ _ => rfl))) (fun _ _ _ _ _ => (.name nd rfl (by first | exact Or.inl rfl | exact Or.inr rfl) (by first | exact Or.inl rfl | exact Or.inr rfl))) (fun _ _ _ _ _ => .nil) (fun _ _ _ _ _ => (.any rfl (.ix rfl (.var (i := 3) rfl rfl (by first | exact Or.inl rfl | exact Or.inr (Or.inl rfl) | exact Or.inr (Or.inr rfl)) (by decide) (by decide)) (.var (i := 6) rfl rfl (by first | exact Or.inl rfl | exact Or.inr (Or.inl rfl) | exact Or.inr (Or.inr rfl)) (by decide) (by decide)) (fun _ _ => rfl)))) (fun _ _ _ _ _ => (.name nd rfl (by first | exact Or.inl rfl | exact Or.inr rfl) (by first | exact Or.inl rfl | exact Or.inr rfl))) (fun _ _ _ _ _ => .nil) (fun _ _ _ _ _ => (.var (i := 7) rfl rfl (by first | exact Or.inl rfl | exact Or.inr (Or.inl rfl) | exact Or.inr (Or.inr rfl)) (by decide) (by decide))) (by decide) (by decide)) rfl rfl (sw_true rfl rfl rfl rfl) (fun _ => rfl) (fun _ _ => rfl))
  (.one (.exp (.bm rfl PySem.F.plainAttrs_list PySem.F.slot_list_append PySem.F.type_list_append bm_append (.var (i := 2) rfl rfl (by first | exact Or.inl rfl | exact Or.inr (Or.inl rfl) | exact Or.inr (Or.inr rfl)) (by decide) (by decide)) (.cons (.callT (cv_tuple rfl) z_tuple (.cons (.sortSet rfl rfl z_sorted z_set (.var (i := 4) rfl rfl (by first | exact Or.inl rfl | exact Or.inr (Or.inl rfl) | exact Or.inr (Or.inr rfl)) (by decide) (by decide)) (by rfl) (by rfl) rfl rfl rfl rfl) .nil rfl) (by rfl) bt_tuple (by decide) (by decide) rfl rfl) .nil rfl) rfl rfl rfl rfl rfl) rfl))) (fun _ => rfl))
  (.one (.ret (.var (i := 2) rfl rfl (by first | exact Or.inl rfl | exact Or.inr (Or.inl rfl) | exact Or.inr (Or.inr rfl)) (by decide) (by decide))))))
set_option maxHeartbeats 4000000 in
theorem ok__leading_to {f : Addr} {fd : FuncData} (F : Fun K "_leading_to" "_leading_to" s__leading_to f fd) (z_any : mg "any" = none) (z_set : mg "set" = none) (z_tuple : mg "tuple" = none) : FnOk P w K mg base CX0 1 f fd ["table", "places", "following"] (spF (gg K cA) 3 F__leading_to) := by
  refine Fn0 F sc__leading_to (fun hl h => fnP_ends (N := 6) hl h) fun cdv A outer s H E hr => ?_
  have nd := sc__leading_to.nd
  exact (.cons (.set (i := 3) (.callT (cv_set rfl rfl) z_set (.cons (.var (i := 2) rfl rfl (by first | exact Or.inl rfl | exact Or.inr (Or.inl rfl) | exact Or.inr (Or.inr rfl)) (by decide) (by decide)) .nil rfl) (by rfl) bt_set (by decide) (by decide) rfl rfl) nd rfl (by first | exact Or.inl rfl | exact Or.inr rfl) rfl (Or.inl rfl))
  (.one (.ret (.callT (cv_tuple rfl) z_tuple (.cons (.lc false rfl nd (LCV.mk' (own := [("place", 4)]) (is := [4]) (by kernel_rfl) (.any rfl (.var (i := 1) rfl rfl (by first | exact Or.inl rfl | exact Or.inr (Or.inl rfl) | exact Or.inr (Or.inr rfl)) (by decide) (by decide))) (fun _ _ _ _ _ => (.name nd rfl (by first | exact Or.inl rfl | exact Or.inr rfl) (by first | exact Or.inl rfl | exact Or.inr rfl))) (fun _ _ _ _ _ => (.one (.tru rfl (.callB (cv_any rfl rfl) z_any (.cons (.lc false rfl nd (LCV.mk' (own := [("other", 5)]) (is := [5]) (by kernel_rfl) (.any rfl (.ix rfl (.var (i := 0) rfl rfl (by first | exact Or.inl rfl | exact Or.inr (Or.inl rfl) | exact Or.inr (Or.inr rfl)) (by decide) (by decide)) (.var (i := 4) rfl rfl (by first | exact Or.inl rfl | exact Or.inr (Or.inl rfl) | exact Or.inr (Or.inr rfl)) (by decide) (by decide)) (fun _ _ => rfl))) (fun _ _ _ _ _ => (.name nd rfl (by first | exact Or.inl rfl | exact Or.inr rfl) (by first | exact Or.inl rfl | exact Or.inr rfl))) (fun _ _ _ _ _ => .nil) (fun _ _ _ _ _ => (.cmp ok_sin (.var (i := 5) rfl rfl (by first | exact Or.inl rfl | exact Or.inr (Or.inl rfl) | exact Or.inr (Or.inr rfl)) (by decide) (by decide)) (.var (i := 3) rfl rfl (by first | exact Or.inl rfl | exact Or.inr (Or.inl rfl) | exact Or.inr (Or.inr rfl)) (by decide) (by decide)) rfl)) (by decide)) (fun _ => rfl)) .nil rfl) (by rfl) bt_any (by decide) (by decide) rfl rfl) (fun _ => rfl)))) (fun _ _ _ _ _ => (.var (i := 4) rfl rfl (by first | exact Or.inl rfl | exact Or.inr (Or.inl rfl) | exact Or.inr (Or.inr rfl)) (by decide) (by decide))) (by decide)) (fun _ => rfl)) .nil rfl) (by rfl) bt_tuple (by decide) (by decide) rfl rfl))))
set_option maxHeartbeats 4000000 in
theorem ok_places_alive {f : Addr} {fd : FuncData} (F : Fun K "places_alive" "places_alive" s_places_alive f fd) {f_places_ending : Addr} {fd_places_ending : FuncData} (o_places_ending : FnOk P w K mg base CX0 1 f_places_ending fd_places_ending ["layers", "links"] (spF (gg K cA) 2 F_places_ending)) (b_places_ending : Binds K fd_places_ending ["layers", "links"] []) (m_places_ending : mg "places_ending" = some (.ref f_places_ending)) (k_places_ending : PySem.W.keepIn K (.ref f_places_ending) = true) {f__leading_to : Addr} {fd__leading_to : FuncData} (o__leading_to : FnOk P w K mg base CX0 1 f__leading_to fd__leading_to ["table", "places", "following"] (spF (gg K cA) 3 F__leading_to)) (b__leading_to : Binds K fd__leading_to ["table", "places", "following"] []) (m__leading_to : mg "_leading_to" = some (.ref f__leading_to)) (k__leading_to : PySem.W.keepIn K (.ref f__leading_to) = true) (z_zip : mg "zip" = none) : FnOk P w K mg base CX0 2 f fd ["layers", "links"] (spF (gg K cA) 2 F_places_alive) := by
  refine Fn0 F sc_places_alive (fun hl h => fnP_ends (N := 6) hl h) fun cdv A outer s H E hr => ?_
  have nd := sc_places_alive.nd
  exact (.cons (.set (i := 2) (.call o_places_ending (hr.mono (by decide)) m_places_ending k_places_ending b_places_ending passE (.cons (.var (i := 0) rfl rfl (by first | exact Or.inl rfl | exact Or.inr (Or.inl rfl) | exact Or.inr (Or.inr rfl)) (by decide) (by decide)) (.cons (.var (i := 1) rfl rfl (by first | exact Or.inl rfl | exact Or.inr (Or.inl rfl) | exact Or.inr (Or.inr rfl)) (by decide) (by decide)) .nil rfl) rfl) (by rfl) (by decide) rfl rfl) nd rfl (by first | exact Or.inl rfl | exact Or.inr rfl) rfl (Or.inl rfl))
  (.cons (.set (i := 3) (.slL rfl (.var (i := 2) rfl rfl (by first | exact Or.inl rfl | exact Or.inr (Or.inl rfl) | exact Or.inr (Or.inr rfl)) (by decide) (by decide)) (.yes (.neg .int)) .no) nd rfl (by first | exact Or.inl rfl | exact Or.inr rfl) rfl (Or.inl rfl))
  (.cons (.for_ PassesOwn.never rfl (.zip rfl z_zip (.cons (.revS rfl (.var (i := 1) rfl rfl (by first | exact Or.inl rfl | exact Or.inr (Or.inl rfl) | exact Or.inr (Or.inr rfl)) (by decide) (by decide))) (.cons (.revS rfl (.sl rfl (.var (i := 2) rfl rfl (by first | exact Or.inl rfl | exact Or.inr (Or.inl rfl) | exact Or.inr (Or.inr rfl)) (by decide) (by decide)) .no (.yes (.neg .int)))) .nil rfl) rfl) (by rfl) (by rfl) (by rfl)) (.tup (n := 2) rfl rfl (.cons (ks := [4, 5]) (.name nd rfl (by first | exact Or.inl rfl | exact Or.inr rfl) (by first | exact Or.inl rfl | exact Or.inr rfl)) (.cons (ks := [4, 5]) (.name nd rfl (by first | exact Or.inl rfl | exact Or.inr rfl) (by first | exact Or.inl rfl | exact Or.inr rfl)) (.nil (is := [4, 5])) (by decide) (by decide) rfl) (by decide) (by decide) rfl) rfl rfl) (.one (.exp (.bm rfl PySem.F.plainAttrs_list PySem.F.slot_list_append PySem.F.type_list_append bm_append (.var (i := 3) rfl rfl (by first | exact Or.inl rfl | exact Or.inr (Or.inl rfl) | exact Or.inr (Or.inr rfl)) (by decide) (by decide)) (.cons (.call o__leading_to (hr.mono (by decide)) m__leading_to k__leading_to b__leading_to passE (.cons (.var (i := 4) rfl rfl (by first | exact Or.inl rfl | exact Or.inr (Or.inl rfl) | exact Or.inr (Or.inr rfl)) (by decide) (by decide)) (.cons (.var (i := 5) rfl rfl (by first | exact Or.inl rfl | exact Or.inr (Or.inl rfl) | exact Or.inr (Or.inr rfl)) (by decide) (by decide)) (.cons (.ix rfl (.var (i := 3) rfl rfl (by first | exact Or.inl rfl | exact Or.inr (Or.inl rfl) | exact Or.inr (Or.inr rfl)) (by decide) (by decide)) (.neg .int) (fun _ _ => rfl)) .nil rfl) rfl) rfl) (by rfl) (by decide) rfl rfl) .nil rfl) rfl rfl rfl rfl rfl) rfl)) (fun _ => rfl))
  (.one (.ret (.revS rfl (.var (i := 3) rfl rfl (by first | exact Or.inl rfl | exact Or.inr (Or.inl rfl) | exact Or.inr (Or.inr rfl)) (by decide) (by decide))))))))
set_option maxHeartbeats 4000000 in
theorem ok__ticks {f : Addr} {fd : FuncData} (F : Fun K "_ticks" "_ticks" s__ticks f fd) (T : ∀ c, ClsT K (cA c) ["boxes", "speed", "drift", "per", "moment"]) (z_abs : mg "abs" = none) : FnOk P w K mg base CX0 1 f fd ["layer", "other"] (spF (gg K cA) 2 F__ticks) := by
  refine Fn0 F sc__ticks (fun hl h => fnP_ends (N := 2) hl h) fun cdv A outer s H E hr => ?_
  have nd := sc__ticks.nd
  exact (.one (.ret (.callB cv_abs z_abs (.cons (.bin ok_sub (.fld rfl (.of T (by simp)) (.var (i := 1) rfl rfl (by first | exact Or.inl rfl | exact Or.inr (Or.inl rfl) | exact Or.inr (Or.inr rfl)) (by decide) (by decide)) rfl) (.fld rfl (.of T (by simp)) (.var (i := 0) rfl rfl (by first | exact Or.inl rfl | exact Or.inr (Or.inl rfl) | exact Or.inr (Or.inr rfl)) (by decide) (by decide)) rfl)) .nil rfl) (by rfl) bt_abs (by decide) (by decide) rfl rfl)))
set_option maxHeartbeats 4000000 in
theorem ok_gap {f : Addr} {fd : FuncData} (F : Fun K "gap" "gap" s_gap f fd) (z_max : mg "max" = none) : FnOk P w K mg base CX0 1 f fd ["side", "other"] (spF (gg K cA) 2 F_gap) := by
  refine Fn0 F sc_gap (fun hl h => fnP_ends (N := 2) hl h) fun cdv A outer s H E hr => ?_
  have nd := sc_gap.nd
  exact (.one (.ret (.callB (cv_max rfl rfl) z_max (.cons .int (.cons (.bin ok_sub (.ix rfl (.var (i := 1) rfl rfl (by first | exact Or.inl rfl | exact Or.inr (Or.inl rfl) | exact Or.inr (Or.inr rfl)) (by decide) (by decide)) .int (fun _ _ => rfl)) (.ix rfl (.var (i := 0) rfl rfl (by first | exact Or.inl rfl | exact Or.inr (Or.inl rfl) | exact Or.inr (Or.inr rfl)) (by decide) (by decide)) .int (fun _ _ => rfl))) (.cons (.bin ok_sub (.ix rfl (.var (i := 0) rfl rfl (by first | exact Or.inl rfl | exact Or.inr (Or.inl rfl) | exact Or.inr (Or.inr rfl)) (by decide) (by decide)) .int (fun _ _ => rfl)) (.ix rfl (.var (i := 1) rfl rfl (by first | exact Or.inl rfl | exact Or.inr (Or.inl rfl) | exact Or.inr (Or.inr rfl)) (by decide) (by decide)) .int (fun _ _ => rfl))) .nil rfl) rfl) rfl) (by rfl) bt_max (by decide) (by decide) rfl rfl)))
set_option maxHeartbeats 4000000 in
theorem ok_between {f : Addr} {fd : FuncData} (F : Fun K "between" "between" s_between f fd) {f_gap : Addr} {fd_gap : FuncData} (o_gap : FnOk P w K mg base CX0 1 f_gap fd_gap ["side", "other"] (spF (gg K cA) 2 F_gap)) (b_gap : Binds K fd_gap ["side", "other"] []) (m_gap : mg "gap" = some (.ref f_gap)) (k_gap : PySem.W.keepIn K (.ref f_gap) = true) (z_sum : mg "sum" = none) (z_zip : mg "zip" = none) : FnOk P w K mg base CX0 2 f fd ["box", "other"] (spF (gg K cA) 2 F_between) := by
  refine Fn0 F sc_between (fun hl h => fnP_ends (N := 4) hl h) fun cdv A outer s H E hr => ?_
  have nd := sc_between.nd
  exact (.one (.ret (.callB (cv_sum rfl rfl) z_sum (.cons (.lc false rfl nd (LCV.mk' (own := [("side", 2), ("there", 3)]) (is := [2, 3]) (by kernel_rfl) (.zip rfl z_zip (.cons (.var (i := 0) rfl rfl (by first | exact Or.inl rfl | exact Or.inr (Or.inl rfl) | exact Or.inr (Or.inr rfl)) (by decide) (by decide)) (.cons (.var (i := 1) rfl rfl (by first | exact Or.inl rfl | exact Or.inr (Or.inl rfl) | exact Or.inr (Or.inr rfl)) (by decide) (by decide)) .nil rfl) rfl) (by rfl) (by rfl) (by rfl)) (fun _ _ _ _ _ => (.tup (n := 2) rfl rfl (.cons (ks := [2, 3]) (.name nd rfl (by first | exact Or.inl rfl | exact Or.inr rfl) (by first | exact Or.inl rfl | exact Or.inr rfl)) (.cons (ks := [2, 3]) (.name nd rfl (by first | exact Or.inl rfl | exact Or.inr rfl) (by first | exact Or.inl rfl | exact Or.inr rfl)) (.nil (is := [2, 3])) (by decide) (by decide) rfl) (by decide) (by decide) rfl) rfl rfl)) (fun _ _ _ _ _ => .nil) (fun _ _ _ _ _ => (.bin ok_pow (.call o_gap (hr.mono (by decide)) m_gap k_gap b_gap passE (.cons (.var (i := 2) rfl rfl (by first | exact Or.inl rfl | exact Or.inr (Or.inl rfl) | exact Or.inr (Or.inr rfl)) (by decide) (by decide)) (.cons (.var (i := 3) rfl rfl (by first | exact Or.inl rfl | exact Or.inr (Or.inl rfl) | exact Or.inr (Or.inr rfl)) (by decide) (by decide)) .nil rfl) rfl) (by rfl) (by decide) rfl rfl) .int)) (by decide)) (fun _ => rfl)) .nil rfl) (by rfl) bt_sum (by decide) (by decide) rfl rfl)))
set_option maxHeartbeats 4000000 in
theorem ok_clocks_farther {f : Addr} {fd : FuncData} (F : Fun K "clocks_farther" "clocks_farther" s_clocks_farther f fd) (T : ∀ c, ClsT K (cA c) ["boxes", "speed", "drift", "per", "moment"]) {f_gap : Addr} {fd_gap : FuncData} (o_gap : FnOk P w K mg base CX0 1 f_gap fd_gap ["side", "other"] (spF (gg K cA) 2 F_gap)) (b_gap : Binds K fd_gap ["side", "other"] []) (m_gap : mg "gap" = some (.ref f_gap)) (k_gap : PySem.W.keepIn K (.ref f_gap) = true) : FnOk P w K mg base CX0 2 f fd ["setting", "ticks", "box", "other"] (spF (gg K cA) 4 F_clocks_farther) := by
  refine Fn0 F sc_clocks_farther (fun hl h => fnP_ends (N := 4) hl h) fun cdv A outer s H E hr => ?_
  have nd := sc_clocks_farther.nd
  exact (.one (.ret (.cmp ok_gt (.bin ok_mul (.fld rfl (.of T (by simp)) (.var (i := 0) rfl rfl (by first | exact Or.inl rfl | exact Or.inr (Or.inl rfl) | exact Or.inr (Or.inr rfl)) (by decide) (by decide)) rfl) (.call o_gap (hr.mono (by decide)) m_gap k_gap b_gap passE (.cons (.ix rfl (.var (i := 2) rfl rfl (by first | exact Or.inl rfl | exact Or.inr (Or.inl rfl) | exact Or.inr (Or.inr rfl)) (by decide) (by decide)) (.neg .int) (fun _ _ => rfl)) (.cons (.ix rfl (.var (i := 3) rfl rfl (by first | exact Or.inl rfl | exact Or.inr (Or.inl rfl) | exact Or.inr (Or.inr rfl)) (by decide) (by decide)) (.neg .int) (fun _ _ => rfl)) .nil rfl) rfl) (by rfl) (by decide) rfl rfl)) (.bin ok_mul (.fld rfl (.of T (by simp)) (.var (i := 0) rfl rfl (by first | exact Or.inl rfl | exact Or.inr (Or.inl rfl) | exact Or.inr (Or.inr rfl)) (by decide) (by decide)) rfl) (.var (i := 1) rfl rfl (by first | exact Or.inl rfl | exact Or.inr (Or.inl rfl) | exact Or.inr (Or.inr rfl)) (by decide) (by decide))) rfl)))
set_option maxHeartbeats 4000000 in
theorem ok_farther {f : Addr} {fd : FuncData} (F : Fun K "farther" "farther" s_farther f fd) (T : ∀ c, ClsT K (cA c) ["boxes", "speed", "drift", "per", "moment"]) {f_between : Addr} {fd_between : FuncData} (o_between : FnOk P w K mg base CX0 2 f_between fd_between ["box", "other"] (spF (gg K cA) 2 F_between)) (b_between : Binds K fd_between ["box", "other"] []) (m_between : mg "between" = some (.ref f_between)) (k_between : PySem.W.keepIn K (.ref f_between) = true) {f_clocks_farther : Addr} {fd_clocks_farther : FuncData} (o_clocks_farther : FnOk P w K mg base CX0 2 f_clocks_farther fd_clocks_farther ["setting", "ticks", "box", "other"] (spF (gg K cA) 4 F_clocks_farther)) (b_clocks_farther : Binds K fd_clocks_farther ["setting", "ticks", "box", "other"] []) (m_clocks_farther : mg "clocks_farther" = some (.ref f_clocks_farther)) (k_clocks_farther : PySem.W.keepIn K (.ref f_clocks_farther) = true) : FnOk P w K mg base CX0 3 f fd ["setting", "ticks", "box", "other"] (spF (gg K cA) 4 F_farther) := by
  refine Fn0 F sc_farther (fun hl h => fnP_ends (N := 5) hl h) fun cdv A outer s H E hr => ?_
  have nd := sc_farther.nd
  exact (.cons (.set (i := 4) (.bin ok_mul (.bin ok_pow (.fld rfl (.of T (by simp)) (.var (i := 0) rfl rfl (by first | exact Or.inl rfl | exact Or.inr (Or.inl rfl) | exact Or.inr (Or.inr rfl)) (by decide) (by decide)) rfl) .int) (.call o_between (hr.mono (by decide)) m_between k_between b_between passE (.cons (.sl rfl (.var (i := 2) rfl rfl (by first | exact Or.inl rfl | exact Or.inr (Or.inl rfl) | exact Or.inr (Or.inr rfl)) (by decide) (by decide)) .no (.yes (.neg .int))) (.cons (.sl rfl (.var (i := 3) rfl rfl (by first | exact Or.inl rfl | exact Or.inr (Or.inl rfl) | exact Or.inr (Or.inr rfl)) (by decide) (by decide)) .no (.yes (.neg .int))) .nil rfl) rfl) (by rfl) (by decide) rfl rfl)) nd rfl (by first | exact Or.inl rfl | exact Or.inr rfl) rfl (Or.inl rfl))
  (.one (.ret (.or_ (.cmp ok_gt (.var (i := 4) rfl rfl (by first | exact Or.inl rfl | exact Or.inr (Or.inl rfl) | exact Or.inr (Or.inr rfl)) (by decide) (by decide)) (.bin ok_pow (.bin ok_mul (.fld rfl (.of T (by simp)) (.var (i := 0) rfl rfl (by first | exact Or.inl rfl | exact Or.inr (Or.inl rfl) | exact Or.inr (Or.inr rfl)) (by decide) (by decide)) rfl) (.var (i := 1) rfl rfl (by first | exact Or.inl rfl | exact Or.inr (Or.inl rfl) | exact Or.inr (Or.inr rfl)) (by decide) (by decide))) .int) rfl) (.one (.call o_clocks_farther (hr.mono (by decide)) m_clocks_farther k_clocks_farther b_clocks_farther passE (.cons (.var (i := 0) rfl rfl (by first | exact Or.inl rfl | exact Or.inr (Or.inl rfl) | exact Or.inr (Or.inr rfl)) (by decide) (by decide)) (.cons (.var (i := 1) rfl rfl (by first | exact Or.inl rfl | exact Or.inr (Or.inl rfl) | exact Or.inr (Or.inr rfl)) (by decide) (by decide)) (.cons (.var (i := 2) rfl rfl (by first | exact Or.inl rfl | exact Or.inr (Or.inl rfl) | exact Or.inr (Or.inr rfl)) (by decide) (by decide)) (.cons (.var (i := 3) rfl rfl (by first | exact Or.inl rfl | exact Or.inr (Or.inl rfl) | exact Or.inr (Or.inr rfl)) (by decide) (by decide)) .nil rfl) rfl) rfl) rfl) (by rfl) (by decide) rfl rfl))))))
set_option maxHeartbeats 4000000 in
theorem ok__linked_with {f : Addr} {fd : FuncData} (F : Fun K "_linked_with" "_linked_with" s__linked_with f fd) (T : ∀ c, ClsT K (cA c) ["boxes", "speed", "drift", "per", "moment"]) {f__ticks : Addr} {fd__ticks : FuncData} (o__ticks : FnOk P w K mg base CX0 1 f__ticks fd__ticks ["layer", "other"] (spF (gg K cA) 2 F__ticks)) (b__ticks : Binds K fd__ticks ["layer", "other"] []) (m__ticks : mg "_ticks" = some (.ref f__ticks)) (k__ticks : PySem.W.keepIn K (.ref f__ticks) = true) {f_farther : Addr} {fd_farther : FuncData} (o_farther : FnOk P w K mg base CX0 3 f_farther fd_farther ["setting", "ticks", "box", "other"] (spF (gg K cA) 4 F_farther)) (b_farther : Binds K fd_farther ["setting", "ticks", "box", "other"] []) (m_farther : mg "farther" = some (.ref f_farther)) (k_farther : PySem.W.keepIn K (.ref f_farther) = true) (z_enumerate : mg "enumerate" = none) (z_tuple : mg "tuple" = none) : FnOk P w K mg base CX0 4 f fd ["pace", "layer", "place", "other"] (spF (gg K cA) 4 F__linked_with) := by
  refine Fn0 F sc__linked_with (fun hl h => fnP_ends (N := 8) hl h) fun cdv A outer s H E hr => ?_
  have nd := sc__linked_with.nd
  exact (.cons (.asg (.tup (.cons (.call o__ticks (hr.mono (by decide)) m__ticks k__ticks b__ticks passE (.cons (.var (i := 1) rfl rfl (by first | exact Or.inl rfl | exact Or.inr (Or.inl rfl) | exact Or.inr (Or.inr rfl)) (by decide) (by decide)) (.cons (.var (i := 3) rfl rfl (by first | exact Or.inl rfl | exact Or.inr (Or.inl rfl) | exact Or.inr (Or.inr rfl)) (by decide) (by decide)) .nil rfl) rfl) (by rfl) (by decide) rfl rfl) (.cons (.ix rfl (.fld rfl (.of T (by simp)) (.var (i := 1) rfl rfl (by first | exact Or.inl rfl | exact Or.inr (Or.inl rfl) | exact Or.inr (Or.inr rfl)) (by decide) (by decide)) rfl) (.var (i := 2) rfl rfl (by first | exact Or.inl rfl | exact Or.inr (Or.inl rfl) | exact Or.inr (Or.inr rfl)) (by decide) (by decide)) (fun _ _ => rfl)) .nil rfl) rfl)) (.tup (n := 2) rfl rfl (.cons (ks := [4, 5]) (.name nd rfl (by first | exact Or.inl rfl | exact Or.inr rfl) (by first | exact Or.inl rfl | exact Or.inr rfl)) (.cons (ks := [4, 5]) (.name nd rfl (by first | exact Or.inl rfl | exact Or.inr rfl) (by first | exact Or.inl rfl | exact Or.inr rfl)) (.nil (is := [4, 5])) (by decide) (by decide) rfl) (by decide) (by decide) rfl) rfl rfl) rfl rfl rfl)
  (.one (.ret (.callT (cv_tuple rfl) z_tuple (.cons (.lc false rfl nd (LCV.mk' (own := [("number", 6), ("there", 7)]) (is := [6, 7]) (by kernel_rfl) (.enumS rfl z_enumerate (.cons (.fld rfl (.of T (by simp)) (.var (i := 3) rfl rfl (by first | exact Or.inl rfl | exact Or.inr (Or.inl rfl) | exact Or.inr (Or.inr rfl)) (by decide) (by decide)) rfl) .nil rfl) (by rfl) (by rfl)) (fun _ _ _ _ _ => (.tup (n := 2) rfl rfl (.cons (ks := [6, 7]) (.name nd rfl (by first | exact Or.inl rfl | exact Or.inr rfl) (by first | exact Or.inl rfl | exact Or.inr rfl)) (.cons (ks := [6, 7]) (.name nd rfl (by first | exact Or.inl rfl | exact Or.inr rfl) (by first | exact Or.inl rfl | exact Or.inr rfl)) (.nil (is := [6, 7])) (by decide) (by decide) rfl) (by decide) (by decide) rfl) rfl rfl)) (fun _ _ _ _ _ => (.one (.not_ (.tru rfl (.call o_farther (hr.mono (by decide)) m_farther k_farther b_farther passE (.cons (.var (i := 0) rfl rfl (by first | exact Or.inl rfl | exact Or.inr (Or.inl rfl) | exact Or.inr (Or.inr rfl)) (by decide) (by decide)) (.cons (.var (i := 4) rfl rfl (by first | exact Or.inl rfl | exact Or.inr (Or.inl rfl) | exact Or.inr (Or.inr rfl)) (by decide) (by decide)) (.cons (.var (i := 5) rfl rfl (by first | exact Or.inl rfl | exact Or.inr (Or.inl rfl) | exact Or.inr (Or.inr rfl)) (by decide) (by decide)) (.cons (.var (i := 7) rfl rfl (by first | exact Or.inl rfl | exact Or.inr (Or.inl rfl) | exact Or.inr (Or.inr rfl)) (by decide) (by decide)) .nil rfl) rfl) rfl) rfl) (by rfl) (by decide) rfl rfl) (fun _ => rfl))))) (fun _ _ _ _ _ => (.var (i := 6) rfl rfl (by first | exact Or.inl rfl | exact Or.inr (Or.inl rfl) | exact Or.inr (Or.inr rfl)) (by decide) (by decide))) (by decide)) (fun _ => rfl)) .nil rfl) (by rfl) bt_tuple (by decide) (by decide) rfl rfl))))
set_option maxHeartbeats 4000000 in
theorem ok_linked {f : Addr} {fd : FuncData} (F : Fun K "linked" "linked" s_linked f fd) (T : ∀ c, ClsT K (cA c) ["boxes", "speed", "drift", "per", "moment"]) {f__linked_with : Addr} {fd__linked_with : FuncData} (o__linked_with : FnOk P w K mg base CX0 4 f__linked_with fd__linked_with ["pace", "layer", "place", "other"] (spF (gg K cA) 4 F__linked_with)) (b__linked_with : Binds K fd__linked_with ["pace", "layer", "place", "other"] []) (m__linked_with : mg "_linked_with" = some (.ref f__linked_with)) (k__linked_with : PySem.W.keepIn K (.ref f__linked_with) = true) (z_len : mg "len" = none) (z_range : mg "range" = none) : FnOk P w K mg base CX0 5 f fd ["pace", "layer", "other"] (spF (gg K cA) 3 F_linked) := by
  refine Fn0 F sc_linked (fun hl h => fnP_ends (N := 4) hl h) fun cdv A outer s H E hr => ?_
  have nd := sc_linked.nd
  exact (.one (.ret (.lc false rfl nd (LCV.mk' (own := [("place", 3)]) (is := [3]) (by kernel_rfl) (.range1 z_range (.cons (.callB (cv_len rfl) z_len (.cons (.fld rfl (.of T (by simp)) (.var (i := 1) rfl rfl (by first | exact Or.inl rfl | exact Or.inr (Or.inl rfl) | exact Or.inr (Or.inr rfl)) (by decide) (by decide)) rfl) .nil rfl) (by rfl) bt_len (by decide) (by decide) rfl rfl) .nil rfl) (by rfl) (by rfl)) (fun _ _ _ _ _ => (.name nd rfl (by first | exact Or.inl rfl | exact Or.inr rfl) (by first | exact Or.inl rfl | exact Or.inr rfl))) (fun _ _ _ _ _ => .nil) (fun _ _ _ _ _ => (.call o__linked_with (hr.mono (by decide)) m__linked_with k__linked_with b__linked_with passE (.cons (.var (i := 0) rfl rfl (by first | exact Or.inl rfl | exact Or.inr (Or.inl rfl) | exact Or.inr (Or.inr rfl)) (by decide) (by decide)) (.cons (.var (i := 1) rfl rfl (by first | exact Or.inl rfl | exact Or.inr (Or.inl rfl) | exact Or.inr (Or.inr rfl)) (by decide) (by decide)) (.cons (.var (i := 3) rfl rfl (by first | exact Or.inl rfl | exact Or.inr (Or.inl rfl) | exact Or.inr (Or.inr rfl)) (by decide) (by decide)) (.cons (.var (i := 2) rfl rfl (by first | exact Or.inl rfl | exact Or.inr (Or.inl rfl) | exact Or.inr (Or.inr rfl)) (by decide) (by decide)) .nil rfl) rfl) rfl) rfl) (by rfl) (by decide) rfl rfl)) (by decide)) (fun _ => rfl))))
set_option maxHeartbeats 4000000 in
theorem ok__links {f : Addr} {fd : FuncData} (F : Fun K "_links" "_links" s__links f fd) {f_linked : Addr} {fd_linked : FuncData} (o_linked : FnOk P w K mg base CX0 5 f_linked fd_linked ["pace", "layer", "other"] (spF (gg K cA) 3 F_linked)) (b_linked : Binds K fd_linked ["pace", "layer", "other"] []) (m_linked : mg "linked" = some (.ref f_linked)) (k_linked : PySem.W.keepIn K (.ref f_linked) = true) (z_zip : mg "zip" = none) : FnOk P w K mg base CX0 6 f fd ["pace", "layers"] (spF (gg K cA) 2 F__links) := by
  refine Fn0 F sc__links (fun hl h => fnP_ends (N := 4) hl h) fun cdv A outer s H E hr => ?_
  have nd := sc__links.nd
  exact (.one (.ret (.lc false rfl nd (LCV.mk' (own := [("layer", 2), ("other", 3)]) (is := [2, 3]) (by kernel_rfl) (.zip rfl z_zip (.cons (.var (i := 1) rfl rfl (by first | exact Or.inl rfl | exact Or.inr (Or.inl rfl) | exact Or.inr (Or.inr rfl)) (by decide) (by decide)) (.cons (.sl rfl (.var (i := 1) rfl rfl (by first | exact Or.inl rfl | exact Or.inr (Or.inl rfl) | exact Or.inr (Or.inr rfl)) (by decide) (by decide)) (.yes .int) .no) .nil rfl) rfl) (by rfl) (by rfl) (by rfl)) (fun _ _ _ _ _ => (.tup (n := 2) rfl rfl (.cons (ks := [2, 3]) (.name nd rfl (by first | exact Or.inl rfl | exact Or.inr rfl) (by first | exact Or.inl rfl | exact Or.inr rfl)) (.cons (ks := [2, 3]) (.name nd rfl (by first | exact Or.inl rfl | exact Or.inr rfl) (by first | exact Or.inl rfl | exact Or.inr rfl)) (.nil (is := [2, 3])) (by decide) (by decide) rfl) (by decide) (by decide) rfl) rfl rfl)) (fun _ _ _ _ _ => .nil) (fun _ _ _ _ _ => (.call o_linked (hr.mono (by decide)) m_linked k_linked b_linked passE (.cons (.var (i := 0) rfl rfl (by first | exact Or.inl rfl | exact Or.inr (Or.inl rfl) | exact Or.inr (Or.inr rfl)) (by decide) (by decide)) (.cons (.var (i := 2) rfl rfl (by first | exact Or.inl rfl | exact Or.inr (Or.inl rfl) | exact Or.inr (Or.inr rfl)) (by decide) (by decide)) (.cons (.var (i := 3) rfl rfl (by first | exact Or.inl rfl | exact Or.inr (Or.inl rfl) | exact Or.inr (Or.inr rfl)) (by decide) (by decide)) .nil rfl) rfl) rfl) (by rfl) (by decide) rfl rfl)) (by decide)) (fun _ => rfl))))
set_option maxHeartbeats 4000000 in
theorem ok_alive {f : Addr} {fd : FuncData} (F : Fun K "alive" "alive" s_alive f fd) {f_places_alive : Addr} {fd_places_alive : FuncData} (o_places_alive : FnOk P w K mg base CX0 2 f_places_alive fd_places_alive ["layers", "links"] (spF (gg K cA) 2 F_places_alive)) (b_places_alive : Binds K fd_places_alive ["layers", "links"] []) (m_places_alive : mg "places_alive" = some (.ref f_places_alive)) (k_places_alive : PySem.W.keepIn K (.ref f_places_alive) = true) {f__links : Addr} {fd__links : FuncData} (o__links : FnOk P w K mg base CX0 6 f__links fd__links ["pace", "layers"] (spF (gg K cA) 2 F__links)) (b__links : Binds K fd__links ["pace", "layers"] []) (m__links : mg "_links" = some (.ref f__links)) (k__links : PySem.W.keepIn K (.ref f__links) = true) : FnOk P w K mg base CX0 7 f fd ["pace", "layers"] (spF (gg K cA) 2 F_alive) := by
  refine Fn0 F sc_alive (fun hl h => fnP_ends (N := 2) hl h) fun cdv A outer s H E hr => ?_
  have nd := sc_alive.nd
  exact (.one (.ret (.call o_places_alive (hr.mono (by decide)) m_places_alive k_places_alive b_places_alive passE (.cons (.var (i := 1) rfl rfl (by first | exact Or.inl rfl | exact Or.inr (Or.inl rfl) | exact Or.inr (Or.inr rfl)) (by decide) (by decide)) (.cons (.call o__links (hr.mono (by decide)) m__links k__links b__links passE (.cons (.var (i := 0) rfl rfl (by first | exact Or.inl rfl | exact Or.inr (Or.inl rfl) | exact Or.inr (Or.inr rfl)) (by decide) (by decide)) (.cons (.var (i := 1) rfl rfl (by first | exact Or.inl rfl | exact Or.inr (Or.inl rfl) | exact Or.inr (Or.inr rfl)) (by decide) (by decide)) .nil rfl) rfl) (by rfl) (by decide) rfl rfl) .nil rfl) rfl) (by rfl) (by decide) rfl rfl)))
set_option maxHeartbeats 4000000 in
theorem ok_law {f : Addr} {fd : FuncData} (F : Fun K "law" "law" s_law f fd) (T : ∀ c, ClsT K (cA c) ["boxes", "speed", "drift", "per", "moment"]) {f__law_number : Addr} {fd__law_number : FuncData} (o__law_number : FnOk P w K mg base CX0 1 f__law_number fd__law_number ["script", "k"] (spF (gg K cA) 2 F__law_number)) (b__law_number : Binds K fd__law_number ["script", "k"] []) (m__law_number : mg "_law_number" = some (.ref f__law_number)) (k__law_number : PySem.W.keepIn K (.ref f__law_number) = true) {f__law_pace : Addr} {fd__law_pace : FuncData} (o__law_pace : FnOk P w K mg base CX0 3 f__law_pace fd__law_pace ["cell"] (spF (gg K cA) 1 F__law_pace)) (b__law_pace : Binds K fd__law_pace ["cell"] []) (m__law_pace : mg "_law_pace" = some (.ref f__law_pace)) (k__law_pace : PySem.W.keepIn K (.ref f__law_pace) = true) {f__law_layers : Addr} {fd__law_layers : FuncData} (o__law_layers : FnOk P w K mg base CX0 4 f__law_layers fd__law_layers ["script", "k", "dims"] (spF (gg K cA) 3 F__law_layers)) (b__law_layers : Binds K fd__law_layers ["script", "k", "dims"] []) (m__law_layers : mg "_law_layers" = some (.ref f__law_layers)) (k__law_layers : PySem.W.keepIn K (.ref f__law_layers) = true) {f__law_chains : Addr} {fd__law_chains : FuncData} (o__law_chains : FnOk P w K mg base CX0 4 f__law_chains fd__law_chains ["pace", "layers"] (spF (gg K cA) 2 F__law_chains)) (b__law_chains : Binds K fd__law_chains ["pace", "layers"] []) (m__law_chains : mg "_law_chains" = some (.ref f__law_chains)) (k__law_chains : PySem.W.keepIn K (.ref f__law_chains) = true) {f_alive : Addr} {fd_alive : FuncData} (o_alive : FnOk P w K mg base CX0 7 f_alive fd_alive ["pace", "layers"] (spF (gg K cA) 2 F_alive)) (b_alive : Binds K fd_alive ["pace", "layers"] []) (m_alive : mg "alive" = some (.ref f_alive)) (k_alive : PySem.W.keepIn K (.ref f_alive) = true) (z_int : mg "int" = none) (z_isinstance : mg "isinstance" = none) (z_len : mg "len" = none) (z_list : mg "list" = none) (z_range : mg "range" = none) (z_tuple : mg "tuple" = none) : FnOk P w K mg base CX0 8 f fd ["script"] (spF (gg K cA) 1 F_law) := by
  refine Fn0 F sc_law (fun hl h => fnP_ends (N := 11) hl h) fun cdv A outer s H E hr => ?_
  have nd := sc_law.nd
  exact (.cons (.set (i := 1) (.call o__law_number (hr.mono (by decide)) m__law_number k__law_number b__law_number passE (.cons (.var (i := 0) rfl rfl (by first | exact Or.inl rfl | exact Or.inr (Or.inl rfl) | exact Or.inr (Or.inr rfl)) (by decide) (by decide)) (.cons .int .nil rfl) rfl) (by rfl) (by decide) rfl rfl) nd rfl (by first | exact Or.inl rfl | exact Or.inr rfl) rfl (Or.inl rfl))
  (.cons (.set (i := 2) (.call o__law_pace (hr.mono (by decide)) m__law_pace k__law_pace b__law_pace passE (.cons (.bin ok_div (.var (i := 1) rfl rfl (by first | exact Or.inl rfl | exact Or.inr (Or.inl rfl) | exact Or.inr (Or.inr rfl)) (by decide) (by decide)) .int) .nil rfl) (by rfl) (by decide) rfl rfl) nd rfl (by first | exact Or.inl rfl | exact Or.inr rfl) rfl (Or.inl rfl))
  (.cons (.set (i := 3) (.call o__law_layers (hr.mono (by decide)) m__law_layers k__law_layers b__law_layers passE (.cons (.var (i := 0) rfl rfl (by first | exact Or.inl rfl | exact Or.inr (Or.inl rfl) | exact Or.inr (Or.inr rfl)) (by decide) (by decide)) (.cons .int (.cons (.bin (ok_add rfl) .int (.bin ok_mod (.callT cv_int z_int (.cons (.var (i := 1) rfl rfl (by first | exact Or.inl rfl | exact Or.inr (Or.inl rfl) | exact Or.inr (Or.inr rfl)) (by decide) (by decide)) .nil rfl) (by rfl) bt_int (by decide) (by decide) rfl rfl) .int)) .nil rfl) rfl) rfl) (by rfl) (by decide) rfl rfl) nd rfl (by first | exact Or.inl rfl | exact Or.inr rfl) rfl (Or.inl rfl))
  (.cons (.set (i := 4) (.call o__law_chains (hr.mono (by decide)) m__law_chains k__law_chains b__law_chains passE (.cons (.var (i := 2) rfl rfl (by first | exact Or.inl rfl | exact Or.inr (Or.inl rfl) | exact Or.inr (Or.inr rfl)) (by decide) (by decide)) (.cons (.var (i := 3) rfl rfl (by first | exact Or.inl rfl | exact Or.inr (Or.inl rfl) | exact Or.inr (Or.inr rfl)) (by decide) (by decide)) .nil rfl) rfl) (by rfl) (by decide) rfl rfl) nd rfl (by first | exact Or.inl rfl | exact Or.inr rfl) rfl (Or.inl rfl))
  (.cons (.set (i := 5) (.lst true .nil) nd rfl (by first | exact Or.inl rfl | exact Or.inr rfl) rfl (Or.inl rfl))
  (.cons (.for_ PassesOwn.never rfl (.range1 z_range (.cons (.callB (cv_len rfl) z_len (.cons (.var (i := 3) rfl rfl (by first | exact Or.inl rfl | exact Or.inr (Or.inl rfl) | exact Or.inr (Or.inr rfl)) (by decide) (by decide)) .nil rfl) (by rfl) bt_len (by decide) (by decide) rfl rfl) .nil rfl) (by rfl) (by rfl)) (.name nd rfl (by first | exact Or.inl rfl | exact Or.inr rfl) (by first | exact Or.inl rfl | exact Or.inr rfl)) (.cons (.set (i := 7) (.lst true .nil) nd rfl (by first | exact Or.inl rfl | exact Or.inr rfl) rfl (Or.inl rfl))
  (.cons (.for_ PassesOwn.never rfl (.range1 z_range (.cons (.callB (cv_len rfl) z_len (.cons (.fld rfl (.of T (by simp)) (.ix rfl (.var (i := 3) rfl rfl (by first | exact Or.inl rfl | exact Or.inr (Or.inl rfl) | exact Or.inr (Or.inr rfl)) (by decide) (by decide)) (.var (i := 6) rfl rfl (by first | exact Or.inl rfl | exact Or.inr (Or.inl rfl) | exact Or.inr (Or.inr rfl)) (by decide) (by decide)) (fun _ _ => rfl)) rfl) .nil rfl) (by rfl) bt_len (by decide) (by decide) rfl rfl) .nil rfl) (by rfl) (by rfl)) (.name nd rfl (by first | exact Or.inl rfl | exact Or.inr rfl) (by first | exact Or.inl rfl | exact Or.inr rfl)) (.one (.if_ (.cmp ok_gt (.callB (cv_len rfl) z_len (.cons (.lc false rfl nd (LCV.mk' (own := [("chain", 10)]) (is := [10]) (by kernel_rfl) (.any rfl (.var (i := 4) rfl rfl (by first | exact Or.inl rfl | exact Or.inr (Or.inl rfl) | exact Or.inr (Or.inr rfl)) (by decide) (by decide))) (fun _ _ _ _ _ => (.name nd rfl (by first | exact Or.inl rfl | exact Or.inr rfl) (by first | exact Or.inl rfl | exact Or.inr rfl))) (fun _ _ _ _ _ => (.one (.cmp (ok_eq rfl hr.units) (.ix rfl (.var (i := 10) rfl rfl (by first | exact Or.inl rfl | exact Or.inr (Or.inl rfl) | exact Or.inr (Or.inr rfl)) (by decide) (by decide)) (.var (i := 6) rfl rfl (by first | exact Or.inl rfl | exact Or.inr (Or.inl rfl) | exact Or.inr (Or.inr rfl)) (by decide) (by decide)) (fun _ _ => rfl)) (.var (i := 8) rfl rfl (by first | exact Or.inl rfl | exact Or.inr (Or.inl rfl) | exact Or.inr (Or.inr rfl)) (by decide) (by decide)) rfl))) (fun _ _ _ _ _ => (.var (i := 10) rfl rfl (by first | exact Or.inl rfl | exact Or.inr (Or.inl rfl) | exact Or.inr (Or.inr rfl)) (by decide) (by decide))) (by decide)) (fun _ => rfl)) .nil rfl) (by rfl) bt_len (by decide) (by decide) rfl rfl) .int rfl) (.one (.exp (.bm rfl PySem.F.plainAttrs_list PySem.F.slot_list_append PySem.F.type_list_append bm_append (.var (i := 7) rfl rfl (by first | exact Or.inl rfl | exact Or.inr (Or.inl rfl) | exact Or.inr (Or.inr rfl)) (by decide) (by decide)) (.cons (.var (i := 8) rfl rfl (by first | exact Or.inl rfl | exact Or.inr (Or.inl rfl) | exact Or.inr (Or.inr rfl)) (by decide) (by decide)) .nil rfl) rfl rfl rfl rfl rfl) rfl)) .nil)) (fun _ => rfl))
  (.one (.exp (.bm rfl PySem.F.plainAttrs_list PySem.F.slot_list_append PySem.F.type_list_append bm_append (.var (i := 5) rfl rfl (by first | exact Or.inl rfl | exact Or.inr (Or.inl rfl) | exact Or.inr (Or.inr rfl)) (by decide) (by decide)) (.cons (.callT (cv_tuple rfl) z_tuple (.cons (.var (i := 7) rfl rfl (by first | exact Or.inl rfl | exact Or.inr (Or.inl rfl) | exact Or.inr (Or.inr rfl)) (by decide) (by decide)) .nil rfl) (by rfl) bt_tuple (by decide) (by decide) rfl rfl) .nil rfl) rfl rfl rfl rfl rfl) rfl)))) (fun _ => rfl))
  (.cons (.set (i := 9) (.call o_alive (hr.mono (by decide)) m_alive k_alive b_alive passE (.cons (.var (i := 2) rfl rfl (by first | exact Or.inl rfl | exact Or.inr (Or.inl rfl) | exact Or.inr (Or.inr rfl)) (by decide) (by decide)) (.cons (.var (i := 3) rfl rfl (by first | exact Or.inl rfl | exact Or.inr (Or.inl rfl) | exact Or.inr (Or.inr rfl)) (by decide) (by decide)) .nil rfl) rfl) (by rfl) (by decide) rfl rfl) nd rfl (by first | exact Or.inl rfl | exact Or.inr rfl) rfl (Or.inl rfl))
  (.one (.ret (.and_ (.isi rfl rfl z_isinstance z_list (.var (i := 9) rfl rfl (by first | exact Or.inl rfl | exact Or.inr (Or.inl rfl) | exact Or.inr (Or.inr rfl)) (by decide) (by decide)) (by rfl) (by rfl) bt_list (by decide) (by decide) rfl) (.one (.cmp (ok_eq rfl hr.units) (.var (i := 9) rfl rfl (by first | exact Or.inl rfl | exact Or.inr (Or.inl rfl) | exact Or.inr (Or.inr rfl)) (by decide) (by decide)) (.var (i := 5) rfl rfl (by first | exact Or.inl rfl | exact Or.inr (Or.inl rfl) | exact Or.inr (Or.inr rfl)) (by decide) (by decide)) rfl))))))))))))
end
set_option maxHeartbeats 4000000 in
theorem all_mk {l : PySem.W.OpenLaw} {w : World} {K : PySem.W.Frag} {h : Heap} {mg : Str → Option Value} {fa : Addr} (X : K.In h) (G : h.Ns mainGlobals mg) (hfa : mg "law" = some (.ref fa))
    {C_Layer : Addr}
    {C_Pace : Addr}
    {fa__law_number : Addr} {od__law_number an__law_number : Option Addr} {sl__law_number : Array (Option Value)} {oc__law_number kV__law_number dc__law_number pm__law_number cd__law_number ct__law_number : Value}
    {fa_Pace__init__ : Addr} {od_Pace__init__ an_Pace__init__ : Option Addr} {sl_Pace__init__ : Array (Option Value)} {oc_Pace__init__ kV_Pace__init__ dc_Pace__init__ pm_Pace__init__ cd_Pace__init__ ct_Pace__init__ : Value}
    {fa__law_pace : Addr} {od__law_pace an__law_pace : Option Addr} {sl__law_pace : Array (Option Value)} {oc__law_pace kV__law_pace dc__law_pace pm__law_pace cd__law_pace ct__law_pace : Value}
    {fa_Layer__init__ : Addr} {od_Layer__init__ an_Layer__init__ : Option Addr} {sl_Layer__init__ : Array (Option Value)} {oc_Layer__init__ kV_Layer__init__ dc_Layer__init__ pm_Layer__init__ cd_Layer__init__ ct_Layer__init__ : Value}
    {fa__law_layer : Addr} {od__law_layer an__law_layer : Option Addr} {sl__law_layer : Array (Option Value)} {oc__law_layer kV__law_layer dc__law_layer pm__law_layer cd__law_layer ct__law_layer : Value}
    {fa__law_layers : Addr} {od__law_layers an__law_layers : Option Addr} {sl__law_layers : Array (Option Value)} {oc__law_layers kV__law_layers dc__law_layers pm__law_layers cd__law_layers ct__law_layers : Value}
    {fa__law_gap : Addr} {od__law_gap an__law_gap : Option Addr} {sl__law_gap : Array (Option Value)} {oc__law_gap kV__law_gap dc__law_gap pm__law_gap cd__law_gap ct__law_gap : Value}
    {fa__law_linked : Addr} {od__law_linked an__law_linked : Option Addr} {sl__law_linked : Array (Option Value)} {oc__law_linked kV__law_linked dc__law_linked pm__law_linked cd__law_linked ct__law_linked : Value}
    {fa__law_is_chain : Addr} {od__law_is_chain an__law_is_chain : Option Addr} {sl__law_is_chain : Array (Option Value)} {oc__law_is_chain kV__law_is_chain dc__law_is_chain pm__law_is_chain cd__law_is_chain ct__law_is_chain : Value}
    {fa__law_chains : Addr} {od__law_chains an__law_chains : Option Addr} {sl__law_chains : Array (Option Value)} {oc__law_chains kV__law_chains dc__law_chains pm__law_chains cd__law_chains ct__law_chains : Value}
    {fa_places_ending : Addr} {od_places_ending an_places_ending : Option Addr} {sl_places_ending : Array (Option Value)} {oc_places_ending kV_places_ending dc_places_ending pm_places_ending cd_places_ending ct_places_ending : Value}
    {fa__leading_to : Addr} {od__leading_to an__leading_to : Option Addr} {sl__leading_to : Array (Option Value)} {oc__leading_to kV__leading_to dc__leading_to pm__leading_to cd__leading_to ct__leading_to : Value}
    {fa_places_alive : Addr} {od_places_alive an_places_alive : Option Addr} {sl_places_alive : Array (Option Value)} {oc_places_alive kV_places_alive dc_places_alive pm_places_alive cd_places_alive ct_places_alive : Value}
    {fa__ticks : Addr} {od__ticks an__ticks : Option Addr} {sl__ticks : Array (Option Value)} {oc__ticks kV__ticks dc__ticks pm__ticks cd__ticks ct__ticks : Value}
    {fa_gap : Addr} {od_gap an_gap : Option Addr} {sl_gap : Array (Option Value)} {oc_gap kV_gap dc_gap pm_gap cd_gap ct_gap : Value}
    {fa_between : Addr} {od_between an_between : Option Addr} {sl_between : Array (Option Value)} {oc_between kV_between dc_between pm_between cd_between ct_between : Value}
    {fa_clocks_farther : Addr} {od_clocks_farther an_clocks_farther : Option Addr} {sl_clocks_farther : Array (Option Value)} {oc_clocks_farther kV_clocks_farther dc_clocks_farther pm_clocks_farther cd_clocks_farther ct_clocks_farther : Value}
    {fa_farther : Addr} {od_farther an_farther : Option Addr} {sl_farther : Array (Option Value)} {oc_farther kV_farther dc_farther pm_farther cd_farther ct_farther : Value}
    {fa__linked_with : Addr} {od__linked_with an__linked_with : Option Addr} {sl__linked_with : Array (Option Value)} {oc__linked_with kV__linked_with dc__linked_with pm__linked_with cd__linked_with ct__linked_with : Value}
    {fa_linked : Addr} {od_linked an_linked : Option Addr} {sl_linked : Array (Option Value)} {oc_linked kV_linked dc_linked pm_linked cd_linked ct_linked : Value}
    {fa__links : Addr} {od__links an__links : Option Addr} {sl__links : Array (Option Value)} {oc__links kV__links dc__links pm__links cd__links ct__links : Value}
    {fa_alive : Addr} {od_alive an_alive : Option Addr} {sl_alive : Array (Option Value)} {oc_alive kV_alive dc_alive pm_alive cd_alive ct_alive : Value}
    {fa_law : Addr} {od_law an_law : Option Addr} {sl_law : Array (Option Value)} {oc_law kV_law dc_law pm_law cd_law ct_law : Value}
    (aC_Layer : PySem.W.nsIn K mainGlobals "Layer" = some (some (.ref C_Layer)))
    (pg_Layer : PySem.W.plainGet K C_Layer Str.empty = true)
    (hd_Layer : PySem.W.hasDictIn K C_Layer = true)
    (po_Layer : PySem.W.plainOver K C_Layer = true)
    (sa_Layer : PySem.W.findIn K (.ref C_Layer) "__setattr__" = some (some (.builtin "object.__setattr__")))
    (mk_Layer : PySem.W.makesIn K C_Layer = true)
    (kc_Layer : PySem.W.keepIn K (.ref C_Layer) = true)
    (na_Layer_boxes : PySem.W.findIn K (.ref C_Layer) "boxes" = some none)
    (na_Layer_speed : PySem.W.findIn K (.ref C_Layer) "speed" = some none)
    (na_Layer_drift : PySem.W.findIn K (.ref C_Layer) "drift" = some none)
    (na_Layer_per : PySem.W.findIn K (.ref C_Layer) "per" = some none)
    (na_Layer_moment : PySem.W.findIn K (.ref C_Layer) "moment" = some none)
    (aC_Pace : PySem.W.nsIn K mainGlobals "Pace" = some (some (.ref C_Pace)))
    (pg_Pace : PySem.W.plainGet K C_Pace Str.empty = true)
    (hd_Pace : PySem.W.hasDictIn K C_Pace = true)
    (po_Pace : PySem.W.plainOver K C_Pace = true)
    (sa_Pace : PySem.W.findIn K (.ref C_Pace) "__setattr__" = some (some (.builtin "object.__setattr__")))
    (mk_Pace : PySem.W.makesIn K C_Pace = true)
    (kc_Pace : PySem.W.keepIn K (.ref C_Pace) = true)
    (na_Pace_boxes : PySem.W.findIn K (.ref C_Pace) "boxes" = some none)
    (na_Pace_speed : PySem.W.findIn K (.ref C_Pace) "speed" = some none)
    (na_Pace_drift : PySem.W.findIn K (.ref C_Pace) "drift" = some none)
    (na_Pace_per : PySem.W.findIn K (.ref C_Pace) "per" = some none)
    (na_Pace_moment : PySem.W.findIn K (.ref C_Pace) "moment" = some none)
    (a__law_number : PySem.W.nsIn K mainGlobals "_law_number" = some (some (.ref fa__law_number)))
    (l__law_number : K.lookup fa__law_number = some ⟨oc__law_number, od__law_number, .func (PySem.W.fnOf "_law_number" "_law_number" (defArgs s__law_number) (defBody s__law_number) (defScope s__law_number) .none kV__law_number dc__law_number pm__law_number an__law_number cd__law_number ct__law_number), sl__law_number⟩)
    (c__law_number : PySem.W.codeIn K cd__law_number "_law_number" = true)
    (k__law_number : PySem.W.keepIn K (.ref fa__law_number) = true)
    (a_Pace__init__ : PySem.W.findIn K (.ref C_Pace) "__init__" = some (some (.ref fa_Pace__init__)))
    (i_Pace__init__ : PySem.W.isFn K (.ref fa_Pace__init__) = true)
    (l_Pace__init__ : K.lookup fa_Pace__init__ = some ⟨oc_Pace__init__, od_Pace__init__, .func (PySem.W.fnOf "__init__" "Pace.__init__" (defArgs s_Pace__init__) (defBody s_Pace__init__) (defScope s_Pace__init__) .none kV_Pace__init__ dc_Pace__init__ pm_Pace__init__ an_Pace__init__ cd_Pace__init__ ct_Pace__init__), sl_Pace__init__⟩)
    (c_Pace__init__ : PySem.W.codeIn K cd_Pace__init__ "Pace.__init__" = true)
    (k_Pace__init__ : PySem.W.keepIn K (.ref fa_Pace__init__) = true)
    (a__law_pace : PySem.W.nsIn K mainGlobals "_law_pace" = some (some (.ref fa__law_pace)))
    (l__law_pace : K.lookup fa__law_pace = some ⟨oc__law_pace, od__law_pace, .func (PySem.W.fnOf "_law_pace" "_law_pace" (defArgs s__law_pace) (defBody s__law_pace) (defScope s__law_pace) .none kV__law_pace dc__law_pace pm__law_pace an__law_pace cd__law_pace ct__law_pace), sl__law_pace⟩)
    (c__law_pace : PySem.W.codeIn K cd__law_pace "_law_pace" = true)
    (k__law_pace : PySem.W.keepIn K (.ref fa__law_pace) = true)
    (a_Layer__init__ : PySem.W.findIn K (.ref C_Layer) "__init__" = some (some (.ref fa_Layer__init__)))
    (i_Layer__init__ : PySem.W.isFn K (.ref fa_Layer__init__) = true)
    (l_Layer__init__ : K.lookup fa_Layer__init__ = some ⟨oc_Layer__init__, od_Layer__init__, .func (PySem.W.fnOf "__init__" "Layer.__init__" (defArgs s_Layer__init__) (defBody s_Layer__init__) (defScope s_Layer__init__) .none kV_Layer__init__ dc_Layer__init__ pm_Layer__init__ an_Layer__init__ cd_Layer__init__ ct_Layer__init__), sl_Layer__init__⟩)
    (c_Layer__init__ : PySem.W.codeIn K cd_Layer__init__ "Layer.__init__" = true)
    (k_Layer__init__ : PySem.W.keepIn K (.ref fa_Layer__init__) = true)
    (a__law_layer : PySem.W.nsIn K mainGlobals "_law_layer" = some (some (.ref fa__law_layer)))
    (l__law_layer : K.lookup fa__law_layer = some ⟨oc__law_layer, od__law_layer, .func (PySem.W.fnOf "_law_layer" "_law_layer" (defArgs s__law_layer) (defBody s__law_layer) (defScope s__law_layer) .none kV__law_layer dc__law_layer pm__law_layer an__law_layer cd__law_layer ct__law_layer), sl__law_layer⟩)
    (c__law_layer : PySem.W.codeIn K cd__law_layer "_law_layer" = true)
    (k__law_layer : PySem.W.keepIn K (.ref fa__law_layer) = true)
    (a__law_layers : PySem.W.nsIn K mainGlobals "_law_layers" = some (some (.ref fa__law_layers)))
    (l__law_layers : K.lookup fa__law_layers = some ⟨oc__law_layers, od__law_layers, .func (PySem.W.fnOf "_law_layers" "_law_layers" (defArgs s__law_layers) (defBody s__law_layers) (defScope s__law_layers) .none kV__law_layers dc__law_layers pm__law_layers an__law_layers cd__law_layers ct__law_layers), sl__law_layers⟩)
    (c__law_layers : PySem.W.codeIn K cd__law_layers "_law_layers" = true)
    (k__law_layers : PySem.W.keepIn K (.ref fa__law_layers) = true)
    (a__law_gap : PySem.W.nsIn K mainGlobals "_law_gap" = some (some (.ref fa__law_gap)))
    (l__law_gap : K.lookup fa__law_gap = some ⟨oc__law_gap, od__law_gap, .func (PySem.W.fnOf "_law_gap" "_law_gap" (defArgs s__law_gap) (defBody s__law_gap) (defScope s__law_gap) .none kV__law_gap dc__law_gap pm__law_gap an__law_gap cd__law_gap ct__law_gap), sl__law_gap⟩)
    (c__law_gap : PySem.W.codeIn K cd__law_gap "_law_gap" = true)
    (k__law_gap : PySem.W.keepIn K (.ref fa__law_gap) = true)
    (a__law_linked : PySem.W.nsIn K mainGlobals "_law_linked" = some (some (.ref fa__law_linked)))
    (l__law_linked : K.lookup fa__law_linked = some ⟨oc__law_linked, od__law_linked, .func (PySem.W.fnOf "_law_linked" "_law_linked" (defArgs s__law_linked) (defBody s__law_linked) (defScope s__law_linked) .none kV__law_linked dc__law_linked pm__law_linked an__law_linked cd__law_linked ct__law_linked), sl__law_linked⟩)
    (c__law_linked : PySem.W.codeIn K cd__law_linked "_law_linked" = true)
    (k__law_linked : PySem.W.keepIn K (.ref fa__law_linked) = true)
    (a__law_is_chain : PySem.W.nsIn K mainGlobals "_law_is_chain" = some (some (.ref fa__law_is_chain)))
    (l__law_is_chain : K.lookup fa__law_is_chain = some ⟨oc__law_is_chain, od__law_is_chain, .func (PySem.W.fnOf "_law_is_chain" "_law_is_chain" (defArgs s__law_is_chain) (defBody s__law_is_chain) (defScope s__law_is_chain) .none kV__law_is_chain dc__law_is_chain pm__law_is_chain an__law_is_chain cd__law_is_chain ct__law_is_chain), sl__law_is_chain⟩)
    (c__law_is_chain : PySem.W.codeIn K cd__law_is_chain "_law_is_chain" = true)
    (k__law_is_chain : PySem.W.keepIn K (.ref fa__law_is_chain) = true)
    (a__law_chains : PySem.W.nsIn K mainGlobals "_law_chains" = some (some (.ref fa__law_chains)))
    (l__law_chains : K.lookup fa__law_chains = some ⟨oc__law_chains, od__law_chains, .func (PySem.W.fnOf "_law_chains" "_law_chains" (defArgs s__law_chains) (defBody s__law_chains) (defScope s__law_chains) .none kV__law_chains dc__law_chains pm__law_chains an__law_chains cd__law_chains ct__law_chains), sl__law_chains⟩)
    (c__law_chains : PySem.W.codeIn K cd__law_chains "_law_chains" = true)
    (k__law_chains : PySem.W.keepIn K (.ref fa__law_chains) = true)
    (a_places_ending : PySem.W.nsIn K mainGlobals "places_ending" = some (some (.ref fa_places_ending)))
    (l_places_ending : K.lookup fa_places_ending = some ⟨oc_places_ending, od_places_ending, .func (PySem.W.fnOf "places_ending" "places_ending" (defArgs s_places_ending) (defBody s_places_ending) (defScope s_places_ending) .none kV_places_ending dc_places_ending pm_places_ending an_places_ending cd_places_ending ct_places_ending), sl_places_ending⟩)
    (c_places_ending : PySem.W.codeIn K cd_places_ending "places_ending" = true)
    (k_places_ending : PySem.W.keepIn K (.ref fa_places_ending) = true)
    (a__leading_to : PySem.W.nsIn K mainGlobals "_leading_to" = some (some (.ref fa__leading_to)))
    (l__leading_to : K.lookup fa__leading_to = some ⟨oc__leading_to, od__leading_to, .func (PySem.W.fnOf "_leading_to" "_leading_to" (defArgs s__leading_to) (defBody s__leading_to) (defScope s__leading_to) .none kV__leading_to dc__leading_to pm__leading_to an__leading_to cd__leading_to ct__leading_to), sl__leading_to⟩)
    (c__leading_to : PySem.W.codeIn K cd__leading_to "_leading_to" = true)
    (k__leading_to : PySem.W.keepIn K (.ref fa__leading_to) = true)
    (a_places_alive : PySem.W.nsIn K mainGlobals "places_alive" = some (some (.ref fa_places_alive)))
    (l_places_alive : K.lookup fa_places_alive = some ⟨oc_places_alive, od_places_alive, .func (PySem.W.fnOf "places_alive" "places_alive" (defArgs s_places_alive) (defBody s_places_alive) (defScope s_places_alive) .none kV_places_alive dc_places_alive pm_places_alive an_places_alive cd_places_alive ct_places_alive), sl_places_alive⟩)
    (c_places_alive : PySem.W.codeIn K cd_places_alive "places_alive" = true)
    (k_places_alive : PySem.W.keepIn K (.ref fa_places_alive) = true)
    (a__ticks : PySem.W.nsIn K mainGlobals "_ticks" = some (some (.ref fa__ticks)))
    (l__ticks : K.lookup fa__ticks = some ⟨oc__ticks, od__ticks, .func (PySem.W.fnOf "_ticks" "_ticks" (defArgs s__ticks) (defBody s__ticks) (defScope s__ticks) .none kV__ticks dc__ticks pm__ticks an__ticks cd__ticks ct__ticks), sl__ticks⟩)
    (c__ticks : PySem.W.codeIn K cd__ticks "_ticks" = true)
    (k__ticks : PySem.W.keepIn K (.ref fa__ticks) = true)
    (a_gap : PySem.W.nsIn K mainGlobals "gap" = some (some (.ref fa_gap)))
    (l_gap : K.lookup fa_gap = some ⟨oc_gap, od_gap, .func (PySem.W.fnOf "gap" "gap" (defArgs s_gap) (defBody s_gap) (defScope s_gap) .none kV_gap dc_gap pm_gap an_gap cd_gap ct_gap), sl_gap⟩)
    (c_gap : PySem.W.codeIn K cd_gap "gap" = true)
    (k_gap : PySem.W.keepIn K (.ref fa_gap) = true)
    (a_between : PySem.W.nsIn K mainGlobals "between" = some (some (.ref fa_between)))
    (l_between : K.lookup fa_between = some ⟨oc_between, od_between, .func (PySem.W.fnOf "between" "between" (defArgs s_between) (defBody s_between) (defScope s_between) .none kV_between dc_between pm_between an_between cd_between ct_between), sl_between⟩)
    (c_between : PySem.W.codeIn K cd_between "between" = true)
    (k_between : PySem.W.keepIn K (.ref fa_between) = true)
    (a_clocks_farther : PySem.W.nsIn K mainGlobals "clocks_farther" = some (some (.ref fa_clocks_farther)))
    (l_clocks_farther : K.lookup fa_clocks_farther = some ⟨oc_clocks_farther, od_clocks_farther, .func (PySem.W.fnOf "clocks_farther" "clocks_farther" (defArgs s_clocks_farther) (defBody s_clocks_farther) (defScope s_clocks_farther) .none kV_clocks_farther dc_clocks_farther pm_clocks_farther an_clocks_farther cd_clocks_farther ct_clocks_farther), sl_clocks_farther⟩)
    (c_clocks_farther : PySem.W.codeIn K cd_clocks_farther "clocks_farther" = true)
    (k_clocks_farther : PySem.W.keepIn K (.ref fa_clocks_farther) = true)
    (a_farther : PySem.W.nsIn K mainGlobals "farther" = some (some (.ref fa_farther)))
    (l_farther : K.lookup fa_farther = some ⟨oc_farther, od_farther, .func (PySem.W.fnOf "farther" "farther" (defArgs s_farther) (defBody s_farther) (defScope s_farther) .none kV_farther dc_farther pm_farther an_farther cd_farther ct_farther), sl_farther⟩)
    (c_farther : PySem.W.codeIn K cd_farther "farther" = true)
    (k_farther : PySem.W.keepIn K (.ref fa_farther) = true)
    (a__linked_with : PySem.W.nsIn K mainGlobals "_linked_with" = some (some (.ref fa__linked_with)))
    (l__linked_with : K.lookup fa__linked_with = some ⟨oc__linked_with, od__linked_with, .func (PySem.W.fnOf "_linked_with" "_linked_with" (defArgs s__linked_with) (defBody s__linked_with) (defScope s__linked_with) .none kV__linked_with dc__linked_with pm__linked_with an__linked_with cd__linked_with ct__linked_with), sl__linked_with⟩)
    (c__linked_with : PySem.W.codeIn K cd__linked_with "_linked_with" = true)
    (k__linked_with : PySem.W.keepIn K (.ref fa__linked_with) = true)
    (a_linked : PySem.W.nsIn K mainGlobals "linked" = some (some (.ref fa_linked)))
    (l_linked : K.lookup fa_linked = some ⟨oc_linked, od_linked, .func (PySem.W.fnOf "linked" "linked" (defArgs s_linked) (defBody s_linked) (defScope s_linked) .none kV_linked dc_linked pm_linked an_linked cd_linked ct_linked), sl_linked⟩)
    (c_linked : PySem.W.codeIn K cd_linked "linked" = true)
    (k_linked : PySem.W.keepIn K (.ref fa_linked) = true)
    (a__links : PySem.W.nsIn K mainGlobals "_links" = some (some (.ref fa__links)))
    (l__links : K.lookup fa__links = some ⟨oc__links, od__links, .func (PySem.W.fnOf "_links" "_links" (defArgs s__links) (defBody s__links) (defScope s__links) .none kV__links dc__links pm__links an__links cd__links ct__links), sl__links⟩)
    (c__links : PySem.W.codeIn K cd__links "_links" = true)
    (k__links : PySem.W.keepIn K (.ref fa__links) = true)
    (a_alive : PySem.W.nsIn K mainGlobals "alive" = some (some (.ref fa_alive)))
    (l_alive : K.lookup fa_alive = some ⟨oc_alive, od_alive, .func (PySem.W.fnOf "alive" "alive" (defArgs s_alive) (defBody s_alive) (defScope s_alive) .none kV_alive dc_alive pm_alive an_alive cd_alive ct_alive), sl_alive⟩)
    (c_alive : PySem.W.codeIn K cd_alive "alive" = true)
    (k_alive : PySem.W.keepIn K (.ref fa_alive) = true)
    (a_law : PySem.W.nsIn K mainGlobals "law" = some (some (.ref fa_law)))
    (l_law : K.lookup fa_law = some ⟨oc_law, od_law, .func (PySem.W.fnOf "law" "law" (defArgs s_law) (defBody s_law) (defScope s_law) .none kV_law dc_law pm_law an_law cd_law ct_law), sl_law⟩)
    (c_law : PySem.W.codeIn K cd_law "law" = true)
    (k_law : PySem.W.keepIn K (.ref fa_law) = true)
    (z_abs : PySem.W.nsIn K mainGlobals "abs" = some none)
    (z_any : PySem.W.nsIn K mainGlobals "any" = some none)
    (z_enumerate : PySem.W.nsIn K mainGlobals "enumerate" = some none)
    (z_int : PySem.W.nsIn K mainGlobals "int" = some none)
    (z_isinstance : PySem.W.nsIn K mainGlobals "isinstance" = some none)
    (z_len : PySem.W.nsIn K mainGlobals "len" = some none)
    (z_list : PySem.W.nsIn K mainGlobals "list" = some none)
    (z_max : PySem.W.nsIn K mainGlobals "max" = some none)
    (z_range : PySem.W.nsIn K mainGlobals "range" = some none)
    (z_set : PySem.W.nsIn K mainGlobals "set" = some none)
    (z_sorted : PySem.W.nsIn K mainGlobals "sorted" = some none)
    (z_sum : PySem.W.nsIn K mainGlobals "sum" = some none)
    (z_tuple : PySem.W.nsIn K mainGlobals "tuple" = some none)
    (z_zip : PySem.W.nsIn K mainGlobals "zip" = some none) :
    ∃ fd : FuncData, (∀ (s : Shared) (v : Value), BindsTo s fd ⟨[v], []⟩ [("script", v)]) ∧ ∀ base : Heap, K.In base → base.Ns mainGlobals mg → FnOk l.prog w K mg base CX0 8 fa fd ["script"] (spL K F_law) := by
  have e := hfa.symm.trans (PySem.W.mg_of X G a_law)
  cases e
  let cA : Nat → Addr := (fun n => match n with | 17 => C_Layer | 18 => C_Pace | _ => C_Layer)
  have T_Layer : ClsT K C_Layer ["boxes", "speed", "drift", "per", "moment"] := ⟨⟨pg_Layer, hd_Layer, po_Layer, sa_Layer⟩, by simp only [List.forall_mem_cons, List.not_mem_nil, false_implies, implies_true, and_true]; exact ⟨na_Layer_boxes, na_Layer_speed, na_Layer_drift, na_Layer_per, na_Layer_moment⟩⟩
  have mC_Layer : mg "Layer" = some (.ref (cA 17)) := PySem.W.mg_of X G aC_Layer
  have T_Pace : ClsT K C_Pace ["boxes", "speed", "drift", "per", "moment"] := ⟨⟨pg_Pace, hd_Pace, po_Pace, sa_Pace⟩, by simp only [List.forall_mem_cons, List.not_mem_nil, false_implies, implies_true, and_true]; exact ⟨na_Pace_boxes, na_Pace_speed, na_Pace_drift, na_Pace_per, na_Pace_moment⟩⟩
  have mC_Pace : mg "Pace" = some (.ref (cA 18)) := PySem.W.mg_of X G aC_Pace
  have T : ∀ c, ClsT K ((fun n => match n with | 17 => C_Layer | 18 => C_Pace | _ => C_Layer) c) ["boxes", "speed", "drift", "per", "moment"] := fun c => by dsimp only; split <;> first | exact T_Layer | exact T_Pace
  have fu__law_number := fun_mk (st := s__law_number) l__law_number c__law_number k__law_number
  have b__law_number := fu__law_number.binds (ps := ["script", "k"]) fun _ _ _ _ _ _ us hl => match us, hl with | [_, _], _ => rfl
  have m__law_number := PySem.W.mg_of X G a__law_number
  have fu_Pace__init__ := fun_mk (st := s_Pace__init__) l_Pace__init__ c_Pace__init__ k_Pace__init__
  have b_Pace__init__ := fu_Pace__init__.binds (ps := ["self", "speed", "drift", "per"]) fun _ _ _ _ _ _ us hl => match us, hl with | [_, _, _, _], _ => rfl
  have M_Pace : Mk K (cA 18) fa_Pace__init__ := ⟨mk_Pace, a_Pace__init__, i_Pace__init__, kc_Pace⟩
  have fu__law_pace := fun_mk (st := s__law_pace) l__law_pace c__law_pace k__law_pace
  have b__law_pace := fu__law_pace.binds (ps := ["cell"]) fun _ _ _ _ _ _ us hl => match us, hl with | [_], _ => rfl
  have m__law_pace := PySem.W.mg_of X G a__law_pace
  have fu_Layer__init__ := fun_mk (st := s_Layer__init__) l_Layer__init__ c_Layer__init__ k_Layer__init__
  have b_Layer__init__ := fu_Layer__init__.binds (ps := ["self", "moment", "boxes"]) fun _ _ _ _ _ _ us hl => match us, hl with | [_, _, _], _ => rfl
  have M_Layer : Mk K (cA 17) fa_Layer__init__ := ⟨mk_Layer, a_Layer__init__, i_Layer__init__, kc_Layer⟩
  have fu__law_layer := fun_mk (st := s__law_layer) l__law_layer c__law_layer k__law_layer
  have b__law_layer := fu__law_layer.binds (ps := ["script", "k", "dims", "moment", "many"]) fun _ _ _ _ _ _ us hl => match us, hl with | [_, _, _, _, _], _ => rfl
  have m__law_layer := PySem.W.mg_of X G a__law_layer
  have fu__law_layers := fun_mk (st := s__law_layers) l__law_layers c__law_layers k__law_layers
  have b__law_layers := fu__law_layers.binds (ps := ["script", "k", "dims"]) fun _ _ _ _ _ _ us hl => match us, hl with | [_, _, _], _ => rfl
  have m__law_layers := PySem.W.mg_of X G a__law_layers
  have fu__law_gap := fun_mk (st := s__law_gap) l__law_gap c__law_gap k__law_gap
  have b__law_gap := fu__law_gap.binds (ps := ["box", "other"]) fun _ _ _ _ _ _ us hl => match us, hl with | [_, _], _ => rfl
  have m__law_gap := PySem.W.mg_of X G a__law_gap
  have fu__law_linked := fun_mk (st := s__law_linked) l__law_linked c__law_linked k__law_linked
  have b__law_linked := fu__law_linked.binds (ps := ["pace", "ticks", "box", "other"]) fun _ _ _ _ _ _ us hl => match us, hl with | [_, _, _, _], _ => rfl
  have m__law_linked := PySem.W.mg_of X G a__law_linked
  have fu__law_is_chain := fun_mk (st := s__law_is_chain) l__law_is_chain c__law_is_chain k__law_is_chain
  have b__law_is_chain := fu__law_is_chain.binds (ps := ["pace", "layers", "chain"]) fun _ _ _ _ _ _ us hl => match us, hl with | [_, _, _], _ => rfl
  have m__law_is_chain := PySem.W.mg_of X G a__law_is_chain
  have fu__law_chains := fun_mk (st := s__law_chains) l__law_chains c__law_chains k__law_chains
  have b__law_chains := fu__law_chains.binds (ps := ["pace", "layers"]) fun _ _ _ _ _ _ us hl => match us, hl with | [_, _], _ => rfl
  have m__law_chains := PySem.W.mg_of X G a__law_chains
  have fu_places_ending := fun_mk (st := s_places_ending) l_places_ending c_places_ending k_places_ending
  have b_places_ending := fu_places_ending.binds (ps := ["layers", "links"]) fun _ _ _ _ _ _ us hl => match us, hl with | [_, _], _ => rfl
  have m_places_ending := PySem.W.mg_of X G a_places_ending
  have fu__leading_to := fun_mk (st := s__leading_to) l__leading_to c__leading_to k__leading_to
  have b__leading_to := fu__leading_to.binds (ps := ["table", "places", "following"]) fun _ _ _ _ _ _ us hl => match us, hl with | [_, _, _], _ => rfl
  have m__leading_to := PySem.W.mg_of X G a__leading_to
  have fu_places_alive := fun_mk (st := s_places_alive) l_places_alive c_places_alive k_places_alive
  have b_places_alive := fu_places_alive.binds (ps := ["layers", "links"]) fun _ _ _ _ _ _ us hl => match us, hl with | [_, _], _ => rfl
  have m_places_alive := PySem.W.mg_of X G a_places_alive
  have fu__ticks := fun_mk (st := s__ticks) l__ticks c__ticks k__ticks
  have b__ticks := fu__ticks.binds (ps := ["layer", "other"]) fun _ _ _ _ _ _ us hl => match us, hl with | [_, _], _ => rfl
  have m__ticks := PySem.W.mg_of X G a__ticks
  have fu_gap := fun_mk (st := s_gap) l_gap c_gap k_gap
  have b_gap := fu_gap.binds (ps := ["side", "other"]) fun _ _ _ _ _ _ us hl => match us, hl with | [_, _], _ => rfl
  have m_gap := PySem.W.mg_of X G a_gap
  have fu_between := fun_mk (st := s_between) l_between c_between k_between
  have b_between := fu_between.binds (ps := ["box", "other"]) fun _ _ _ _ _ _ us hl => match us, hl with | [_, _], _ => rfl
  have m_between := PySem.W.mg_of X G a_between
  have fu_clocks_farther := fun_mk (st := s_clocks_farther) l_clocks_farther c_clocks_farther k_clocks_farther
  have b_clocks_farther := fu_clocks_farther.binds (ps := ["setting", "ticks", "box", "other"]) fun _ _ _ _ _ _ us hl => match us, hl with | [_, _, _, _], _ => rfl
  have m_clocks_farther := PySem.W.mg_of X G a_clocks_farther
  have fu_farther := fun_mk (st := s_farther) l_farther c_farther k_farther
  have b_farther := fu_farther.binds (ps := ["setting", "ticks", "box", "other"]) fun _ _ _ _ _ _ us hl => match us, hl with | [_, _, _, _], _ => rfl
  have m_farther := PySem.W.mg_of X G a_farther
  have fu__linked_with := fun_mk (st := s__linked_with) l__linked_with c__linked_with k__linked_with
  have b__linked_with := fu__linked_with.binds (ps := ["pace", "layer", "place", "other"]) fun _ _ _ _ _ _ us hl => match us, hl with | [_, _, _, _], _ => rfl
  have m__linked_with := PySem.W.mg_of X G a__linked_with
  have fu_linked := fun_mk (st := s_linked) l_linked c_linked k_linked
  have b_linked := fu_linked.binds (ps := ["pace", "layer", "other"]) fun _ _ _ _ _ _ us hl => match us, hl with | [_, _, _], _ => rfl
  have m_linked := PySem.W.mg_of X G a_linked
  have fu__links := fun_mk (st := s__links) l__links c__links k__links
  have b__links := fu__links.binds (ps := ["pace", "layers"]) fun _ _ _ _ _ _ us hl => match us, hl with | [_, _], _ => rfl
  have m__links := PySem.W.mg_of X G a__links
  have fu_alive := fun_mk (st := s_alive) l_alive c_alive k_alive
  have b_alive := fu_alive.binds (ps := ["pace", "layers"]) fun _ _ _ _ _ _ us hl => match us, hl with | [_, _], _ => rfl
  have m_alive := PySem.W.mg_of X G a_alive
  have fu_law := fun_mk (st := s_law) l_law c_law k_law
  have mz_abs := PySem.W.mg_none_of X G z_abs
  have mz_any := PySem.W.mg_none_of X G z_any
  have mz_enumerate := PySem.W.mg_none_of X G z_enumerate
  have mz_int := PySem.W.mg_none_of X G z_int
  have mz_isinstance := PySem.W.mg_none_of X G z_isinstance
  have mz_len := PySem.W.mg_none_of X G z_len
  have mz_list := PySem.W.mg_none_of X G z_list
  have mz_max := PySem.W.mg_none_of X G z_max
  have mz_range := PySem.W.mg_none_of X G z_range
  have mz_set := PySem.W.mg_none_of X G z_set
  have mz_sorted := PySem.W.mg_none_of X G z_sorted
  have mz_sum := PySem.W.mg_none_of X G z_sum
  have mz_tuple := PySem.W.mg_none_of X G z_tuple
  have mz_zip := PySem.W.mg_none_of X G z_zip
  refine ⟨PySem.W.fnOf "law" "law" (defArgs s_law) (defBody s_law) (defScope s_law) .none kV_law dc_law pm_law an_law cd_law ct_law, fun s v => .of_eq rfl, fun base _ _ => ?_⟩
  have o__law_number := ok__law_number (P := l.prog) (w := w) (mg := mg) (base := base) (cA := cA) fu__law_number mz_int mz_len
  have o_Pace__init__ := ok_Pace__init__ (P := l.prog) (w := w) (mg := mg) (base := base) (cA := cA) fu_Pace__init__ T
  have o__law_pace := ok__law_pace (P := l.prog) (w := w) (mg := mg) (base := base) (cA := cA) fu__law_pace T o_Pace__init__ b_Pace__init__ M_Pace mC_Pace mz_int
  have o_Layer__init__ := ok_Layer__init__ (P := l.prog) (w := w) (mg := mg) (base := base) (cA := cA) fu_Layer__init__ T
  have o__law_layer := ok__law_layer (P := l.prog) (w := w) (mg := mg) (base := base) (cA := cA) fu__law_layer T o__law_number b__law_number m__law_number k__law_number o_Layer__init__ b_Layer__init__ M_Layer mC_Layer mz_int mz_range mz_tuple
  have o__law_layers := ok__law_layers (P := l.prog) (w := w) (mg := mg) (base := base) (cA := cA) fu__law_layers o__law_number b__law_number m__law_number k__law_number o__law_layer b__law_layer m__law_layer k__law_layer mz_int mz_range
  have o__law_gap := ok__law_gap (P := l.prog) (w := w) (mg := mg) (base := base) (cA := cA) fu__law_gap mz_len mz_max mz_range
  have o__law_linked := ok__law_linked (P := l.prog) (w := w) (mg := mg) (base := base) (cA := cA) fu__law_linked T o__law_gap b__law_gap m__law_gap k__law_gap mz_max
  have o__law_is_chain := ok__law_is_chain (P := l.prog) (w := w) (mg := mg) (base := base) (cA := cA) fu__law_is_chain T o__law_linked b__law_linked m__law_linked k__law_linked mz_len mz_range
  have o__law_chains := ok__law_chains (P := l.prog) (w := w) (mg := mg) (base := base) (cA := cA) fu__law_chains T o__law_is_chain b__law_is_chain m__law_is_chain k__law_is_chain mz_len mz_list mz_range
  have o_places_ending := ok_places_ending (P := l.prog) (w := w) (mg := mg) (base := base) (cA := cA) fu_places_ending T mz_len mz_range mz_set mz_sorted mz_tuple
  have o__leading_to := ok__leading_to (P := l.prog) (w := w) (mg := mg) (base := base) (cA := cA) fu__leading_to mz_any mz_set mz_tuple
  have o_places_alive := ok_places_alive (P := l.prog) (w := w) (mg := mg) (base := base) (cA := cA) fu_places_alive o_places_ending b_places_ending m_places_ending k_places_ending o__leading_to b__leading_to m__leading_to k__leading_to mz_zip
  have o__ticks := ok__ticks (P := l.prog) (w := w) (mg := mg) (base := base) (cA := cA) fu__ticks T mz_abs
  have o_gap := ok_gap (P := l.prog) (w := w) (mg := mg) (base := base) (cA := cA) fu_gap mz_max
  have o_between := ok_between (P := l.prog) (w := w) (mg := mg) (base := base) (cA := cA) fu_between o_gap b_gap m_gap k_gap mz_sum mz_zip
  have o_clocks_farther := ok_clocks_farther (P := l.prog) (w := w) (mg := mg) (base := base) (cA := cA) fu_clocks_farther T o_gap b_gap m_gap k_gap
  have o_farther := ok_farther (P := l.prog) (w := w) (mg := mg) (base := base) (cA := cA) fu_farther T o_between b_between m_between k_between o_clocks_farther b_clocks_farther m_clocks_farther k_clocks_farther
  have o__linked_with := ok__linked_with (P := l.prog) (w := w) (mg := mg) (base := base) (cA := cA) fu__linked_with T o__ticks b__ticks m__ticks k__ticks o_farther b_farther m_farther k_farther mz_enumerate mz_tuple
  have o_linked := ok_linked (P := l.prog) (w := w) (mg := mg) (base := base) (cA := cA) fu_linked T o__linked_with b__linked_with m__linked_with k__linked_with mz_len mz_range
  have o__links := ok__links (P := l.prog) (w := w) (mg := mg) (base := base) (cA := cA) fu__links o_linked b_linked m_linked k_linked mz_zip
  have o_alive := ok_alive (P := l.prog) (w := w) (mg := mg) (base := base) (cA := cA) fu_alive o_places_alive b_places_alive m_places_alive k_places_alive o__links b__links m__links k__links
  exact (ok_law (cA := cA) fu_law T o__law_number b__law_number m__law_number k__law_number o__law_pace b__law_pace m__law_pace k__law_pace o__law_layers b__law_layers m__law_layers k__law_layers o__law_chains b__law_chains m__law_chains k__law_chains o_alive b_alive m_alive k_alive mz_int mz_isinstance mz_len mz_list mz_range mz_tuple).imp fun vs H Q E h => spL_imp (g := gg K cA) h
end Pg
namespace Pg
open PySem PySem.Spec PyProof.Rows L2 Ev Lib LibT
section
variable {S : SetV} {n : Nat} {Ls : List Ly}
theorem F_alive' (k : S.ok) (hn : n ≤ 10) (hL : LsO n Ls) (h : HP) : F_alive [paD S, .lst (Ls.map layD)] h = .ok (.lst ((alV S n Ls).map tupI)) h := by
  have f1 := fun h => F_links' k hn hL h
  have f2 := fun h => F_places_alive' (S := S) hL h
  have pr := pure_clean h (clean_lst (ds := (alV S n Ls).map tupI) fun d hd => by
    obtain ⟨x, _, rfl⟩ := List.mem_map.mp hd
    exact clean_ints x)
  generalize (alV S n Ls).map tupI = vs at *
  generalize (lnks S n Ls).map tblD = ts at *
  generalize Ls.map layD = xs at *
  simp [F_alive, f1, f2, pr]
def hasAt (S : SetV) (n : Nat) (Ls : List Ly) (i : Nat) (p : Int) : Bool := (csV S n Ls Ls.length).any fun c => decide (c.getD i 0 = p)
def dueI (S : SetV) (n : Nat) (Ls : List Ly) (i : Nat) : List Int := (rngI (szI Ls i)).filter (hasAt S n Ls i)
theorem due_eq (hL : LsO n Ls) {i : Nat} (hi : i < Ls.length) : dueI S n Ls i = alR S n Ls (Ls.length - 1 - i) := by
  refine EvS.pw_same (List.Pairwise.filter _ ?_) alR_pw fun p => ?_
  · unfold rngI
    rw [List.pairwise_map]
    exact List.Pairwise.imp (fun h => by omega) List.pairwise_lt_range
  · unfold dueI hasAt
    rw [List.mem_filter, mem_rngI, List.any_eq_true, mem_alR hL (by omega)]
    constructor
    · rintro ⟨_, c, hc, e⟩
      exact ⟨c, (mem_cs (Nat.le_refl _)).mp hc, by rw [show Ls.length - 1 - (Ls.length - 1 - i) = i by omega]; exact decide_eq_true_eq.mp e⟩
    · rintro ⟨c, hc, e⟩
      rw [show Ls.length - 1 - (Ls.length - 1 - i) = i by omega] at e
      have := hc.bd hi
      rw [e] at this
      exact ⟨this, c, (mem_cs (Nat.le_refl _)).mpr hc, decide_eq_true e⟩
theorem pl_turn (hL : LsO n Ls) {i : Nat} (hi : i < Ls.length) (p : Nat) (z0 z1 z2 z3 z5 y9 y10 : Option D) (H : HP) {acc : List D} (ha : acc.length ≤ 100) :
    B_law_1 [z0, z1, z2, z3, some (.lst ((csV S n Ls Ls.length).map tupI)), z5, some (.int i), some (.ref H.length), some (.int p), y9, y10] (H ++ [.lst acc]) =
      .nx [z0, z1, z2, z3, some (.lst ((csV S n Ls Ls.length).map tupI)), z5, some (.int i), some (.ref H.length), some (.int p), y9, y10] (H ++ [.lst (acc ++ if hasAt S n Ls i p = true then [.int p] else [])]) := by
  obtain ⟨c1, c2⟩ := cs_len (S := S) hL (Nat.le_refl Ls.length)
  have f4 := hL.few
  have p4 : 9 ^ Ls.length ≤ 9 ^ 4 := Nat.pow_le_pow_right (by decide) f4
  have lc : C_law_1 false [z0, z1, z2, z3, some (.lst ((csV S n Ls Ls.length).map tupI)), z5, some (.int i), some (.ref H.length), some (.int p), y9, y10] (H ++ [.lst acc]) = _ :=
    mLc_tyF (h1 := H ++ [.lst acc]) (csV S n Ls Ls.length) tupI tupI (fun c => decide (c.getD i 0 = (p : Int))) (by
      generalize (csV S n Ls Ls.length).map tupI = xs
      simp) (by omega)
      (fun c hc h' => by
        have ac := at_intD (c := c) (i := i) (by rw [c2 c hc]; exact hi)
        generalize (csV S n Ls Ls.length).map tupI = xs at *
        unfold tupI
        generalize c.getD i 0 = v at *
        generalize c.map D.int = cs at *
        refine ⟨[z0, z1, z2, z3, some (.lst xs), z5, some (.int i), some (.ref H.length), some (.int p), y9, some (.tup cs)], by simp, ?_, by simp⟩
        by_cases q : v = (p : Int)
        · simp [ac, sh_int, PyData.eqv, q]
        · simp [ac, sh_int, PyData.eqv, q]) fun c _ _ => clean_ints c
  have ap := appL_last (y := .int (p : Int)) (ds := acc) H (by rw [sizeLine_eq]; omega)
  have ez : hasAt S n Ls i p = true ↔ 0 < ((csV S n Ls Ls.length).filter fun c => decide (c.getD i 0 = (p : Int))).length := by
    unfold hasAt
    rw [List.any_eq_true, List.length_pos_iff_exists_mem]
    constructor
    · rintro ⟨c, hc, e⟩
      exact ⟨c, List.mem_filter.mpr ⟨hc, e⟩⟩
    · rintro ⟨c, hc⟩
      exact ⟨c, (List.mem_filter.mp hc).1, (List.mem_filter.mp hc).2⟩
  generalize (csV S n Ls Ls.length).filter (fun c => decide (c.getD i 0 = (p : Int))) = fs at *
  have lf : (fs.map tupI).length = fs.length := by simp
  generalize fs.map tupI = ds at *
  generalize (csV S n Ls Ls.length).map tupI = xs at *
  by_cases q : 0 < fs.length
  · rw [if_pos (ez.mpr q)]
    simp [lc, lf, q, ap]
  · rw [if_neg (fun z => q (ez.mp z)), List.append_nil]
    simp [lc, lf, q]
theorem at_turn (hL : LsO n Ls) {i : Nat} (hi : i < Ls.length) (z0 z1 z2 y7 y8 y9 y10 : Option D) (h j : HP) {acc : List D} (ha : acc.length ≤ 100) :
    ∃ x7 x8 j', B_law_2 [z0, z1, z2, some (.lst (Ls.map layD)), some (.lst ((csV S n Ls Ls.length).map tupI)), some (.ref h.length), some (.int i), y7, y8, y9, y10] (h ++ .lst acc :: j) =
      .nx [z0, z1, z2, some (.lst (Ls.map layD)), some (.lst ((csV S n Ls Ls.length).map tupI)), some (.ref h.length), some (.int i), x7, x8, y9, y10] (h ++ .lst (acc ++ [tupI (dueI S n Ls i)]) :: j') := by
  have z9 := szI_le hL hi
  obtain ⟨_, h1, e1, ⟨x8, rfl⟩, hh⟩ := for_rng (asg := gNm 8) (body := B_law_1) (n := szI Ls i)
    (fun p env h' => (∃ x8, env = [z0, z1, z2, some (.lst (Ls.map layD)), some (.lst ((csV S n Ls Ls.length).map tupI)), some (.ref h.length), some (.int i), some (.ref (h ++ .lst acc :: j).length), x8, y9, y10]) ∧ h' = (h ++ .lst acc :: j) ++ [.lst (((rngI p).filter (hasAt S n Ls i)).map D.int)])
    (fun p env h' hp hI => by
      obtain ⟨⟨x8, rfl⟩, rfl⟩ := hI
      refine ⟨_, rfl, _, _, .inl (pl_turn hL hi p _ _ _ _ _ _ _ _ ?_), ⟨_, rfl⟩, ?_⟩
      · have := List.length_filter_le (hasAt S n Ls i) (rngI p)
        have e : (rngI p).length = p := by simp [rngI]
        rw [List.length_map]
        omega
      · have e : rngI (p + 1) = rngI p ++ [(p : Int)] := by unfold rngI; rw [List.range_succ, List.map_append]; rfl
        rw [e, List.filter_append, List.map_append]
        cases q : hasAt S n Ls i p <;> simp [q])
    (env := [z0, z1, z2, some (.lst (Ls.map layD)), some (.lst ((csV S n Ls Ls.length).map tupI)), some (.ref h.length), some (.int i), some (.ref (h ++ .lst acc :: j).length), y8, y9, y10]) (h := (h ++ .lst acc :: j) ++ [.lst []]) ⟨⟨y8, rfl⟩, by simp [rngI]⟩
  rw [hh] at e1
  have ed : (rngI (szI Ls i)).filter (hasAt S n Ls i) = dueI S n Ls i := rfl
  rw [ed] at e1
  have al := at_lay hi
  have rg := rg_nat (n := szI Ls i) (by omega)
  have ll : ((lyA Ls i).bs.map boxD).length = szI Ls i := by simp [szI]
  have dl : (dueI S n Ls i).length ≤ 16000000 := by
    have := List.length_filter_le (hasAt S n Ls i) (rngI (szI Ls i))
    have e : (rngI (szI Ls i)).length = szI Ls i := by simp [rngI]
    unfold dueI
    omega
  have lz : ((dueI S n Ls i).map D.int).length ≤ 16000000 := by rw [List.length_map]; exact dl
  have ap := LibT.appJ (a := acc) (tupI (dueI S n Ls i)) h (j ++ [.lst ((dueI S n Ls i).map D.int)]) (by rw [sizeLine_eq]; omega)
  have ix : (h ++ .lst acc :: j ++ [O.lst ((dueI S n Ls i).map D.int)])[(h ++ .lst acc :: j).length]? = some (.lst ((dueI S n Ls i).map D.int)) := by simp
  have ih : (h ++ .lst acc :: j ++ [O.lst ((dueI S n Ls i).map D.int)])[h.length]? = some (.lst acc) := by simp
  have es : h ++ .lst acc :: j ++ [O.lst ((dueI S n Ls i).map D.int)] = h ++ .lst acc :: (j ++ [.lst ((dueI S n Ls i).map D.int)]) := by simp
  refine ⟨some (.ref (h ++ .lst acc :: j).length), x8, j ++ [.lst ((dueI S n Ls i).map D.int)], ?_⟩
  rw [← es] at ap
  generalize h ++ .lst (acc ++ [tupI (dueI S n Ls i)]) :: (j ++ [O.lst ((dueI S n Ls i).map D.int)]) = H2 at *
  unfold tupI at ap
  generalize hl1 : layD (lyA Ls i) = l1 at *
  have i1 : ∀ h, asI h l1 = some (17, layF (lyA Ls i)) := fun h => by rw [← hl1]; rfl
  simp only [layF] at i1
  generalize (lyA Ls i).bs.map boxD = bs at *
  generalize (dueI S n Ls i).map D.int = dd at *
  generalize (csV S n Ls Ls.length).map tupI = cc at *
  generalize Ls.map layD = xs at *
  generalize h ++ .lst acc :: j = H at *
  simp [i1, List.lookup, al, ll, rg, e1, ix, lz, ih, ap]
end
theorem law_true (ns : List Int) (hl : ns.length ≤ 63) (hb : ∀ z ∈ ns, Builtin.Int.intBits z ≤ 1048576) : F_law [.klst (ns.map D.int)] [] = .ok (.bl true) [] := by
  have hn : Okn ns := ⟨hl, fun z hz => bits_sz (hb z hz)⟩
  have n0 : ∀ h, F__law_number [Sc ns, .int 0] h = .ok (.int (num ns 0)) h := fun h => F_number hn (k := 0) (by omega) h
  obtain ⟨n, en⟩ : ∃ n : Nat, 2 + num ns 0 % 2 = (n : Int) := ⟨(2 + num ns 0 % 2).toNat, by omega⟩
  have h3 : n ≤ 3 := by omega
  have fl : ∀ h, LibT.F__law_layers [Sc ns, .int 1, .int (n : Int)] h = .ok (.lst ((lsV ns 1 n).map layD)) h := fun h => F_layers' hn (k := 1) (by omega) h3 h
  have hL := (lsV_ok ns 1 n).o
  have k := paV_ok (num ns 0 / 2)
  have fp := fun h => F_pace (num ns 0 / 2) h
  generalize paV (num ns 0 / 2) = S at *
  generalize lsV ns 1 n = Ls at *
  have fc := fun h => F_chains' k (by omega : n ≤ 10) hL h
  have fa := fun h => F_alive' k (by omega : n ≤ 10) hL h
  have f4 := hL.few
  have eSc : D.klst (ns.map D.int) = Sc ns := rfl
  rw [eSc]
  obtain ⟨_, h1, e1, ⟨x6, x7, x8, rfl⟩, j, hh⟩ := for_rng (asg := gNm 6) (body := B_law_2) (n := Ls.length)
    (fun i env h' => (∃ x6 x7 x8, env = [some (Sc ns), some (.int (num ns 0)), some (paD S), some (.lst (Ls.map layD)), some (.lst ((csV S n Ls Ls.length).map tupI)), some (.ref 0), x6, x7, x8, none, none]) ∧ ∃ j, h' = .lst (((List.range i).map (dueI S n Ls)).map tupI) :: j)
    (fun i env h' hi hI => by
      obtain ⟨⟨x6, x7, x8, rfl⟩, j, rfl⟩ := hI
      obtain ⟨y7, y8, j', e⟩ := at_turn (S := S) hL hi (some (Sc ns)) (some (.int (num ns 0))) (some (paD S)) x7 x8 none none [] j (acc := ((List.range i).map (dueI S n Ls)).map tupI) (by simp; omega)
      refine ⟨_, rfl, _, _, .inl e, ⟨_, _, _, rfl⟩, j', ?_⟩
      rw [List.range_succ]
      simp)
    (env := [some (Sc ns), some (.int (num ns 0)), some (paD S), some (.lst (Ls.map layD)), some (.lst ((csV S n Ls Ls.length).map tupI)), some (.ref 0), none, none, none, none, none]) (h := [.lst []]) ⟨⟨none, none, none, rfl⟩, [], rfl⟩
  rw [hh] at e1
  have ed : (List.range Ls.length).map (dueI S n Ls) = alV S n Ls := List.map_congr_left fun i hi => due_eq hL (List.mem_range.mp hi)
  rw [ed] at e1
  have ll : (Ls.map layD).length = Ls.length := by simp
  have rg := rg_nat (n := Ls.length) (by omega)
  obtain ⟨q1, q2⟩ := eq_L (alV S n Ls)
  have t1 := toP_L (alV S n Ls)
  have t2 : toPs ((alV S n Ls).map tupI) = some ((alV S n Ls).map pyI) := toPs_map tupI pyI _ fun x _ => toP_I x
  have ep : pyL (alV S n Ls) = .list ((alV S n Ls).map pyI) := rfl
  rw [ep] at q1 q2
  have pr := fun b => pure_cleanJ [] (.lst ((alV S n Ls).map tupI) :: j) (clean_bl b)
  simp only [List.nil_append] at pr
  generalize (alV S n Ls).map pyI = ps at *
  generalize (alV S n Ls).map tupI = vs at *
  generalize (csV S n Ls Ls.length).map tupI = cc at *
  generalize Ls.map layD = xs at *
  generalize num ns 0 = x at *
  have kl : kitB "list" "list" = some true := by decide +kernel
  simp [F_law, n0, lg, en, fl, fp, fc, fa, ll, rg, e1, kl, t2, q1, q2, pr]
end Pg
open PySem PySem.W PyProof.Rows
set_option maxHeartbeats 0 in
theorem PySem.Challenge.cw_sureplace_k89_boxes_on_chains_holds : PySem.Challenge.rw_sureplace_k89_boxes_on_chains.Holds := by
  w_on; o_law; k_head; (case hw => w_witness2)
  k_fill
  refine L2.walk_ofB (l := PySem.Challenge.rw_sureplace_k89_boxes_on_chains) (n := 63) (k := 8) (x := "script") (CX := fun _ => L2.CX0) (sp := fun w => Ev.spL _ Pg.F_law) rfl (by decide) rfl ⟨rfl, by decide, by decide⟩ (fun w h Y => PySem.W.kIn_of Y) ?F (fun _ H a ns hl hb _ hS => ⟨a, ns, rfl, hS, Pg.law_true ns hl hb, fun _ => rfl⟩) (fun _ _ _ _ _ h => h)
  case F =>
    intro w mg fa h KX G hmg
    refine' Pg.all_mk KX G hmg ?aC_Layer ?pg_Layer ?hd_Layer ?po_Layer ?sa_Layer ?mk_Layer ?kc_Layer ?na_Layer_boxes ?na_Layer_speed ?na_Layer_drift ?na_Layer_per ?na_Layer_moment ?aC_Pace ?pg_Pace ?hd_Pace ?po_Pace ?sa_Pace ?mk_Pace ?kc_Pace ?na_Pace_boxes ?na_Pace_speed ?na_Pace_drift ?na_Pace_per ?na_Pace_moment ?a__law_number ?l__law_number ?c__law_number ?k__law_number ?a_Pace__init__ ?i_Pace__init__ ?l_Pace__init__ ?c_Pace__init__ ?k_Pace__init__ ?a__law_pace ?l__law_pace ?c__law_pace ?k__law_pace ?a_Layer__init__ ?i_Layer__init__ ?l_Layer__init__ ?c_Layer__init__ ?k_Layer__init__ ?a__law_layer ?l__law_layer ?c__law_layer ?k__law_layer ?a__law_layers ?l__law_layers ?c__law_layers ?k__law_layers ?a__law_gap ?l__law_gap ?c__law_gap ?k__law_gap ?a__law_linked ?l__law_linked ?c__law_linked ?k__law_linked ?a__law_is_chain ?l__law_is_chain ?c__law_is_chain ?k__law_is_chain ?a__law_chains ?l__law_chains ?c__law_chains ?k__law_chains ?a_places_ending ?l_places_ending ?c_places_ending ?k_places_ending ?a__leading_to ?l__leading_to ?c__leading_to ?k__leading_to ?a_places_alive ?l_places_alive ?c_places_alive ?k_places_alive ?a__ticks ?l__ticks ?c__ticks ?k__ticks ?a_gap ?l_gap ?c_gap ?k_gap ?a_between ?l_between ?c_between ?k_between ?a_clocks_farther ?l_clocks_farther ?c_clocks_farther ?k_clocks_farther ?a_farther ?l_farther ?c_farther ?k_farther ?a__linked_with ?l__linked_with ?c__linked_with ?k__linked_with ?a_linked ?l_linked ?c_linked ?k_linked ?a__links ?l__links ?c__links ?k__links ?a_alive ?l_alive ?c_alive ?k_alive ?a_law ?l_law ?c_law ?k_law ?z_abs ?z_any ?z_enumerate ?z_int ?z_isinstance ?z_len ?z_list ?z_max ?z_range ?z_set ?z_sorted ?z_sum ?z_tuple ?z_zip
    (case aC_Layer => k_is)
    (case pg_Layer => k_is)
    (case hd_Layer => k_is)
    (case po_Layer => k_is)
    (case sa_Layer => k_is)
    (case mk_Layer => k_is)
    (case kc_Layer => k_is)
    (case na_Layer_boxes => k_is)
    (case na_Layer_speed => k_is)
    (case na_Layer_drift => k_is)
    (case na_Layer_per => k_is)
    (case na_Layer_moment => k_is)
    (case aC_Pace => k_is)
    (case pg_Pace => k_is)
    (case hd_Pace => k_is)
    (case po_Pace => k_is)
    (case sa_Pace => k_is)
    (case mk_Pace => k_is)
    (case kc_Pace => k_is)
    (case na_Pace_boxes => k_is)
    (case na_Pace_speed => k_is)
    (case na_Pace_drift => k_is)
    (case na_Pace_per => k_is)
    (case na_Pace_moment => k_is)
    (case a__law_number => k_is)
    (case l__law_number => k_is)
    (case c__law_number => k_is)
    (case k__law_number => k_is)
    (case a_Pace__init__ => k_is)
    (case i_Pace__init__ => k_is)
    (case l_Pace__init__ => k_is)
    (case c_Pace__init__ => k_is)
    (case k_Pace__init__ => k_is)
    (case a__law_pace => k_is)
    (case l__law_pace => k_is)
    (case c__law_pace => k_is)
    (case k__law_pace => k_is)
    (case a_Layer__init__ => k_is)
    (case i_Layer__init__ => k_is)
    (case l_Layer__init__ => k_is)
    (case c_Layer__init__ => k_is)
    (case k_Layer__init__ => k_is)
    (case a__law_layer => k_is)
    (case l__law_layer => k_is)
    (case c__law_layer => k_is)
    (case k__law_layer => k_is)
    (case a__law_layers => k_is)
    (case l__law_layers => k_is)
    (case c__law_layers => k_is)
    (case k__law_layers => k_is)
    (case a__law_gap => k_is)
    (case l__law_gap => k_is)
    (case c__law_gap => k_is)
    (case k__law_gap => k_is)
    (case a__law_linked => k_is)
    (case l__law_linked => k_is)
    (case c__law_linked => k_is)
    (case k__law_linked => k_is)
    (case a__law_is_chain => k_is)
    (case l__law_is_chain => k_is)
    (case c__law_is_chain => k_is)
    (case k__law_is_chain => k_is)
    (case a__law_chains => k_is)
    (case l__law_chains => k_is)
    (case c__law_chains => k_is)
    (case k__law_chains => k_is)
    (case a_places_ending => k_is)
    (case l_places_ending => k_is)
    (case c_places_ending => k_is)
    (case k_places_ending => k_is)
    (case a__leading_to => k_is)
    (case l__leading_to => k_is)
    (case c__leading_to => k_is)
    (case k__leading_to => k_is)
    (case a_places_alive => k_is)
    (case l_places_alive => k_is)
    (case c_places_alive => k_is)
    (case k_places_alive => k_is)
    (case a__ticks => k_is)
    (case l__ticks => k_is)
    (case c__ticks => k_is)
    (case k__ticks => k_is)
    (case a_gap => k_is)
    (case l_gap => k_is)
    (case c_gap => k_is)
    (case k_gap => k_is)
    (case a_between => k_is)
    (case l_between => k_is)
    (case c_between => k_is)
    (case k_between => k_is)
    (case a_clocks_farther => k_is)
    (case l_clocks_farther => k_is)
    (case c_clocks_farther => k_is)
    (case k_clocks_farther => k_is)
    (case a_farther => k_is)
    (case l_farther => k_is)
    (case c_farther => k_is)
    (case k_farther => k_is)
    (case a__linked_with => k_is)
    (case l__linked_with => k_is)
    (case c__linked_with => k_is)
    (case k__linked_with => k_is)
    (case a_linked => k_is)
    (case l_linked => k_is)
    (case c_linked => k_is)
    (case k_linked => k_is)
    (case a__links => k_is)
    (case l__links => k_is)
    (case c__links => k_is)
    (case k__links => k_is)
    (case a_alive => k_is)
    (case l_alive => k_is)
    (case c_alive => k_is)
    (case k_alive => k_is)
    (case a_law => k_is)
    (case l_law => k_is)
    (case c_law => k_is)
    (case k_law => k_is)
    (case z_abs => k_is)
    (case z_any => k_is)
    (case z_enumerate => k_is)
    (case z_int => k_is)
    (case z_isinstance => k_is)
    (case z_len => k_is)
    (case z_list => k_is)
    (case z_max => k_is)
    (case z_range => k_is)
    (case z_set => k_is)
    (case z_sorted => k_is)
    (case z_sum => k_is)
    (case z_tuple => k_is)
    (case z_zip => k_is)
