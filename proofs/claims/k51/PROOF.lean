import PyProof.Rows.All
import KE.OsRunLaw
import Wide.All
import OpenK.AllK
import Wide.FinOn
import HandS.EndBits
import HandS.ForMost
import HandS.ForExc
import HandS.Zip
import HandS.TupAny
import HandS.Wide
import HandS.Defaults
import HandS.IsInst
import HandS.ExcInit
import HandS.MakeKw
import HandS.MakeKwOnly
import HandS.Walk
import KE.KMathG
import HandS.Gcd
import HandS.Flt
import HandS.WideBits
import HandS.Deep
import Flt.RightSqrt
import HandS.OwnEq
import HandS.SortKw
import KE.KMinBuiltin
import HandS.Style
import HandS.Dict
import KE.GoesEnum
import HandS.Conv
import HandS.SetFor
import HandS.Strs
import KE.KDictZip
import HandS.FStr
import HandS.StrMore
import HandS.Text
import HandS.DictComp
import HandS.TupMul
import HandS.RevTup
import HandS.Words
import HandS.More
import PySem.Challenge.RW_sureplace_k51_how_bounds_are_widened
set_option Elab.async false
set_option linter.all false
set_option maxRecDepth 100000
noncomputable section
namespace EvH
open PySem PySem.W PySem.Calls PyProof.Rows HeadRun
section
variable (st : SharedT → Thread → Option (SharedT × Thread)) (n0 : Nat) (ann : Option Value)
def segF : Nat → SharedT → Thread → Option (SharedT × Code × Pos)
  | 0, _, _ => none
  | m + 1, s, t => match endAt 1 t with
    | some f => (match f with
      | .next => some (s, t.code, t.pos)
      | _ => none)
    | none => match stepOk n0 ann t with
      | false => none
      | true => match st s t with
        | some (s', t') => frS s' fun s' => segF m s' t'
        | none => none
def goK : Nat → SharedT → Thread → Option (SharedT × Thread)
  | 0, s, t => some (s, t)
  | m + 1, s, t => match through t with
    | true => none
    | false => match stepOk n0 ann t with
      | false => none
      | true => match st s t with
        | some (s', t') => frS s' fun s' => goK m s' t'
        | none => none
end
section
variable {tb : String → Option Builtin} {p : Program} {w : World} {n0 : Nat} {ann : Option Value}
theorem segF_ok : ∀ {m : Nat} {s s' : SharedT} {t : Thread} {c : Code} {q : Pos}, segF (stepT (denote tb) p w) n0 ann m s t = some (s', c, q) → segRun tb p w n0 ann 1 m s.abs t = some (.next, s'.abs, c, q)
  | 0, _, _, _, _, _, h => by cases h
  | m + 1, s, s', t, c, q, h => by
    have h1 : (match endAt 1 t with
      | some f => (match f with
        | .next => some (s, t.code, t.pos)
        | _ => none)
      | none => match stepOk n0 ann t with
        | false => none
        | true => match stepT (denote tb) p w s t with
          | some (s', t') => frS s' fun s' => segF (stepT (denote tb) p w) n0 ann m s' t'
          | none => none) = some (s', c, q) := h
    unfold segRun
    cases he : endAt 1 t with
    | some f =>
      rw [he] at h1
      cases f <;> cases h1
      rfl
    | none =>
      rw [he] at h1
      cases hk : stepOk n0 ann t with
      | false =>
        rw [hk] at h1
        cases h1
      | true =>
        rw [hk] at h1
        have h2 : (match stepT (denote tb) p w s t with
          | some (s', t') => frS s' fun s' => segF (stepT (denote tb) p w) n0 ann m s' t'
          | none => none) = some (s', c, q) := h1
        cases hs : stepT (denote tb) p w s t with
        | none =>
          rw [hs] at h2
          cases h2
        | some r =>
          obtain ⟨s2, t2⟩ := r
          rw [hs] at h2
          have h3 : (frS s2 fun s' => segF (stepT (denote tb) p w) n0 ann m s' t2) = some (s', c, q) := h2
          rw [frS_eq] at h3
          have k := segF_ok h3
          show (match step (denote tb) p w s.abs t with
            | .go s' t' => segRun tb p w n0 ann 1 m s' t'
            | .halt _ _ => none) = _
          rw [stepT_spec hs]
          exact k
theorem goK_ok : ∀ {m : Nat} {s s' : SharedT} {t t' : Thread}, goK (stepT (denote tb) p w) n0 ann m s t = some (s', t') → topGo tb p w n0 ann m s.abs t = some (s'.abs, t')
  | 0, s, s', t, t', h => by
    obtain ⟨rfl, rfl⟩ : s = s' ∧ t = t' := by simpa [goK] using h
    rfl
  | m + 1, s, s', t, t', h => by
    have h1 : (match through t with
      | true => none
      | false => match stepOk n0 ann t with
        | false => none
        | true => match stepT (denote tb) p w s t with
          | some (s', t') => frS s' fun s' => goK (stepT (denote tb) p w) n0 ann m s' t'
          | none => none) = some (s', t') := h
    unfold topGo
    cases ht : through t with
    | true =>
      rw [ht] at h1
      cases h1
    | false =>
      rw [ht] at h1
      cases hk : stepOk n0 ann t with
      | false =>
        rw [hk] at h1
        cases h1
      | true =>
        rw [hk] at h1
        have h2 : (match stepT (denote tb) p w s t with
          | some (s', t') => frS s' fun s' => goK (stepT (denote tb) p w) n0 ann m s' t'
          | none => none) = some (s', t') := h1
        cases hs : stepT (denote tb) p w s t with
        | none =>
          rw [hs] at h2
          cases h2
        | some r =>
          obtain ⟨s2, t2⟩ := r
          rw [hs] at h2
          have h3 : (frS s2 fun s' => goK (stepT (denote tb) p w) n0 ann m s' t2) = some (s', t') := h2
          rw [frS_eq] at h3
          have k := goK_ok h3
          show (match step (denote tb) p w s.abs t with
            | .go s' t' => topGo tb p w n0 ann m s' t'
            | .halt _ _ => none) = _
          rw [stepT_spec hs]
          exact k
end
section
variable {p : Program} {w : World} {n0 : Nat} {ann : Option Value}
theorem segQ {m : Nat} {s s' : SharedT} {t : Thread} {c : Code} {q : Pos} (h : segF (stepQ (denQ tabQ) p w) n0 ann m s t = some (s', c, q)) : segRun treeTable p w n0 ann 1 m s.abs t = some (.next, s'.abs, c, q) :=
  segF_ok (by rw [stepQ_eq, denQ_eq, tabQ_eq]; exact h)
theorem goQ {m : Nat} {s s' : SharedT} {t : Thread} {c : Code} {q : Pos} {B : List Frame} (h : goK (stepQ (denQ tabQ) p w) n0 ann m s t = some (s', ⟨denQ tabQ c, c, q, B⟩)) : topGo treeTable p w n0 ann m s.abs t = some (s'.abs, ⟨denote treeTable c, c, q, B⟩) :=
  goK_ok (by rw [stepQ_eq, denQ_eq, tabQ_eq]; exact h)
theorem finQ {m : Nat} {s s' : SharedT} {t : Thread} (h : goF (stepQ (denQ tabQ) p w) n0 ann m s t = some s') : topRun treeTable p w n0 ann m s.abs t = some s'.abs :=
  goF_ok (by rw [stepQ_eq, denQ_eq, tabQ_eq]; exact h)
end
def openT (st : Program → SharedT → Thread → Option (SharedT × Thread)) (fence : Program → Shared → Option Shared) (M : Nat) (p : Program) : Option SharedT := match impF (st (opening p)) M (startT (opening p)) (start (opening p)).2 with
  | some s => (match fence p s.abs with
    | some s0 => (match s0.heap.isNs mainGlobals && s0.gens.size == 0 with
      | true => (match treeOf s0 with
        | some x => frS x some
        | none => none)
      | false => none)
    | none => none)
  | none => none
theorem openT_ok {M : Nat} {p : Program} {w : World} {x : SharedT} (h : openT (fun q => stepT (denote treeTable) q w) fenceModules? M p = some x) :
    ∃ s0 : Shared, fencedOpening treeTable p w M = some s0 ∧ (s0.heap.isNs mainGlobals && s0.gens.size == 0) = true ∧ x.abs = s0 ∧ s0.heap.objs.size = x.n := by
  unfold openT at h
  cases e1 : impF (stepT (denote treeTable) (opening p) w) M (startT (opening p)) (start (opening p)).2 with
  | none =>
    rw [e1] at h
    cases h
  | some s =>
    rw [e1] at h
    have h1 : (match fenceModules? p s.abs with
      | some s0 => (match s0.heap.isNs mainGlobals && s0.gens.size == 0 with
        | true => (match treeOf s0 with
          | some x => frS x some
          | none => none)
        | false => none)
      | none => none) = some x := h
    have a1 := impF_ok e1
    rw [startT_eq] at a1
    cases e2 : fenceModules? p s.abs with
    | none =>
      rw [e2] at h1
      cases h1
    | some z =>
      rw [e2] at h1
      have h2 : (match z.heap.isNs mainGlobals && z.gens.size == 0 with
        | true => (match treeOf z with
          | some x => frS x some
          | none => none)
        | false => none) = some x := h1
      cases e3 : z.heap.isNs mainGlobals && z.gens.size == 0 with
      | false =>
        rw [e3] at h2
        cases h2
      | true =>
        rw [e3] at h2
        have h3 : (match treeOf z with
          | some x => frS x some
          | none => none) = some x := h2
        cases e4 : treeOf z with
        | none =>
          rw [e4] at h3
          cases h3
        | some y =>
          rw [e4] at h3
          have h4 : frS y some = some x := h3
          rw [frS_eq] at h4
          obtain rfl := Option.some.inj h4
          obtain ⟨ex, en⟩ := treeOf_eq e4
          refine ⟨z, ?_, e3, ex, en⟩
          unfold fencedOpening
          rw [a1]
          exact e2
theorem openQ_eq (M : Nat) (p : Program) (w : World) : openT (fun q => stepT (denote treeTable) q w) fenceModules? M p = openT (fun q => stepQ (denQ tabQ) q w) fenceQ M p := by
  rw [stepQ_eq, denQ_eq, tabQ_eq, fenceQ_eq]
def parts (x : SharedT) := (x.tree, x.n, x.life, x.gens, x.drawn, x.toks)
def openB (fence : Program → Shared → Option Shared) (p : Program) (s : SharedT) : Option SharedT := match fence p s.abs with
  | some s0 => (match s0.heap.isNs mainGlobals && s0.gens.size == 0 with
    | true => treeOf s0
    | false => none)
  | none => none
theorem open_two {M : Nat} {p : Program} {w : World} {T T' : BT} {n n' : Nat} {life life' : Life} {gens gens' : Array GenState} {drawn drawn' : Drawn} {toks toks' : Nat}
    (h1 : (impF (stepQ (denQ tabQ) (opening p) w) M (startT (opening p)) (start (opening p)).2).map parts = some (T', n', life', gens', drawn', toks'))
    (h2 : ∀ os : OsState, (openB fenceQ p ⟨T', n', life', gens', drawn', toks', os⟩).map parts = some (T, n, life, gens, drawn, toks)) :
    (openT (fun q => stepQ (denQ tabQ) q w) fenceQ M p).map parts = some (T, n, life, gens, drawn, toks) := by
  obtain ⟨s, hs, hp⟩ := Option.map_eq_some_iff.mp h1
  obtain ⟨T1, n1, life1, gens1, drawn1, toks1, os⟩ := s
  have hp2 : (T1, n1, life1, gens1, drawn1, toks1) = (T', n', life', gens', drawn', toks') := hp
  simp only [Prod.mk.injEq] at hp2
  obtain ⟨rfl, rfl, rfl, rfl, rfl, rfl⟩ := hp2
  have k := h2 os
  unfold openT
  rw [hs]
  rw [← k]
  unfold openB
  dsimp only
  cases fenceQ p (SharedT.abs ⟨T1, n1, life1, gens1, drawn1, toks1, os⟩) with
  | none => rfl
  | some s0 =>
    show (match s0.heap.isNs mainGlobals && s0.gens.size == 0 with
      | true => (match treeOf s0 with
        | some x => frS x some
        | none => none)
      | false => none).map parts = (match s0.heap.isNs mainGlobals && s0.gens.size == 0 with
      | true => treeOf s0
      | false => none).map parts
    cases s0.heap.isNs mainGlobals && s0.gens.size == 0 with
    | false => rfl
    | true =>
      show (match treeOf s0 with
        | some x => frS x some
        | none => none).map parts = (treeOf s0).map parts
      cases treeOf s0 with
      | none => rfl
      | some x =>
        show (frS x some).map parts = _
        rw [frS_eq]
theorem left_pieces {p q : Program} {loose : List PySem.Str} {Xt : Shared → Bool} {K : Params → Frag} {as : List Addr} {ek : ∀ P, as = (K P).map (·.1)} {N Mt : Nat} {T : World → BT} {n : Nat} {life : Life} {gens : Array GenState} {drawn : Drawn} {toks : Nat} {xf : World → OsState → SharedT} {ann : Option Value}
    (opn : ∀ w : World, (openT (fun q => stepQ (denQ tabQ) q w) fenceQ N p).map parts = some (T w, n, life, gens, drawn, toks))
    (hann : ∀ (w : World) (os : OsState), (⟨T w, n, life, gens, drawn, toks, os⟩ : SharedT).abs.heap.nsMap mainGlobals "__annotations__" = ann)
    (run : ∀ (w : World) (os : OsState), topRun treeTable p w n ann Mt (⟨T w, n, life, gens, drawn, toks, os⟩ : SharedT).abs (topStub p) = some (xf w os).abs)
    (le : Nat.ble Mt N = true)
    (looks : ∀ (w : World) (os : OsState), (looksF p (⟨T w, n, life, gens, drawn, toks, os⟩ : SharedT).abs.heap (xf w os).abs, seenQ q loose (importedModules p.main.body) Xt (xf w os).abs, as.map (getT (xf w os))) = (true, openGood q loose, (K w.params).map fun x => some x.2)) :
    LeftO p q loose Xt (Hook.obs (kHook K as ek)) (Hook.val (kHook K as ek)) N true := fun w => by
  obtain ⟨x, hx, hp⟩ := Option.map_eq_some_iff.mp (opn w)
  rw [← openQ_eq] at hx
  obtain ⟨s0, a, b, ex, en⟩ := openT_ok hx
  obtain ⟨T', n', life', gens', drawn', toks', os⟩ := x
  have hp2 : (T', n', life', gens', drawn', toks') = (T w, n, life, gens, drawn, toks) := hp
  simp only [Prod.mk.injEq] at hp2
  obtain ⟨rfl, rfl, rfl, rfl, rfl, rfl⟩ := hp2
  have en : s0.heap.objs.size = n' := en
  have r := run w os
  have hl := looks w os
  have ha := hann w os
  rw [ex] at r hl ha
  obtain ⟨l1, l23⟩ := Prod.mk.inj hl
  obtain ⟨l2, l3⟩ := Prod.mk.inj l23
  have r := topRun_mono (N - Mt) _ _ _ _ r
  rw [show Mt + (N - Mt) = N by have := Nat.le_of_ble_eq_true le; omega] at r
  rw [← en, ← ha] at r
  have l1' : (staticsOk (importedModules p.main.body) s0.heap (xf w os).abs.heap && namesBound p (xf w os).abs.heap && gensDone (xf w os).abs && laidKept s0.heap (xf w os).abs.heap) = true := l1
  have t : topFrom treeTable p w N s0 = some (xf w os).abs := by
    unfold topFrom
    rw [b]
    show (topRun treeTable p w s0.heap.objs.size (s0.heap.nsMap mainGlobals "__annotations__") N s0 (topStub p)).bind _ = _
    rw [r]
    show (match staticsOk (importedModules p.main.body) s0.heap (xf w os).abs.heap && namesBound p (xf w os).abs.heap && gensDone (xf w os).abs && laidKept s0.heap (xf w os).abs.heap with | true => some (xf w os).abs | false => none) = _
    rw [l1']
  have o1 : as.map (getT (xf w os)) = Hook.obs (kHook K as ek) (xf w os).abs := List.map_congr_left fun a _ => getT_eq (xf w os) a
  rw [o1] at l3
  rw [← seenQ_eq] at l2
  unfold openEnds
  rw [a]
  show (topFrom treeTable p w N s0).map _ = _
  rw [t]
  exact congrArg some (Prod.ext l2 l3)
section
variable {p : Program} {w : World} {n0 : Nat} {ann : Option Value} {env : Env} {q : Pos} {r : Shared}
theorem chain_pre {k m N : Nat} {x xa xb : SharedT} {b b' : List Stmt} {pos pos' : Pos} (hb : b = b')
    (h1 : goK (stepQ (denQ tabQ) p w) n0 ann k x (topStub p) = some (xa, ⟨denQ tabQ (.body b env), .body b env, pos, [topFrame q]⟩))
    (h2 : segF (stepQ (denQ tabQ) p w) n0 ann m xa (blockOf b env (.body b env) pos [topFrame q]) = some (xb, .body b env, pos'))
    (h3 : topRun treeTable p w n0 ann N xb.abs (restOf b' env (.body b env) pos' [topFrame q]) = some r) : topRun treeTable p w n0 ann (k + (m + N)) x.abs (topStub p) = some r := by
  refine go_top (goQ h1) (piece_block (segQ h2) ?_)
  refine Eq.trans (congrArg (fun l => topRun treeTable p w n0 ann N xb.abs (restOf l env (.body b env) pos' [topFrame q])) hb) h3
theorem chain_seg {m N : Nat} {x y : SharedT} {l rest : List Stmt} {c : Code} {pos pos' : Pos}
    (h1 : segF (stepQ (denQ tabQ) p w) n0 ann m x (piecesOf l env c pos [topFrame q]) = some (y, c, pos'))
    (h2 : topRun treeTable p w n0 ann N y.abs (restOf rest env c pos' [topFrame q]) = some r) : topRun treeTable p w n0 ann (m + N) x.abs (restOf (l ++ rest) env c pos [topFrame q]) = some r :=
  piece_app (segQ h1) h2
theorem chain_fin {m : Nat} {x y : SharedT} {c : Code} {pos : Pos} (h : goF (stepQ (denQ tabQ) p w) n0 ann m x ⟨doneF .next, c, pos, [topFrame q]⟩ = some y) : topRun treeTable p w n0 ann m x.abs (restOf [] env c pos [topFrame q]) = some y.abs :=
  piece_nil (finQ h)
end
theorem tri {α β γ : Type} {a a' : α} {b b' : β} {c c' : γ} (h1 : a = a') (h2 : b = b') (h3 : c = c') : (a, b, c) = (a', b', c') := by subst h1 h2 h3; rfl
theorem good_of {q : Program} {loose mods : List PySem.Str} {Xt : Shared → Bool} {s : Shared} (h0 : (seenQ q loose mods Xt s).1 = expectedOf q) (h1 : (seenQ q loose mods Xt s).2.1 = bltViewBooted) (h2 : (seenQ q loose mods Xt s).2.2.1 = true) (h3 : (seenQ q loose mods Xt s).2.2.2.1 = true)
    (h4 : (seenQ q loose mods Xt s).2.2.2.2.1 = pinGoodD (drecsOf q)) (h5 : (seenQ q loose mods Xt s).2.2.2.2.2.1 = plainGoodE q (looseW q loose)) (h6 : (seenQ q loose mods Xt s).2.2.2.2.2.2.1 = plainGoodD q loose) (h7 : (seenQ q loose mods Xt s).2.2.2.2.2.2.2.1 = wideGood q)
    (h8 : (seenQ q loose mods Xt s).2.2.2.2.2.2.2.2 = clsGoodW q loose) : seenQ q loose mods Xt s = openGood q loose := by
  unfold openGood
  rw [← h0, ← h1, ← h4, ← h5, ← h6, ← h7, ← h8]
  generalize seenQ q loose mods Xt s = X at *
  obtain ⟨x0, x1, x2, x3, x4, x5, x6, x7, x8⟩ := X
  simp only at h2 h3
  subst h2 h3
  rfl
def put (T : BT) (l : List (Nat × Obj)) : BT := l.foldl (fun T x => T.ins x.1 x.2) T
/-- a list's first entries, some of them others -/
def fixL {α : Type} (l : List α) (m : Nat) (ch : List (Nat × α)) : Array α := Array.mk (ch.foldl (fun l x => l.set x.1 x.2) (l.take m))
/-- the i-th statement's def, of no default -/
def lawDef (p : Program) (i : Nat) : DefRec := match p.main.body[i]? with
  | some (.FunctionDef n a b _ _ _ sc _ _ pos) => ⟨n, a, b, sc, pos⟩
  | _ => ⟨"law", ⟨[], [], none, [], [], none, []⟩, [], ⟨.function, [], false, false, []⟩, default⟩
end EvH
namespace Ev
open PySem PySem.Spec PyProof.Rows L2
inductive D where
  | non | bl (b : Bool) | int (i : Int) | str (x : Str)
  | tup (ds : List D) | lst (ds : List D) | klst (ds : List D)
  | dic (ks : List (Key × D)) | set (ks : List Int)
  | ins (c : Nat) (fs : List (Str × D))
  | ref (n : Nat)
  /-- an exception that was caught -/
  | xcp (c : Nat) (fs : List (Str × D))
/-- live objects -/
inductive O where
  | lst (ds : List D) | dic (ks : List (Key × D)) | ins (c : Nat) (fs : List (Str × D)) | dead
abbrev HP := List O
abbrev EN := List (Option D)
abbrev AM := List (Option Addr)
inductive R (α : Type) where
  | ok (a : α) (h : HP)
  | exc (c : Nat) (fs : List (Str × D)) (h : HP)
  | stuck
@[simp] def R.bind {α β : Type} : R α → (α → HP → R β) → R β
  | .ok a h, f => f a h
  | .exc c fs h, _ => .exc c fs h
  | .stuck, _ => .stuck
/-- what the proof knows of the module: the written part, the classes' addresses -/
structure G where
  K : PySem.W.Frag
  cA : Nat → Addr
  xA : Nat → Addr
def KT (K : PySem.W.Frag) (a : Addr) (xs : List V) : Prop := ∃ (o : Obj) (its : Array Value) (n : Nat), K.lookup a = some o ∧ o.cls = .type "tuple" ∧ o.data = .seq its n ∧ its.size ≤ sizeLine ∧ Vals xs its.toList
def KL (K : PySem.W.Frag) (a : Addr) (xs : List V) : Prop := ∃ (o : Obj) (its : Array Value) (n : Nat), K.lookup a = some o ∧ o.cls = .type "list" ∧ o.dict = none ∧ o.data = .seq its n ∧ its.size ≤ sizeLine ∧ Vals xs its.toList
def FT (K : PySem.W.Frag) (m : AM) (H : Hp) (a : Addr) (xs : List V) : Prop := (Rd H a (.tup xs) ∧ some a ∉ m) ∨ KT K a xs
def FL (K : PySem.W.Frag) (m : AM) (H : Hp) (a : Addr) (xs : List V) : Prop := (Rd H a (.lst xs) ∧ some a ∉ m) ∨ KL K a xs
/-- the exception at a, known to its object -/
def XO (a : Addr) (oe : Obj) : HO := .frz oe (.ext fun h => h.get? a = some oe)
variable (g : G)
mutual
def rep (m : AM) (H : Hp) : D → V → Prop
  | .non, v => v = .non
  | .bl b, v => v = .bl b
  | .int i, v => v = .int i
  | .str x, v => v = .str x
  | .tup ds, v => ∃ a vs, v = .ref a ∧ FT g.K m H a vs ∧ reps m H ds vs
  | .lst ds, v => ∃ a vs, v = .ref a ∧ H a = some (.lst vs) ∧ some a ∉ m ∧ reps m H ds vs
  | .klst ds, v => ∃ a vs, v = .ref a ∧ FL g.K m H a vs ∧ reps m H ds vs
  | .dic ks, v => ∃ a vs, v = .ref a ∧ H a = some (.dK vs) ∧ some a ∉ m ∧ repk m H ks vs
  | .set ks, v => ∃ a n, v = .ref a ∧ H a = some (.set (fun j => decide (j ∈ ks)) n) ∧ some a ∉ m
  | .ins c fs, v => ∃ a dx vs, v = .ref a ∧ H a = some (.ins (g.cA c) dx vs) ∧ some a ∉ m ∧ repf m H fs vs
  | .ref n, v => n < m.length ∧ ∀ a, m[n]? = some (some a) → v = .ref a
  | .xcp c fs, v => ∃ a oe, v = .ref a ∧ H a = some (XO a oe) ∧ some a ∉ m ∧ oe.cls = .ref (g.xA c) ∧ (∃ vs, oe.data = .fields vs) ∧ ((oe.dict = none ∧ fs = []) ∨ ∃ d ws, oe.dict = some d ∧ H d = some (.xd ws) ∧ some d ∉ m ∧ repf m H fs ws)
def reps (m : AM) (H : Hp) : List D → List V → Prop
  | [], vs => vs = []
  | d :: ds, vs => ∃ v r, vs = v :: r ∧ rep m H d v ∧ reps m H ds r
def repk (m : AM) (H : Hp) : List (Key × D) → List (Key × V) → Prop
  | [], vs => vs = []
  | (k, d) :: ds, vs => ∃ v r, vs = (k, v) :: r ∧ rep m H d v ∧ repk m H ds r
def repf (m : AM) (H : Hp) : List (Str × D) → List (Str × V) → Prop
  | [], vs => vs = []
  | (k, d) :: ds, vs => ∃ v r, vs = (k, v) :: r ∧ rep m H d v ∧ repf m H ds r
end
/-- the state grows: what is not live stays, live objects stay live at their place or die -/
structure Ex (m : AM) (H : Hp) (m' : AM) (H' : Hp) : Prop where
  le : m.length ≤ m'.length
  mp : ∀ n a, m'[n]? = some (some a) → n < m.length → m[n]? = some (some a)
  fz : ∀ a o, H a = some o → some a ∉ m → H' a = some o ∧ some a ∉ m'
theorem Ex.refl (m : AM) (H : Hp) : Ex m H m H := ⟨Nat.le_refl _, fun _ _ h _ => h, fun _ _ h k => ⟨h, k⟩⟩
theorem Ex.trans {m1 m2 m3 : AM} {H1 H2 H3 : Hp} (x : Ex m1 H1 m2 H2) (y : Ex m2 H2 m3 H3) : Ex m1 H1 m3 H3 :=
  ⟨Nat.le_trans x.le y.le, fun n a h l => x.mp n a (y.mp n a h (Nat.lt_of_lt_of_le l x.le)) l, fun a o h k => let ⟨h1, k1⟩ := x.fz a o h k; y.fz a o h1 k1⟩
variable {g} {m m' : AM} {H H' : Hp}
theorem FT.ext {a : Addr} {xs : List V} (x : Ex m H m' H') (h : FT g.K m H a xs) : FT g.K m' H' a xs := by
  rcases h with ⟨h | ⟨o, h⟩, k⟩ | h
  · obtain ⟨h1, k1⟩ := x.fz _ _ h k
    exact .inl ⟨.inl h1, k1⟩
  · obtain ⟨h1, k1⟩ := x.fz _ _ h k
    exact .inl ⟨.inr ⟨o, h1⟩, k1⟩
  · exact .inr h
theorem FL.ext {a : Addr} {xs : List V} (x : Ex m H m' H') (h : FL g.K m H a xs) : FL g.K m' H' a xs := by
  rcases h with ⟨h | ⟨o, h⟩, k⟩ | h
  · obtain ⟨h1, k1⟩ := x.fz _ _ h k
    exact .inl ⟨.inl h1, k1⟩
  · obtain ⟨h1, k1⟩ := x.fz _ _ h k
    exact .inl ⟨.inr ⟨o, h1⟩, k1⟩
  · exact .inr h
mutual
theorem rep.ext (x : Ex m H m' H') : ∀ (d : D) (v : V), rep g m H d v → rep g m' H' d v
  | .non, v, h => by simpa [rep] using h
  | .bl b, v, h => by simpa [rep] using h
  | .int i, v, h => by simpa [rep] using h
  | .str s, v, h => by simpa [rep] using h
  | .tup ds, v, h => by
    simp only [rep] at h ⊢
    obtain ⟨a, vs, e, f, r⟩ := h
    exact ⟨a, vs, e, f.ext x, reps.ext x ds vs r⟩
  | .lst ds, v, h => by
    simp only [rep] at h ⊢
    obtain ⟨a, vs, e, f, k, r⟩ := h
    obtain ⟨f1, k1⟩ := x.fz _ _ f k
    exact ⟨a, vs, e, f1, k1, reps.ext x ds vs r⟩
  | .klst ds, v, h => by
    simp only [rep] at h ⊢
    obtain ⟨a, vs, e, f, r⟩ := h
    exact ⟨a, vs, e, f.ext x, reps.ext x ds vs r⟩
  | .dic ks, v, h => by
    simp only [rep] at h ⊢
    obtain ⟨a, vs, e, f, k, r⟩ := h
    obtain ⟨f1, k1⟩ := x.fz _ _ f k
    exact ⟨a, vs, e, f1, k1, repk.ext x ks vs r⟩
  | .set ks, v, h => by
    simp only [rep] at h ⊢
    obtain ⟨a, n, e, f, k⟩ := h
    obtain ⟨f1, k1⟩ := x.fz _ _ f k
    exact ⟨a, n, e, f1, k1⟩
  | .ins c fs, v, h => by
    simp only [rep] at h ⊢
    obtain ⟨a, dx, vs, e, f, k, r⟩ := h
    obtain ⟨f1, k1⟩ := x.fz _ _ f k
    exact ⟨a, dx, vs, e, f1, k1, repf.ext x fs vs r⟩
  | .ref n, v, h => by
    simp only [rep] at h ⊢
    exact ⟨Nat.lt_of_lt_of_le h.1 x.le, fun a e => h.2 a (x.mp n a e h.1)⟩
  | .xcp c fs, v, h => by
    simp only [rep] at h ⊢
    obtain ⟨a, oe, e, f, k, hc, hd, r⟩ := h
    obtain ⟨f1, k1⟩ := x.fz _ _ f k
    refine ⟨a, oe, e, f1, k1, hc, hd, ?_⟩
    rcases r with r | ⟨d, ws, e1, e2, n2, r⟩
    · exact .inl r
    · obtain ⟨f2, k2⟩ := x.fz _ _ e2 n2
      exact .inr ⟨d, ws, e1, f2, k2, repf.ext x fs ws r⟩
theorem reps.ext (x : Ex m H m' H') : ∀ (ds : List D) (vs : List V), reps g m H ds vs → reps g m' H' ds vs
  | [], vs, h => by simpa [reps] using h
  | d :: ds, vs, h => by
    simp only [reps] at h ⊢
    obtain ⟨v, r, e, h1, h2⟩ := h
    exact ⟨v, r, e, rep.ext x d v h1, reps.ext x ds r h2⟩
theorem repk.ext (x : Ex m H m' H') : ∀ (ds : List (Key × D)) (vs : List (Key × V)), repk g m H ds vs → repk g m' H' ds vs
  | [], vs, h => by simpa [repk] using h
  | (k, d) :: ds, vs, h => by
    simp only [repk] at h ⊢
    obtain ⟨v, r, e, h1, h2⟩ := h
    exact ⟨v, r, e, rep.ext x d v h1, repk.ext x ds r h2⟩
theorem repf.ext (x : Ex m H m' H') : ∀ (ds : List (Str × D)) (vs : List (Str × V)), repf g m H ds vs → repf g m' H' ds vs
  | [], vs, h => by simpa [repf] using h
  | (k, d) :: ds, vs, h => by
    simp only [repf] at h ⊢
    obtain ⟨v, r, e, h1, h2⟩ := h
    exact ⟨v, r, e, rep.ext x d v h1, repf.ext x ds r h2⟩
end
/-- a live object at a -/
def liveO (g : G) (m : AM) (H : Hp) (a : Addr) : O → Prop
  | .lst ds => ∃ vs, H a = some (.lst vs) ∧ reps g m H ds vs
  | .dic ks => ∃ vs, H a = some (.dK vs) ∧ repk g m H ks vs
  | .ins c fs => ∃ dx vs, H a = some (.ins (g.cA c) dx vs) ∧ repf g m H fs vs
  | .dead => False
structure HL (g : G) (m : AM) (H : Hp) (hp : HP) : Prop where
  len : m.length = hp.length
  nd : ∀ (i j : Nat) (a : Addr), m[i]? = some (some a) → m[j]? = some (some a) → i = j
  live : ∀ (i : Nat) (o : O), hp[i]? = some o → (o = .dead ∧ m[i]? = some none) ∨ ∃ a, m[i]? = some (some a) ∧ liveO g m H a o
structure ER (g : G) (m : AM) (H : Hp) (σ : L2.St) (env : EN) : Prop where
  len : σ.length = env.length
  at_ : ∀ (i : Nat) (d : D), env[i]? = some (some d) → ∃ v, σ[i]? = some (some v) ∧ rep g m H d v
theorem ER.ext {σ : L2.St} {env : EN} (x : Ex m H m' H') (h : ER g m H σ env) : ER g m' H' σ env :=
  ⟨h.len, fun i d e => let ⟨v, e1, r⟩ := h.at_ i d e; ⟨v, e1, rep.ext x d v r⟩⟩
/-- the dict of an exception, where it has one -/
def XD (g : G) (m : AM) (H : Hp) (fs : List (Str × D)) : Option Addr → Prop
  | none => fs = []
  | some d => ∃ ws, H d = some (.xd ws) ∧ some d ∉ m ∧ repf g m H fs ws
/-- what is asked behind an expression -/
def PO {α β : Type} (g : G) (m : AM) (H : Hp) (E : XK) (rp : AM → Hp → α → β → Prop) (Q : β → Hp → Prop) : R α → Prop
  | .ok d hp' => ∀ m' H' v, Ex m H m' H' → HL g m' H' hp' → rp m' H' d v → Q v H'
  | .exc c fs hp' => ∀ m' H' d, Ex m H m' H' → HL g m' H' hp' → XD g m' H' fs d → E (.ref (g.xA c)) d H'
  | .stuck => False
theorem PO.bind {α β γ δ : Type} {E : XK} {rp : AM → Hp → α → β → Prop} {rq : AM → Hp → γ → δ → Prop} {Q : β → Hp → Prop} {Q' : δ → Hp → Prop} {r : R α} {f : α → HP → R γ}
    (h : PO g m H E rq Q' (r.bind f)) (k : ∀ d hp' m' H' v, Ex m H m' H' → HL g m' H' hp' → rp m' H' d v → PO g m' H' E rq Q' (f d hp') → Q v H') : PO g m H E rp Q r := by
  cases r with
  | ok d hp' =>
    intro m' H' v x hl rv
    refine k d hp' m' H' v x hl rv ?_
    simp only [R.bind] at h
    revert h
    cases f d hp' with
    | ok e h2 => exact fun h m2 H2 w x2 hl2 r2 => h m2 H2 w (x.trans x2) hl2 r2
    | exc c fs h2 => exact fun h m2 H2 d2 x2 hl2 e2 => h m2 H2 d2 (x.trans x2) hl2 e2
    | stuck => exact fun h => h
  | exc c fs hp' => exact h
  | stuck => exact h
abbrev rB : AM → Hp → Bool → Bool → Prop := fun _ _ b c => b = c
end Ev
namespace Ev
open PySem PySem.Spec PyProof.Rows L2
abbrev M (α : Type) := EN → HP → R α
section
variable (g : G) (X : Cx) (E : XK)
structure EV (e : Expr) (f : M D) : Prop where
  ex : ∃ t, PE X e t ∧ ∀ σ H Q m env hp, HL g m H hp → ER g m H σ env → PO g m H E (rep g) Q (f env hp) → t σ H Q
structure TV (e : Expr) (f : M Bool) : Prop where
  ex : ∃ t, PT X e t ∧ ∀ σ H Q m env hp, HL g m H hp → ER g m H σ env → PO g m H E rB Q (f env hp) → t σ H Q
structure AV (es : List Expr) (f : M (List D)) : Prop where
  ex : ∃ t, PA X es t ∧ ∀ σ H Q m env hp, HL g m H hp → ER g m H σ env → PO g m H E (reps g) Q (f env hp) → t σ H Q
end
section
variable {g : G} {X : Cx} {E : XK}
@[simp] def kVar : Option (Option D) → HP → R D
  | some (some d), hp => .ok d hp
  | some none, _ => .stuck
  | none, _ => .stuck
@[simp] def mVar (i : Nat) (env : EN) (hp : HP) : R D := kVar env[i]? hp
theorem EV.var {i : Nat} {x : Str} {pos : Pos} {e : Expr} (he : e = .Name x pos) (hN : X.N[i]? = some x) (hv : Vis X.env.scope x) (hd : (x == ("__debug__" : Str)) = false) (hcd : (x == ("__classdict__" : Str)) = false) : EV g X E e (mVar i) := by
  subst he
  refine ⟨_, pe_var hN hv hd hcd, fun σ H Q m env hp hl er h => ?_⟩
  unfold mVar kVar at h
  split at h
  · rename_i d e
    obtain ⟨v, e1, r⟩ := er.at_ i d e
    exact ⟨v, e1, h m H v (.refl _ _) hl r⟩
  · exact h.elim
  · exact h.elim
@[simp] def mCst (d : D) (_ : EN) (hp : HP) : R D := .ok d hp
theorem EV.cst {e : Expr} {v : V} {d : D} (hp : PE X e (tC v)) (hr : ∀ m H, rep g m H d v) : EV g X E e (mCst d) :=
  ⟨_, hp, fun σ H Q m env hp hl er h => h m H v (.refl _ _) hl (hr m H)⟩
theorem EV.int {i : Int} {j pos} : EV g X E (.Constant (.int i) j pos) (mCst (.int i)) := .cst pe_int fun _ _ => by simp [rep]
theorem EV.bl {i : Bool} {j pos} : EV g X E (.Constant (.bool i) j pos) (mCst (.bl i)) := .cst pe_bl fun _ _ => by simp [rep]
theorem EV.non {j pos} : EV g X E (.Constant .none j pos) (mCst .non) := .cst pe_non fun _ _ => by simp [rep]
theorem EV.str {i : Str} {j pos} : EV g X E (.Constant (.str i) j pos) (mCst (.str i)) := .cst pe_str fun _ _ => by simp [rep]
theorem EV.glb {x : Str} {d : D} {v : V} {u : Value} {pos : Pos} (hr : ∀ m H, rep g m H d v) (hm : X.mg x = some u) (r : RelV v u) (hg : Gl X x) (hd : (x == ("__debug__" : Str)) = false) : EV g X E (.Name x pos) (mCst d) := .cst (pe_glob hg hm r hd) hr
abbrev F2 := D → D → HP → R D
/-- an operation on values keeps a rule of the layer -/
def OK2 (g : G) (E : XK) (r : R2) (f : F2) : Prop := ∀ m H hp x y v u Q, HL g m H hp → rep g m H x v → rep g m H y u → PO g m H E (rep g) Q (f x y hp) → r v u H Q
def OKS (X : Cx) (g : G) (E : XK) (h : Value → Value → Sem Value) (f : F2) : Prop := ∃ r, OpR X h r ∧ OK2 g E r f
@[simp] def kBin (f : F2) (b : M D) (env : EN) (x : D) (h1 : HP) : R D := (b env h1).bind (f x)
@[simp] def mBin (f : F2) (a b : M D) (env : EN) (hp : HP) : R D := (a env hp).bind (kBin f b env)
theorem EV.bin {op : Operator} {a b : Expr} {pos : Pos} {fa fb : M D} {f : F2} (ho : OKS X g E (binaryOp op) f) (ha : EV g X E a fa) (hb : EV g X E b fb) : EV g X E (.BinOp a op b pos) (mBin f fa fb) := by
  obtain ⟨r, hr, ho⟩ := ho
  obtain ⟨ta, pa, qa⟩ := ha
  obtain ⟨tb, pb, qb⟩ := hb
  refine ⟨_, pe_op hr pa pb, fun σ H Q m env hp hl er h => ?_⟩
  refine qa σ H _ m env hp hl er (PO.bind h fun x h1 m1 H1 v x1 hl1 r1 h => ?_)
  refine qb σ H1 _ m1 env h1 hl1 (er.ext x1) (PO.bind h fun y h2 m2 H2 u x2 hl2 r2 h => ?_)
  exact ho m2 H2 h2 x y v u Q hl2 (rep.ext x2 _ _ r1) r2 h
theorem EV.cmp {op : CmpOp} {a b : Expr} {pos : Pos} {fa fb : M D} {f : F2} (ho : OKS X g E (compareOp op) f) (ha : EV g X E a fa) (hb : EV g X E b fb) (hm : behindInMarks op b = false) : EV g X E (.Compare a [op] [b] pos) (mBin f fa fb) := by
  obtain ⟨r, hr, ho⟩ := ho
  obtain ⟨ta, pa, qa⟩ := ha
  obtain ⟨tb, pb, qb⟩ := hb
  refine ⟨_, pe_cmpR hr pa pb hm, fun σ H Q m env hp hl er h => ?_⟩
  refine qa σ H _ m env hp hl er (PO.bind h fun x h1 m1 H1 v x1 hl1 r1 h => ?_)
  refine qb σ H1 _ m1 env h1 hl1 (er.ext x1) (PO.bind h fun y h2 m2 H2 u x2 hl2 r2 h => ?_)
  exact ho m2 H2 h2 x y v u Q hl2 (rep.ext x2 _ _ r1) r2 h
/-- a value as a bool -/
@[simp] def isB : D → HP → R Bool
  | .bl b, hp => .ok b hp
  | _, _ => .stuck
@[simp] def mB (a : M D) (env : EN) (hp : HP) : R Bool := (a env hp).bind isB
theorem PO.toB {m : AM} {H : Hp} {hp : HP} {d : D} {v : V} {Q : Bool → Hp → Prop} (hl : HL g m H hp) (r : rep g m H d v) (h : PO g m H E rB Q (isB d hp)) : ∃ k, v = .bl k ∧ Q k H := by
  unfold Ev.isB at h
  split at h
  · simp only [rep] at r
    exact ⟨_, r, h m H _ (.refl _ _) hl rfl⟩
  · exact h.elim
theorem PO.isBk {α β : Type} {rq : AM → Hp → α → β → Prop} {m : AM} {H : Hp} {hp : HP} {d : D} {v : V} {Q : β → Hp → Prop} {f : Bool → HP → R α} (r : rep g m H d v) (h : PO g m H E rq Q ((isB d hp).bind f)) : ∃ k, v = .bl k ∧ PO g m H E rq Q (f k hp) := by
  cases d with
  | bl b =>
    simp only [rep] at r
    exact ⟨b, r, h⟩
  | _ => exact h.elim
theorem TV.cmp {op : CmpOp} {a b : Expr} {pos : Pos} {fa fb : M D} {f : F2} (ho : OKS X g E (compareOp op) f) (ha : EV g X E a fa) (hb : EV g X E b fb) (hm : behindInMarks op b = false) : TV g X E (.Compare a [op] [b] pos) (mB (mBin f fa fb)) := by
  obtain ⟨r, hr, ho⟩ := ho
  obtain ⟨ta, pa, qa⟩ := ha
  obtain ⟨tb, pb, qb⟩ := hb
  refine ⟨_, pt_cmpR hr pa pb hm, fun σ H Q m env hp hl er h => ?_⟩
  refine qa σ H _ m env hp hl er ?_
  have h : PO g m H E rB Q ((fa env hp).bind fun x h1 => ((fb env h1).bind fun y h2 => (f x y h2).bind isB)) := by
    have e : mB (mBin f fa fb) env hp = ((fa env hp).bind fun x h1 => ((fb env h1).bind fun y h2 => (f x y h2).bind isB)) := by
      unfold mB mBin
      cases fa env hp with
      | ok x h1 =>
        simp only [R.bind, kBin]
        cases fb env h1 with
        | ok y h2 => rfl
        | exc _ _ _ => rfl
        | stuck => rfl
      | exc _ _ _ => rfl
      | stuck => rfl
    rw [← e]; exact h
  refine PO.bind h fun x h1 m1 H1 v x1 hl1 r1 h => ?_
  refine qb σ H1 _ m1 env h1 hl1 (er.ext x1) (PO.bind h fun y h2 m2 H2 u x2 hl2 r2 h => ?_)
  refine ho m2 H2 h2 x y v u _ hl2 (rep.ext x2 _ _ r1) r2 (PO.bind h fun z h3 m3 H3 w x3 hl3 r3 h => ?_)
  exact PO.toB hl3 r3 h
/-- a < b < c .. (any number) : the first comparison, then the rest from b's value -/
@[simp] def kCh3 (f2 : F2) (c : M D) (env : EN) (y : D) (k : Bool) (h : HP) : R D := if k = true then (c env h).bind (f2 y) else .ok (.bl false) h
@[simp] def kChB (f2 : F2) (c : M D) (env : EN) (y : D) (d : D) (h : HP) : R D := (isB d h).bind (kCh3 f2 c env y)
@[simp] def kCh2 (f f2 : F2) (c : M D) (env : EN) (x y : D) (h2 : HP) : R D := (f x y h2).bind (kChB f2 c env y)
@[simp] def kCh1 (f f2 : F2) (b c : M D) (env : EN) (x : D) (h1 : HP) : R D := (b env h1).bind (kCh2 f f2 c env x)
@[simp] def mCh2 (f f2 : F2) (a b c : M D) (env : EN) (hp : HP) : R D := (a env hp).bind (kCh1 f f2 b c env)
theorem EV.ch2 {op op2 : CmpOp} {a b c : Expr} {pos : Pos} {fa fb fc : M D} {f f2 : F2} (ho : OKS X g E (compareOp op) f) (ho2 : OKS X g E (compareOp op2) f2) (ha : EV g X E a fa) (hb : EV g X E b fb) (hc : EV g X E c fc) (hm : lastMarks [op, op2] [b, c] = false) :
    EV g X E (.Compare a [op, op2] [b, c] pos) (mCh2 f f2 fa fb fc) := by
  obtain ⟨r, hr, ho⟩ := ho
  obtain ⟨r2, hr2, ho2⟩ := ho2
  obtain ⟨ta, pa, qa⟩ := ha
  obtain ⟨tb, pb, qb⟩ := hb
  obtain ⟨tc, pc, qc⟩ := hc
  refine ⟨_, pe_chain hr hr2 pa pb pc hm, fun σ H Q m env hp hl er h => ?_⟩
  refine qa σ H _ m env hp hl er (PO.bind h fun x h1 m1 H1 v x1 hl1 r1 h => ?_)
  refine qb σ H1 _ m1 env h1 hl1 (er.ext x1) (PO.bind h fun y h2 m2 H2 u x2 hl2 r2 h => ?_)
  refine ho m2 H2 h2 x y v u _ hl2 (rep.ext x2 _ _ r1) r2 (PO.bind h fun z h3 m3 H3 w x3 hl3 r3 h => ?_)
  obtain ⟨k, e, h⟩ := PO.isBk r3 h
  refine ⟨k, e, ?_⟩
  unfold kCh3 at h
  cases k with
  | true =>
    rw [if_pos rfl] at h ⊢
    refine qc σ H3 _ m3 env h3 hl3 ((er.ext x1).ext (x2.trans x3)) (PO.bind h fun z h4 m4 H4 w4 x4 hl4 r4 h => ?_)
    exact ho2 m4 H4 h4 y z u w4 Q hl4 (rep.ext (x3.trans x4) _ _ r2) r4 h
  | false =>
    rw [if_neg Bool.false_ne_true] at h ⊢
    exact h m3 H3 _ (.refl _ _) hl3 (by simp [rep])
theorem TV.val {e : Expr} {f : M D} (h : EV g X E e f) (he : ∀ whole, isTrue e X.env whole = (do let v ← whole; standAt e.pos; holding [v] (truthy v))) : TV g X E e (mB f) := by
  obtain ⟨t, p, q⟩ := h
  refine ⟨_, pt_val p he, fun σ H Q m env hp hl er h => ?_⟩
  exact q σ H _ m env hp hl er (PO.bind h fun x h1 m1 H1 v x1 hl1 r1 h => PO.toB hl1 r1 h)
theorem R.bind_assoc {α β γ : Type} (r : R α) (f : α → HP → R β) (k : β → HP → R γ) : (r.bind f).bind k = r.bind fun x h => (f x h).bind k := by cases r <;> rfl
theorem TV.ch2 {op op2 : CmpOp} {a b c : Expr} {pos : Pos} {fa fb fc : M D} {f f2 : F2} (ho : OKS X g E (compareOp op) f) (ho2 : OKS X g E (compareOp op2) f2) (ha : EV g X E a fa) (hb : EV g X E b fb) (hc : EV g X E c fc) (hm : lastMarks [op, op2] [b, c] = false) :
    TV g X E (.Compare a [op, op2] [b, c] pos) (mB (mCh2 f f2 fa fb fc)) := by
  obtain ⟨r, hr, ho⟩ := ho
  obtain ⟨r2, hr2, ho2⟩ := ho2
  obtain ⟨ta, pa, qa⟩ := ha
  obtain ⟨tb, pb, qb⟩ := hb
  obtain ⟨tc, pc, qc⟩ := hc
  refine ⟨_, pt_chain hr hr2 pa pb pc hm, fun σ H Q m env hp hl er h => ?_⟩
  simp only [mB, mCh2, R.bind_assoc] at h
  unfold kCh1 kCh2 kChB at h
  simp only [R.bind_assoc] at h
  refine qa σ H _ m env hp hl er (PO.bind h fun x h1 m1 H1 v x1 hl1 r1 h => ?_)
  refine qb σ H1 _ m1 env h1 hl1 (er.ext x1) (PO.bind h fun y h2 m2 H2 u x2 hl2 r2 h => ?_)
  refine ho m2 H2 h2 x y v u _ hl2 (rep.ext x2 _ _ r1) r2 (PO.bind h fun z h3 m3 H3 w x3 hl3 r3 h => ?_)
  obtain ⟨k, e, h⟩ := PO.isBk r3 h
  refine ⟨k, e, ?_⟩
  unfold kCh3 at h
  cases k with
  | true =>
    rw [if_pos rfl] at h ⊢
    rw [R.bind_assoc] at h
    refine qc σ H3 _ m3 env h3 hl3 ((er.ext x1).ext (x2.trans x3)) (PO.bind h fun z h4 m4 H4 w4 x4 hl4 r4 h => ?_)
    exact ho2 m4 H4 h4 y z u w4 _ hl4 (rep.ext (x3.trans x4) _ _ r2) r4 (PO.bind h fun z h5 m5 H5 w5 x5 hl5 r5 h => PO.toB hl5 r5 h)
  | false =>
    rw [if_neg Bool.false_ne_true] at h ⊢
    exact ⟨false, rfl, h m3 H3 _ (.refl _ _) hl3 rfl⟩
@[simp] def kNotB (k : Bool) (h : HP) : R D := .ok (.bl (!k)) h
@[simp] def kNot (x : D) (h : HP) : R D := (isB x h).bind kNotB
@[simp] def mNot (a : M D) (env : EN) (hp : HP) : R D := (a env hp).bind kNot
@[simp] def kAndB (b : M D) (env : EN) (k : Bool) (h : HP) : R D := if k = true then b env h else .ok (.bl false) h
@[simp] def kAnd (b : M D) (env : EN) (x : D) (h : HP) : R D := (isB x h).bind (kAndB b env)
@[simp] def mAnd (a b : M D) (env : EN) (hp : HP) : R D := (a env hp).bind (kAnd b env)
@[simp] def kOrB (b : M D) (env : EN) (k : Bool) (h : HP) : R D := if k = true then .ok (.bl true) h else b env h
@[simp] def kOr (b : M D) (env : EN) (x : D) (h : HP) : R D := (isB x h).bind (kOrB b env)
@[simp] def mOr (a b : M D) (env : EN) (hp : HP) : R D := (a env hp).bind (kOr b env)
theorem EV.not_ {a : Expr} {pos : Pos} {fa : M D} (ha : EV g X E a fa) : EV g X E (.UnaryOp .Not a pos) (mNot fa) := by
  obtain ⟨ta, pa, qa⟩ := ha
  refine ⟨_, pe_not pa, fun σ H Q m env hp hl er h => ?_⟩
  refine qa σ H _ m env hp hl er (PO.bind h fun x h1 m1 H1 v x1 hl1 r1 h => ?_)
  obtain ⟨k, e, h⟩ := PO.isBk r1 h
  exact ⟨k, e, h m1 H1 _ (.refl _ _) hl1 (by simp [rep])⟩
theorem EV.and_ {a b : Expr} {rest : List Expr} {pos : Pos} {fa fb : M D} (ha : EV g X E a fa) (hb : EV g X E (.BoolOp .And (b :: rest) pos) fb) : EV g X E (.BoolOp .And (a :: b :: rest) pos) (mAnd fa fb) := by
  obtain ⟨ta, pa, qa⟩ := ha
  obtain ⟨tb, pb, qb⟩ := hb
  refine ⟨_, pe_and pa pb, fun σ H Q m env hp hl er h => ?_⟩
  refine qa σ H _ m env hp hl er (PO.bind h fun x h1 m1 H1 v x1 hl1 r1 h => ?_)
  obtain ⟨k, e, h⟩ := PO.isBk r1 h
  refine ⟨k, e, ?_⟩
  unfold kAndB at h
  cases k with
  | true =>
    rw [if_pos rfl] at h ⊢
    exact qb σ H1 Q m1 env h1 hl1 (er.ext x1) h
  | false =>
    rw [if_neg Bool.false_ne_true] at h ⊢
    exact h m1 H1 _ (.refl _ _) hl1 (by simp [rep])
theorem EV.or_ {a b : Expr} {rest : List Expr} {pos : Pos} {fa fb : M D} (ha : EV g X E a fa) (hb : EV g X E (.BoolOp .Or (b :: rest) pos) fb) : EV g X E (.BoolOp .Or (a :: b :: rest) pos) (mOr fa fb) := by
  obtain ⟨ta, pa, qa⟩ := ha
  obtain ⟨tb, pb, qb⟩ := hb
  refine ⟨_, pe_or pa pb, fun σ H Q m env hp hl er h => ?_⟩
  refine qa σ H _ m env hp hl er (PO.bind h fun x h1 m1 H1 v x1 hl1 r1 h => ?_)
  obtain ⟨k, e, h⟩ := PO.isBk r1 h
  refine ⟨k, e, ?_⟩
  unfold kOrB at h
  cases k with
  | false =>
    rw [if_neg Bool.false_ne_true] at h ⊢
    exact qb σ H1 Q m1 env h1 hl1 (er.ext x1) h
  | true =>
    rw [if_pos rfl] at h ⊢
    exact h m1 H1 _ (.refl _ _) hl1 (by simp [rep])
theorem EV.one {op : BoolOp} {a : Expr} {pos : Pos} {fa : M D} (ha : EV g X E a fa) : EV g X E (.BoolOp op [a] pos) fa := by
  obtain ⟨ta, pa, qa⟩ := ha
  exact ⟨_, pe_one pa, qa⟩
@[simp] def ktNot (k : Bool) (h : HP) : R Bool := .ok (!k) h
@[simp] def tmNot (a : M Bool) (env : EN) (hp : HP) : R Bool := (a env hp).bind ktNot
@[simp] def ktAnd (b : M Bool) (env : EN) (k : Bool) (h : HP) : R Bool := if k = true then b env h else .ok false h
@[simp] def tmAnd (a b : M Bool) (env : EN) (hp : HP) : R Bool := (a env hp).bind (ktAnd b env)
@[simp] def ktOr (b : M Bool) (env : EN) (k : Bool) (h : HP) : R Bool := if k = true then .ok true h else b env h
@[simp] def tmOr (a b : M Bool) (env : EN) (hp : HP) : R Bool := (a env hp).bind (ktOr b env)
theorem TV.not_ {a : Expr} {pos : Pos} {fa : M Bool} (ha : TV g X E a fa) : TV g X E (.UnaryOp .Not a pos) (tmNot fa) := by
  obtain ⟨ta, pa, qa⟩ := ha
  refine ⟨_, pt_not pa, fun σ H Q m env hp hl er h => ?_⟩
  refine qa σ H _ m env hp hl er (PO.bind h fun x h1 m1 H1 v x1 hl1 r1 h => ?_)
  cases (show x = v from r1)
  exact h m1 H1 _ (.refl _ _) hl1 rfl
/-- a test whatever its 'whole' is -/
structure WV (g : G) (X : Cx) (E : XK) (e : Expr) (f : M Bool) : Prop where
  ex : ∃ t, PW X e t ∧ ∀ σ H Q m env hp, HL g m H hp → ER g m H σ env → PO g m H E rB Q (f env hp) → t σ H Q
theorem WV.tv {e : Expr} {f : M Bool} (h : WV g X E e f) : TV g X E e f := by
  obtain ⟨ta, pa, qa⟩ := h
  exact ⟨_, pa.pt, qa⟩
theorem WV.and1 {a : Expr} {pos : Pos} {fa : M Bool} (ha : TV g X E a fa) : WV g X E (.BoolOp .And [a] pos) fa := by
  obtain ⟨ta, pa, qa⟩ := ha
  exact ⟨_, pw_and1 pa, qa⟩
theorem WV.or1 {a : Expr} {pos : Pos} {fa : M Bool} (ha : TV g X E a fa) : WV g X E (.BoolOp .Or [a] pos) fa := by
  obtain ⟨ta, pa, qa⟩ := ha
  exact ⟨_, pw_or1 pa, qa⟩
theorem WV.and_ {a b : Expr} {rest : List Expr} {pos : Pos} {fa fb : M Bool} (ha : TV g X E a fa) (hb : WV g X E (.BoolOp .And (b :: rest) pos) fb) : WV g X E (.BoolOp .And (a :: b :: rest) pos) (tmAnd fa fb) := by
  obtain ⟨ta, pa, qa⟩ := ha
  obtain ⟨tb, pb, qb⟩ := hb
  refine ⟨_, pw_and pa pb, fun σ H Q m env hp hl er h => ?_⟩
  refine qa σ H _ m env hp hl er (PO.bind h fun x h1 m1 H1 v x1 hl1 r1 h => ?_)
  cases (show x = v from r1)
  unfold ktAnd at h
  cases x with
  | true =>
    rw [if_pos rfl] at h ⊢
    exact qb σ H1 Q m1 env h1 hl1 (er.ext x1) h
  | false =>
    rw [if_neg Bool.false_ne_true] at h ⊢
    exact h m1 H1 _ (.refl _ _) hl1 rfl
theorem WV.or_ {a b : Expr} {rest : List Expr} {pos : Pos} {fa fb : M Bool} (ha : TV g X E a fa) (hb : WV g X E (.BoolOp .Or (b :: rest) pos) fb) : WV g X E (.BoolOp .Or (a :: b :: rest) pos) (tmOr fa fb) := by
  obtain ⟨ta, pa, qa⟩ := ha
  obtain ⟨tb, pb, qb⟩ := hb
  refine ⟨_, pw_or pa pb, fun σ H Q m env hp hl er h => ?_⟩
  refine qa σ H _ m env hp hl er (PO.bind h fun x h1 m1 H1 v x1 hl1 r1 h => ?_)
  cases (show x = v from r1)
  unfold ktOr at h
  cases x with
  | false =>
    rw [if_neg Bool.false_ne_true] at h ⊢
    exact qb σ H1 Q m1 env h1 hl1 (er.ext x1) h
  | true =>
    rw [if_pos rfl] at h ⊢
    exact h m1 H1 _ (.refl _ _) hl1 rfl
@[simp] def kIf (a b : M D) (env : EN) (k : Bool) (h : HP) : R D := if k = true then a env h else b env h
@[simp] def mIf (c : M Bool) (a b : M D) (env : EN) (hp : HP) : R D := (c env hp).bind (kIf a b env)
theorem EV.ite_ {c a b : Expr} {pos : Pos} {fc : M Bool} {fa fb : M D} (hc : TV g X E c fc) (ha : EV g X E a fa) (hb : EV g X E b fb) : EV g X E (.IfExp c a b pos) (mIf fc fa fb) := by
  obtain ⟨tc, pc, qc⟩ := hc
  obtain ⟨ta, pa, qa⟩ := ha
  obtain ⟨tb, pb, qb⟩ := hb
  refine ⟨_, pe_ifExp pc pa pb, fun σ H Q m env hp hl er h => ?_⟩
  refine qc σ H _ m env hp hl er (PO.bind h fun x h1 m1 H1 v x1 hl1 r1 h => ?_)
  cases (show x = v from r1)
  unfold kIf at h
  cases x with
  | true =>
    rw [if_pos rfl] at h ⊢
    exact qa σ H1 Q m1 env h1 hl1 (er.ext x1) h
  | false =>
    rw [if_neg Bool.false_ne_true] at h ⊢
    exact qb σ H1 Q m1 env h1 hl1 (er.ext x1) h
/-- truth of any value that is there -/
@[simp] def truO : Option O → HP → R Bool
  | some (.lst ds), hp => .ok (!ds.isEmpty) hp
  | some (.dic ds), hp => .ok (!ds.isEmpty) hp
  | _, _ => .stuck
@[simp] def truD : D → HP → R Bool
  | .non, hp => .ok false hp
  | .bl b, hp => .ok b hp
  | .int i, hp => .ok (i != 0) hp
  | .lst ds, hp => .ok (!ds.isEmpty) hp
  | .klst ds, hp => .ok (!ds.isEmpty) hp
  | .tup ds, hp => .ok (!ds.isEmpty) hp
  | .dic ds, hp => .ok (!ds.isEmpty) hp
  | .ref n, hp => truO hp[n]? hp
  | _, _ => .stuck
@[simp] def mTru (a : M D) (env : EN) (hp : HP) : R Bool := (a env hp).bind truD
theorem reps.length {m : AM} {H : Hp} : ∀ {ds : List D} {vs : List V}, reps g m H ds vs → ds.length = vs.length
  | [], vs, h => by simp only [reps] at h; subst h; rfl
  | d :: ds, vs, h => by
    simp only [reps] at h
    obtain ⟨v, r, rfl, _, h2⟩ := h
    simp [reps.length h2]
theorem repk.length {m : AM} {H : Hp} : ∀ {ds : List (Key × D)} {vs : List (Key × V)}, repk g m H ds vs → ds.length = vs.length
  | [], vs, h => by simp only [repk] at h; subst h; rfl
  | (k, d) :: ds, vs, h => by
    simp only [repk] at h
    obtain ⟨v, r, rfl, _, h2⟩ := h
    simp [repk.length h2]
theorem isEmpty_len {α β : Type} {xs : List α} {ys : List β} (h : xs.length = ys.length) : xs.isEmpty = ys.isEmpty := by
  cases xs <;> cases ys <;> simp at h ⊢
theorem HL.at {m : AM} {H : Hp} {hp : HP} (hl : HL g m H hp) {n : Nat} {o : O} (e : hp[n]? = some o) (ne : o ≠ .dead) : ∃ a, m[n]? = some (some a) ∧ liveO g m H a o := by
  rcases hl.live n o e with ⟨h, _⟩ | h
  · exact absurd h ne
  · exact h
theorem FL.sq {K : PySem.W.Frag} {m : AM} {H : Hp} {a : Addr} {xs : List V} (h : FL K m H a xs) : SqL K H a xs := by
  rcases h with ⟨h, _⟩ | h
  · exact .inl h
  · exact .inr h
theorem FT.sq {K : PySem.W.Frag} {m : AM} {H : Hp} {a : Addr} {xs : List V} (h : FT K m H a xs) : SqT K H a xs := by
  rcases h with ⟨h, _⟩ | h
  · exact .inl h
  · exact .inr h
theorem TV.tru {e : Expr} {f : M D} (hK : X.K = g.K) (h : EV g X E e f) (he : ∀ whole, isTrue e X.env whole = (do let v ← whole; standAt e.pos; holding [v] (truthy v))) : TV g X E e (mTru f) := by
  obtain ⟨t, p, q⟩ := h
  refine ⟨_, pt_truth p he, fun σ H Q m env hp hl er h => ?_⟩
  refine q σ H _ m env hp hl er (PO.bind h fun x h1 m1 H1 v x1 hl1 r1 h => ?_)
  have fin : ∀ k, TruV X.K v H1 k → PO g m1 H1 E rB Q (.ok k h1) → ∃ k, TruV X.K v H1 k ∧ Q k H1 := fun k t h => ⟨k, t, h m1 H1 k (.refl _ _) hl1 rfl⟩
  cases x with
  | non => simp only [rep] at r1; subst r1; exact fin false rfl h
  | bl b => simp only [rep] at r1; subst r1; exact fin b rfl h
  | int b => simp only [rep] at r1; subst r1; exact fin _ rfl h
  | str b => exact h.elim
  | tup ds =>
    simp only [rep] at r1
    obtain ⟨a, vs, rfl, f, r⟩ := r1
    exact fin _ (show _ ∨ _ ∨ _ from .inr (.inl ⟨vs, by rw [hK]; exact f.sq, by rw [isEmpty_len (reps.length r)]⟩)) h
  | lst ds =>
    simp only [rep] at r1
    obtain ⟨a, vs, rfl, f, _, r⟩ := r1
    exact fin _ (show _ ∨ _ ∨ _ from .inl ⟨vs, .of f, by rw [isEmpty_len (reps.length r)]⟩) h
  | klst ds =>
    simp only [rep] at r1
    obtain ⟨a, vs, rfl, f, r⟩ := r1
    exact fin _ (show _ ∨ _ ∨ _ from .inl ⟨vs, by rw [hK]; exact f.sq, by rw [isEmpty_len (reps.length r)]⟩) h
  | dic ds =>
    simp only [rep] at r1
    obtain ⟨a, vs, rfl, f, _, r⟩ := r1
    exact fin _ (show _ ∨ _ ∨ _ from .inr (.inr ⟨vs, f, by rw [isEmpty_len (repk.length r)]⟩)) h
  | set ks => exact h.elim
  | ins c fs => exact h.elim
  | xcp c fs => exact h.elim
  | ref n =>
    simp only [rep] at r1
    simp only [truD] at h
    unfold truO at h
    split at h
    · rename_i ds e
      obtain ⟨a, ea, vs, ha, rv⟩ := hl1.at e (by simp)
      obtain rfl := r1.2 a ea
      exact fin _ (show _ ∨ _ ∨ _ from .inl ⟨vs, .of ha, by rw [isEmpty_len (reps.length rv)]⟩) h
    · rename_i ds e
      obtain ⟨a, ea, vs, ha, rv⟩ := hl1.at e (by simp)
      obtain rfl := r1.2 a ea
      exact fin _ (show _ ∨ _ ∨ _ from .inr (.inr ⟨vs, ha, by rw [isEmpty_len (repk.length rv)]⟩)) h
    · exact h.elim
@[simp] def aNil (_ : EN) (hp : HP) : R (List D) := .ok [] hp
@[simp] def kCons2 (x : D) (xs : List D) (h : HP) : R (List D) := .ok (x :: xs) h
@[simp] def kCons (r : M (List D)) (env : EN) (x : D) (h : HP) : R (List D) := (r env h).bind (kCons2 x)
@[simp] def aCons (a : M D) (r : M (List D)) (env : EN) (hp : HP) : R (List D) := (a env hp).bind (kCons r env)
theorem AV.nil : AV g X E [] aNil := ⟨_, pa_nil, fun σ H Q m env hp hl er h => h m H [] (.refl _ _) hl (by simp [reps])⟩
theorem AV.cons {e : Expr} {es : List Expr} {f : M D} {fs : M (List D)} (ha : EV g X E e f) (hr : AV g X E es fs) (hs : starEach (e :: es) X.env = (false, eval e X.env) :: starEach es X.env) : AV g X E (e :: es) (aCons f fs) := by
  obtain ⟨ta, pa, qa⟩ := ha
  obtain ⟨tr, pr, qr⟩ := hr
  refine ⟨_, pa_cons pa pr hs, fun σ H Q m env hp hl er h => ?_⟩
  refine qa σ H _ m env hp hl er (PO.bind h fun x h1 m1 H1 v x1 hl1 r1 h => ?_)
  refine qr σ H1 _ m1 env h1 hl1 (er.ext x1) (PO.bind h fun xs h2 m2 H2 vs x2 hl2 r2 h => ?_)
  exact h m2 H2 _ (.refl _ _) hl2 (by simp only [reps]; exact ⟨v, vs, rfl, rep.ext x2 _ _ r1, r2⟩)
/-- a new frozen thing -/
theorem HL.new {m : AM} {H : Hp} {hp : HP} (hl : HL g m H hp) {p : Addr} {o : HO} (np : H p = none) : Ex m H m (upd H p o) ∧ HL g m (upd H p o) hp ∧ some p ∉ m := by
  have hm : ∀ i a, m[i]? = some (some a) → ∃ o, H a = some o := fun i a e => by
    obtain ⟨h, hh⟩ : ∃ o, hp[i]? = some o := by
      have : i < m.length := (List.getElem?_eq_some_iff.mp e).1
      rw [hl.len] at this
      exact ⟨_, List.getElem?_eq_getElem this⟩
    rcases hl.live i h hh with ⟨_, z⟩ | ⟨b, eb, lv⟩
    · rw [e] at z; cases z
    · rw [e] at eb; cases eb
      cases h with
      | lst ds => obtain ⟨vs, h1, _⟩ := lv; exact ⟨_, h1⟩
      | dic ds => obtain ⟨vs, h1, _⟩ := lv; exact ⟨_, h1⟩
      | ins c fs => obtain ⟨dx, vs, h1, _⟩ := lv; exact ⟨_, h1⟩
      | dead => exact lv.elim
  have hn : ∀ a o', H a = some o' → upd H p o a = some o' := fun a o' e => by rw [upd_ne (ne_of_none e np)]; exact e
  have pm : some p ∉ m := fun z => by
    obtain ⟨i, hi, e⟩ := List.getElem_of_mem z
    obtain ⟨o', e'⟩ := hm i p (by rw [List.getElem?_eq_getElem hi, e])
    rw [np] at e'; cases e'
  have x : Ex m H m (upd H p o) := ⟨Nat.le_refl _, fun _ _ h _ => h, fun a o' e k => ⟨hn a o' e, k⟩⟩
  refine ⟨x, ⟨hl.len, hl.nd, fun i h hh => ?_⟩, pm⟩
  rcases hl.live i h hh with z | ⟨b, eb, lv⟩
  · exact .inl z
  · refine .inr ⟨b, eb, ?_⟩
    cases h with
    | lst ds => obtain ⟨vs, h1, r⟩ := lv; exact ⟨vs, hn _ _ h1, reps.ext x _ _ r⟩
    | dic ds => obtain ⟨vs, h1, r⟩ := lv; exact ⟨vs, hn _ _ h1, repk.ext x _ _ r⟩
    | ins c fs => obtain ⟨dx, vs, h1, r⟩ := lv; exact ⟨dx, vs, hn _ _ h1, repf.ext x _ _ r⟩
    | dead => exact lv.elim
/-- a new live thing -/
theorem HL.push {m : AM} {H : Hp} {hp : HP} (hl : HL g m H hp) {p : Addr} {o : HO} {ob : O} (np : H p = none) (hne : ob ≠ .dead) (hlv : Ex m H (m ++ [some p]) (upd H p o) → liveO g (m ++ [some p]) (upd H p o) p ob) :
    Ex m H (m ++ [some p]) (upd H p o) ∧ HL g (m ++ [some p]) (upd H p o) (hp ++ [ob]) := by
  obtain ⟨x0, hl0, pm⟩ := hl.new (o := o) np
  have x : Ex m H (m ++ [some p]) (upd H p o) := by
    refine ⟨by simp, fun n a e l => ?_, fun a o' e k => ⟨(x0.fz a o' e k).1, fun z => ?_⟩⟩
    · rw [List.getElem?_append_left l] at e; exact e
    · rcases List.mem_append.mp z with z | z
      · exact k z
      · have : a = p := by simpa using z
        subst this
        rw [np] at e; cases e
  have x2 : Ex m (upd H p o) (m ++ [some p]) (upd H p o) → True := fun _ => trivial
  refine ⟨x, ⟨by simp [hl.len], fun i j a hi hj => ?_, fun i h hh => ?_⟩⟩
  · have key : ∀ i, (m ++ [some p])[i]? = some (some a) → (i < m.length ∧ m[i]? = some (some a)) ∨ (i = m.length ∧ a = p) := fun i e => by
      by_cases l : i < m.length
      · rw [List.getElem?_append_left l] at e; exact .inl ⟨l, e⟩
      · rw [List.getElem?_append_right (by omega)] at e
        have : i - m.length = 0 := by
          by_cases z : i - m.length = 0
          · exact z
          · rw [List.getElem?_eq_none (by simp; omega)] at e; cases e
        rw [this] at e
        simp at e
        exact .inr ⟨by omega, e.symm⟩
    rcases key i hi with ⟨l, e⟩ | ⟨l, e⟩ <;> rcases key j hj with ⟨l', e'⟩ | ⟨l', e'⟩
    · exact hl.nd i j a e e'
    · subst e'; exact absurd (List.mem_of_getElem? e) pm
    · subst e; exact absurd (List.mem_of_getElem? e') pm
    · omega
  · by_cases l : i < hp.length
    · rw [List.getElem?_append_left l] at hh
      rcases hl.live i h hh with ⟨z, e⟩ | ⟨b, eb, lv⟩
      · exact .inl ⟨z, by rw [List.getElem?_append_left (by rw [hl.len]; exact l)]; exact e⟩
      · refine .inr ⟨b, by rw [List.getElem?_append_left (by rw [hl.len]; exact l)]; exact eb, ?_⟩
        cases h with
        | lst ds => obtain ⟨vs, h1, r⟩ := lv; exact ⟨vs, by rw [upd_ne (ne_of_none h1 np)]; exact h1, reps.ext x _ _ r⟩
        | dic ds => obtain ⟨vs, h1, r⟩ := lv; exact ⟨vs, by rw [upd_ne (ne_of_none h1 np)]; exact h1, repk.ext x _ _ r⟩
        | ins c fs => obtain ⟨dx, vs, h1, r⟩ := lv; exact ⟨dx, vs, by rw [upd_ne (ne_of_none h1 np)]; exact h1, repf.ext x _ _ r⟩
        | dead => exact lv.elim
    · rw [List.getElem?_append_right (by omega)] at hh
      have i0 : i - hp.length = 0 := by
        by_cases z : i - hp.length = 0
        · exact z
        · rw [List.getElem?_eq_none (by simp; omega)] at hh; cases hh
      rw [i0] at hh
      simp at hh
      subst hh
      refine .inr ⟨p, ?_, hlv x⟩
      have : i = m.length := by have := hl.len; omega
      subst this
      rw [List.getElem?_append_right (Nat.le_refl _)]
      simp
@[simp] def kTup (xs : List D) (h : HP) : R D := if xs.length ≤ sizeLine then .ok (.tup xs) h else .stuck
@[simp] def mTup (a : M (List D)) (env : EN) (hp : HP) : R D := (a env hp).bind kTup
theorem EV.tup {es : List Expr} {x1} {pos : Pos} {f : M (List D)} (ha : AV g X E es f) : EV g X E (.Tuple es x1 pos) (mTup f) := by
  obtain ⟨ta, pa, qa⟩ := ha
  refine ⟨_, pe_tup pa, fun σ H Q m env hp hl er h => ?_⟩
  refine qa σ H _ m env hp hl er (PO.bind h fun xs h1 m1 H1 vs x1 hl1 r1 h => ?_)
  unfold kTup at h
  by_cases hz : xs.length ≤ sizeLine
  · rw [if_pos hz] at h
    refine ⟨by rw [← reps.length r1]; exact hz, fun p np => ?_⟩
    obtain ⟨x, hl2, pm⟩ := hl1.new (o := .tup vs) np
    exact h m1 _ _ x hl2 (by simp only [rep]; exact ⟨p, vs, rfl, .inl ⟨.inl upd_same, pm⟩, reps.ext x _ _ r1⟩)
  · rw [if_neg hz] at h; exact h.elim
/-- a list display: frozen, or live -/
@[simp] def newL (live : Bool) (xs : List D) (h : HP) : R D := if xs.length ≤ sizeLine then (if live = true then .ok (.ref h.length) (h ++ [.lst xs]) else .ok (.lst xs) h) else .stuck
theorem PO.newL {live : Bool} {m : AM} {H : Hp} {hp : HP} {xs : List D} {vs : List V} {Q : V → Hp → Prop} (hl : HL g m H hp) (r : reps g m H xs vs) (h : PO g m H E (rep g) Q (Ev.newL live xs hp)) : vs.length ≤ sizeLine ∧ ∀ p, H p = none → Q (.ref p) (upd H p (.lst vs)) := by
  unfold Ev.newL at h
  by_cases hz : xs.length ≤ sizeLine
  · rw [if_pos hz] at h
    refine ⟨by rw [← reps.length r]; exact hz, fun p np => ?_⟩
    cases live with
    | true =>
      rw [if_pos rfl] at h
      obtain ⟨x, hl2⟩ := hl.push (o := .lst vs) (ob := .lst xs) np (by simp) fun x => ⟨vs, upd_same, reps.ext x _ _ r⟩
      refine h _ _ _ x hl2 ?_
      simp only [rep]
      refine ⟨by simp [hl.len], fun a e => ?_⟩
      rw [← hl.len, List.getElem?_append_right (Nat.le_refl _)] at e
      simp at e
      rw [e]
    | false =>
      rw [if_neg Bool.false_ne_true] at h
      obtain ⟨x, hl2, pm⟩ := hl.new (o := .lst vs) np
      exact h m _ _ x hl2 (by simp only [rep]; exact ⟨p, vs, rfl, upd_same, pm, reps.ext x _ _ r⟩)
  · rw [if_neg hz] at h; exact h.elim
@[simp] def mLst (live : Bool) (a : M (List D)) (env : EN) (hp : HP) : R D := (a env hp).bind (newL live)
theorem EV.lst {es : List Expr} {pos : Pos} {f : M (List D)} (live : Bool) (ha : AV g X E es f) : EV g X E (.List es pos) (mLst live f) := by
  obtain ⟨ta, pa, qa⟩ := ha
  refine ⟨_, pe_lst pa, fun σ H Q m env hp hl er h => ?_⟩
  exact qa σ H _ m env hp hl er (PO.bind h fun xs h1 m1 H1 vs x1 hl1 r1 h => PO.newL hl1 r1 h)
end
end Ev
namespace Ev
open PySem PySem.Spec PyProof.Rows L2
section
variable {g : G} {X : Cx} {E : XK}
/-- a list to be read -/
@[simp] def lstO : Option O → Option (List D)
  | some (.lst ds) => some ds
  | _ => none
@[simp] def asL (h : HP) : D → Option (List D)
  | .lst ds => some ds
  | .klst ds => some ds
  | .ref n => lstO h[n]?
  | _ => none
/-- a list that is tracked (not the script, not of the module) -/
@[simp] def asLx (h : HP) : D → Option (List D)
  | .lst ds => some ds
  | .ref n => lstO h[n]?
  | _ => none
@[simp] def asT : D → Option (List D)
  | .tup ds => some ds
  | _ => none
theorem asLx_ok {m : AM} {H : Hp} {hp : HP} {d : D} {v : V} {ds : List D} (hl : HL g m H hp) (r : rep g m H d v) (e : asLx hp d = some ds) : ∃ a vs, v = .ref a ∧ H a = some (.lst vs) ∧ reps g m H ds vs := by
  cases d with
  | lst es =>
    cases e
    simp only [rep] at r
    obtain ⟨a, vs, rfl, f, _, r⟩ := r
    exact ⟨a, vs, rfl, f, r⟩
  | ref n =>
    simp only [asLx] at e
    unfold lstO at e
    split at e
    · rename_i es q
      cases e
      simp only [rep] at r
      obtain ⟨a, ea, vs, ha, rv⟩ := hl.at q (by simp)
      exact ⟨a, vs, r.2 a ea, ha, rv⟩
    · cases e
  | _ => cases e
theorem asL_ok {m : AM} {H : Hp} {hp : HP} {d : D} {v : V} {ds : List D} (hl : HL g m H hp) (r : rep g m H d v) (e : asL hp d = some ds) : ∃ a vs, v = .ref a ∧ SqL g.K H a vs ∧ reps g m H ds vs := by
  cases d with
  | klst es =>
    cases e
    simp only [rep] at r
    obtain ⟨a, vs, rfl, f, r⟩ := r
    exact ⟨a, vs, rfl, f.sq, r⟩
  | lst es =>
    obtain ⟨a, vs, h1, h2, h3⟩ := asLx_ok hl r (ds := ds) e
    exact ⟨a, vs, h1, .of h2, h3⟩
  | ref n =>
    obtain ⟨a, vs, h1, h2, h3⟩ := asLx_ok hl r (ds := ds) e
    exact ⟨a, vs, h1, .of h2, h3⟩
  | _ => cases e
theorem asT_ok {m : AM} {H : Hp} {d : D} {v : V} {ds : List D} (r : rep g m H d v) (e : asT d = some ds) : ∃ a vs, v = .ref a ∧ SqT g.K H a vs ∧ reps g m H ds vs := by
  cases d with
  | tup es =>
    cases e
    simp only [rep] at r
    obtain ⟨a, vs, rfl, f, r⟩ := r
    exact ⟨a, vs, rfl, f.sq, r⟩
  | _ => cases e
theorem reps.get {m : AM} {H : Hp} : ∀ {ds : List D} {vs : List V} {i : Nat} {d : D}, reps g m H ds vs → ds[i]? = some d → ∃ v, vs[i]? = some v ∧ rep g m H d v
  | [], _, _, _, _, e => by simp at e
  | d :: ds, vs, 0, x, h, e => by
    simp only [reps] at h
    obtain ⟨v, r, rfl, h1, h2⟩ := h
    cases e
    exact ⟨v, rfl, h1⟩
  | d :: ds, vs, i + 1, x, h, e => by
    simp only [reps] at h
    obtain ⟨v, r, rfl, h1, h2⟩ := h
    exact reps.get (i := i) h2 e
theorem reps.append {m : AM} {H : Hp} : ∀ {ds es : List D} {vs us : List V}, reps g m H ds vs → reps g m H es us → reps g m H (ds ++ es) (vs ++ us)
  | [], es, vs, us, h, k => by
    simp only [reps] at h
    subst h
    exact k
  | d :: ds, es, vs, us, h, k => by
    simp only [reps] at h
    obtain ⟨v, r, rfl, h1, h2⟩ := h
    simp only [List.cons_append, reps]
    exact ⟨v, r ++ us, rfl, h1, reps.append h2 k⟩
theorem reps.take {m : AM} {H : Hp} : ∀ {ds : List D} {vs : List V} (n : Nat), reps g m H ds vs → reps g m H (ds.take n) (vs.take n)
  | _, _, 0, _ => by simp [reps]
  | [], vs, n + 1, h => by simp only [reps] at h; subst h; simp [reps]
  | d :: ds, vs, n + 1, h => by
    simp only [reps] at h
    obtain ⟨v, r, rfl, h1, h2⟩ := h
    simp only [List.take_succ_cons, reps]
    exact ⟨v, _, rfl, h1, reps.take n h2⟩
theorem reps.drop {m : AM} {H : Hp} : ∀ {ds : List D} {vs : List V} (n : Nat), reps g m H ds vs → reps g m H (ds.drop n) (vs.drop n)
  | _, _, 0, h => h
  | [], vs, n + 1, h => by simp only [reps] at h; subst h; simp [reps]
  | d :: ds, vs, n + 1, h => by
    simp only [reps] at h
    obtain ⟨v, r, rfl, h1, h2⟩ := h
    simp only [List.drop_succ_cons]
    exact reps.drop n h2
theorem reps.mem {m : AM} {H : Hp} {ds : List D} {vs : List V} (h : reps g m H ds vs) (p : V → Bool) (q : D → Bool) (hq : ∀ d v, rep g m H d v → q d = true → p v = true) (hd : ds.all q = true) : vs.all p = true := by
  induction ds generalizing vs with
  | nil => simp only [reps] at h; subst h; rfl
  | cons d ds ih =>
    simp only [reps] at h
    obtain ⟨v, r, rfl, h1, h2⟩ := h
    simp only [List.all_cons, Bool.and_eq_true] at hd ⊢
    exact ⟨hq d v h1 hd.1, ih h2 hd.2⟩
theorem OKS.mk {h : Value → Value → Sem Value} {f : F2} {r : R2} (hr : OpR X h r) (ho : OK2 g E r f) : OKS X g E h f := ⟨r, hr, ho⟩
theorem rInt {m : AM} {H : Hp} {i : Int} {v : V} (r : rep g m H (.int i) v) : v = .int i := by simpa [rep] using r
theorem rStr {m : AM} {H : Hp} {i : Str} {v : V} (r : rep g m H (.str i) v) : v = .str i := by simpa [rep] using r
theorem rBl {m : AM} {H : Hp} {i : Bool} {v : V} (r : rep g m H (.bl i) v) : v = .bl i := by simpa [rep] using r
theorem PO.here {m : AM} {H : Hp} {hp : HP} {d : D} {v : V} {Q : V → Hp → Prop} (hl : HL g m H hp) (h : PO g m H E (rep g) Q (.ok d hp)) (r : rep g m H d v) : Q v H := h m H v (.refl _ _) hl r
@[simp] def fSub : D → D → HP → R D
  | .int i, .int j, h => .ok (.int (i - j)) h
  | _, _, _ => .stuck
theorem ok_sub : OKS X g E (binaryOp .Sub) fSub := .mk op_sub fun m H hp x y v u Q hl rx ry h => by
  unfold fSub at h
  split at h
  · exact ⟨_, _, rInt rx, rInt ry, PO.here hl h (by simp [rep])⟩
  · exact h.elim
/-- * of two factors of together less than a hundred million bits -/
def CMulE (i j : Int) : Prop := i.natAbs.log2 + j.natAbs.log2 < 100000000
instance (i j : Int) : Decidable (CMulE i j) := by unfold CMulE; exact inferInstance
theorem CMulE.ok {i j : Int} (h : CMulE i j) : IntMulOk i j := by
  have b : ∀ x : Int, Builtin.Int.intBits x ≤ x.natAbs.log2 + 1 := fun x => by
    unfold Builtin.Int.intBits
    split <;> omega
  have h1 := b i
  have h2 := b j
  have h3 : i.natAbs.log2 + j.natAbs.log2 < 100000000 := h
  have e : bitsLine = 134217728 := by decide
  unfold IntMulOk
  intro z
  rw [Bool.and_eq_true] at z
  have z2 := z.2
  unfold Builtin.Int.intTooBig at z2
  have z3 := of_decide_eq_true z2
  rw [e] at z3
  omega
theorem op_mulX : OpR X (binaryOp .Mult) (rI CMulE fun i j => .int (i * j)) := opI fun _ _ _ _ _ _ _ hc q => mul_int q hc.ok
@[simp] def fMul : D → D → HP → R D
  | .int i, .int j, h => if CMulE i j then .ok (.int (i * j)) h else .stuck
  | _, _, _ => .stuck
theorem ok_mul : OKS X g E (binaryOp .Mult) fMul := .mk op_mulX fun m H hp x y v u Q hl rx ry h => by
  unfold fMul at h
  split at h
  · split at h
    · rename_i c
      exact ⟨_, _, rInt rx, rInt ry, c, PO.here hl h (by simp [rep])⟩
    · exact h.elim
  · exact h.elim
@[simp] def fDiv : D → D → HP → R D
  | .int i, .int j, h => if 0 < j ∧ j.natAbs.log2 < 9000 then .ok (.int (i / j)) h else .stuck
  | _, _, _ => .stuck
theorem ok_div : OKS X g E (binaryOp .FloorDiv) fDiv := .mk op_fdivW fun m H hp x y v u Q hl rx ry h => by
  unfold fDiv at h
  split at h
  · split at h
    · rename_i c
      exact ⟨_, _, rInt rx, rInt ry, c, PO.here hl h (by simp [rep])⟩
    · exact h.elim
  · exact h.elim
@[simp] def fMod : D → D → HP → R D
  | .int i, .int j, h => if 0 < j then .ok (.int (i % j)) h else .stuck
  | _, _, _ => .stuck
theorem ok_mod : OKS X g E (binaryOp .Mod) fMod := .mk op_mod fun m H hp x y v u Q hl rx ry h => by
  unfold fMod at h
  split at h
  · split at h
    · rename_i c
      exact ⟨_, _, rInt rx, rInt ry, c, PO.here hl h (by simp [rep])⟩
    · exact h.elim
  · exact h.elim
def CPowW (i j : Int) : Prop := 0 ≤ j ∧ (Builtin.Int.intBits i : Int) * j ≤ 2 ^ 27
instance (i j : Int) : Decidable (CPowW i j) := by unfold CPowW; exact inferInstance
@[simp] def fPow : D → D → HP → R D
  | .int i, .int j, h => if CPowW i j then .ok (.int (i ^ j.toNat)) h else .stuck
  | _, _, _ => .stuck
@[simp] def fShl : D → D → HP → R D
  | .int i, .int j, h => if 0 ≤ j ∧ j ≤ 1000000 ∧ i.natAbs < 2 ^ 64 then .ok (.int (i * 2 ^ j.toNat)) h else .stuck
  | _, _, _ => .stuck
@[simp] def catL : Option (List D) → Option (List D) → HP → R D
  | some xs, some ys, h => if xs.length + ys.length ≤ sizeLine then .ok (.lst (xs ++ ys)) h else .stuck
  | _, _, _ => .stuck
@[simp] def fAdd : D → D → HP → R D
  | .int i, .int j, h => .ok (.int (i + j)) h
  | .str i, .str j, h => if i.length + j.length ≤ sizeLine then .ok (.str (i ++ j)) h else .stuck
  | .tup xs, .tup ys, h => if xs.length + ys.length ≤ sizeLine then .ok (.tup (xs ++ ys)) h else .stuck
  | x, y, h => catL (asLx h x) (asLx h y) h
theorem reps.nil_iff {m : AM} {H : Hp} {ds : List D} {vs : List V} (r : reps g m H ds vs) : ds = [] ↔ vs = [] := by
  have h := reps.length r
  constructor
  · intro e; subst e; exact List.length_eq_zero_iff.mp h.symm
  · intro e; subst e; exact List.length_eq_zero_iff.mp h
theorem rTup {m : AM} {H : Hp} {ds : List D} {v : V} (r : rep g m H (.tup ds) v) : ∃ a vs, v = .ref a ∧ SqT g.K H a vs ∧ reps g m H ds vs := asT_ok (g := g) r rfl
theorem PO.newT {m : AM} {H : Hp} {hp : HP} {xs : List D} {vs : List V} {Q : V → Hp → Prop} (hl : HL g m H hp) (r : reps g m H xs vs) (h : PO g m H E (rep g) Q (.ok (.tup xs) hp)) : ∀ p, H p = none → Q (.ref p) (upd H p (.tup vs)) := fun p np => by
  obtain ⟨x, hl2, pm⟩ := hl.new (o := .tup vs) np
  exact h m _ _ x hl2 (by simp only [rep]; exact ⟨p, vs, rfl, .inl ⟨.inl upd_same, pm⟩, reps.ext x _ _ r⟩)
theorem PO.newF {m : AM} {H : Hp} {hp : HP} {xs : List D} {vs : List V} {Q : V → Hp → Prop} (hl : HL g m H hp) (r : reps g m H xs vs) (h : PO g m H E (rep g) Q (.ok (.lst xs) hp)) : ∀ p, H p = none → Q (.ref p) (upd H p (.lst vs)) := fun p np => by
  obtain ⟨x, hl2, pm⟩ := hl.new (o := .lst vs) np
  exact h m _ _ x hl2 (by simp only [rep]; exact ⟨p, vs, rfl, upd_same, pm, reps.ext x _ _ r⟩)
theorem ok_add (hK : X.K = g.K) : OKS X g E (binaryOp .Add) fAdd := by
  refine ⟨_, op_add.or (op_add_str.or (op_catA.or op_cat)), fun m H hp x y v u Q hl rx ry h => ?_⟩
  rw [hK]
  unfold fAdd at h
  split at h
  · exact .inl ⟨_, _, rInt rx, rInt ry, PO.here hl h (by simp [rep])⟩
  · split at h
    · rename_i c
      exact .inr (.inl ⟨_, _, rStr rx, rStr ry, c, PO.here hl h (by simp [rep])⟩)
    · exact h.elim
  · split at h
    · rename_i xs ys c
      obtain ⟨a, vs, rfl, fa, ra⟩ := rTup rx
      obtain ⟨b, us, rfl, fb, rb⟩ := rTup ry
      refine .inr (.inr (.inl ⟨a, b, vs, us, rfl, rfl, fa, fb, by rw [← reps.length ra, ← reps.length rb]; exact c, fun z => ?_, fun _ z => ?_, fun _ _ p np => ?_⟩))
      · have e := (reps.nil_iff ra).mpr z
        subst e
        exact PO.here hl h ry
      · have e := (reps.nil_iff rb).mpr z
        subst e
        rw [List.append_nil] at h
        exact PO.here hl h rx
      · exact PO.newT hl (reps.append ra rb) h p np
    · exact h.elim
  · unfold catL at h
    split at h
    · rename_i xs ys ex ey
      split at h
      · rename_i c
        obtain ⟨a, vs, rfl, fa, ra⟩ := asLx_ok hl rx ex
        obtain ⟨b, us, rfl, fb, rb⟩ := asLx_ok hl ry ey
        exact .inr (.inr (.inr ⟨a, b, vs, us, rfl, rfl, fa, fb, by rw [← reps.length ra, ← reps.length rb]; exact c, PO.newF hl (reps.append ra rb) h⟩))
      · exact h.elim
    · exact h.elim
@[simp] def fCmp (p : Int → Int → Bool) : D → D → HP → R D
  | .int i, .int j, h => .ok (.bl (p i j)) h
  | _, _, _ => .stuck
theorem ok_cmpI {o : CmpOp} {p : Int → Int → Bool} (hr : OpR X (compareOp o) (rI0 fun i j => .bl (p i j))) : OKS X g E (compareOp o) (fCmp p) := .mk hr fun m H hp x y v u Q hl rx ry h => by
  unfold fCmp at h
  split at h
  · exact ⟨_, _, rInt rx, rInt ry, PO.here hl h (by simp [rep])⟩
  · exact h.elim
@[simp] abbrev fLt : F2 := fCmp fun i j => decide (i < j)
@[simp] abbrev fLe : F2 := fCmp fun i j => decide (i ≤ j)
@[simp] abbrev fGt : F2 := fCmp fun i j => decide (j < i)
@[simp] abbrev fGe : F2 := fCmp fun i j => decide (j ≤ i)
theorem ok_lt : OKS X g E (compareOp .Lt) fLt := ok_cmpI op_lt
theorem ok_le : OKS X g E (compareOp .LtE) fLe := ok_cmpI op_le
theorem ok_gt : OKS X g E (compareOp .Gt) fGt := ok_cmpI op_gt
theorem ok_ge : OKS X g E (compareOp .GtE) fGe := ok_cmpI op_ge
mutual
@[simp] def toP : D → Option PyData
  | .non => some .none
  | .bl b => some (.bool b)
  | .int i => some (.int i)
  | .str x => some (.str x)
  | .tup ds => (toPs ds).map PyData.tuple
  | .lst ds => (toPs ds).map PyData.list
  | .klst ds => (toPs ds).map PyData.list
  | _ => none
@[simp] def toPs : List D → Option (List PyData)
  | [] => some []
  | d :: ds => match toP d, toPs ds with
    | some p, some ps => some (p :: ps)
    | _, _ => none
end
@[simp] def toPO : Option O → Option PyData
  | some (.lst ds) => (toPs ds).map PyData.list
  | _ => none
@[simp] def toPh (h : HP) : D → Option PyData
  | .ref n => toPO h[n]?
  | d => toP d
mutual
theorem toP_ok {m : AM} {H : Hp} : ∀ (d : D) (v : V) (p : PyData), rep g m H d v → toP d = some p → Dp g.K H v p
  | .non, v, p, r, e => by cases e; simp only [rep] at r; subst r; exact .non
  | .bl b, v, p, r, e => by cases e; simp only [rep] at r; subst r; exact .bl b
  | .int b, v, p, r, e => by cases e; simp only [rep] at r; subst r; exact .int b
  | .str b, v, p, r, e => by cases e; simp only [rep] at r; subst r; exact .str b
  | .tup ds, v, p, r, e => by
    simp only [rep] at r
    obtain ⟨a, vs, rfl, f, r⟩ := r
    simp only [toP] at e
    obtain ⟨ps, e1, rfl⟩ := Option.map_eq_some_iff.mp e
    exact .tup f.sq (toPs_ok ds vs ps r e1)
  | .lst ds, v, p, r, e => by
    simp only [rep] at r
    obtain ⟨a, vs, rfl, f, _, r⟩ := r
    simp only [toP] at e
    obtain ⟨ps, e1, rfl⟩ := Option.map_eq_some_iff.mp e
    exact .lst (.of f) (toPs_ok ds vs ps r e1)
  | .klst ds, v, p, r, e => by
    simp only [rep] at r
    obtain ⟨a, vs, rfl, f, r⟩ := r
    simp only [toP] at e
    obtain ⟨ps, e1, rfl⟩ := Option.map_eq_some_iff.mp e
    exact .lst f.sq (toPs_ok ds vs ps r e1)
  | .dic _, v, p, r, e => by simp [toP] at e
  | .set _, v, p, r, e => by simp [toP] at e
  | .ins _ _, v, p, r, e => by simp [toP] at e
  | .ref _, v, p, r, e => by simp [toP] at e
  | .xcp _ _, v, p, r, e => by simp [toP] at e
theorem toPs_ok {m : AM} {H : Hp} : ∀ (ds : List D) (vs : List V) (ps : List PyData), reps g m H ds vs → toPs ds = some ps → DpAll g.K H vs ps
  | [], vs, ps, r, e => by simp only [reps] at r; subst r; simp only [toPs] at e; cases e; exact .nil
  | d :: ds, vs, ps, r, e => by
    simp only [reps] at r
    obtain ⟨v, r', rfl, h1, h2⟩ := r
    simp only [toPs] at e
    split at e
    · rename_i p qs e1 e2
      cases e
      exact .cons (toP_ok d v p h1 e1) (toPs_ok ds r' qs h2 e2)
    · cases e
end
theorem toPh_ok {m : AM} {H : Hp} {hp : HP} {d : D} {v : V} {p : PyData} (hl : HL g m H hp) (r : rep g m H d v) (e : toPh hp d = some p) : Dp g.K H v p := by
  cases d with
  | ref n =>
    simp only [toPh] at e
    unfold toPO at e
    split at e
    · rename_i ds q
      obtain ⟨ps, e1, rfl⟩ := Option.map_eq_some_iff.mp e
      simp only [rep] at r
      obtain ⟨a, ea, vs, ha, rv⟩ := hl.at q (by simp)
      rw [r.2 a ea]
      exact .lst (.of ha) (toPs_ok ds vs ps rv e1)
    · cases e
  | _ => exact toP_ok _ _ _ r e
@[simp] def eqP : Option PyData → Option PyData → HP → R D
  | some p, some q, h => if SeqAt.shaped p = true ∧ SeqAt.shaped q = true then .ok (.bl (PyData.eqv p q)) h else .stuck
  | _, _, _ => .stuck
@[simp] def neP : Option PyData → Option PyData → HP → R D
  | some p, some q, h => if SeqAt.shaped p = true ∧ SeqAt.shaped q = true then .ok (.bl (!PyData.eqv p q)) h else .stuck
  | _, _, _ => .stuck
@[simp] def fEq (x y : D) (h : HP) : R D := eqP (toPh h x) (toPh h y) h
@[simp] def fNe (x y : D) (h : HP) : R D := neP (toPh h x) (toPh h y) h
theorem ok_eq (hK : X.K = g.K) (hu : X.A.units + 64 < cLine) : OKS X g E (compareOp .Eq) fEq := .mk (op_eqD hu) fun m H hp x y v u Q hl rx ry h => by
  rw [hK]
  unfold fEq eqP at h
  split at h
  · rename_i p q e1 e2
    split at h
    · rename_i c
      exact ⟨p, q, toPh_ok hl rx e1, toPh_ok hl ry e2, c.1, c.2, PO.here hl h (by simp [rep])⟩
    · exact h.elim
  · exact h.elim
theorem ok_ne (hK : X.K = g.K) (hu : X.A.units + 64 < cLine) : OKS X g E (compareOp .NotEq) fNe := .mk (op_neD hu) fun m H hp x y v u Q hl rx ry h => by
  rw [hK]
  unfold fNe neP at h
  split at h
  · rename_i p q e1 e2
    split at h
    · rename_i c
      exact ⟨p, q, toPh_ok hl rx e1, toPh_ok hl ry e2, c.1, c.2, PO.here hl h (by simp [rep])⟩
    · exact h.elim
  · exact h.elim
@[simp] def isNon : D → Bool
  | .non => true
  | _ => false
/-- a live object is there -/
@[simp] def aliveO : Option O → Bool
  | some .dead => false
  | some _ => true
  | none => false
@[simp] def alive (h : HP) (n : Nat) : Bool := aliveO h[n]?
@[simp] def fIsN : D → D → HP → R D
  | .ref n, .non, h => if alive h n = true then .ok (.bl false) h else .stuck
  | x, .non, h => .ok (.bl (isNon x)) h
  | _, _, _ => .stuck
@[simp] def fNotN : D → D → HP → R D
  | .ref n, .non, h => if alive h n = true then .ok (.bl true) h else .stuck
  | x, .non, h => .ok (.bl (!isNon x)) h
  | _, _, _ => .stuck
@[simp] def flatD : D → Bool
  | .non => true
  | .bl _ => true
  | .int _ => true
  | .str _ => true
  | _ => false
def eqD : D → D → Bool
  | .non, .non => true
  | .bl a, .bl b => a == b
  | .bl a, .int b => (if a then 1 else 0) == b
  | .int a, .bl b => a == (if b then 1 else 0)
  | .int a, .int b => a == b
  | .str a, .str b => a == b
  | _, _ => false
theorem flatD_ok {m : AM} {H : Hp} : ∀ (d : D) (v : V), rep g m H d v → flatD d = true → flatV v = true := fun d v r e => by
  cases d <;> first | (simp only [rep] at r; subst r; rfl) | cases e
theorem eqD_ok {m : AM} {H : Hp} {d e : D} {v u : V} (r : rep g m H d v) (q : rep g m H e u) (hd : flatD d = true) (he : flatD e = true) : eqV v u = eqD d e := by
  cases d <;> cases e <;> first | exact absurd hd Bool.false_ne_true | exact absurd he Bool.false_ne_true | (simp only [rep] at r q; subst r; subst q; rfl)
theorem inD_ok {m : AM} {H : Hp} {x : D} {v : V} (r : rep g m H x v) (fx : flatD x = true) : ∀ {ds : List D} {vs : List V}, reps g m H ds vs → ds.all flatD = true → inV v vs = ds.any fun y => eqD y x
  | [], vs, h, _ => by simp only [reps] at h; subst h; rfl
  | d :: ds, vs, h, f => by
    simp only [reps] at h
    obtain ⟨w, r', rfl, h1, h2⟩ := h
    simp only [List.all_cons, Bool.and_eq_true] at f
    have ih := inD_ok r fx h2 f.2
    unfold inV at ih ⊢
    rw [List.any_cons, List.any_cons, ih, eqD_ok h1 r f.1 fx]
@[simp] def seqD (h : HP) : D → Option (List D)
  | .tup ds => some ds
  | d => asL h d
@[simp] def inO (neg : Bool) (x : D) : Option (List D) → HP → R D
  | some ds, h => if flatD x = true ∧ ds.all flatD = true then .ok (.bl (if neg then !(ds.any fun y => eqD y x) else ds.any fun y => eqD y x)) h else .stuck
  | none, _ => .stuck
@[simp] def fIn (neg : Bool) : D → D → HP → R D
  | .str i, .str j, h => .ok (.bl (if neg then !(!(Builtin.Str.occurrences j i 0 j.length 1).isEmpty) else !(Builtin.Str.occurrences j i 0 j.length 1).isEmpty)) h
  | x, y, h => inO neg x (seqD h y) h
theorem seqD_ok {m : AM} {H : Hp} {hp : HP} {d : D} {v : V} {ds : List D} (hl : HL g m H hp) (r : rep g m H d v) (e : seqD hp d = some ds) : ∃ a vs, v = .ref a ∧ (SqL g.K H a vs ∨ SqT g.K H a vs) ∧ reps g m H ds vs := by
  unfold seqD at e
  split at e
  · cases e
    obtain ⟨a, vs, h1, h2, h3⟩ := asT_ok r rfl
    exact ⟨a, vs, h1, .inr h2, h3⟩
  · obtain ⟨a, vs, h1, h2, h3⟩ := asL_ok hl r e
    exact ⟨a, vs, h1, .inl h2, h3⟩
theorem fIn_ok {m : AM} {H : Hp} {hp : HP} {neg : Bool} {x y : D} {v u : V} {Q : V → Hp → Prop} (hl : HL g m H hp) (rx : rep g m H x v) (ry : rep g m H y u) (h : PO g m H E (rep g) Q (fIn neg x y hp)) :
    (∃ i j, v = .str i ∧ u = .str j ∧ Q (.bl (if neg then !(!(Builtin.Str.occurrences j i 0 j.length 1).isEmpty) else !(Builtin.Str.occurrences j i 0 j.length 1).isEmpty)) H) ∨ rIn g.K neg v u H Q := by
  unfold fIn at h
  split at h
  · exact .inl ⟨_, _, rStr rx, rStr ry, PO.here hl h (by simp [rep])⟩
  · unfold inO at h
    split at h
    · rename_i ds e
      split at h
      · rename_i c
        obtain ⟨a, vs, rfl, hs, rs⟩ := seqD_ok hl ry e
        refine .inr ⟨a, vs, rfl, hs, flatD_ok _ _ rx c.1, reps.mem rs _ _ (fun d v => flatD_ok d v) c.2, ?_⟩
        rw [inD_ok rx c.1 rs c.2]
        exact PO.here hl h (by simp [rep])
      · exact h.elim
    · exact h.elim
theorem ok_in (hK : X.K = g.K) : OKS X g E (compareOp .In) (fIn false) := by
  refine ⟨_, op_in_str.or op_in_seq, fun m H hp x y v u Q hl rx ry h => ?_⟩
  rw [hK]
  exact fIn_ok hl rx ry h
theorem ok_notin (hK : X.K = g.K) : OKS X g E (compareOp .NotIn) (fIn true) := by
  refine ⟨_, op_notIn_str.or op_notIn_seq, fun m H hp x y v u Q hl rx ry h => ?_⟩
  rw [hK]
  exact fIn_ok hl rx ry h
@[simp] def kNeg : D → HP → R D
  | .int i, h => .ok (.int (-i)) h
  | _, _ => .stuck
@[simp] def mNeg (a : M D) (env : EN) (hp : HP) : R D := (a env hp).bind kNeg
theorem EV.neg {a : Expr} {pos : Pos} {fa : M D} (ha : EV g X E a fa) : EV g X E (.UnaryOp .USub a pos) (mNeg fa) := by
  obtain ⟨ta, pa, qa⟩ := ha
  refine ⟨_, pe_un un_neg pa, fun σ H Q m env hp hl er h => ?_⟩
  refine qa σ H _ m env hp hl er (PO.bind h fun x h1 m1 H1 v x1 hl1 r1 h => ?_)
  cases x with
  | int i => exact ⟨i, rInt r1, PO.here hl1 h (by simp [rep])⟩
  | _ => exact h.elim
@[simp] def okO : Option D → HP → R D
  | some d, h => .ok d h
  | none, _ => .stuck
@[simp] def ixS : Option Nat → HP → R D
  | some c, h => .ok (.str ⟨#[c]⟩) h
  | none, _ => .stuck
@[simp] def ixL (i : Int) : Option (List D) → HP → R D
  | some ds, h => okO (atI ds i) h
  | none, _ => .stuck
@[simp] def fIx : D → D → HP → R D
  | .str z, .int i, h => if z.length ≤ sizeLine then ixS (atI z.cps.toList i) h else .stuck
  | x, .int i, h => ixL i (seqD h x) h
  | _, _, _ => .stuck
theorem reps.atI {m : AM} {H : Hp} {ds : List D} {vs : List V} {i : Int} {d : D} (r : reps g m H ds vs) (e : L2.atI ds i = some d) : ∃ v, L2.atI vs i = some v ∧ rep g m H d v := by
  unfold L2.atI at e ⊢
  rw [← reps.length r]
  cases q : ixN ds.length i with
  | none => rw [q] at e; cases e
  | some j =>
    rw [q] at e
    exact reps.get r e
theorem EV.ix {a b : Expr} {pos : Pos} {fa fb : M D} (hK : X.K = g.K) (ha : EV g X E a fa) (hb : EV g X E b fb) (hs : PlainIx b) : EV g X E (.Subscript a b pos) (mBin fIx fa fb) := by
  obtain ⟨ta, pa, qa⟩ := ha
  obtain ⟨tb, pb, qb⟩ := hb
  refine ⟨_, pe_ix ix_seq pa pb hs, fun σ H Q m env hp hl er h => ?_⟩
  refine qa σ H _ m env hp hl er (PO.bind h fun x h1 m1 H1 v x1 hl1 r1 h => ?_)
  refine qb σ H1 _ m1 env h1 hl1 (er.ext x1) (PO.bind h fun y h2 m2 H2 u x2 hl2 r2 h => ?_)
  have r1 := rep.ext x2 _ _ r1
  rw [hK]
  unfold fIx at h
  split at h
  · split at h
    · rename_i c
      unfold ixS at h
      split at h
      · rename_i k e
        exact .inr (.inr ⟨_, _, k, rStr r1, rInt r2, c, e, PO.here hl2 h (by simp [rep])⟩)
      · exact h.elim
    · exact h.elim
  · unfold ixL at h
    split at h
    · rename_i ds e
      unfold okO at h
      split at h
      · rename_i d ed
        obtain ⟨p, vs, rfl, hs, rs⟩ := seqD_ok hl2 r1 e
        obtain ⟨w, ew, rw'⟩ := rs.atI ed
        rcases hs with hs | hs
        · exact .inl ⟨p, vs, _, w, rfl, rInt r2, hs, ew, PO.here hl2 h rw'⟩
        · exact .inr (.inl ⟨p, vs, _, w, rfl, rInt r2, hs, ew, PO.here hl2 h rw'⟩)
      · exact h.elim
    · exact h.elim
  · exact h.elim
/-- a part of a slice: left out, or an int -/
structure PV (g : G) (X : Cx) (E : XK) (e : Option Expr) (f : M (Option Int)) : Prop where
  ex : ∃ t, L2.PO X e t ∧ ∀ σ H Q m env hp, HL g m H hp → ER g m H σ env → PO g m H E (fun _ _ a b => a = b) Q (f env hp) → t σ H Q
@[simp] def pNo (_ : EN) (hp : HP) : R (Option Int) := .ok none hp
@[simp] def kYes : D → HP → R (Option Int)
  | .int i, h => .ok (some i) h
  | _, _ => .stuck
@[simp] def pYes (a : M D) (env : EN) (hp : HP) : R (Option Int) := (a env hp).bind kYes
theorem PV.no : PV g X E none pNo := ⟨_, po_none, fun σ H Q m env hp hl er h => h m H none (.refl _ _) hl rfl⟩
theorem PV.yes {e : Expr} {f : M D} (he : EV g X E e f) : PV g X E (some e) (pYes f) := by
  obtain ⟨t, p, q⟩ := he
  refine ⟨_, po_some p, fun σ H Q m env hp hl er h => ?_⟩
  refine q σ H _ m env hp hl er (PO.bind h fun x h1 m1 H1 v x1 hl1 r1 h => ?_)
  cases x with
  | int i => exact ⟨i, rInt r1, h m1 H1 (some i) (.refl _ _) hl1 rfl⟩
  | _ => exact h.elim
def cutD (xs : List D) (lo hi : Option Int) : List D := (xs.drop (HT.sIx xs.length 0 lo)).take (HT.sIx xs.length xs.length hi - HT.sIx xs.length 0 lo)
theorem cutD_all {xs : List D} {lo hi : Option Int} (c : HT.sIx xs.length 0 lo = 0 ∧ HT.sIx xs.length xs.length hi = xs.length) : cutD xs lo hi = xs := by
  unfold cutD
  rw [c.1, c.2]
  simp
theorem reps.cut {m : AM} {H : Hp} {ds : List D} {vs : List V} {lo hi : Option Int} (r : reps g m H ds vs) : reps g m H (cutD ds lo hi) (cutV vs lo hi) := by
  unfold cutD cutV
  rw [← reps.length r]
  exact (r.drop _).take _
@[simp] def slL (lo hi : Option Int) : Option (List D) → HP → R D
  | some ds, h => .ok (.lst (cutD ds lo hi)) h
  | none, _ => .stuck
@[simp] def fSl : D → Option Int → Option Int → HP → R D
  | .str z, lo, hi, h => if z.length ≤ sizeLine then .ok (.str (cutS z lo hi)) h else .stuck
  | .tup ds, lo, hi, h => .ok (.tup (cutD ds lo hi)) h
  | x, lo, hi, h => slL lo hi (asL h x) h
@[simp] def kSl2 (hi : M (Option Int)) (env : EN) (x : D) (l : Option Int) (h : HP) : R D := (hi env h).bind (fSl x l)
@[simp] def kSl1 (lo hi : M (Option Int)) (env : EN) (x : D) (h : HP) : R D := (lo env h).bind (kSl2 hi env x)
@[simp] def mSl (a : M D) (lo hi : M (Option Int)) (env : EN) (hp : HP) : R D := (a env hp).bind (kSl1 lo hi env)
theorem EV.sl {e : Expr} {lo hi : Option Expr} {p2 pos : Pos} {f : M D} {fl fh : M (Option Int)} (hK : X.K = g.K) (he : EV g X E e f) (hl : PV g X E lo fl) (hh : PV g X E hi fh) : EV g X E (.Subscript e (.Slice lo hi none p2) pos) (mSl f fl fh) := by
  obtain ⟨t, p, q⟩ := he
  obtain ⟨tl, pl, ql⟩ := hl
  obtain ⟨th, ph, qh⟩ := hh
  refine ⟨_, pe_slice (sl_tupA.or (sl_list.or sl_str)) p pl ph, fun σ H Q m env hp hl er h => ?_⟩
  refine q σ H _ m env hp hl er (PO.bind h fun x h1 m1 H1 v x1 hl1 r1 h => ?_)
  refine ql σ H1 _ m1 env h1 hl1 (er.ext x1) (PO.bind h fun y h2 m2 H2 u x2 hl2 r2 h => ?_)
  refine qh σ H2 _ m2 env h2 hl2 ((er.ext x1).ext x2) (PO.bind h fun z h3 m3 H3 w x3 hl3 r3 h => ?_)
  subst r2
  subst r3
  have r1 := rep.ext (x2.trans x3) _ _ r1
  rw [hK]
  unfold fSl at h
  split at h
  · rename_i s
    split at h
    · rename_i c
      exact .inr (.inr ⟨_, rStr r1, c, PO.here hl3 h (by simp [rep])⟩)
    · exact h.elim
  · obtain ⟨a, vs, rfl, hs, rs⟩ := rTup r1
    refine .inl ⟨a, vs, rfl, hs, fun c => ?_, fun _ p np => PO.newT hl3 rs.cut h p np⟩
    rw [← reps.length rs] at c
    rw [cutD_all c] at h
    exact PO.here hl3 h r1
  · unfold slL at h
    split at h
    · rename_i ds e
      obtain ⟨a, vs, rfl, hs, rs⟩ := asL_ok hl3 r1 e
      exact .inr (.inl ⟨a, vs, rfl, hs, fun p np => PO.newF hl3 rs.cut h p np⟩)
    · exact h.elim
end
end Ev
namespace Ev
open PySem PySem.Spec PyProof.Rows L2
section
variable {g : G} {X : Cx} {E : XK}
abbrev FA := List D → HP → R D
/-- a call by values keeps a rule -/
def CV (X : Cx) (g : G) (E : XK) (f : Value) (F : FA) : Prop := ∃ r, CallR X f r ∧ ∀ m H hp ds vs Q, HL g m H hp → reps g m H ds vs → PO g m H E (rep g) Q (F ds hp) → r vs H Q
@[simp] def mCall (F : FA) (a : M (List D)) (env : EN) (hp : HP) : R D := (a env hp).bind F
section
variable {x : Str} {id T : String} {p pos : Pos} {e : Expr} {es : List Expr} {fs : M (List D)} {F : FA}
theorem EV.callB (hc : CV X g E (.builtin id) F) (hm : X.mg x = none) (ha : AV g X E (e :: es) fs) (hg : Gl X x) (hv : bootBuiltins x = some (.builtin id)) (hn : x ≠ "__name__") (hdb : (x == ("__debug__" : Str)) = false)
    (he : starEach (e :: es) X.env = (false, eval e X.env) :: starEach es X.env) (hpl : (backTo pos (starEach es X.env)).any (·.1) = false) : EV g X E (.Call (.Name x p) (e :: es) [] pos) (mCall F fs) := by
  obtain ⟨r, hr, hc⟩ := hc
  obtain ⟨t, pa, qa⟩ := ha
  refine ⟨_, pe_callB hr hg hm hv pa hn hdb he hpl, fun σ H Q m env hp hl er h => ?_⟩
  exact qa σ H _ m env hp hl er (PO.bind h fun xs h1 m1 H1 vs x1 hl1 r1 h => hc m1 H1 h1 xs vs Q hl1 r1 h)
theorem EV.callT (hc : CV X g E (.type T) F) (hm : X.mg x = none) (ha : AV g X E (e :: es) fs) (hg : Gl X x) (hv : bootBuiltins x = some (.type T)) (hn : x ≠ "__name__") (hdb : (x == ("__debug__" : Str)) = false)
    (he : starEach (e :: es) X.env = (false, eval e X.env) :: starEach es X.env) (hpl : (backTo pos (starEach es X.env)).any (·.1) = false) : EV g X E (.Call (.Name x p) (e :: es) [] pos) (mCall F fs) := by
  obtain ⟨r, hr, hc⟩ := hc
  obtain ⟨t, pa, qa⟩ := ha
  refine ⟨_, pe_callTy hr hg hm hv pa hn hdb he hpl, fun σ H Q m env hp hl er h => ?_⟩
  exact qa σ H _ m env hp hl er (PO.bind h fun xs h1 m1 H1 vs x1 hl1 r1 h => hc m1 H1 h1 xs vs Q hl1 r1 h)
/-- a built-in function that a name of the module holds (math.isqrt) -/
theorem EV.callM (hc : CV X g E (.builtin id) F) (hm : X.mg x = some (.builtin id)) (ha : AV g X E (e :: es) fs) (hg : Gl X x) (hdb : (x == ("__debug__" : Str)) = false)
    (he : starEach (e :: es) X.env = (false, eval e X.env) :: starEach es X.env) (hpl : (backTo pos (starEach es X.env)).any (·.1) = false) : EV g X E (.Call (.Name x p) (e :: es) [] pos) (mCall F fs) := by
  obtain ⟨r, hr, hc⟩ := hc
  obtain ⟨t, pa, qa⟩ := ha
  refine ⟨_, pe_callBfun hr hg hm pa hdb he hpl, fun σ H Q m env hp hl er h => ?_⟩
  exact qa σ H _ m env hp hl er (PO.bind h fun xs h1 m1 H1 vs x1 hl1 r1 h => hc m1 H1 h1 xs vs Q hl1 r1 h)
end
theorem reps1 {m : AM} {H : Hp} {d : D} {vs : List V} (r : reps g m H [d] vs) : ∃ v, vs = [v] ∧ rep g m H d v := by
  simp only [reps] at r
  obtain ⟨v, r, rfl, h, rfl⟩ := r
  exact ⟨v, rfl, h⟩
theorem reps2 {m : AM} {H : Hp} {d e : D} {vs : List V} (r : reps g m H [d, e] vs) : ∃ v u, vs = [v, u] ∧ rep g m H d v ∧ rep g m H e u := by
  simp only [reps] at r
  obtain ⟨v, r, rfl, h, u, r2, rfl, h2, rfl⟩ := r
  exact ⟨v, u, rfl, h, h2⟩
@[simp] def lenO : Option (List D) → HP → R D
  | some ds, h => .ok (.int ds.length) h
  | none, _ => .stuck
@[simp] def bLen : List D → HP → R D
  | [.str z], h => if z.length ≤ sizeLine then .ok (.int z.length) h else .stuck
  | [x], h => lenO (seqD h x) h
  | _, _ => .stuck
theorem cv_len (hK : X.K = g.K) : CV X g E (.builtin "len") bLen := by
  refine ⟨_, call_len, fun m H hp ds vs Q hl r h => ?_⟩
  rw [hK]
  unfold bLen at h
  split at h
  · split at h
    · rename_i c
      obtain ⟨v, rfl, rr⟩ := reps1 r
      obtain rfl := rStr rr
      exact ⟨_, _, rfl, ⟨c, rfl⟩, PO.here hl h (by simp [rep])⟩
    · exact h.elim
  · unfold lenO at h
    split at h
    · rename_i es e
      obtain ⟨v, rfl, rr⟩ := reps1 r
      obtain ⟨a, us, rfl, hs, rs⟩ := seqD_ok hl rr e
      refine ⟨_, us.length, rfl, ?_, PO.here hl h (by rw [reps.length rs]; simp [rep])⟩
      rcases hs with hs | hs
      · exact .inl ⟨us, hs, rfl⟩
      · exact .inr ⟨us, hs, rfl⟩
    · exact h.elim
  · exact h.elim
@[simp] def bInt : List D → HP → R D
  | [.int i], h => .ok (.int i) h
  | [.bl b], h => .ok (.int (if b then 1 else 0)) h
  | _, _ => .stuck
theorem cv_int : CV X g E (.type "int") bInt := by
  refine ⟨_, call_int1, fun m H hp ds vs Q hl r h => ?_⟩
  unfold bInt at h
  split at h
  · obtain ⟨v, rfl, rr⟩ := reps1 r
    obtain rfl := rInt rr
    exact .inl ⟨_, rfl, PO.here hl h (by simp [rep])⟩
  · obtain ⟨v, rfl, rr⟩ := reps1 r
    obtain rfl := rBl rr
    exact .inr ⟨_, rfl, PO.here hl h (by simp [rep])⟩
  · exact h.elim
@[simp] def bAbs : List D → HP → R D
  | [.int i], h => .ok (.int (if i < 0 then -i else i)) h
  | _, _ => .stuck
theorem cv_abs : CV X g E (.builtin "abs") bAbs := by
  refine ⟨_, call_abs, fun m H hp ds vs Q hl r h => ?_⟩
  unfold bAbs at h
  split at h
  · obtain ⟨v, rfl, rr⟩ := reps1 r
    obtain rfl := rInt rr
    exact ⟨_, rfl, PO.here hl h (by simp [rep])⟩
  · exact h.elim
@[simp] def intsD : List D → Option (List Int)
  | [] => some []
  | .int i :: ds => (intsD ds).map (i :: ·)
  | _ => none
theorem intsD_ok {m : AM} {H : Hp} : ∀ {ds : List D} {vs : List V} {ns : List Int}, reps g m H ds vs → intsD ds = some ns → vs = ns.map V.int
  | [], vs, ns, r, e => by simp only [reps] at r; subst r; cases e; rfl
  | .int i :: ds, vs, ns, r, e => by
    simp only [reps] at r
    obtain ⟨v, r', rfl, h1, h2⟩ := r
    simp only [intsD] at e
    obtain ⟨ms, e1, rfl⟩ := Option.map_eq_some_iff.mp e
    obtain rfl := rInt h1
    rw [intsD_ok h2 e1, List.map_cons]
  | .non :: ds, vs, ns, r, e => by cases e
  | .bl _ :: ds, vs, ns, r, e => by cases e
  | .str _ :: ds, vs, ns, r, e => by cases e
  | .tup _ :: ds, vs, ns, r, e => by cases e
  | .lst _ :: ds, vs, ns, r, e => by cases e
  | .klst _ :: ds, vs, ns, r, e => by cases e
  | .dic _ :: ds, vs, ns, r, e => by cases e
  | .set _ :: ds, vs, ns, r, e => by cases e
  | .ins _ _ :: ds, vs, ns, r, e => by cases e
  | .ref _ :: ds, vs, ns, r, e => by cases e
  | .xcp _ _ :: ds, vs, ns, r, e => by cases e
theorem intsD_map (ns : List Int) : intsD (ns.map D.int) = some ns := by
  induction ns with
  | nil => rfl
  | cons n ns ih => simp [intsD, ih]
@[simp] def blsD : List D → Option (List Bool)
  | [] => some []
  | .bl i :: ds => (blsD ds).map (i :: ·)
  | _ => none
theorem blsD_ok {m : AM} {H : Hp} : ∀ {ds : List D} {vs : List V} {ns : List Bool}, reps g m H ds vs → blsD ds = some ns → vs = ns.map V.bl
  | [], vs, ns, r, e => by simp only [reps] at r; subst r; cases e; rfl
  | .bl i :: ds, vs, ns, r, e => by
    simp only [reps] at r
    obtain ⟨v, r', rfl, h1, h2⟩ := r
    simp only [blsD] at e
    obtain ⟨ms, e1, rfl⟩ := Option.map_eq_some_iff.mp e
    obtain rfl := rBl h1
    rw [blsD_ok h2 e1, List.map_cons]
  | .non :: ds, vs, ns, r, e => by cases e
  | .int _ :: ds, vs, ns, r, e => by cases e
  | .str _ :: ds, vs, ns, r, e => by cases e
  | .tup _ :: ds, vs, ns, r, e => by cases e
  | .lst _ :: ds, vs, ns, r, e => by cases e
  | .klst _ :: ds, vs, ns, r, e => by cases e
  | .dic _ :: ds, vs, ns, r, e => by cases e
  | .set _ :: ds, vs, ns, r, e => by cases e
  | .ins _ _ :: ds, vs, ns, r, e => by cases e
  | .ref _ :: ds, vs, ns, r, e => by cases e
  | .xcp _ _ :: ds, vs, ns, r, e => by cases e
theorem blsD_map (ns : List Bool) : blsD (ns.map D.bl) = some ns := by
  induction ns with
  | nil => rfl
  | cons n ns ih => simp [blsD, ih]
@[simp] def sumN : Option (List Int) → HP → R D
  | some ns, h => .ok (.int ns.sum) h
  | none, _ => .stuck
@[simp] def sumO : Option (List D) → HP → R D
  | some es, h => sumN (intsD es) h
  | none, _ => .stuck
@[simp] def bSum : List D → HP → R D
  | [x], h => sumO (asL h x) h
  | _, _ => .stuck
theorem cv_sum (hK : X.K = g.K) (hc : X.calm = true) : CV X g E (.builtin "sum") bSum := by
  refine ⟨_, cr_sum hc, fun m H hp ds vs Q hl r h => ?_⟩
  rw [hK]
  unfold bSum at h
  split at h
  · unfold sumO at h
    split at h
    · rename_i es e
      unfold sumN at h
      split at h
      · rename_i ns en
        obtain ⟨v, rfl, rr⟩ := reps1 r
        obtain ⟨a, us, rfl, hs, rs⟩ := asL_ok hl rr e
        have := intsD_ok rs en
        subst this
        exact ⟨a, ns, rfl, hs, PO.here hl h (by simp [rep])⟩
      · exact h.elim
    · exact h.elim
  · exact h.elim
@[simp] def allN : Option (List Bool) → HP → R D
  | some ns, h => .ok (.bl (ns.all id)) h
  | none, _ => .stuck
@[simp] def allO : Option (List D) → HP → R D
  | some es, h => allN (blsD es) h
  | none, _ => .stuck
@[simp] def bAll : List D → HP → R D
  | [x], h => allO (asL h x) h
  | _, _ => .stuck
theorem cv_all (hK : X.K = g.K) (hc : X.calm = true) : CV X g E (.builtin "all") bAll := by
  refine ⟨_, cr_all hc, fun m H hp ds vs Q hl r h => ?_⟩
  rw [hK]
  unfold bAll at h
  split at h
  · unfold allO at h
    split at h
    · rename_i es e
      unfold allN at h
      split at h
      · rename_i ns en
        obtain ⟨v, rfl, rr⟩ := reps1 r
        obtain ⟨a, us, rfl, hs, rs⟩ := asL_ok hl rr e
        have := blsD_ok rs en
        subst this
        exact ⟨a, ns, rfl, hs, PO.here hl h (by simp [rep])⟩
      · exact h.elim
    · exact h.elim
  · exact h.elim
@[simp] def anyN : Option (List Bool) → HP → R D
  | some ns, h => .ok (.bl (ns.any id)) h
  | none, _ => .stuck
@[simp] def anyO : Option (List D) → HP → R D
  | some es, h => anyN (blsD es) h
  | none, _ => .stuck
@[simp] def bAny : List D → HP → R D
  | [x], h => anyO (asL h x) h
  | _, _ => .stuck
theorem cv_any (hK : X.K = g.K) (hc : X.calm = true) : CV X g E (.builtin "any") bAny := by
  refine ⟨_, cr_any hc, fun m H hp ds vs Q hl r h => ?_⟩
  rw [hK]
  unfold bAny at h
  split at h
  · unfold anyO at h
    split at h
    · rename_i es e
      unfold anyN at h
      split at h
      · rename_i ns en
        obtain ⟨v, rfl, rr⟩ := reps1 r
        obtain ⟨a, us, rfl, hs, rs⟩ := asL_ok hl rr e
        have := blsD_ok rs en
        subst this
        exact ⟨a, ns, rfl, hs, PO.here hl h (by simp [rep])⟩
      · exact h.elim
    · exact h.elim
  · exact h.elim
/-- the greatest, the least of a list -/
def maxL : List Int → Int
  | [] => 0
  | [n] => n
  | n :: ns => if maxL ns > n then maxL ns else n
def minL : List Int → Int
  | [] => 0
  | [n] => n
  | n :: ns => if minL ns < n then minL ns else n
theorem maxL_mem : ∀ {ns : List Int}, ns ≠ [] → maxL ns ∈ ns ∧ ∀ y ∈ ns, y ≤ maxL ns
  | [], h => absurd rfl h
  | [n], _ => by simp [maxL]
  | n :: k :: ns, _ => by
    have ih := maxL_mem (ns := k :: ns) (by simp)
    unfold maxL
    split
    · refine ⟨List.mem_cons_of_mem _ ih.1, fun y hy => ?_⟩
      rcases List.mem_cons.mp hy with e | hy
      · subst e; omega
      · exact ih.2 y hy
    · refine ⟨List.mem_cons_self .., fun y hy => ?_⟩
      rcases List.mem_cons.mp hy with e | hy
      · subst e; omega
      · have := ih.2 y hy; omega
theorem minL_mem : ∀ {ns : List Int}, ns ≠ [] → minL ns ∈ ns ∧ ∀ y ∈ ns, minL ns ≤ y
  | [], h => absurd rfl h
  | [n], _ => by simp [minL]
  | n :: k :: ns, _ => by
    have ih := minL_mem (ns := k :: ns) (by simp)
    unfold minL
    split
    · refine ⟨List.mem_cons_of_mem _ ih.1, fun y hy => ?_⟩
      rcases List.mem_cons.mp hy with e | hy
      · subst e; omega
      · exact ih.2 y hy
    · refine ⟨List.mem_cons_self .., fun y hy => ?_⟩
      rcases List.mem_cons.mp hy with e | hy
      · subst e; omega
      · have := ih.2 y hy; omega
section
variable {prog : Program} {w : World} {A : Around} {Ex : Value → Shared → Prop} {s : Shared} {l : Addr}
theorem kept_tup {h' : Heap} (hk : ∀ b o, b ∉ [s.heap.objs.size] → (s.heap.push { cls := .type "tuple_iterator", data := .fields #[.ref l, .int 0 0] }).get? b = some o → h'.get? b = some o) :
    ∀ b o, s.heap.get? b = some o → h'.get? b = some o := fun b o e => by
  refine hk b o (fun hm => ?_) (Heap.get?_push_of_some _ e)
  rcases List.mem_cons.mp hm with e1 | hm
  · exact absurd (e1 ▸ Heap.lt_size e) (Nat.lt_irrefl _)
  · cases hm
theorem foot_tup (hlt : l < s.heap.objs.size) : ∀ b ∈ [s.heap.objs.size, l], b < (s.heap.push { cls := .type "tuple_iterator", data := .fields #[.ref l, .int 0 0] }).objs.size := fun b hb => by
  rw [Heap.size_push]
  rcases List.mem_cons.mp hb with rfl | hb
  · exact Nat.lt_succ_self _
  · rcases List.mem_cons.mp hb with rfl | hb
    · exact Nat.lt_succ_of_lt hlt
    · cases hb
theorem max_intTup {xs : Array (Int × Tok)} {Q : Value → Shared → Prop} (hh : A.handled = none) (hl : s.heap.IsTuple l (intItems xs)) (hne : 0 < xs.size)
    (h : ∀ v h' tk, (intItems xs)[argBest (fun i j => decide (numAt xs i > numAt xs j)) (xs.size - 1)]? = some v → (∀ b o, s.heap.get? b = some o → h'.get? b = some o) → Q v { s with heap := h', toks := tk }) :
    wpAny (model prog w) A (call (.builtin "max") [.ref l]) Q Ex s := by
  have hlt : l < s.heap.objs.size := by obtain ⟨_, e, _⟩ := hl; exact Heap.lt_size e
  refine call_max_walk (wpAny_pyIter_tuple hl ?_)
  refine ⟨_, _, _, _, _, _, _, rfl, Walks.tuple (A := A.in1) hh _ l (Nat.ne_of_lt hlt) (intItems xs), ⟨⟨_, Heap.get?_push_size _ rfl, rfl, rfl⟩, hl.push _⟩, foot_tup hlt, by simpa [intItems] using hne, CmpOf.ints_gt (numAt xs) (fun _ _ => intItems_at), fun v h' tk hP hk => ?_⟩
  exact h v h' tk (by simpa [intItems] using hP) (kept_tup hk)
theorem max_rawT {its : List Value} {ns : List Int} {Q : Value → Shared → Prop} (hh : A.handled = none) (hl : s.heap.IsTuple l its.toArray) (hi : IntsAre its ns) (hne : 0 < ns.length)
    (h : ∀ h' tk M t', (∀ b o, s.heap.get? b = some o → h'.get? b = some o) → M ∈ ns → (∀ a, a ∈ ns → a ≤ M) → Q (.int M t') { s with heap := h', toks := tk }) : wpAny (model prog w) A (call (.builtin "max") [.ref l]) Q Ex s := by
  obtain ⟨xs, e⟩ := hi.allInts.items
  have hn : numsOf (intItems xs).toList = ns := by rw [← e]; exact hi.numsOf
  rw [nums_intItems] at hn
  subst hn
  rw [e] at hl
  have hsz : 0 < xs.size := by simpa using hne
  refine max_intTup hh hl hsz fun v h' tk hv hk => ?_
  obtain ⟨t, rfl⟩ := intItems_at hv
  obtain ⟨h1, h2⟩ := argBest_gt (numAt xs) (xs.size - 1)
  refine h h' tk _ t hk ?_ fun a ha => ?_
  · rw [numAt_eq]; exact PySem.getD_mem (by rw [List.length_map, Array.length_toList]; omega)
  · obtain ⟨j, hj, rfl⟩ := mem_getD ha
    rw [List.length_map, Array.length_toList] at hj
    rw [← numAt_eq]; exact h2 j (by omega)
end
def rMaxT (K : PySem.W.Frag) : List V → Hp → VK → Prop := fun vs H Q => ∃ (a : Addr) (ns : List Int), vs = [V.ref a] ∧ SqT K H a (ns.map V.int) ∧ 0 < ns.length ∧ ∀ m, m ∈ ns → (∀ y, y ∈ ns → y ≤ m) → Q (.int m) H
theorem cr_maxT (hc : X.calm = true) : CallR X (.builtin "max") (rMaxT X.K) := by
  intro pins s σ H vs us Q I r h
  obtain ⟨a, ns, rfl, hs, hne, q⟩ := h
  obtain ⟨its, rv, hl, _⟩ := I.tuple hs
  rw [Vals.ref1 r]
  exact max_rawT (I.ok.hd hc) hl rv.ints hne fun h' tk m t' hk h1 h2 => ⟨.int _, H, I.kept hk, ⟨_, rfl⟩, q m h1 h2⟩
theorem reps_cons {m : AM} {H : Hp} {d : D} {ds : List D} {vs : List V} (r : reps g m H (d :: ds) vs) : ∃ v us, vs = v :: us ∧ rep g m H d v ∧ reps g m H ds us := by
  simp only [reps] at r
  obtain ⟨v, r', rfl, h1, h2⟩ := r
  exact ⟨v, r', rfl, h1, h2⟩
theorem numax3_int (i j k : Int) : nuMax3 (.int i) (.int j) (.int k) = some (.int (if k > (if j > i then j else i) then k else (if j > i then j else i))) := by
  by_cases c : i < j
  · by_cases c2 : j < k <;> simp [nuMax3, nuMax2, nuLt, nuCB, c, c2]
  · by_cases c2 : i < k <;> simp [nuMax3, nuMax2, nuLt, nuCB, c, c2]
@[simp] def maxN : Option (List Int) → HP → R D
  | some ns, h => if 0 < ns.length then .ok (.int (maxL ns)) h else .stuck
  | none, _ => .stuck
@[simp] def maxO : Option (List D) → HP → R D
  | some es, h => maxN (intsD es) h
  | none, _ => .stuck
@[simp] def bMax : List D → HP → R D
  | [.int i, .int j], h => .ok (.int (if j > i then j else i)) h
  | [.int i, .int j, .int k], h => .ok (.int (if k > (if j > i then j else i) then k else (if j > i then j else i))) h
  | [.tup ds], h => maxN (intsD ds) h
  | [x], h => maxO (asL h x) h
  | _, _ => .stuck
theorem CallR.or {f : Value} {r r' : List V → Hp → VK → Prop} (h : CallR X f r) (h' : CallR X f r') : CallR X f (fun xs H Q => r xs H Q ∨ r' xs H Q) := by
  intro pins s σ H xs us Q I rx q
  rcases q with q | q
  · exact h pins s σ H xs us Q I rx q
  · exact h' pins s σ H xs us Q I rx q
theorem cv_max (hK : X.K = g.K) (hc : X.calm = true) : CV X g E (.builtin "max") bMax := by
  refine ⟨_, (call_max2 hc).or ((cr_max hc).or ((call_max3Nu hc).or (cr_maxT hc))), fun m H hp ds vs Q hl r h => ?_⟩
  rw [hK]
  unfold bMax at h
  split at h
  · obtain ⟨v, u, rfl, r1, r2⟩ := reps2 r
    obtain rfl := rInt r1
    obtain rfl := rInt r2
    exact .inl ⟨_, _, rfl, PO.here hl h (by simp [rep])⟩
  · obtain ⟨v, vs1, rfl, r1, r2⟩ := reps_cons r
    obtain ⟨v2, v3, rfl, r2, r3⟩ := reps2 r2
    obtain rfl := rInt r1
    obtain rfl := rInt r2
    obtain rfl := rInt r3
    exact .inr (.inr (.inl ⟨_, _, _, _, rfl, numax3_int _ _ _, PO.here hl h (by simp [rep])⟩))
  · unfold maxN at h
    split at h
    · rename_i ns en
      split at h
      · rename_i c
        obtain ⟨v, rfl, rr⟩ := reps1 r
        obtain ⟨a, us, rfl, hs, rs⟩ := asT_ok rr rfl
        have := intsD_ok rs en
        subst this
        refine .inr (.inr (.inr ⟨a, ns, rfl, hs, c, fun M h1 h2 => ?_⟩))
        obtain ⟨k1, k2⟩ := maxL_mem (ns := ns) (by intro z; subst z; simp at c)
        have e : M = maxL ns := Int.le_antisymm (k2 M h1) (h2 _ k1)
        rw [e]
        exact PO.here hl h (by simp [rep])
      · exact h.elim
    · exact h.elim
  · unfold maxO at h
    split at h
    · rename_i es e
      unfold maxN at h
      split at h
      · rename_i ns en
        split at h
        · rename_i c
          obtain ⟨v, rfl, rr⟩ := reps1 r
          obtain ⟨a, us, rfl, hs, rs⟩ := asL_ok hl rr e
          have := intsD_ok rs en
          subst this
          refine .inr (.inl ⟨a, ns, rfl, hs, c, fun M h1 h2 => ?_⟩)
          obtain ⟨k1, k2⟩ := maxL_mem (ns := ns) (by intro z; subst z; simp at c)
          have e : M = maxL ns := Int.le_antisymm (k2 M h1) (h2 _ k1)
          rw [e]
          exact PO.here hl h (by simp [rep])
        · exact h.elim
      · exact h.elim
    · exact h.elim
  · exact h.elim
@[simp] def minN : Option (List Int) → HP → R D
  | some ns, h => if 0 < ns.length then .ok (.int (minL ns)) h else .stuck
  | none, _ => .stuck
@[simp] def minO : Option (List D) → HP → R D
  | some es, h => minN (intsD es) h
  | none, _ => .stuck
@[simp] def bMin : List D → HP → R D
  | [.int i, .int j], h => .ok (.int (if j < i then j else i)) h
  | [.int i, .int j, .int k], h => .ok (.int (if k < (if j < i then j else i) then k else (if j < i then j else i))) h
  | [.tup ds], h => minN (intsD ds) h
  | [x], h => minO (asL h x) h
  | _, _ => .stuck
@[simp] def tupO : Option (List D) → HP → R D
  | some es, h => .ok (.tup es) h
  | none, _ => .stuck
@[simp] def bTuple : List D → HP → R D
  | [.tup ds], h => .ok (.tup ds) h
  | [x], h => tupO (asL h x) h
  | _, _ => .stuck
theorem cv_tuple (hK : X.K = g.K) : CV X g E (.type "tuple") bTuple := by
  refine ⟨_, call_tuple_of, fun m H hp ds vs Q hl r h => ?_⟩
  rw [hK]
  unfold bTuple at h
  split at h
  · obtain ⟨v, rfl, rr⟩ := reps1 r
    obtain ⟨a, us, rfl, hs, rs⟩ := rTup rr
    exact ⟨a, us, rfl, .inr ⟨hs, PO.here hl h rr⟩⟩
  · unfold tupO at h
    split at h
    · rename_i es e
      obtain ⟨v, rfl, rr⟩ := reps1 r
      obtain ⟨a, us, rfl, hs, rs⟩ := asL_ok hl rr e
      exact ⟨a, us, rfl, .inl ⟨hs, PO.newT hl rs h⟩⟩
    · exact h.elim
  · exact h.elim
@[simp] def listO (live : Bool) : Option (List D) → HP → R D
  | some es, h => newL live es h
  | none, _ => .stuck
@[simp] def bList (live : Bool) : List D → HP → R D
  | [x], h => listO live (seqD h x) h
  | _, _ => .stuck
theorem cv_list (live : Bool) (hK : X.K = g.K) : CV X g E (.type "list") (bList live) := by
  refine ⟨_, call_list_of, fun m H hp ds vs Q hl r h => ?_⟩
  rw [hK]
  unfold bList at h
  split at h
  · unfold listO at h
    split at h
    · rename_i es e
      obtain ⟨v, rfl, rr⟩ := reps1 r
      obtain ⟨a, us, rfl, hs, rs⟩ := seqD_ok hl rr e
      exact ⟨a, us, rfl, hs, (PO.newL hl rs h).2⟩
    · exact h.elim
  · exact h.elim
/-- isqrt, for numbers below 2 ^ 6000 -/
@[simp] def bIsqrt : List D → HP → R D
  | [.int i], h => if 0 ≤ i ∧ i.toNat.log2 < 6000 then .ok (.int ((Float64.isqrt i.toNat : Nat) : Int)) h else .stuck
  | _, _ => .stuck
theorem cr_isqrt : CallR X (.builtin "math.isqrt") (fun xs H Q => ∃ i : Int, xs = [.int i] ∧ 0 ≤ i ∧ i.toNat.log2 < 6000 ∧ Q (.int ((Float64.isqrt i.toNat : Nat) : Int)) H) := by
  intro pins s σ H xs us Q I r h
  obtain ⟨i, rfl, h0, h1, q⟩ := h
  obtain ⟨u, rfl, t, rfl⟩ := vals1 r
  exact call_function_meets PySem.W.MGF.kind_isqrt PySem.W.MGF.plain_isqrt PySem.W.MGF.entry_isqrt (PySem.W.MGF.args_isqrt _) (PySem.W.mg_run_isqrt i t (by omega) (by omega) (by omega)).meets ⟨.int _, H, I.tok _, ⟨_, rfl⟩, q⟩
theorem cv_isqrt : CV X g E (.builtin "math.isqrt") bIsqrt := by
  refine ⟨_, cr_isqrt, fun m H hp ds vs Q hl r h => ?_⟩
  unfold bIsqrt at h
  split at h
  · split at h
    · rename_i c
      obtain ⟨v, rfl, rr⟩ := reps1 r
      obtain rfl := rInt rr
      exact ⟨_, rfl, c.1, c.2, PO.here hl h (by simp [rep])⟩
    · exact h.elim
  · exact h.elim
@[simp] def tyO : Option O → Option String
  | some (.lst _) => some "list"
  | some (.dic _) => some "dict"
  | _ => none
@[simp] def tyD (h : HP) : D → Option String
  | .non => some "NoneType"
  | .bl _ => some "bool"
  | .int _ => some "int"
  | .str _ => some "str"
  | .tup _ => some "tuple"
  | .lst _ => some "list"
  | .dic _ => some "dict"
  | .ref n => tyO h[n]?
  | _ => none
theorem tyD_ok {m : AM} {H : Hp} {hp : HP} {d : D} {v : V} {T : String} (hl : HL g m H hp) (r : rep g m H d v) (e : tyD hp d = some T) : TyX g.K H v (.type T) := by
  cases d with
  | non => cases e; simp only [rep] at r; subst r; exact .base .non
  | bl b => cases e; simp only [rep] at r; subst r; exact .base (.bl b)
  | int b => cases e; simp only [rep] at r; subst r; exact .base (.int b)
  | str b => cases e; simp only [rep] at r; subst r; exact .base (.str b)
  | tup ds =>
    cases e
    simp only [rep] at r
    obtain ⟨a, vs, rfl, f, _⟩ := r
    rcases f with ⟨f | ⟨o, f⟩, _⟩ | ⟨o, its, n, k1, k2, _⟩
    · exact .base (.tup f)
    · exact .fTuple f
    · exact .kTuple k1 k2
  | lst ds =>
    cases e
    simp only [rep] at r
    obtain ⟨a, vs, rfl, f, _⟩ := r
    exact .base (.lst f)
  | klst ds => cases e
  | dic ds =>
    cases e
    simp only [rep] at r
    obtain ⟨a, vs, rfl, f, _⟩ := r
    exact .base (.dK f)
  | set ks => cases e
  | ins c fs => cases e
  | xcp c fs => cases e
  | ref n =>
    simp only [tyD] at e
    simp only [rep] at r
    unfold tyO at e
    split at e
    · rename_i ds q
      cases e
      obtain ⟨a, ea, vs, ha, _⟩ := hl.at q (by simp)
      rw [r.2 a ea]
      exact .base (.lst ha)
    · rename_i ds q
      cases e
      obtain ⟨a, ea, vs, ha, _⟩ := hl.at q (by simp)
      rw [r.2 a ea]
      exact .base (.dK ha)
    · cases e
@[simp] def isiB : Option Bool → HP → R D
  | some b, h => .ok (.bl b) h
  | none, _ => .stuck
@[simp] def isiO (T : String) : Option String → HP → R D
  | some S, h => isiB (kitB S T) h
  | none, _ => .stuck
@[simp] def kIsi (T : String) (x : D) (h : HP) : R D := isiO T (tyD h x) h
@[simp] def mIsi (T : String) (a : M D) (env : EN) (hp : HP) : R D := (a env hp).bind (kIsi T)
theorem pe_bty {x : Str} {T : String} {pos : Pos} (hg : Gl X x) (hm : X.mg x = none) (hv : bootBuiltins x = some (.type T)) (hn : x ≠ "__name__") (hd : (x == ("__debug__" : Str)) = false) : PE X (.Name x pos) (tC (.ty T)) := pe_bltn (v := .ty T) hg hm hv rfl hn hd
theorem EV.isi {T : String} {t isi : Str} {a : Expr} {p p2 pos : Pos} {fa : M D} (hK : X.K = g.K) (he0 : isi = "isinstance") (hm : X.mg isi = none) (hmt : X.mg t = none) (ha : EV g X E a fa) (hg : Gl X isi) (hgt : Gl X t) (hv : bootBuiltins t = some (.type T)) (hn : t ≠ "__name__") (hd : (t == ("__debug__" : Str)) = false)
    (he : starEach [a, .Name t p2] X.env = (false, eval a X.env) :: starEach [.Name t p2] X.env) : EV g X E (.Call (.Name isi p) [a, .Name t p2] [] pos) (mIsi T fa) := by
  subst he0
  obtain ⟨ta, pa, qa⟩ := ha
  refine ⟨_, pe_callB call_isi hg hm (by decide +kernel) (pa_cons pa (pa_cons (pe_bty hgt hmt hv hn hd) pa_nil rfl) he) (by decide) (by decide) he rfl, fun σ H Q m env hp hl er h => ?_⟩
  refine qa σ H _ m env hp hl er (PO.bind h fun x h1 m1 H1 v x1 hl1 r1 h => ?_)
  rw [hK]
  unfold kIsi isiO at h
  split at h
  · rename_i S e
    unfold isiB at h
    split at h
    · rename_i b eb
      exact ⟨v, .ty T, .type S, .type T, b, rfl, .ty T, tyD_ok hl1 r1 e, kit_ty eb, PO.here hl1 h (by simp [rep])⟩
    · exact h.elim
  · exact h.elim
end
end Ev
namespace Ev
open PySem PySem.Spec PyProof.Rows L2
section
variable {g : G} {X : Cx} {E : XK}
abbrev TF := D → EN → HP → Option EN
abbrev TFs := List D → EN → HP → Option EN
/-- the slots at `is` may be turned, the others stay -/
def Turned (is : List Nat) (σ σ' : L2.St) : Prop := σ'.length = σ.length ∧ ∀ j, j ∉ is → σ'[j]? = σ[j]?
theorem Turned.refl (is : List Nat) (σ : L2.St) : Turned is σ σ := ⟨rfl, fun _ _ => rfl⟩
theorem Turned.trans {is : List Nat} {a b c : L2.St} (x : Turned is a b) (y : Turned is b c) : Turned is a c := ⟨y.1.trans x.1, fun j h => (y.2 j h).trans (x.2 j h)⟩
theorem Turned.mono {is js : List Nat} {a b : L2.St} (x : Turned is a b) (h : ∀ i ∈ is, i ∈ js) : Turned js a b := ⟨x.1, fun j hj => x.2 j fun z => hj (h j z)⟩
structure GV (g : G) (X : Cx) (tg : Expr) (is : List Nat) (f : TF) : Prop where
  ex : ∃ t, PG X tg t ∧ ∀ v σ H Q m env hp d, HL g m H hp → ER g m H σ env → rep g m H d v → (∃ env', f d env hp = some env' ∧ ∀ σ', Turned is σ σ' → ER g m H σ' env' → Q σ' H) → t v σ H Q
structure GVs (g : G) (X : Cx) (tgs : List Expr) (is : List Nat) (f : TFs) : Prop where
  ex : ∃ t, PGs X tgs t ∧ ∀ vs σ H Q m env hp ds, HL g m H hp → ER g m H σ env → reps g m H ds vs → (∃ env', f ds env hp = some env' ∧ ∀ σ', Turned is σ σ' → ER g m H σ' env' → Q σ' H) → t vs σ H Q
theorem ER.set {m : AM} {H : Hp} {σ : L2.St} {env : EN} {i : Nat} {d : D} {v : V} (er : ER g m H σ env) (r : rep g m H d v) : ER g m H (σ.set i (some v)) (env.set i (some d)) := by
  refine ⟨by simp [er.len], fun j e h => ?_⟩
  by_cases hj : i = j
  · subst hj
    rw [List.getElem?_set_self'] at h
    cases q : env[i]? with
    | none => rw [q] at h; cases h
    | some z =>
      rw [q] at h
      cases h
      have : i < σ.length := by rw [er.len]; exact (List.getElem?_eq_some_iff.mp q).1
      exact ⟨v, by rw [List.getElem?_set_self this], r⟩
  · rw [List.getElem?_set_ne hj] at h
    obtain ⟨w, e1, r1⟩ := er.at_ j e h
    exact ⟨w, by rw [List.getElem?_set_ne hj]; exact e1, r1⟩
@[simp] def gNm (i : Nat) (d : D) (env : EN) (_ : HP) : Option EN := some (env.set i (some d))
theorem GV.name {i : Nat} {x : Str} {pos : Pos} (hN : X.N.Nodup) (hi : X.N[i]? = some x) (hx : Loc X.env.scope x) (hf : X.fn x = true ∨ X.env.scope.names.lookup x = some .local) : GV g X (.Name x pos) [i] (gNm i) := by
  refine ⟨_, pg_name hN hi hx hf, fun v σ H Q m env hp d hl er r ⟨env', e, h⟩ => ?_⟩
  cases e
  refine h _ ⟨by simp, fun j hj => ?_⟩ (er.set r)
  rw [List.getElem?_set_ne (by intro z; subst z; simp at hj)]
@[simp] def gsNil : List D → EN → HP → Option EN
  | [], env, _ => some env
  | _, _, _ => none
@[simp] def gsK (fs : TFs) (ds : List D) (h : HP) : Option EN → Option EN
  | some env => fs ds env h
  | none => none
@[simp] def gsCons (f : TF) (fs : TFs) : List D → EN → HP → Option EN
  | d :: ds, env, h => gsK fs ds h (f d env h)
  | [], _, _ => none
theorem GVs.nil {is : List Nat} : GVs g X [] is gsNil := by
  refine ⟨_, pgs_nil, fun vs σ H Q m env hp ds hl er r ⟨env', e, h⟩ => ?_⟩
  cases ds with
  | nil =>
    cases e
    simp only [reps] at r
    exact ⟨r, h σ (.refl _ _) er⟩
  | cons _ _ => cases e
theorem GVs.cons {t : Expr} {ts : List Expr} {is js ks : List Nat} {f : TF} {fs : TFs} (h1 : GV g X t is f) (h2 : GVs g X ts js fs) (hi : ∀ i ∈ is, i ∈ ks) (hj : ∀ i ∈ js, i ∈ ks) (hs : (assignEach (t :: ts) X.env).map (·.2) = assign t X.env :: (assignEach ts X.env).map (·.2)) : GVs g X (t :: ts) ks (gsCons f fs) := by
  obtain ⟨ta, pa, qa⟩ := h1
  obtain ⟨tb, pb, qb⟩ := h2
  refine ⟨_, pgs_cons pa pb hs, fun vs σ H Q m env hp ds hl er r ⟨env', e, h⟩ => ?_⟩
  cases ds with
  | nil => cases e
  | cons d ds =>
    simp only [reps] at r
    obtain ⟨v, vr, rfl, r1, r2⟩ := r
    simp only [gsCons] at e
    obtain ⟨env1, e1, e2⟩ : ∃ env1, f d env hp = some env1 ∧ fs ds env1 hp = some env' := by
      revert e
      cases f d env hp with
      | some z => exact fun e => ⟨z, rfl, e⟩
      | none => exact fun e => by cases e
    refine ⟨v, vr, rfl, qa v σ H _ m env hp d hl er r1 ⟨env1, e1, fun σ' t' er' => ?_⟩⟩
    exact qb vr σ' H Q m env1 hp ds hl er' r2 ⟨env', e2, fun σ2 t2 er2 => h σ2 ((t'.mono hi).trans (t2.mono hj)) er2⟩
@[simp] def gTp (n : Nat) (fs : TFs) : D → EN → HP → Option EN
  | .tup ds, env, h => if ds.length = n then fs ds env h else none
  | _, _, _ => none
theorem GV.tup {es : List Expr} {k n : Nat} {pos : Pos} {is : List Nat} {fs : TFs} (hK : X.K = g.K) (hc : X.calm = true) (h : GVs g X es is fs) (hn : (assignEach es X.env).length = n) (hst : (assignEach es X.env).findIdx? (·.1) = none) : GV g X (.Tuple es k pos) is (gTp n fs) := by
  obtain ⟨t, p, q⟩ := h
  refine ⟨_, pg_tup hc p hn hst, fun v σ H Q m env hp d hl er r ⟨env', e, h⟩ => ?_⟩
  rw [hK]
  cases d with
  | tup ds =>
    simp only [gTp] at e
    split at e
    · rename_i c
      obtain ⟨a, vs, rfl, hs, rs⟩ := rTup r
      exact ⟨a, vs, rfl, hs, by rw [← reps.length rs]; exact c, q vs σ H Q m env hp ds hl er rs ⟨env', e, h⟩⟩
    · cases e
  | _ => cases e
/-- the items, and the live lists that must stay while they are walked -/
abbrev GdL := List (Nat × List D)
abbrev IM := EN → HP → R (List D × GdL)
def Gd (gd : GdL) (hp : HP) : Prop := ∀ p ∈ gd, hp[p.1]? = some (.lst p.2)
/-- the iterator J gives the items while the guard holds -/
structure Foll (g : G) (m0 : AM) (H0 : Hp) (J : It) (items : List D) (gd : GdL) : Prop where
  go : ∀ i m H hp, i < items.length → Ex m0 H0 m H → HL g m H hp → Gd gd hp → J.go i H
  yld : ∀ i m H hp x H', i < items.length → Ex m0 H0 m H → HL g m H hp → Gd gd hp → J.yld i H x H' → ∃ d, items[i]? = some d ∧ Ex m H m H' ∧ HL g m H' hp ∧ rep g m H' d x
  stop : ∀ m H hp, Ex m0 H0 m H → HL g m H hp → Gd gd hp → J.stop items.length H
def IPO (g : G) (m : AM) (H : Hp) (E : XK) (Rr : It → Hp → Prop) : R (List D × GdL) → Prop
  | .ok d hp' => ∀ m' H' J, Ex m H m' H' → HL g m' H' hp' → Foll g m' H' J d.1 d.2 → Rr J H'
  | .exc c fs hp' => ∀ m' H' d, Ex m H m' H' → HL g m' H' hp' → XD g m' H' fs d → E (.ref (g.xA c)) d H'
  | .stuck => False
structure IV (g : G) (X : Cx) (E : XK) (tg it : Expr) (f : IM) : Prop where
  ex : ∃ wi, PI X tg it wi ∧ ∀ σ H Rr m env hp, HL g m H hp → ER g m H σ env → IPO g m H E Rr (f env hp) → wi σ H Rr
theorem IPO.bind {α β : Type} {m : AM} {H : Hp} {rp : AM → Hp → α → β → Prop} {Rr : It → Hp → Prop} {Q : β → Hp → Prop} {r : R α} {f : α → HP → R (List D × GdL)}
    (h : IPO g m H E Rr (r.bind f)) (k : ∀ d hp' m' H' v, Ex m H m' H' → HL g m' H' hp' → rp m' H' d v → IPO g m' H' E Rr (f d hp') → Q v H') : PO g m H E rp Q r := by
  cases r with
  | ok d hp' =>
    intro m' H' v x hl rv
    refine k d hp' m' H' v x hl rv ?_
    simp only [R.bind] at h
    revert h
    cases f d hp' with
    | ok e h2 => exact fun h m2 H2 w x2 hl2 r2 => h m2 H2 w (x.trans x2) hl2 r2
    | exc c fs h2 => exact fun h m2 H2 d2 x2 hl2 e2 => h m2 H2 d2 (x.trans x2) hl2 e2
    | stuck => exact fun h => h
  | exc c fs hp' => exact h
  | stuck => exact h
/-- a list as a source -/
@[simp] def lviewO (n : Nat) : Option O → Option (List D × GdL)
  | some (.lst ds) => some (ds, [(n, ds)])
  | _ => none
@[simp] def lview (h : HP) : D → Option (List D × GdL)
  | .lst ds => some (ds, [])
  | .klst ds => some (ds, [])
  | .ref n => lviewO n h[n]?
  | _ => none
def LSrc (g : G) (m0 : AM) (H0 : Hp) (a : Addr) (ds : List D) (gd : GdL) : Prop := ∀ m H hp, Ex m0 H0 m H → HL g m H hp → Gd gd hp → ∃ vs, SqL g.K H a vs ∧ reps g m H ds vs
def TSrc (g : G) (m0 : AM) (H0 : Hp) (a : Addr) (ds : List D) : Prop := ∀ m H, Ex m0 H0 m H → ∃ vs, SqT g.K H a vs ∧ reps g m H ds vs
theorem lview_ok {m : AM} {H : Hp} {hp : HP} {d : D} {v : V} {p : List D × GdL} (hl : HL g m H hp) (r : rep g m H d v) (e : lview hp d = some p) : ∃ a, v = .ref a ∧ LSrc g m H a p.1 p.2 ∧ Gd p.2 hp := by
  cases d with
  | lst ds =>
    cases e
    simp only [rep] at r
    obtain ⟨a, vs, rfl, f, k, rs⟩ := r
    exact ⟨a, rfl, fun m2 H2 hp2 x _ _ => ⟨vs, .of (x.fz _ _ f k).1, reps.ext x _ _ rs⟩, fun p hp => by cases hp⟩
  | klst ds =>
    cases e
    simp only [rep] at r
    obtain ⟨a, vs, rfl, f, rs⟩ := r
    exact ⟨a, rfl, fun m2 H2 hp2 x _ _ => ⟨vs, (f.ext x).sq, reps.ext x _ _ rs⟩, fun p hp => by cases hp⟩
  | ref n =>
    simp only [lview] at e
    unfold lviewO at e
    split at e
    · rename_i ds q
      cases e
      simp only [rep] at r
      obtain ⟨a, ea, vs, ha, rs⟩ := hl.at q (by simp)
      refine ⟨a, r.2 a ea, fun m2 H2 hp2 x hl2 gd => ?_, fun p hp => ?_⟩
      · obtain ⟨b, eb, us, hb, rr⟩ := hl2.at (gd (n, ds) (List.mem_singleton.mpr rfl)) (by simp)
        have := x.mp n b eb r.1
        rw [ea] at this
        cases this
        exact ⟨us, .of hb, rr⟩
      · cases List.mem_singleton.mp hp
        exact q
    · cases e
  | _ => cases e
theorem tview_ok {m : AM} {H : Hp} {ds : List D} {v : V} (r : rep g m H (.tup ds) v) : ∃ a, v = .ref a ∧ TSrc g m H a ds := by
  simp only [rep] at r
  obtain ⟨a, vs, rfl, f, rs⟩ := r
  exact ⟨a, rfl, fun m2 H2 x => ⟨vs, (f.ext x).sq, reps.ext x _ _ rs⟩⟩
@[simp] def seqO : Option (List D × GdL) → HP → R (List D × GdL)
  | some p, h => .ok p h
  | none, _ => .stuck
@[simp] def kSeq (x : D) (h : HP) : R (List D × GdL) := seqO (lview h x) h
@[simp] def iSeq (a : M D) (env : EN) (hp : HP) : R (List D × GdL) := (a env hp).bind kSeq
@[simp] def kTupS : D → HP → R (List D × GdL)
  | .tup ds, h => .ok (ds, []) h
  | _, _ => .stuck
@[simp] def iTupS (a : M D) (env : EN) (hp : HP) : R (List D × GdL) := (a env hp).bind kTupS
theorem foll_list {m0 : AM} {H0 : Hp} {a : Addr} {ds : List D} {gd : GdL} (s : LSrc g m0 H0 a ds gd) : Foll g m0 H0 (Itl g.K a) ds gd := by
  refine ⟨fun i m H hp hi x hl gd => ?_, fun i m H hp v H' hi x hl gd y => ?_, fun m H hp x hl gd => ?_⟩
  · obtain ⟨vs, s, rr⟩ := s m H hp x hl gd
    obtain ⟨w, ew, _⟩ := rr.get (List.getElem?_eq_getElem hi)
    exact ⟨vs, w, s, ew⟩
  · obtain ⟨vs, s, rr⟩ := s m H hp x hl gd
    obtain ⟨e, y⟩ := y
    subst e
    obtain ⟨w, ew, rw'⟩ := rr.get (List.getElem?_eq_getElem hi)
    have := y vs s
    rw [ew] at this
    cases this
    exact ⟨_, List.getElem?_eq_getElem hi, .refl _ _, hl, rw'⟩
  · obtain ⟨vs, s, rr⟩ := s m H hp x hl gd
    exact ⟨vs, s, by rw [reps.length rr]; exact Nat.le_refl _⟩
theorem foll_tup {m0 : AM} {H0 : Hp} {a : Addr} {ds : List D} (s : TSrc g m0 H0 a ds) : Foll g m0 H0 (Itt g.K a) ds [] := by
  refine ⟨fun i m H hp hi x hl gd => ?_, fun i m H hp v H' hi x hl gd y => ?_, fun m H hp x hl gd => ?_⟩
  · obtain ⟨vs, s, rr⟩ := s m H x
    obtain ⟨w, ew, _⟩ := rr.get (List.getElem?_eq_getElem hi)
    exact ⟨vs, w, s, ew⟩
  · obtain ⟨vs, s, rr⟩ := s m H x
    obtain ⟨e, y⟩ := y
    subst e
    obtain ⟨w, ew, rw'⟩ := rr.get (List.getElem?_eq_getElem hi)
    have := y vs s
    rw [ew] at this
    cases this
    exact ⟨_, List.getElem?_eq_getElem hi, .refl _ _, hl, rw'⟩
  · obtain ⟨vs, s, rr⟩ := s m H x
    exact ⟨vs, s, by rw [reps.length rr]; exact Nat.le_refl _⟩
def zipD (xs ys : List D) : List D := List.zipWith (fun a b => .tup [a, b]) xs ys
theorem new_pair {m : AM} {H : Hp} {hp : HP} {T : Addr} {x y : V} {a b : D} (hl : HL g m H hp) (np : H T = none) (ra : rep g m H a x) (rb : rep g m H b y) :
    Ex m H m (upd H T (.tup [x, y])) ∧ HL g m (upd H T (.tup [x, y])) hp ∧ rep g m (upd H T (.tup [x, y])) (.tup [a, b]) (.ref T) := by
  obtain ⟨x', hl2, pm⟩ := hl.new (o := .tup [x, y]) np
  refine ⟨x', hl2, ?_⟩
  simp only [rep]
  refine ⟨T, [x, y], rfl, .inl ⟨.inl upd_same, pm⟩, ?_⟩
  simp only [reps]
  exact ⟨x, [y], rfl, rep.ext x' _ _ ra, y, [], rfl, rep.ext x' _ _ rb, rfl⟩
theorem zip_at {xs ys : List D} {i : Nat} (h : i < (zipD xs ys).length) : ∃ (h1 : i < xs.length) (h2 : i < ys.length), (zipD xs ys)[i]? = some (.tup [xs[i], ys[i]]) := by
  have h' := h
  simp only [zipD, List.length_zipWith] at h'
  refine ⟨by omega, by omega, ?_⟩
  rw [List.getElem?_eq_getElem h]
  simp [zipD]
theorem foll_zip {m0 : AM} {H0 : Hp} {a b : Addr} {xs ys : List D} {gd gd' : GdL} (s : LSrc g m0 H0 a xs gd) (s' : LSrc g m0 H0 b ys gd') : Foll g m0 H0 (Itz g.K a b) (zipD xs ys) (gd ++ gd') := by
  have q : ∀ {m H hp}, Ex m0 H0 m H → HL g m H hp → Gd (gd ++ gd') hp → (∃ vs, SqL g.K H a vs ∧ reps g m H xs vs) ∧ ∃ us, SqL g.K H b us ∧ reps g m H ys us := fun x hl h =>
    ⟨s _ _ _ x hl fun p hp => h p (List.mem_append_left _ hp), s' _ _ _ x hl fun p hp => h p (List.mem_append_right _ hp)⟩
  refine ⟨fun i m H hp hi x hl gd => ?_, fun i m H hp v H' hi x hl gd y => ?_, fun m H hp x hl gd => ?_⟩
  · obtain ⟨⟨vs, s1, r1⟩, us, s2, r2⟩ := q x hl gd
    obtain ⟨h1, h2, _⟩ := zip_at hi
    obtain ⟨w, ew, _⟩ := r1.get (List.getElem?_eq_getElem h1)
    obtain ⟨w2, ew2, _⟩ := r2.get (List.getElem?_eq_getElem h2)
    exact ⟨vs, us, w, w2, s1, s2, ew, ew2⟩
  · obtain ⟨⟨vs, s1, r1⟩, us, s2, r2⟩ := q x hl gd
    obtain ⟨h1, h2, e⟩ := zip_at hi
    obtain ⟨T, x1, y1, rfl, nT, rfl, k1, k2⟩ := y
    obtain ⟨w, ew, rw1⟩ := r1.get (List.getElem?_eq_getElem h1)
    obtain ⟨w2, ew2, rw2⟩ := r2.get (List.getElem?_eq_getElem h2)
    have z1 := k1 vs s1
    have z2 := k2 us s2
    rw [ew] at z1
    rw [ew2] at z2
    cases z1
    cases z2
    obtain ⟨x', hl2, rr⟩ := new_pair hl nT rw1 rw2
    exact ⟨_, e, x', hl2, rr⟩
  · obtain ⟨⟨vs, s1, r1⟩, us, s2, r2⟩ := q x hl gd
    refine ⟨vs, us, s1, s2, ?_⟩
    simp only [zipD, List.length_zipWith]
    rw [← reps.length r1, ← reps.length r2]
    omega
theorem foll_zipT {m0 : AM} {H0 : Hp} {a b : Addr} {xs ys : List D} (s : TSrc g m0 H0 a xs) (s' : TSrc g m0 H0 b ys) : Foll g m0 H0 (RZ.ItzT g.K a b) (zipD xs ys) [] := by
  refine ⟨fun i m H hp hi x hl gd => ?_, fun i m H hp v H' hi x hl gd y => ?_, fun m H hp x hl gd => ?_⟩
  · obtain ⟨vs, s1, r1⟩ := s _ _ x
    obtain ⟨us, s2, r2⟩ := s' _ _ x
    obtain ⟨h1, h2, _⟩ := zip_at hi
    obtain ⟨w, ew, _⟩ := r1.get (List.getElem?_eq_getElem h1)
    obtain ⟨w2, ew2, _⟩ := r2.get (List.getElem?_eq_getElem h2)
    exact ⟨vs, us, w, w2, s1, s2, ew, ew2⟩
  · obtain ⟨vs, s1, r1⟩ := s _ _ x
    obtain ⟨us, s2, r2⟩ := s' _ _ x
    obtain ⟨h1, h2, e⟩ := zip_at hi
    obtain ⟨T, x1, y1, rfl, nT, rfl, k1, k2⟩ := y
    obtain ⟨w, ew, rw1⟩ := r1.get (List.getElem?_eq_getElem h1)
    obtain ⟨w2, ew2, rw2⟩ := r2.get (List.getElem?_eq_getElem h2)
    have z1 := k1 vs s1
    have z2 := k2 us s2
    rw [ew] at z1
    rw [ew2] at z2
    cases z1
    cases z2
    obtain ⟨x', hl2, rr⟩ := new_pair hl nT rw1 rw2
    exact ⟨_, e, x', hl2, rr⟩
  · obtain ⟨vs, s1, r1⟩ := s _ _ x
    obtain ⟨us, s2, r2⟩ := s' _ _ x
    refine ⟨vs, us, s1, s2, ?_⟩
    simp only [zipD, List.length_zipWith]
    rw [← reps.length r1, ← reps.length r2]
    omega
theorem IV.seq {tg e : Expr} {f : M D} (hK : X.K = g.K) (h : EV g X E e f) : IV g X E tg e (iSeq f) := by
  obtain ⟨t, p, q⟩ := h
  refine ⟨_, pi_list p, fun σ H Rr m env hp hl er h => ?_⟩
  refine q σ H _ m env hp hl er (IPO.bind h fun x h1 m1 H1 v x1 hl1 r1 h => ?_)
  rw [hK]
  unfold kSeq seqO at h
  split at h
  · rename_i p e
    obtain ⟨a, rfl, s, gd⟩ := lview_ok hl1 r1 e
    obtain ⟨vs, sq, _⟩ := s _ _ _ (.refl _ _) hl1 gd
    exact ⟨a, rfl, ⟨vs, sq⟩, h m1 H1 _ (.refl _ _) hl1 (foll_list s)⟩
  · exact h.elim
theorem IV.tupS {tg e : Expr} {f : M D} (hK : X.K = g.K) (h : EV g X E e f) : IV g X E tg e (iTupS f) := by
  obtain ⟨t, p, q⟩ := h
  refine ⟨_, pi_tup p, fun σ H Rr m env hp hl er h => ?_⟩
  refine q σ H _ m env hp hl er (IPO.bind h fun x h1 m1 H1 v x1 hl1 r1 h => ?_)
  rw [hK]
  cases x with
  | tup ds =>
    obtain ⟨a, rfl, s⟩ := tview_ok r1
    obtain ⟨vs, sq, _⟩ := s _ _ (.refl _ _)
    exact ⟨a, rfl, ⟨vs, sq⟩, h m1 H1 _ (.refl _ _) hl1 (foll_tup s)⟩
  | _ => exact h.elim
/-- range(n), range(a, b) -/
def rngD (lo : Int) (n : Nat) : List D := (List.range n).map fun i => .int (lo + (i : Nat))
theorem rngD_len (lo : Int) (n : Nat) : (rngD lo n).length = n := by simp [rngD]
theorem foll_range {m0 : AM} {H0 : Hp} {lo : Int} {n : Nat} : Foll g m0 H0 (Itr lo n) (rngD lo n) [] := by
  refine ⟨fun i m H hp hi x _ _ => by rw [rngD_len] at hi; exact hi, fun i m H hp v H' hi x hl' _ y => ?_, fun m H hp x _ _ => by rw [rngD_len]; exact Nat.le_refl _⟩
  obtain ⟨e, y⟩ := y
  subst e
  subst y
  rw [rngD_len] at hi
  exact ⟨.int (lo + (i : Nat)), by simp [rngD, hi], .refl _ _, hl', by simp [rep]⟩
/-- a range's bounds -/
def Rg (n : Int) : Prop := -(2 ^ 62) ≤ n ∧ n < 2 ^ 62
open Classical in
@[simp] noncomputable def kRange1 : List D → HP → R (List D × GdL)
  | [.int n], h => if Rg n then .ok (rngD 0 n.toNat, []) h else .stuck
  | _, _ => .stuck
@[simp] noncomputable def iRange1 (a : M (List D)) (env : EN) (hp : HP) : R (List D × GdL) := (a env hp).bind kRange1
open Classical in
@[simp] noncomputable def kRange2 : List D → HP → R (List D × GdL)
  | [.int i, .int j], h => if Rg i ∧ Rg j then .ok (rngD i (j - i).toNat, []) h else .stuck
  | _, _ => .stuck
@[simp] noncomputable def iRange2 (a : M (List D)) (env : EN) (hp : HP) : R (List D × GdL) := (a env hp).bind kRange2
theorem IV.range1 {tg a : Expr} {p pos : Pos} {f : M (List D)} (hm : X.mg "range" = none) (h : AV g X E [a] f) (hg : Gl X "range") (hs : starEach [a] X.env = [(false, eval a X.env)]) : IV g X E tg (.Call (.Name "range" p) [a] [] pos) (iRange1 f) := by
  obtain ⟨t, p, q⟩ := h
  refine ⟨_, pi_range1 hg hm p hs, fun σ H Rr m env hp hl er h => ?_⟩
  refine q σ H _ m env hp hl er (IPO.bind h fun xs h1 m1 H1 vs x1 hl1 r1 h => ?_)
  unfold kRange1 at h
  split at h
  · split at h
    · rename_i c
      obtain ⟨v, rfl, rr⟩ := reps1 r1
      obtain rfl := rInt rr
      exact ⟨_, rfl, c.1, c.2, h m1 H1 _ (.refl _ _) hl1 foll_range⟩
    · exact h.elim
  · exact h.elim
/-- zip(a, b): two lists, or two tuples -/
@[simp] def zipO : Option (List D × GdL) → Option (List D × GdL) → HP → R (List D × GdL)
  | some p, some q, h => .ok (zipD p.1 q.1, p.2 ++ q.2) h
  | _, _, _ => .stuck
@[simp] def kZip2 : List D → HP → R (List D × GdL)
  | [.tup ds, .tup es], h => .ok (zipD ds es, []) h
  | [x, y], h => zipO (lview h x) (lview h y) h
  | _, _ => .stuck
@[simp] def iZip2 (a : M (List D)) (env : EN) (hp : HP) : R (List D × GdL) := (a env hp).bind kZip2
theorem IV.zip {e e2 : Expr} {p pos tpos : Pos} {elts : List Expr} {kk : Nat} {f : M (List D)} (hK : X.K = g.K) (hm : X.mg "zip" = none) (h : AV g X E [e, e2] f) (hg : Gl X "zip")
    (hs : starEach [e, e2] X.env = (false, eval e X.env) :: starEach [e2] X.env) (hpl : (backTo pos (starEach [e2] X.env)).any (·.1) = false) : IV g X E (.Tuple elts kk tpos) (.Call (.Name "zip" p) [e, e2] [] pos) (iZip2 f) := by
  obtain ⟨t, p, q⟩ := h
  refine ⟨_, RZ.pi_zipA hg hm p hs hpl, fun σ H Rr m env hp hl er h => ?_⟩
  refine q σ H _ m env hp hl er (IPO.bind h fun xs h1 m1 H1 vs x1 hl1 r1 h => ?_)
  rw [hK]
  unfold kZip2 at h
  split at h
  · obtain ⟨v, u, rfl, rr, rr2⟩ := reps2 r1
    obtain ⟨a, rfl, s⟩ := tview_ok rr
    obtain ⟨b, rfl, s'⟩ := tview_ok rr2
    obtain ⟨vs, sq, _⟩ := s _ _ (.refl _ _)
    obtain ⟨us, sq', _⟩ := s' _ _ (.refl _ _)
    exact ⟨a, b, vs, us, rfl, .inr ⟨sq, sq', h m1 H1 _ (.refl _ _) hl1 (foll_zipT s s')⟩⟩
  · unfold zipO at h
    split at h
    · rename_i p q e1 e2
      obtain ⟨v, u, rfl, rr, rr2⟩ := reps2 r1
      obtain ⟨a, rfl, s, gd⟩ := lview_ok hl1 rr e1
      obtain ⟨b, rfl, s', gd'⟩ := lview_ok hl1 rr2 e2
      obtain ⟨vs, sq, _⟩ := s _ _ _ (.refl _ _) hl1 gd
      obtain ⟨us, sq', _⟩ := s' _ _ _ (.refl _ _) hl1 gd'
      exact ⟨a, b, vs, us, rfl, .inl ⟨sq, sq', h m1 H1 _ (.refl _ _) hl1 (foll_zip s s')⟩⟩
    · exact h.elim
  · exact h.elim
/-- the signs of a text -/
@[simp] def kText : D → HP → R (List D × GdL)
  | .str z, h => .ok (z.cps.toList.map fun c => .str ⟨#[c]⟩, []) h
  | _, _ => .stuck
@[simp] def iText (a : M D) (env : EN) (hp : HP) : R (List D × GdL) := (a env hp).bind kText
theorem foll_text {m0 : AM} {H0 : Hp} {z : Str} : Foll g m0 H0 (Its z) (z.cps.toList.map fun c => .str ⟨#[c]⟩) [] := by
  refine ⟨fun i m H hp hi x _ _ => ?_, fun i m H hp v H' hi x hl' _ y => ?_, fun m H hp x _ _ => ?_⟩
  · show i < z.cps.size; simpa using hi
  · obtain ⟨e, c, ec, y⟩ := y
    subst e
    subst y
    refine ⟨.str ⟨#[c]⟩, ?_, .refl _ _, hl', by simp [rep]⟩
    rw [List.getElem?_map, Array.getElem?_toList, ec]
    rfl
  · show z.cps.size ≤ _
    simp
theorem IV.text {tg e : Expr} {f : M D} (h : EV g X E e f) : IV g X E tg e (iText f) := by
  obtain ⟨t, p, q⟩ := h
  refine ⟨_, pi_str p, fun σ H Rr m env hp hl er h => ?_⟩
  refine q σ H _ m env hp hl er (IPO.bind h fun x h1 m1 H1 v x1 hl1 r1 h => ?_)
  cases x with
  | str z =>
    obtain rfl := rStr r1
    exact ⟨z, rfl, h m1 H1 _ (.refl _ _) hl1 foll_text⟩
  | _ => exact h.elim
/-- a list, a tuple or a text: whatever comes -/
theorem PI.or' {tg it : Expr} {w1 w2 : TI} (h1 : PI X tg it w1) (h2 : PI X tg it w2) : PI X tg it (fun σ H R => w1 σ H R ∨ w2 σ H R) := ⟨fun pins s σ H R I h => h.elim (h1.run pins s σ H R I) (h2.run pins s σ H R I)⟩
@[simp] def kAny : D → HP → R (List D × GdL)
  | .tup ds, h => .ok (ds, []) h
  | .str z, h => .ok (z.cps.toList.map fun c => .str ⟨#[c]⟩, []) h
  | x, h => seqO (lview h x) h
@[simp] def iAny (a : M D) (env : EN) (hp : HP) : R (List D × GdL) := (a env hp).bind kAny
theorem IV.any {tg e : Expr} {f : M D} (hK : X.K = g.K) (h : EV g X E e f) : IV g X E tg e (iAny f) := by
  obtain ⟨w1, p1, q1⟩ := IV.seq (tg := tg) hK h
  obtain ⟨w2, p2, q2⟩ := IV.tupS (tg := tg) hK h
  obtain ⟨w3, p3, q3⟩ := IV.text (tg := tg) h
  refine ⟨_, PI.or' p1 (PI.or' p2 p3), fun σ H Rr m env hp hl er h => ?_⟩
  cases hf : f env hp with
  | ok x h1 =>
    unfold iAny at h
    rw [hf] at h
    cases x with
    | tup ds => exact .inr (.inl (q2 σ H Rr m env hp hl er (by unfold iTupS; rw [hf]; exact h)))
    | str z => exact .inr (.inr (q3 σ H Rr m env hp hl er (by unfold iText; rw [hf]; exact h)))
    | _ => exact .inl (q1 σ H Rr m env hp hl er (by unfold iSeq; rw [hf]; exact h))
  | exc c fs h1 =>
    unfold iAny at h
    rw [hf] at h
    exact .inl (q1 σ H Rr m env hp hl er (by unfold iSeq; rw [hf]; exact h))
  | stuck =>
    unfold iAny at h
    rw [hf] at h
    exact h.elim
end
end Ev
namespace Ev
open PySem PySem.Spec PyProof.Rows L2
section
variable {g : G} {X : Cx} {E : XK}
theorem liveO.ext {m m' : AM} {H H' : Hp} {b : Addr} {o : O} (x : Ex m H m' H') (e : H' b = H b) (h : liveO g m H b o) : liveO g m' H' b o := by
  cases o with
  | lst ds => obtain ⟨vs, h1, r⟩ := h; exact ⟨vs, by rw [e]; exact h1, reps.ext x _ _ r⟩
  | dic ds => obtain ⟨vs, h1, r⟩ := h; exact ⟨vs, by rw [e]; exact h1, repk.ext x _ _ r⟩
  | ins c fs => obtain ⟨dx, vs, h1, r⟩ := h; exact ⟨dx, vs, by rw [e]; exact h1, repf.ext x _ _ r⟩
  | dead => exact h.elim
theorem HL.write {m : AM} {H : Hp} {hp : HP} (hl : HL g m H hp) {n : Nat} {a : Addr} {u : HO} {ob ob' : O} (ea : m[n]? = some (some a)) (eo : hp[n]? = some ob) (hne : ob' ≠ .dead)
    (hlv : Ex m H m (upd H a u) → liveO g m (upd H a u) a ob') : Ex m H m (upd H a u) ∧ HL g m (upd H a u) (hp.set n ob') := by
  have x : Ex m H m (upd H a u) := ⟨Nat.le_refl _, fun _ _ h _ => h, fun b o e k => ⟨by rw [upd_ne (fun z => by subst z; exact k (List.mem_of_getElem? ea))]; exact e, k⟩⟩
  refine ⟨x, ⟨by simp [hl.len], hl.nd, fun i o h => ?_⟩⟩
  by_cases hi : n = i
  · subst hi
    rw [List.getElem?_set_self (List.getElem?_eq_some_iff.mp eo).1] at h
    cases h
    exact .inr ⟨a, ea, hlv x⟩
  · rw [List.getElem?_set_ne hi] at h
    rcases hl.live i o h with z | ⟨b, eb, lv⟩
    · exact .inl z
    · refine .inr ⟨b, eb, lv.ext x ?_⟩
      rw [upd_ne (fun z => by subst z; exact hi (hl.nd n i b ea eb))]
@[reducible] def R.nx {α : Type} (r : R α) : R α := match r with
  | .exc _ _ _ => .stuck
  | r => r
theorem PO.nx {α β : Type} {m : AM} {H : Hp} {E' : XK} {rp : AM → Hp → α → β → Prop} {Q : β → Hp → Prop} {r : R α} (h : PO g m H E rp Q r.nx) : PO g m H E' rp Q r := by
  cases r with
  | ok d h' => exact h
  | exc _ _ _ => exact h.elim
  | stuck => exact h
def appL (n : Nat) (y : D) (h : HP) : R Unit := match h[n]? with
  | some (.lst ds) => if ds.length < sizeLine then .ok () (h.set n (.lst (ds ++ [y]))) else .stuck
  | _ => .stuck
open Classical in
noncomputable def lcE (asg : TF) (cond : M Bool) (elt : M D) (envw : EN) (n : Nat) (gd : GdL) : List D → HP → R Unit
  | [], h => if Gd gd h then .ok () h else .stuck
  | d :: ds, h => if Gd gd h then (match asg d envw h with
      | some e => (cond e h).nx.bind fun b h1 => if b = true then (elt e h1).nx.bind fun y h2 => (appL n y h2).bind fun _ h3 => lcE asg cond elt envw n gd ds h3 else lcE asg cond elt envw n gd ds h1
      | none => .stuck)
    else .stuck
/-- no live thing from n on is in it -/
def rlt (n : Nat) : D → Bool
  | .non => true
  | .bl _ => true
  | .int _ => true
  | .str _ => true
  | .tup ds => rlts n ds
  | .lst ds => rlts n ds
  | .klst ds => rlts n ds
  | .dic ks => rltk n ks
  | .set _ => true
  | .ins _ fs => rltf n fs
  | .ref k => decide (k < n)
  | .xcp _ fs => rltf n fs
where
  rlts (n : Nat) : List D → Bool
  | [] => true
  | d :: ds => rlt n d && rlts n ds
  rltk (n : Nat) : List (Key × D) → Bool
  | [] => true
  | (_, d) :: ds => rlt n d && rltk n ds
  rltf (n : Nat) : List (Str × D) → Bool
  | [] => true
  | (_, d) :: ds => rlt n d && rltf n ds
/-- m1 knows less than m' -/
structure Dn (n : Nat) (m' m1 : AM) : Prop where
  mem : ∀ a, some a ∈ m1 → some a ∈ m'
  at_ : ∀ k a, k < n → m1[k]? = some (some a) → m'[k]? = some (some a)
  le : n ≤ m1.length
theorem FT.down {K : PySem.W.Frag} {n : Nat} {m' m1 : AM} {H : Hp} {a : Addr} {xs : List V} (x : Dn n m' m1) (h : FT K m' H a xs) : FT K m1 H a xs := by
  rcases h with ⟨h, k⟩ | h
  · exact .inl ⟨h, fun z => k (x.mem _ z)⟩
  · exact .inr h
theorem FL.down {K : PySem.W.Frag} {n : Nat} {m' m1 : AM} {H : Hp} {a : Addr} {xs : List V} (x : Dn n m' m1) (h : FL K m' H a xs) : FL K m1 H a xs := by
  rcases h with ⟨h, k⟩ | h
  · exact .inl ⟨h, fun z => k (x.mem _ z)⟩
  · exact .inr h
mutual
theorem rep.down {n : Nat} {m' m1 : AM} {H : Hp} (x : Dn n m' m1) : ∀ (d : D) (v : V), rlt n d = true → rep g m' H d v → rep g m1 H d v
  | .non, v, _, h => by simpa [rep] using h
  | .bl b, v, _, h => by simpa [rep] using h
  | .int i, v, _, h => by simpa [rep] using h
  | .str s, v, _, h => by simpa [rep] using h
  | .tup ds, v, q, h => by
    simp only [rep] at h ⊢
    simp only [rlt] at q
    obtain ⟨a, vs, e, f, r⟩ := h
    exact ⟨a, vs, e, f.down x, reps.down x ds vs q r⟩
  | .lst ds, v, q, h => by
    simp only [rep] at h ⊢
    simp only [rlt] at q
    obtain ⟨a, vs, e, f, k, r⟩ := h
    exact ⟨a, vs, e, f, fun z => k (x.mem _ z), reps.down x ds vs q r⟩
  | .klst ds, v, q, h => by
    simp only [rep] at h ⊢
    simp only [rlt] at q
    obtain ⟨a, vs, e, f, r⟩ := h
    exact ⟨a, vs, e, f.down x, reps.down x ds vs q r⟩
  | .dic ks, v, q, h => by
    simp only [rep] at h ⊢
    simp only [rlt] at q
    obtain ⟨a, vs, e, f, k, r⟩ := h
    exact ⟨a, vs, e, f, fun z => k (x.mem _ z), repk.down x ks vs q r⟩
  | .set ks, v, q, h => by
    simp only [rep] at h ⊢
    obtain ⟨a, n, e, f, k⟩ := h
    exact ⟨a, n, e, f, fun z => k (x.mem _ z)⟩
  | .ins c fs, v, q, h => by
    simp only [rep] at h ⊢
    simp only [rlt] at q
    obtain ⟨a, dx, vs, e, f, k, r⟩ := h
    exact ⟨a, dx, vs, e, f, fun z => k (x.mem _ z), repf.down x fs vs q r⟩
  | .ref k, v, q, h => by
    simp only [rep] at h ⊢
    simp only [rlt, decide_eq_true_eq] at q
    exact ⟨Nat.lt_of_lt_of_le q x.le, fun a e => h.2 a (x.at_ k a q e)⟩
  | .xcp c fs, v, q, h => by
    simp only [rep] at h ⊢
    simp only [rlt] at q
    obtain ⟨a, oe, e, f, k, hc, hd, r⟩ := h
    refine ⟨a, oe, e, f, fun z => k (x.mem _ z), hc, hd, ?_⟩
    rcases r with r | ⟨d, ws, e1, e2, n2, r⟩
    · exact .inl r
    · exact .inr ⟨d, ws, e1, e2, fun z => n2 (x.mem _ z), repf.down x fs ws q r⟩
theorem reps.down {n : Nat} {m' m1 : AM} {H : Hp} (x : Dn n m' m1) : ∀ (ds : List D) (vs : List V), rlt.rlts n ds = true → reps g m' H ds vs → reps g m1 H ds vs
  | [], vs, _, h => by simpa [reps] using h
  | d :: ds, vs, q, h => by
    simp only [reps] at h ⊢
    simp only [rlt.rlts, Bool.and_eq_true] at q
    obtain ⟨v, r, e, h1, h2⟩ := h
    exact ⟨v, r, e, rep.down x d v q.1 h1, reps.down x ds r q.2 h2⟩
theorem repk.down {n : Nat} {m' m1 : AM} {H : Hp} (x : Dn n m' m1) : ∀ (ds : List (Key × D)) (vs : List (Key × V)), rlt.rltk n ds = true → repk g m' H ds vs → repk g m1 H ds vs
  | [], vs, _, h => by simpa [repk] using h
  | (k, d) :: ds, vs, q, h => by
    simp only [repk] at h ⊢
    simp only [rlt.rltk, Bool.and_eq_true] at q
    obtain ⟨v, r, e, h1, h2⟩ := h
    exact ⟨v, r, e, rep.down x d v q.1 h1, repk.down x ds r q.2 h2⟩
theorem repf.down {n : Nat} {m' m1 : AM} {H : Hp} (x : Dn n m' m1) : ∀ (ds : List (Str × D)) (vs : List (Str × V)), rlt.rltf n ds = true → repf g m' H ds vs → repf g m1 H ds vs
  | [], vs, _, h => by simpa [repf] using h
  | (k, d) :: ds, vs, q, h => by
    simp only [repf] at h ⊢
    simp only [rlt.rltf, Bool.and_eq_true] at q
    obtain ⟨v, r, e, h1, h2⟩ := h
    exact ⟨v, r, e, rep.down x d v q.1 h1, repf.down x ds r q.2 h2⟩
end
mutual
theorem rep.rlt {m : AM} {H : Hp} : ∀ (d : D) (v : V), rep g m H d v → Ev.rlt m.length d = true
  | .non, v, h => rfl
  | .bl b, v, h => rfl
  | .int i, v, h => rfl
  | .str s, v, h => rfl
  | .tup ds, v, h => by simp only [rep] at h; obtain ⟨a, vs, e, f, r⟩ := h; simp only [Ev.rlt]; exact reps.rlt ds vs r
  | .lst ds, v, h => by simp only [rep] at h; obtain ⟨a, vs, e, f, k, r⟩ := h; simp only [Ev.rlt]; exact reps.rlt ds vs r
  | .klst ds, v, h => by simp only [rep] at h; obtain ⟨a, vs, e, f, r⟩ := h; simp only [Ev.rlt]; exact reps.rlt ds vs r
  | .dic ks, v, h => by simp only [rep] at h; obtain ⟨a, vs, e, f, k, r⟩ := h; simp only [Ev.rlt]; exact repk.rlt ks vs r
  | .set ks, v, h => rfl
  | .ins c fs, v, h => by simp only [rep] at h; obtain ⟨a, dx, vs, e, f, k, r⟩ := h; simp only [Ev.rlt]; exact repf.rlt fs vs r
  | .ref k, v, h => by simp only [rep] at h; simp only [Ev.rlt, decide_eq_true_eq]; exact h.1
  | .xcp c fs, v, h => by
    simp only [rep] at h
    obtain ⟨a, oe, e, f, k, hc, hd, r⟩ := h
    simp only [Ev.rlt]
    rcases r with ⟨_, r⟩ | ⟨d, ws, e1, e2, n2, r⟩
    · rw [r]; rfl
    · exact repf.rlt fs ws r
theorem reps.rlt {m : AM} {H : Hp} : ∀ (ds : List D) (vs : List V), reps g m H ds vs → Ev.rlt.rlts m.length ds = true
  | [], vs, h => rfl
  | d :: ds, vs, h => by
    simp only [reps] at h
    obtain ⟨v, r, e, h1, h2⟩ := h
    simp only [Ev.rlt.rlts, Bool.and_eq_true]
    exact ⟨rep.rlt d v h1, reps.rlt ds r h2⟩
theorem repk.rlt {m : AM} {H : Hp} : ∀ (ds : List (Key × D)) (vs : List (Key × V)), repk g m H ds vs → Ev.rlt.rltk m.length ds = true
  | [], vs, h => rfl
  | (k, d) :: ds, vs, h => by
    simp only [repk] at h
    obtain ⟨v, r, e, h1, h2⟩ := h
    simp only [Ev.rlt.rltk, Bool.and_eq_true]
    exact ⟨rep.rlt d v h1, repk.rlt ds r h2⟩
theorem repf.rlt {m : AM} {H : Hp} : ∀ (ds : List (Str × D)) (vs : List (Str × V)), repf g m H ds vs → Ev.rlt.rltf m.length ds = true
  | [], vs, h => rfl
  | (k, d) :: ds, vs, h => by
    simp only [repf] at h
    obtain ⟨v, r, e, h1, h2⟩ := h
    simp only [Ev.rlt.rltf, Bool.and_eq_true]
    exact ⟨rep.rlt d v h1, repf.rlt ds r h2⟩
end
theorem HL.lookup {m : AM} {H : Hp} {hp : HP} (hl : HL g m H hp) {n : Nat} {a : Addr} (e : m[n]? = some (some a)) : ∃ o, hp[n]? = some o ∧ liveO g m H a o := by
  have l : n < hp.length := by rw [← hl.len]; exact (List.getElem?_eq_some_iff.mp e).1
  refine ⟨_, List.getElem?_eq_getElem l, ?_⟩
  rcases hl.live n _ (List.getElem?_eq_getElem l) with ⟨_, z⟩ | ⟨b, eb, lv⟩
  · rw [e] at z; cases z
  · rw [e] at eb; cases eb; exact lv
/-- the objects of before are as they were (as data): the state is one of the old live map -/
theorem HL.back {m m' : AM} {H H' : Hp} {hp hp' : HP} (hl : HL g m H hp) (x : Ex m H m' H') (hl' : HL g m' H' hp') (e : hp'.take hp.length = hp) : Ex m H m H' ∧ HL g m H' hp ∧ Dn m.length m' m := by
  have same : ∀ k a, k < m.length → m[k]? = some (some a) → m'[k]? = some (some a) := fun k a lk ek => by
    obtain ⟨o, eo, lv⟩ := hl.lookup ek
    have e2 : hp'[k]? = some o := by
      have : (hp'.take hp.length)[k]? = some o := by rw [e]; exact eo
      rw [List.getElem?_take] at this
      split at this
      · exact this
      · cases this
    rcases hl'.live k o e2 with ⟨z, _⟩ | ⟨b, eb, _⟩
    · subst z; exact lv.elim
    · rw [x.mp k b eb lk] at ek
      cases ek
      exact eb
  have dn : Dn m.length m' m := ⟨fun a z => by
      obtain ⟨k, lk, ek⟩ := List.getElem_of_mem z
      exact List.mem_of_getElem? (same k a lk (by rw [List.getElem?_eq_getElem lk, ek])), same, Nat.le_refl _⟩
  refine ⟨⟨Nat.le_refl _, fun _ _ h _ => h, fun a o h k => ⟨(x.fz a o h k).1, k⟩⟩, ⟨hl.len, hl.nd, fun i o h => ?_⟩, dn⟩
  rcases hl.live i o h with z | ⟨b, eb, lv⟩
  · exact .inl z
  · refine .inr ⟨b, eb, ?_⟩
    have li : i < m.length := (List.getElem?_eq_some_iff.mp eb).1
    have e2 : hp'[i]? = some o := by
      have : (hp'.take hp.length)[i]? = some o := by rw [e]; exact h
      rw [List.getElem?_take] at this
      split at this
      · exact this
      · cases this
    rcases hl'.live i o e2 with ⟨z, _⟩ | ⟨b', eb', lv'⟩
    · subst z; exact lv.elim
    · have := same i b li eb
      rw [eb'] at this
      cases this
      cases o with
      | lst ds =>
        obtain ⟨vs, _, r0⟩ := lv
        obtain ⟨us, h1, r⟩ := lv'
        exact ⟨us, h1, reps.down dn _ _ (reps.rlt _ _ r0) r⟩
      | dic ds =>
        obtain ⟨vs, _, r0⟩ := lv
        obtain ⟨us, h1, r⟩ := lv'
        exact ⟨us, h1, repk.down dn _ _ (repk.rlt _ _ r0) r⟩
      | ins c fs =>
        obtain ⟨_, vs, _, r0⟩ := lv
        obtain ⟨dx, us, h1, r⟩ := lv'
        exact ⟨dx, us, h1, repf.down dn _ _ (repf.rlt _ _ r0) r⟩
      | dead => exact lv.elim
/-- a value frozen: what is younger than n becomes a value of its own -/
def fz (n : Nat) (h : HP) (d : D) : Option D := if rlt n d = true then some d else match d with
  | .ref k => match h[k]? with
    | some (.lst ds) => if rlt.rlts n ds = true then some (.lst ds) else none
    | some (.dic ks) => if rlt.rltk n ks = true then some (.dic ks) else none
    | some (.ins c fs) => if rlt.rltf n fs = true then some (.ins c fs) else none
    | _ => none
  | _ => none
theorem fz_ok {m m' : AM} {H' : Hp} {hp' : HP} {d d' : D} {v : V} (hl' : HL g m' H' hp') (dn : Dn m.length m' m) (lm : m.length ≤ m'.length) (r : rep g m' H' d v) (e : fz m.length hp' d = some d') : rep g m H' d' v := by
  unfold fz at e
  split at e
  · rename_i c
    cases e
    exact rep.down dn _ _ c r
  · rename_i c
    split at e
    · rename_i k
      simp only [rlt, decide_eq_true_eq] at c
      simp only [rep] at r
      have nm : ∀ a, m'[k]? = some (some a) → some a ∉ m := fun a ea z => by
        obtain ⟨j, lj, ej⟩ := List.getElem_of_mem z
        have := dn.at_ j a lj (by rw [List.getElem?_eq_getElem lj, ej])
        have := hl'.nd j k a this ea
        omega
      split at e
      · rename_i ds q
        split at e
        · rename_i c2
          cases e
          obtain ⟨a, ea, vs, ha, rs⟩ := hl'.at q (by simp)
          simp only [rep]
          exact ⟨a, vs, r.2 a ea, ha, nm a ea, reps.down dn _ _ c2 rs⟩
        · cases e
      · rename_i ds q
        split at e
        · rename_i c2
          cases e
          obtain ⟨a, ea, vs, ha, rs⟩ := hl'.at q (by simp)
          simp only [rep]
          exact ⟨a, vs, r.2 a ea, ha, nm a ea, repk.down dn _ _ c2 rs⟩
        · cases e
      · rename_i c0 ds q
        split at e
        · rename_i c2
          cases e
          obtain ⟨a, ea, dx, vs, ha, rs⟩ := hl'.at q (by simp)
          simp only [rep]
          exact ⟨a, dx, vs, r.2 a ea, ha, nm a ea, repf.down dn _ _ c2 rs⟩
        · cases e
      · cases e
    · cases e
open Classical in
noncomputable def pure_ (h0 : HP) (d : D) (h : HP) : R D := if h.take h0.length = h0 then (match fz h0.length h d with
    | some d' => .ok d' h0
    | none => .stuck) else .stuck
theorem PO.pure_ {m m' : AM} {H H' : Hp} {hp hp' : HP} {d : D} {v : V} {Q : V → Hp → Prop} (hl : HL g m H hp) (x : Ex m H m' H') (hl' : HL g m' H' hp') (r : rep g m' H' d v) (h : PO g m H E (rep g) Q (Ev.pure_ hp d hp')) : Q v H' := by
  unfold Ev.pure_ at h
  split at h
  · rename_i c
    split at h
    · rename_i d' e
      obtain ⟨x2, hl2, dn⟩ := hl.back x hl' c
      rw [← hl.len] at e
      exact h m H' v x2 hl2 (fz_ok hl' dn x.le r e)
    · exact h.elim
  · exact h.elim
end
end Ev
namespace Ev
open PySem PySem.Spec PyProof.Rows L2
section
variable {g : G} {X : Cx} {E : XK}
theorem wipe_get (σ : L2.St) (j : Nat) : ∀ vs : List Nat, (wipe σ vs)[j]? = if j ∈ vs then (if j < σ.length then some none else none) else σ[j]?
  | [] => by simp [wipe]
  | v :: vs => by
    unfold wipe
    have ih := wipe_get σ j vs
    by_cases e : v = j
    · subst e
      rw [List.getElem?_set_self', ih]
      simp only [List.mem_cons, true_or, if_true]
      by_cases h : v < σ.length
      · by_cases hv : v ∈ vs
        · simp [hv, h]
        · simp [hv, h, List.getElem?_eq_getElem h]
      · have : σ[v]? = none := List.getElem?_eq_none (by omega)
        by_cases hv : v ∈ vs
        · simp [hv, h]
        · simp [hv, h, this]
    · rw [List.getElem?_set_ne e, ih]
      have : j ≠ v := fun z => e z.symm
      simp [List.mem_cons, this]
theorem wipe_turned {is vs : List Nat} {a b : L2.St} (t : Turned is a b) (h : ∀ i ∈ is, i ∈ vs) : wipe b vs = wipe a vs := by
  refine List.ext_getElem? fun j => ?_
  rw [wipe_get, wipe_get, t.1]
  split
  · rfl
  · rename_i hj
    exact t.2 j fun z => hj (h j z)
theorem wipe_wipe (σ : L2.St) (vs : List Nat) : wipe (wipe σ vs) vs = wipe σ vs := by
  refine List.ext_getElem? fun j => ?_
  rw [wipe_get, wipe_get, wipe_length]
  split
  · rfl
  · rfl
@[simp] def wipeE (env : EN) : List Nat → EN
  | [] => env
  | v :: vs => (wipeE env vs).set v none
theorem ER.unset {m : AM} {H : Hp} {σ : L2.St} {env : EN} {i : Nat} (er : ER g m H σ env) : ER g m H (σ.set i none) (env.set i none) := by
  refine ⟨by simp [er.len], fun j e h => ?_⟩
  by_cases hj : i = j
  · subst hj
    rw [List.getElem?_set_self'] at h
    cases q : env[i]? with
    | none => rw [q] at h; cases h
    | some z => rw [q] at h; cases h
  · rw [List.getElem?_set_ne hj] at h
    obtain ⟨w, e1, r1⟩ := er.at_ j e h
    exact ⟨w, by rw [List.getElem?_set_ne hj]; exact e1, r1⟩
theorem ER.wipe {m : AM} {H : Hp} {σ : L2.St} {env : EN} (er : ER g m H σ env) : ∀ vs, ER g m H (L2.wipe σ vs) (wipeE env vs)
  | [] => er
  | v :: vs => (ER.wipe er vs).unset
noncomputable def outL (live : Bool) (h0 : HP) (h : HP) : R D := if live = true then .ok (.ref h0.length) h else pure_ h0 (.ref h0.length) h
noncomputable def mLc (live : Bool) (it : IM) (own : List Nat) (asg : TF) (cond : M Bool) (elt : M D) : M D := fun env hp => (it env hp).bind fun p h =>
  (lcE asg cond elt (wipeE env own) h.length p.2 p.1 (h ++ [.lst []])).bind fun _ h' => outL live h h'
theorem PO.mono {α β : Type} {rp : AM → Hp → α → β → Prop} {m m1 : AM} {H H1 : Hp} {Q : β → Hp → Prop} {r : R α} (x : Ex m H m1 H1) (h : PO g m H E rp Q r) : PO g m1 H1 E rp Q r := by
  cases r with
  | ok d h2 => exact fun m2 H2 w x3 hl3 r3 => h m2 H2 w (x.trans x3) hl3 r3
  | exc c fs h2 => exact fun m2 H2 d2 x3 hl3 e2 => h m2 H2 d2 (x.trans x3) hl3 e2
  | stuck => exact h
theorem PO.bindB {α β γ δ : Type} {m0 m : AM} {H0 H : Hp} {rp : AM → Hp → α → β → Prop} {rq : AM → Hp → γ → δ → Prop} {Q : β → Hp → Prop} {Q' : δ → Hp → Prop} {r : R α} {f : α → HP → R γ}
    (h : PO g m0 H0 E rq Q' (r.bind f)) (x0 : Ex m0 H0 m H) (k : ∀ d hp' m' H' v, Ex m H m' H' → HL g m' H' hp' → rp m' H' d v → PO g m0 H0 E rq Q' (f d hp') → Q v H') : PO g m H E rp Q r := by
  cases r with
  | ok d hp' => exact fun m' H' v x hl rv => k d hp' m' H' v x hl rv h
  | exc c fs hp' => exact fun m2 H2 d2 x3 hl3 e2 => h m2 H2 d2 (x0.trans x3) hl3 e2
  | stuck => exact h
/-- the reading of a comprehension follows from the evaluation -/
theorem lc_sem {wi : TI} {gt : TG} {tt : TT} {te : TE} {fi : IM} {own is : List Nat} {asg : TF} {cond : M Bool} {elt : M D} (live : Bool)
    (hi : ∀ σ H Rr m env hp, HL g m H hp → ER g m H σ env → IPO g m H E Rr (fi env hp) → wi σ H Rr)
    (hg : ∀ v σ H Q m env hp d, HL g m H hp → ER g m H σ env → rep g m H d v → (∃ env', asg d env hp = some env' ∧ ∀ σ', Turned is σ σ' → ER g m H σ' env' → Q σ' H) → gt v σ H Q)
    (ht : ∀ σ H Q m env hp, HL g m H hp → ER g m H σ env → PO g m H E0 rB Q (cond env hp) → tt σ H Q)
    (he : ∀ σ H Q m env hp, HL g m H hp → ER g m H σ env → PO g m H E0 (rep g) Q (elt env hp) → te σ H Q)
    (hsub : ∀ i ∈ is, i ∈ own)
    {σ : L2.St} {H : Hp} {Q : VK} {m : AM} {env : EN} {hp : HP} (hl : HL g m H hp) (er : ER g m H σ env) (h : PO g m H E (rep g) Q (mLc live fi own asg cond elt env hp)) : tLc wi gt tt te own σ H Q := by
  unfold mLc at h
  refine hi σ H _ m env hp hl er ?_
  revert h
  cases fi env hp with
  | exc c fs h1 => exact fun h => h
  | stuck => exact fun h => h
  | ok p h1 =>
    obtain ⟨items, gd⟩ := p
    intro h m1 H1 J x1 hl1 fo D hD
    have h : PO g m H E (rep g) Q ((lcE asg cond elt (wipeE env own) h1.length gd items (h1 ++ [.lst []])).bind fun _ h' => outL live h1 h') := h
    obtain ⟨x2, hl2⟩ := hl1.push (o := .lst []) (ob := .lst []) hD (by simp) fun x => ⟨[], upd_same, by simp [reps]⟩
    have er1 := (er.ext x1).wipe own
    have eD : ∀ {m' : AM} {H' : Hp} {b : Addr}, Ex (m1 ++ [some D]) (upd H1 D (.lst [])) m' H' → m'[h1.length]? = some (some b) → b = D := fun {m' H' b} x e => by
      have := x.mp h1.length b e (by simp [hl1.len])
      rw [← hl1.len, List.getElem?_append_right (Nat.le_refl _)] at this
      simp at this
      exact this.symm
    refine ⟨fun i k H' => k = items.length - i ∧ i ≤ items.length ∧ ∃ m' hp', Ex (m1 ++ [some D]) (upd H1 D (.lst [])) m' H' ∧ HL g m' H' hp' ∧
        PO g m1 H1 E (rep g) Q ((lcE asg cond elt (wipeE env own) h1.length gd (items.drop i) hp').bind fun _ h' => outL live h1 h'),
      ⟨items.length, rfl, Nat.zero_le _, m1 ++ [some D], h1 ++ [.lst []], .refl _ _, hl2, by rw [List.drop_zero]; exact PO.mono x1 h⟩, ?_⟩
    rintro i k H' ⟨rfl, hi', m', hp', x', hl', po⟩
    have xm1 : Ex m1 H1 m' H' := x2.trans x'
    by_cases hlt : i < items.length
    · have ed : items.drop i = items[i] :: items.drop (i + 1) := List.drop_eq_getElem_cons hlt
      rw [ed] at po
      unfold lcE at po
      by_cases hgd : Gd gd hp'
      · rw [if_pos hgd] at po
        refine .inr ⟨fo.go i m' H' hp' hlt xm1 hl' hgd, fun H'' => ∃ k', k' < items.length - i ∧ (k' = items.length - (i + 1) ∧ i + 1 ≤ items.length ∧ ∃ m' hp', Ex (m1 ++ [some D]) (upd H1 D (.lst [])) m' H'' ∧ HL g m' H'' hp' ∧
          PO g m1 H1 E (rep g) Q ((lcE asg cond elt (wipeE env own) h1.length gd (items.drop (i + 1)) hp').bind fun _ h' => outL live h1 h')), fun H'' z => z, fun x H'' y => ?_⟩
        obtain ⟨d, ed', xe, hl3, rd⟩ := fo.yld i m' H' hp' x H'' hlt xm1 hl' hgd y
        rw [List.getElem?_eq_getElem hlt] at ed'
        cases ed'
        split at po
        · rename_i env' easg
          have erw : ER g m' H'' (L2.wipe σ own) (wipeE env own) := er1.ext (xm1.trans xe)
          refine hg x (L2.wipe σ own) H'' _ m' (wipeE env own) hp' _ hl3 erw rd ⟨env', easg, fun σ' tn er' => ?_⟩
          refine ⟨by rw [wipe_turned tn hsub, wipe_wipe], ?_⟩
          rw [R.bind_assoc] at po
          refine ht σ' H'' _ m' env' hp' hl3 er' (PO.nx (E := E) (PO.bindB po (xm1.trans xe) fun b h4 m4 H4 v4 x4 hl4 r4 po => ?_))
          cases (show b = v4 from r4)
          cases b with
          | true =>
            rw [if_pos rfl] at po ⊢
            rw [R.bind_assoc] at po
            refine he σ' H4 _ m4 env' h4 hl4 (er'.ext x4) (PO.nx (E := E) (PO.bindB po ((xm1.trans xe).trans x4) fun y' h5 m5 H5 v5 x5 hl5 r5 po => ?_))
            rw [R.bind_assoc] at po
            unfold appL at po
            split at po
            · rename_i acc eacc
              split at po
              · rename_i hz
                obtain ⟨b, eb, vs, hb, rs⟩ := hl5.at eacc (by simp)
                have x5' := ((x'.trans xe).trans (x4.trans x5))
                obtain rfl := eD x5' eb
                refine ⟨vs, hb, by rw [← reps.length rs]; exact hz, ?_⟩
                obtain ⟨x6, hl6⟩ := hl5.write (u := .lst (vs ++ [v5])) (ob' := .lst (acc ++ [y'])) eb eacc (by simp) fun x6 => ⟨vs ++ [v5], upd_same, reps.ext x6 _ _ (reps.append rs (by simp only [reps]; exact ⟨v5, [], rfl, r5, rfl⟩))⟩
                exact ⟨items.length - (i + 1), by omega, rfl, hlt, m5, _, x5'.trans x6, hl6, po⟩
              · exact po.elim
            · exact po.elim
          | false =>
            rw [if_neg Bool.false_ne_true] at po ⊢
            exact ⟨items.length - (i + 1), by omega, rfl, hlt, m4, h4, (x'.trans xe).trans x4, hl4, po⟩
        · exact po.elim
      · rw [if_neg hgd] at po
        exact po.elim
    · have e : i = items.length := by omega
      subst e
      rw [List.drop_length] at po
      unfold lcE at po
      by_cases hgd : Gd gd hp'
      · rw [if_pos hgd] at po
        refine .inl ⟨fo.stop m' H' hp' xm1 hl' hgd, ?_⟩
        have po : PO g m1 H1 E (rep g) Q (outL live h1 hp') := po
        have rr : rep g m' H' (.ref h1.length) (.ref D) := by
          simp only [rep]
          refine ⟨Nat.lt_of_lt_of_le (by simp [hl1.len]) x'.le, fun a ea => ?_⟩
          rw [eD x' ea]
        unfold outL at po
        cases live with
        | true =>
          rw [if_pos rfl] at po
          exact po m' H' _ xm1 hl' rr
        | false =>
          rw [if_neg Bool.false_ne_true] at po
          exact PO.pure_ hl1 xm1 hl' rr po
      · rw [if_neg hgd] at po
        exact po.elim
end
end Ev
namespace Ev
open PySem PySem.Spec PyProof.Rows L2
section
variable {g : G} {X : Cx} {E : XK}
/-- contexts of a comprehension's block -/
abbrev Blk (X : Cx) (scope : Scope) (s : Shared) (H : Hp) (C : Addr) (cl : List (Str × Addr)) (fp : List Addr) : Cx := X.blk s H scope (compEnvC scope cl C X.env) fp
/-- the parts of a comprehension -/
structure LCV (g : G) (X : Cx) (E : XK) (elt tg it : Expr) (ifs : List Expr) (scope : Scope) (own : List (Str × Nat)) (f : Bool → M D) : Prop where
  ok : BlkOk X.N X.env.scope scope own
  ex : ∃ wi gt tt te, PI X tg it wi ∧ (∀ s H C cl fp, PG (Blk X scope s H C cl fp) tg gt) ∧ (∀ s H C cl fp, PTs (Blk X scope s H C cl fp) ifs tt) ∧ (∀ s H C cl fp, PE (Blk X scope s H C cl fp) elt te) ∧
    ∀ live σ H Q m env hp, HL g m H hp → ER g m H σ env → PO g m H E (rep g) Q (f live env hp) → tLc wi gt tt te (own.map (·.2)) σ H Q
structure CV1 (g : G) (X : Cx) (ifs : List Expr) (f : M Bool) : Prop where
  ex : ∃ t, PTs X ifs t ∧ ∀ σ H Q m env hp, HL g m H hp → ER g m H σ env → PO g m H E0 rB Q (f env hp) → t σ H Q
@[simp] def cYes (_ : EN) (h : HP) : R Bool := .ok true h
theorem CV1.nil : CV1 g X [] cYes := ⟨_, pts_nil, fun σ H Q m env hp hl er h => h m H true (.refl _ _) hl rfl⟩
theorem CV1.one {c : Expr} {f : M Bool} (h : TV g X E0 c f) : CV1 g X [c] f := by
  obtain ⟨t, p, q⟩ := h
  exact ⟨_, pts_one p, q⟩
theorem PE.weak {e : Expr} {t t' : TE} (h : PE X e t) (w : ∀ σ H Q, t' σ H Q → t σ H Q) : PE X e t' := ⟨fun pins s σ H Q I q => h.run pins s σ H Q I (w σ H Q q)⟩
theorem PG.weak {e : Expr} {t t' : TG} (h : PG X e t) (w : ∀ v σ H Q, t' v σ H Q → t v σ H Q) : PG X e t' := ⟨fun pins s σ H v u Q I r q => h.run pins s σ H v u Q I r (w v σ H Q q)⟩
theorem PTs.weak {e : List Expr} {t t' : TT} (h : PTs X e t) (w : ∀ σ H Q, t' σ H Q → t σ H Q) : PTs X e t' := ⟨fun pins s σ H Q I q => h.run pins s σ H Q I (w σ H Q q)⟩
theorem LCV.mk' {elt tg it : Expr} {ifs : List Expr} {scope : Scope} {own : List (Str × Nat)} {is : List Nat} {fi : IM} {asg : TF} {cond : M Bool} {fe : M D}
    (ok : blkC X.N X.env.scope scope own = true) (hi : IV g X E tg it fi) (hg : ∀ s H C cl fp, GV g (Blk X scope s H C cl fp) tg is asg) (ht : ∀ s H C cl fp, CV1 g (Blk X scope s H C cl fp) ifs cond)
    (he : ∀ s H C cl fp, EV g (Blk X scope s H C cl fp) E0 elt fe) (hs : ∀ i ∈ is, i ∈ own.map (·.2)) : LCV g X E elt tg it ifs scope own (fun live => mLc live fi (own.map (·.2)) asg cond fe) := by
  obtain ⟨wi, pi, qi⟩ := hi
  refine ⟨blkOk_by ok, wi, fun v σ H Q => ∀ s H' C cl fp, Classical.choose (hg s H' C cl fp).ex v σ H Q, fun σ H Q => ∀ s H' C cl fp, Classical.choose (ht s H' C cl fp).ex σ H Q,
    fun σ H Q => ∀ s H' C cl fp, Classical.choose (he s H' C cl fp).ex σ H Q, pi, fun s H C cl fp => ?_, fun s H C cl fp => ?_, fun s H C cl fp => ?_, fun live σ H Q m env hp hl er h => ?_⟩
  · exact PG.weak (Classical.choose_spec (hg s H C cl fp).ex).1 fun v σ H' Q q => q s H C cl fp
  · exact PTs.weak (Classical.choose_spec (ht s H C cl fp).ex).1 fun σ H' Q q => q s H C cl fp
  · exact PE.weak (Classical.choose_spec (he s H C cl fp).ex).1 fun σ H' Q q => q s H C cl fp
  · refine lc_sem live qi (fun v σ H Q m env hp d hl er r h s H' C cl fp => ?_) (fun σ H Q m env hp hl er h s H' C cl fp => ?_) (fun σ H Q m env hp hl er h s H' C cl fp => ?_) hs hl er h
    · exact (Classical.choose_spec (hg s H' C cl fp).ex).2 v σ H Q m env hp d hl er r h
    · exact (Classical.choose_spec (ht s H' C cl fp).ex).2 σ H Q m env hp hl er h
    · exact (Classical.choose_spec (he s H' C cl fp).ex).2 σ H Q m env hp hl er h
theorem EV.lc {elt tg it : Expr} {ifs : List Expr} {scope : Scope} {own : List (Str × Nat)} {pos : Pos} {f : Bool → M D} (live : Bool) (hc : X.calm = true) (hN : X.N.Nodup) (h : LCV g X E elt tg it ifs scope own f) (hs : ∀ x, foldedSetIterable it X.env x = pure x) :
    EV g X E (.ListComp elt [⟨tg, it, ifs, 0⟩] scope pos) (f live) := by
  obtain ⟨ok, wi, gt, tt, te, p1, p2, p3, p4, q⟩ := h
  exact ⟨_, pe_lc hc hN p1 ok p2 p3 p4 hs, fun σ H Q m env hp hl er h => q live σ H Q m env hp hl er h⟩
inductive SR where
  | nx (e : EN) (h : HP)
  | rt (d : D) (h : HP)
  | bk (e : EN) (h : HP)
  | ct (e : EN) (h : HP)
  | exc (c : Nat) (fs : List (Str × D)) (h : HP)
  | stuck
abbrev SM := EN → HP → SR
def SPO (g : G) (m : AM) (H : Hp) (E : XK) (K : Ends) : SR → Prop
  | .nx e hp' => ∀ m' H' σ', Ex m H m' H' → HL g m' H' hp' → ER g m' H' σ' e → K.nx σ' H'
  | .rt d hp' => ∀ m' H' v, Ex m H m' H' → HL g m' H' hp' → rep g m' H' d v → K.rt v H'
  | .bk e hp' => ∀ m' H' σ', Ex m H m' H' → HL g m' H' hp' → ER g m' H' σ' e → K.bk σ' H'
  | .ct e hp' => ∀ m' H' σ', Ex m H m' H' → HL g m' H' hp' → ER g m' H' σ' e → K.ct σ' H'
  | .exc c fs hp' => ∀ m' H' d, Ex m H m' H' → HL g m' H' hp' → XD g m' H' fs d → E (.ref (g.xA c)) d H'
  | .stuck => False
theorem SPO.mono {m m1 : AM} {H H1 : Hp} {K : Ends} {r : SR} (x : Ex m H m1 H1) (h : SPO g m H E K r) : SPO g m1 H1 E K r := by
  cases r with
  | nx e h2 => exact fun m2 H2 w x3 hl3 r3 => h m2 H2 w (x.trans x3) hl3 r3
  | rt e h2 => exact fun m2 H2 w x3 hl3 r3 => h m2 H2 w (x.trans x3) hl3 r3
  | bk e h2 => exact fun m2 H2 w x3 hl3 r3 => h m2 H2 w (x.trans x3) hl3 r3
  | ct e h2 => exact fun m2 H2 w x3 hl3 r3 => h m2 H2 w (x.trans x3) hl3 r3
  | exc c fs h2 => exact fun m2 H2 d2 x3 hl3 e2 => h m2 H2 d2 (x.trans x3) hl3 e2
  | stuck => exact h
@[simp] def R.sbind {α : Type} : R α → (α → HP → SR) → SR
  | .ok a h, f => f a h
  | .exc c fs h, _ => .exc c fs h
  | .stuck, _ => .stuck
theorem SPO.bind {α β : Type} {m : AM} {H : Hp} {rp : AM → Hp → α → β → Prop} {K : Ends} {Q : β → Hp → Prop} {r : R α} {f : α → HP → SR}
    (h : SPO g m H E K (r.sbind f)) (k : ∀ d hp' m' H' v, Ex m H m' H' → HL g m' H' hp' → rp m' H' d v → SPO g m' H' E K (f d hp') → Q v H') : PO g m H E rp Q r := by
  cases r with
  | ok d hp' => exact fun m' H' v x hl rv => k d hp' m' H' v x hl rv (SPO.mono x h)
  | exc c fs hp' => exact h
  | stuck => exact h
structure SV (g : G) (X : Cx) (E : XK) (st : Stmt) (f : SM) : Prop where
  ex : ∃ t, PS X st t ∧ ∀ K σ H m env hp, HL g m H hp → ER g m H σ env → SPO g m H E K (f env hp) → t K σ H
structure SVs (g : G) (X : Cx) (E : XK) (st : List Stmt) (f : SM) : Prop where
  ex : ∃ t, PSs X st t ∧ ∀ K σ H m env hp, HL g m H hp → ER g m H σ env → SPO g m H E K (f env hp) → t K σ H
@[simp] def sNil (env : EN) (hp : HP) : SR := .nx env hp
@[simp] def SR.andThen : SR → SM → SR
  | .nx e h, fs => fs e h
  | .rt d h, _ => .rt d h
  | .bk e h, _ => .bk e h
  | .ct e h, _ => .ct e h
  | .exc c fs h, _ => .exc c fs h
  | .stuck, _ => .stuck
@[simp] def sSeq (f fs : SM) (env : EN) (hp : HP) : SR := (f env hp).andThen fs
theorem SVs.nil : SVs g X E [] sNil := ⟨_, pss_nil, fun K σ H m env hp hl er h => h m H σ (.refl _ _) hl er⟩
theorem SVs.cons {st : Stmt} {rest : List Stmt} {f fs : SM} (h1 : SV g X E st f) (h2 : SVs g X E rest fs) : SVs g X E (st :: rest) (sSeq f fs) := by
  obtain ⟨t, p, q⟩ := h1
  obtain ⟨u, p2, q2⟩ := h2
  refine ⟨_, pss_cons p p2, fun K σ H m env hp hl er h => ?_⟩
  refine q { K with nx := u K } σ H m env hp hl er ?_
  unfold sSeq at h
  revert h
  cases f env hp with
  | nx e h1 => exact fun h m' H' σ' x hl' er' => q2 K σ' H' m' e h1 hl' er' (SPO.mono x h)
  | rt e h2 => exact fun h => h
  | bk e h2 => exact fun h => h
  | ct e h2 => exact fun h => h
  | exc c fs h2 => exact fun h => h
  | stuck => exact fun h => h
theorem SVs.one {st : Stmt} {f : SM} (h1 : SV g X E st f) : SVs g X E [st] f := by
  obtain ⟨t, p, q⟩ := h1
  exact ⟨_, pss_one p, q⟩
/-- code that is never come to -/
@[simp] def sNever (_ : EN) (_ : HP) : SR := .stuck
theorem SV.never {st : Stmt} : SV g X E st sNever := ⟨_, ps_never, fun K σ H m env hp hl er h => h.elim⟩
theorem SVs.never {st : List Stmt} : SVs g X E st sNever := ⟨_, pss_never, fun K σ H m env hp hl er h => h.elim⟩
@[simp] def kRet (d : D) (h : HP) : SR := .rt d h
@[simp] def sRet (a : M D) (env : EN) (hp : HP) : SR := (a env hp).sbind kRet
theorem SV.ret {e : Expr} {pos : Pos} {f : M D} (h : EV g X E e f) : SV g X E (.Return (some e) pos) (sRet f) := by
  obtain ⟨t, p, q⟩ := h
  refine ⟨_, ps_ret p, fun K σ H m env hp hl er h => ?_⟩
  exact q σ H _ m env hp hl er (SPO.bind h fun x h1 m1 H1 v x1 hl1 r1 h => h m1 H1 v (.refl _ _) hl1 r1)
@[simp] def sRetN (_ : EN) (hp : HP) : SR := .rt .non hp
theorem SV.pass {pos : Pos} : SV g X E (.Pass pos) sNil := ⟨_, ps_pass, fun K σ H m env hp hl er h => h m H σ (.refl _ _) hl er⟩
@[simp] def sBrk (env : EN) (hp : HP) : SR := .bk env hp
@[simp] def sCnt (env : EN) (hp : HP) : SR := .ct env hp
theorem SV.brk {pos : Pos} : SV g X E (.Break pos) sBrk := ⟨_, ps_break, fun K σ H m env hp hl er h => h m H σ (.refl _ _) hl er⟩
@[simp] def kExp (env : EN) (_ : D) (h : HP) : SR := .nx env h
@[simp] def sExp (a : M D) (env : EN) (hp : HP) : SR := (a env hp).sbind (kExp env)
theorem SV.exp {e : Expr} {pos : Pos} {f : M D} (h : EV g X E e f) (hs : swapsWith e none pos.line X.env = pure false) : SV g X E (.Expr e pos) (sExp f) := by
  obtain ⟨t, p, q⟩ := h
  refine ⟨_, ps_expr p hs, fun K σ H m env hp hl er h => ?_⟩
  exact q σ H _ m env hp hl er (SPO.bind h fun x h1 m1 H1 v x1 hl1 r1 h => h m1 H1 σ (.refl _ _) hl1 (er.ext x1))
@[simp] def kSIf (a b : SM) (env : EN) (k : Bool) (h : HP) : SR := if k = true then a env h else b env h
@[simp] def sIf (c : M Bool) (a b : SM) (env : EN) (hp : HP) : SR := (c env hp).sbind (kSIf a b env)
theorem SV.if_ {c : Expr} {a b : List Stmt} {pos : Pos} {fc : M Bool} {fa fb : SM} (hc : TV g X E c fc) (ha : SVs g X E a fa) (hb : SVs g X E b fb) : SV g X E (.If c a b pos) (sIf fc fa fb) := by
  obtain ⟨tc, pc, qc⟩ := hc
  obtain ⟨ta, pa, qa⟩ := ha
  obtain ⟨tb, pb, qb⟩ := hb
  refine ⟨_, ps_if pc pa pb, fun K σ H m env hp hl er h => ?_⟩
  refine qc σ H _ m env hp hl er (SPO.bind h fun x h1 m1 H1 v x1 hl1 r1 h => ?_)
  cases (show x = v from r1)
  unfold kSIf at h
  cases x with
  | true =>
    rw [if_pos rfl] at h ⊢
    exact qa K σ H1 m1 env h1 hl1 (er.ext x1) h
  | false =>
    rw [if_neg Bool.false_ne_true] at h ⊢
    exact qb K σ H1 m1 env h1 hl1 (er.ext x1) h
/-- target = value -/
@[simp] def asgO : Option EN → HP → SR
  | some e, h => .nx e h
  | none, _ => .stuck
@[simp] def kAsg (t : TF) (env : EN) (d : D) (h : HP) : SR := asgO (t d env h) h
@[simp] def sAsg (a : M D) (t : TF) (env : EN) (hp : HP) : SR := (a env hp).sbind (kAsg t env)
theorem asg_sem {te : TE} {gt : TG} {f : M D} {is : List Nat} {tf : TF} (q : ∀ σ H Q m env hp, HL g m H hp → ER g m H σ env → PO g m H E (rep g) Q (f env hp) → te σ H Q)
    (qg : ∀ v σ H Q m env hp d, HL g m H hp → ER g m H σ env → rep g m H d v → (∃ env', tf d env hp = some env' ∧ ∀ σ', Turned is σ σ' → ER g m H σ' env' → Q σ' H) → gt v σ H Q)
    {K : Ends} {σ : L2.St} {H : Hp} {m : AM} {env : EN} {hp : HP} (hl : HL g m H hp) (er : ER g m H σ env) (h : SPO g m H E K (sAsg f tf env hp)) : tAsg te gt K σ H := by
  refine q σ H _ m env hp hl er (SPO.bind h fun x h1 m1 H1 v x1 hl1 r1 h => ?_)
  unfold kAsg asgO at h
  split at h
  · rename_i e _ ee
    exact qg v σ H1 _ m1 env _ x hl1 (er.ext x1) r1 ⟨_, ee, fun σ' t er' => h m1 H1 σ' (.refl _ _) hl1 er'⟩
  · exact h.elim
theorem SV.set {i : Nat} {x : Str} {e : Expr} {pos pos' : Pos} {f : M D} (h : EV g X E e f) (hN : X.N.Nodup) (hi : X.N[i]? = some x) (hx : Loc X.env.scope x) (hs : swapsWith e (some (.Name x pos')) pos.line X.env = pure false) (hf : X.fn x = true ∨ X.env.scope.names.lookup x = some .local) :
    SV g X E (.Assign [.Name x pos'] e pos) (sAsg f (gNm i)) := by
  obtain ⟨t, p, q⟩ := h
  obtain ⟨gt, pg, qg⟩ := (GV.name (g := g) (pos := pos') hN hi hx hf).ex
  refine ⟨_, ps_set hN hi hx p hs hf, fun K σ H m env hp hl er h => ?_⟩
  refine q σ H _ m env hp hl er (SPO.bind h fun x h1 m1 H1 v x1 hl1 r1 h => ?_)
  exact h m1 H1 _ (.refl _ _) hl1 ((er.ext x1).set r1)
theorem SV.asg {tg e : Expr} {pos : Pos} {f : M D} {is : List Nat} {tf : TF} (h : EV g X E e f) (hg : GV g X tg is tf) (hs : swapsWithSole [tg] e pos.line X.env = pure false) (hw : swappedStores [tg] e X.env = pure none)
    (h1 : (assignEach [tg] X.env).map (·.2) = [assign tg X.env]) : SV g X E (.Assign [tg] e pos) (sAsg f tf) := by
  obtain ⟨t, p, q⟩ := h
  obtain ⟨gt, pg, qg⟩ := hg
  exact ⟨_, ps_asg p pg hs hw h1, fun K σ H m env hp hl er h => asg_sem q qg hl er h⟩
/-- name = [..] on one line, the name a local -/
theorem SV.setLc {i : Nat} {y : Str} {py : Pos} {elt tg it : Expr} {ifs : List Expr} {scope : Scope} {own : List (Str × Nat)} {pos spos : Pos} {f : Bool → M D} (live : Bool) (hc : X.calm = true) (hN : X.N.Nodup) (h : LCV g X E elt tg it ifs scope own f)
    (hy : X.N[i]? = some y) (hyl : X.env.scope.names.lookup y = some .local) (hsw : swapsWith (.ListComp elt [⟨tg, it, ifs, 0⟩] scope pos) (some (.Name y py)) spos.line X.env = pure true) (hs : ∀ x, foldedSetIterable it X.env x = pure x) :
    SV g X E (.Assign [.Name y py] (.ListComp elt [⟨tg, it, ifs, 0⟩] scope pos) spos) (sAsg (f live) (gNm i)) := by
  obtain ⟨ok, wi, gt, tt, te, p1, p2, p3, p4, q⟩ := h
  refine ⟨_, ps_setLc hc hN hy hyl hsw p1 ok p2 p3 p4 hs, fun K σ H m env hp hl er h => ?_⟩
  refine q live σ H _ m env hp hl er (SPO.bind h fun x h1 m1 H1 v x1 hl1 r1 h => ?_)
  exact h m1 H1 _ (.refl _ _) hl1 ((er.ext x1).set r1)
open Classical in
noncomputable def forE (asg : TF) (body : SM) (gd : GdL) : List D → SM
  | [], env, h => if Gd gd h then .nx env h else .stuck
  | d :: ds, env, h => if Gd gd h then (match asg d env h with
      | some e => (match body e h with
        | .nx e h => forE asg body gd ds e h
        | .ct e h => forE asg body gd ds e h
        | .bk e h => .nx e h
        | .rt d h => .rt d h
        | .exc c fs h => .exc c fs h
        | .stuck => .stuck)
      | none => .stuck) else .stuck
@[simp] noncomputable def kFor (asg : TF) (body : SM) (env : EN) (p : List D × GdL) (h : HP) : SR := forE asg body p.2 p.1 env h
@[simp] noncomputable def sFor (it : IM) (asg : TF) (body : SM) (env : EN) (hp : HP) : SR := (it env hp).sbind (kFor asg body env)
theorem SV.for_ {tg it : Expr} {body : List Stmt} {pos : Pos} {fi : IM} {is : List Nat} {tf : TF} {fb : SM} (hp : PassesOwn (model X.prog X.w) X.A X.env X.xe) (hc : X.calm = true) (hi : IV g X E tg it fi) (hg : GV g X tg is tf) (hb : SVs g X E body fb) (hs : ∀ x, foldedSetIterable it X.env x = pure x) :
    SV g X E (.For tg it body [] pos) (sFor fi tf fb) := by
  obtain ⟨wi, pi, qi⟩ := hi
  obtain ⟨gt, pg, qg⟩ := hg
  obtain ⟨tb, pb, qb⟩ := hb
  refine ⟨_, ps_for hp hc pi pg pb hs, fun K σ H m env hp hl er h => ?_⟩
  refine qi σ H _ m env hp hl er ?_
  unfold sFor at h
  revert h
  cases fi env hp with
  | exc c fs h1 => exact fun h => h
  | stuck => exact fun h => h
  | ok p h1 =>
    obtain ⟨items, gd⟩ := p
    intro h m1 H1 J x1 hl1 fo
    have h : SPO g m H E K (forE tf fb gd items env h1) := h
    refine ⟨fun i k σ' H' => k = items.length - i ∧ i ≤ items.length ∧ ∃ m' env' hp', Ex m1 H1 m' H' ∧ HL g m' H' hp' ∧ ER g m' H' σ' env' ∧ SPO g m H E K (forE tf fb gd (items.drop i) env' hp'),
      ⟨items.length, rfl, Nat.zero_le _, m1, env, h1, .refl _ _, hl1, er.ext x1, by rw [List.drop_zero]; exact h⟩, ?_⟩
    rintro i k σ' H' ⟨rfl, hi', m', env', hp', x', hl', er', po⟩
    by_cases hlt : i < items.length
    · rw [List.drop_eq_getElem_cons hlt] at po
      unfold forE at po
      by_cases hgd : Gd gd hp'
      · rw [if_pos hgd] at po
        refine .inr ⟨fo.go i m' H' hp' hlt x' hl' hgd, fun σ2 H2 => ∃ k', k' < items.length - i ∧ k' = items.length - (i + 1) ∧ i + 1 ≤ items.length ∧ ∃ m' env' hp', Ex m1 H1 m' H2 ∧ HL g m' H2 hp' ∧ ER g m' H2 σ2 env' ∧ SPO g m H E K (forE tf fb gd (items.drop (i + 1)) env' hp'),
          fun σ2 H2 z => z, fun v H2 y => ?_⟩
        obtain ⟨d, ed, xe, hl2, rd⟩ := fo.yld i m' H' hp' v H2 hlt x' hl' hgd y
        rw [List.getElem?_eq_getElem hlt] at ed
        cases ed
        split at po
        · rename_i e2 ea
          refine qg v σ' H2 _ m' env' hp' _ hl2 (er'.ext xe) rd ⟨e2, ea, fun σ3 tn er3 => ?_⟩
          refine qb _ σ3 H2 m' e2 hp' hl2 er3 ?_
          have xx := x'.trans xe
          revert po
          cases fb e2 hp' with
          | nx e3 h3 => exact fun po m3 H3 σ4 x3 hl3 er4 => ⟨items.length - (i + 1), by omega, rfl, hlt, m3, e3, h3, xx.trans x3, hl3, er4, po⟩
          | ct e3 h3 => exact fun po m3 H3 σ4 x3 hl3 er4 => ⟨items.length - (i + 1), by omega, rfl, hlt, m3, e3, h3, xx.trans x3, hl3, er4, po⟩
          | bk e3 h3 => exact fun po m3 H3 σ4 x3 hl3 er4 => po m3 H3 σ4 ((x1.trans xx).trans x3) hl3 er4
          | rt d h3 => exact fun po m3 H3 v3 x3 hl3 r3 => po m3 H3 v3 ((x1.trans xx).trans x3) hl3 r3
          | exc c fs h3 => exact fun po m3 H3 d2 x3 hl3 e2 => po m3 H3 d2 ((x1.trans xx).trans x3) hl3 e2
          | stuck => exact fun po => po.elim
        · exact po.elim
      · rw [if_neg hgd] at po
        exact po.elim
    · have e : i = items.length := by omega
      subst e
      rw [List.drop_length] at po
      unfold forE at po
      by_cases hgd : Gd gd hp'
      · rw [if_pos hgd] at po
        exact .inl ⟨fo.stop m' H' hp' x' hl' hgd, po m' H' σ' (x1.trans x') hl' er'⟩
      · rw [if_neg hgd] at po
        exact po.elim
end
end Ev
namespace Ev
open PySem PySem.Spec PyProof.Rows L2
section
variable {g : G} {X : Cx} {E : XK}
/-- a def's promise, by its function on data -/
def spF (g : G) (n : Nat) (F : FA) : Sp := fun vs H Q E => vs.length = n ∧ ∃ m hp ds, HL g m H hp ∧ reps g m H ds vs ∧ PO g m H E (rep g) Q (F ds hp)
@[simp] def startE (N : Nat) (ds : List D) : EN := ds.map some ++ List.replicate (N - ds.length) none
open Classical in
noncomputable def excP (h0 : HP) (c : Nat) (fs : List (Str × D)) (h : HP) : R D := if h.take h0.length = h0 ∧ rlt.rltf h0.length fs = true then .exc c fs h0 else .stuck
/-- a pure def -/
@[simp] noncomputable def kFnP (h : HP) : SR → R D
  | .nx _ h' => pure_ h .non h'
  | .rt d h' => pure_ h d h'
  | .exc c fs h' => excP h c fs h'
  | .bk _ _ => .stuck
  | .ct _ _ => .stuck
  | .stuck => .stuck
@[simp] noncomputable def fnP (N : Nat) (body : SM) (ds : List D) (h : HP) : R D := kFnP h (body (startE N ds) h)
/-- a def that turns live things, or hands one back -/
@[simp] def kFnR : SR → R D
  | .nx _ h' => .ok .non h'
  | .rt d h' => .ok d h'
  | .exc c fs h' => .exc c fs h'
  | .bk _ _ => .stuck
  | .ct _ _ => .stuck
  | .stuck => .stuck
@[simp] def fnR (N : Nat) (body : SM) (ds : List D) (h : HP) : R D := kFnR (body (startE N ds) h)
theorem ER.start {m : AM} {H : Hp} {ds : List D} {vs : List V} (r : reps g m H ds vs) (N : List Str) : ER g m H (L2.start N vs) (startE N.length ds) := by
  have hl := reps.length r
  refine ⟨by simp [L2.start, startE, hl], fun i d e => ?_⟩
  unfold startE at e
  by_cases h : i < ds.length
  · rw [List.getElem?_append_left (by simpa using h), List.getElem?_map, List.getElem?_eq_getElem h] at e
    simp at e
    obtain ⟨v, ev, rv⟩ := reps.get r (List.getElem?_eq_getElem h)
    rw [e] at rv
    refine ⟨v, ?_, rv⟩
    unfold L2.start
    rw [List.getElem?_append_left (by rw [List.length_map, ← hl]; exact h), List.getElem?_map, ev]
    rfl
  · rw [List.getElem?_append_right (by simpa using Nat.le_of_not_lt h), List.getElem?_replicate] at e
    split at e <;> cases e
theorem fnP_ends {m : AM} {H : Hp} {hp : HP} {N : Nat} {fb : SM} {ds : List D} {Q : VK} (hl : HL g m H hp) (h : PO g m H E (rep g) Q (fnP N fb ds hp)) :
    SPO g m H E { nx := fun _ H' => Q .non H', rt := Q } (fb (startE N ds) hp) := by
  unfold fnP at h
  revert h
  cases fb (startE N ds) hp with
  | nx e h' => exact fun h m' H' σ' x hl' _ => PO.pure_ hl x hl' (d := .non) (by simp [rep]) h
  | rt d h' => exact fun h m' H' v x hl' r => PO.pure_ hl x hl' r h
  | exc c fs h' =>
    intro h m' H' d x hl' hd
    have h : PO g m H E (rep g) Q (excP hp c fs h') := h
    unfold excP at h
    split at h
    · rename_i cnd
      obtain ⟨x2, hl2, dn⟩ := hl.back x hl' cnd.1
      rw [← hl.len] at cnd
      refine h m H' d x2 hl2 ?_
      cases d with
      | none => exact hd
      | some d =>
        obtain ⟨ws, hd, nd, r⟩ := hd
        exact ⟨ws, hd, fun z => nd (dn.mem _ z), repf.down dn _ _ cnd.2 r⟩
    · exact h.elim
  | bk e h' => exact fun h => h.elim
  | ct e h' => exact fun h => h.elim
  | stuck => exact fun h => h.elim
theorem fnR_ends {m : AM} {H : Hp} {hp : HP} {N : Nat} {fb : SM} {ds : List D} {Q : VK} (h : PO g m H E (rep g) Q (fnR N fb ds hp)) :
    SPO g m H E { nx := fun _ H' => Q .non H', rt := Q } (fb (startE N ds) hp) := by
  unfold fnR at h
  revert h
  cases fb (startE N ds) hp with
  | nx e h' => exact fun h m' H' σ' x hl' _ => h m' H' _ x hl' (by simp [rep])
  | rt d h' => exact fun h => h
  | exc c fs h' => exact fun h => h
  | bk e h' => exact fun h => h.elim
  | ct e h' => exact fun h => h.elim
  | stuck => exact fun h => h.elim
section
variable {P : Program} {w : World} {K : PySem.W.Frag} {mg : Str → Option Value} {base : Heap}
/-- a def that raises nothing -/
theorem Fn0 {x qual : Str} {st : Stmt} {f : Addr} {fd : FuncData} {N ps : List Str} {k : Nat} {fb : SM} {Fa : FA} (F : Fun K x qual st f fd) (S : FnScope N ps (defScope st))
    (hF : ∀ {E : XK} {m : AM} {H : Hp} {hp : HP} {ds : List D} {Q : VK}, HL g m H hp → PO g m H E (rep g) Q (Fa ds hp) → SPO g m H E { nx := fun _ H' => Q .non H', rt := Q } (fb (startE N.length ds) hp))
    (hb : ∀ (cdv : Value) (A : Around) (outer : List Env) (s : Shared) (H : Hp) (E : XK), Room k (A.deeper (envOfC qual (defScope st) s.heap.objs.size f cdv)) →
      SVs g (cxOf CX0 P w K mg base N qual (defScope st) f cdv A outer s H E).nox E (defBody st) fb) :
    FnOk P w K mg base CX0 (k + 1) f fd ps (spF g ps.length Fa) := by
  refine F.ok S (fun vs H Q E h => h.1) (fun cdv A outer s H vs Q E hr h => ?_)
  obtain ⟨_, m, hp, ds, hl, r, po⟩ := h
  obtain ⟨t, p, q⟩ := hb cdv A outer s H E hr
  exact ⟨t, p, q _ _ _ m _ hp hl (ER.start r N) (hF hl po)⟩
end
@[simp] def kFn (n : Nat) (F : FA) (xs : List D) (h : HP) : R D := if xs.length = n then F xs h else .stuck
@[simp] def mFn (n : Nat) (F : FA) (a : M (List D)) (env : EN) (hp : HP) : R D := (a env hp).bind (kFn n F)
/-- f(e, ..) -/
theorem EV.call {CX : CXT} {k n : Nat} {f : Addr} {fd : FuncData} {ps : List Str} {Fa : FA} {x : Str} {p pos : Pos} {e : Expr} {es : List Expr} {fs : M (List D)}
    (F : FnOk X.prog X.w X.K X.mg X.base CX k f fd ps (spF g n Fa)) (hr : Room k X.A) (hm : X.mg x = some (.ref f)) (hk : PySem.W.keepIn X.K (.ref f) = true) (hb : Binds X.K fd ps []) (hx : Passes CX X E) (ha : AV g X E (e :: es) fs)
    (hg : Gl X x) (hdb : (x == ("__debug__" : Str)) = false) (he : starEach (e :: es) X.env = (false, eval e X.env) :: starEach es X.env) (hpl : (backTo pos (starEach es X.env)).any (·.1) = false) :
    EV g X E (.Call (.Name x p) (e :: es) [] pos) (mFn n Fa fs) := by
  obtain ⟨t, pa, qa⟩ := ha
  refine ⟨_, pe_call F hr hg hm hk hb .nil hx pa hdb he hpl, fun σ H Q m env hp hl er h => ?_⟩
  refine qa σ H _ m env hp hl er (PO.bind h fun xs h1 m1 H1 vs x1 hl1 r1 h => ?_)
  unfold kFn at h
  split at h
  · rename_i c
    rw [List.append_nil]
    exact ⟨by rw [← reps.length r1]; exact c, m1, h1, xs, hl1, r1, h⟩
  · exact h.elim
abbrev FM := D → List D → HP → R D
structure BM (X : Cx) (g : G) (E : XK) (T id : String) (ty : HP → D → Bool) (F : FM) : Prop where
  ty_ : ∀ m H hp d v, HL g m H hp → rep g m H d v → ty hp d = true → tyV g.K T v H
  ex : ∃ r, MtR X id r ∧ ∀ m H hp d ds v vs Q, HL g m H hp → rep g m H d v → reps g m H ds vs → PO g m H E (rep g) Q (F d ds hp) → r v vs H Q
@[simp] def kBm (ty : HP → D → Bool) (F : FM) (args : M (List D)) (env : EN) (x : D) (h : HP) : R D := if ty h x = true then (args env h).bind (F x) else .stuck
@[simp] def mBm (ty : HP → D → Bool) (F : FM) (a : M D) (args : M (List D)) (env : EN) (hp : HP) : R D := (a env hp).bind (kBm ty F args env)
section
variable {T id : String} {name : Str} {o e : Expr} {es : List Expr} {apos cpos : Pos} {ty : HP → D → Bool} {F : FM} {fo : M D} {fs : M (List D)}
theorem EV.bm (hK : X.K = g.K) (pa : PlainAttrs T) (slot : Slot T name id) (hty : typeOf (.builtin id) = pure (.type "method_descriptor")) (hm : BM X g E T id ty F) (ho : EV g X E o fo) (ha : AV g X E (e :: es) fs)
    (hbase : attributeBase o name X.env (eval o X.env) = eval o X.env)
    (hfew : ((backTo cpos (starEach (e :: es) X.env)).all (fun x => !x.1) && (backToKw cpos (keywordEach [] X.env)).all (fun x => x.1.isSome)
      && decide ((e :: es).length + ([] : List Keyword).length + (if ([] : List Keyword).isEmpty then 0 else 1) < 30)) = true)
    (hline : (apos.endLine == cpos.line) = true) (hs : starEach (e :: es) X.env = (false, eval e X.env) :: starEach es X.env) (hplain : (backTo cpos (starEach es X.env)).any (·.1) = false) :
    EV g X E (.Call (.Attribute o name apos) (e :: es) [] cpos) (mBm ty F fo fs) := by
  obtain ⟨hty2, r, hr, hm⟩ := hm
  obtain ⟨t, p, q⟩ := ho
  obtain ⟨ta, pa', qa⟩ := ha
  refine ⟨_, pe_bm pa slot hty hr p pa' hbase hfew hline hs hplain, fun σ H Q m env hp hl er h => ?_⟩
  refine q σ H _ m env hp hl er (PO.bind h fun x h1 m1 H1 v x1 hl1 r1 h => ?_)
  unfold kBm at h
  split at h
  · rename_i c
    refine ⟨by rw [hK]; exact hty2 m1 H1 h1 x v hl1 r1 c, ?_⟩
    refine qa σ H1 _ m1 env h1 hl1 (er.ext x1) (PO.bind h fun ds h2 m2 H2 vs x2 hl2 r2 h => ?_)
    exact hm m2 H2 h2 x ds v vs Q hl2 (rep.ext x2 _ _ r1) r2 h
  · exact h.elim
end
@[simp] def tyLO : Option O → Bool
  | some (.lst _) => true
  | _ => false
@[simp] def tyL (h : HP) : D → Bool
  | .ref n => tyLO h[n]?
  | _ => false
theorem tyL_ok {m : AM} {H : Hp} {hp : HP} {d : D} {v : V} (hl : HL g m H hp) (r : rep g m H d v) (e : tyL hp d = true) : tyV g.K "list" v H := by
  cases d with
  | ref n =>
    simp only [tyL] at e
    unfold tyLO at e
    split at e
    · rename_i ds q
      simp only [rep] at r
      obtain ⟨a, ea, vs, ha, _⟩ := hl.at q (by simp)
      rw [r.2 a ea]
      exact .inl ⟨rfl, vs, .of ha⟩
    · cases e
  | _ => cases e
@[simp] def kUnit (_ : Unit) (h : HP) : R D := .ok .non h
@[simp] def lAppend : D → List D → HP → R D
  | .ref n, [y], h => (appL n y h).bind kUnit
  | _, _, _ => .stuck
theorem bm_append : BM X g E "list" "list.append" tyL lAppend := by
  refine ⟨fun m H hp d v hl r e => tyL_ok hl r e, _, mt_append, fun m H hp d ds v vs Q hl r rs h => ?_⟩
  unfold lAppend at h
  split at h
  · rename_i n y
    unfold appL at h
    split at h
    · rename_i acc e
      split at h
      · rename_i hz
        obtain ⟨u, rfl, ru⟩ := reps1 rs
        simp only [rep] at r
        obtain ⟨a, ea, us, ha, rr⟩ := hl.at e (by simp)
        obtain ⟨x6, hl6⟩ := hl.write (u := .lst (us ++ [u])) (ob' := .lst (acc ++ [y])) ea e (by simp) fun x6 => ⟨us ++ [u], upd_same, reps.ext x6 _ _ (reps.append rr (by simp only [reps]; exact ⟨u, [], rfl, ru, rfl⟩))⟩
        exact ⟨a, us, u, r.2 a ea, rfl, ha, by rw [← reps.length rr]; exact hz, h m _ _ x6 hl6 (by simp [rep])⟩
      · exact h.elim
    · exact h.elim
  · exact h.elim
theorem reps.dropLast {m : AM} {H : Hp} {ds : List D} {vs : List V} (r : reps g m H ds vs) : reps g m H ds.dropLast vs.dropLast := by
  rw [List.dropLast_eq_take, List.dropLast_eq_take, ← reps.length r]
  exact r.take _
@[simp] def popO (n : Nat) (ds : List D) : Option D → HP → R D
  | some y, h => .ok y (h.set n (.lst ds.dropLast))
  | none, _ => .stuck
@[simp] def popL (n : Nat) : Option O → HP → R D
  | some (.lst ds), h => popO n ds ds[ds.length - 1]? h
  | _, _ => .stuck
@[simp] def lPop : D → List D → HP → R D
  | .ref n, [], h => popL n h[n]? h
  | _, _, _ => .stuck
end
/-- the script -/
theorem rep_script {g : G} {m : AM} {H : Hp} {a : Addr} {ns : List Int} (h : SqL g.K H a (ns.map V.int)) (hm : some a ∉ m) : rep g m H (.klst (ns.map D.int)) (.ref a) := by
  simp only [rep]
  refine ⟨a, ns.map V.int, rfl, ?_, ?_⟩
  · rcases h with h | h
    · exact .inl ⟨h, hm⟩
    · exact .inr h
  · clear h
    induction ns with
    | nil => simp [reps]
    | cons n ns ih =>
      simp only [List.map_cons, reps]
      exact ⟨.int n, _, rfl, by simp [rep], ih⟩
end Ev
namespace Ev
open PySem PySem.Spec PyProof.Rows L2
@[simp] theorem bind_ok {α β : Type} (a : α) (h : HP) (f : α → HP → R β) : (R.ok a h).bind f = f a h := rfl
@[simp] theorem sbind_ok {α : Type} (a : α) (h : HP) (f : α → HP → SR) : (R.ok a h).sbind f = f a h := rfl
@[simp] theorem Gd_nil (h : HP) : Gd [] h = True := by simp [Gd]
theorem rlts_eq {n : Nat} {ds : List D} : rlt.rlts n ds = ds.all (rlt n) := by
  induction ds with
  | nil => rfl
  | cons d ds ih => simp [rlt.rlts, ih]
/-- a value without live things -/
def clean (d : D) : Prop := ∀ n, rlt n d = true
theorem clean_int (i : Int) : clean (.int i) := fun _ => rfl
theorem clean_bl (i : Bool) : clean (.bl i) := fun _ => rfl
theorem clean_str (i : Str) : clean (.str i) := fun _ => rfl
theorem clean_tup {ds : List D} (h : ∀ d ∈ ds, clean d) : clean (.tup ds) := fun n => by
  simp only [rlt, rlts_eq, List.all_eq_true]
  exact fun d hd => h d hd n
theorem clean_lst {ds : List D} (h : ∀ d ∈ ds, clean d) : clean (.lst ds) := fun n => by
  simp only [rlt, rlts_eq, List.all_eq_true]
  exact fun d hd => h d hd n
theorem pure_same {d : D} (h : HP) (c : rlt h.length d = true) : pure_ h d h = .ok d h := by
  unfold pure_
  rw [if_pos (List.take_length)]
  simp [fz, c]
theorem pure_junk {d : D} (h x : HP) (c : rlt h.length d = true) : pure_ h d (h ++ x) = .ok d h := by
  unfold pure_
  rw [if_pos (by simp)]
  simp [fz, c]
theorem pure_list {ds : List D} (h : HP) (c : ∀ d ∈ ds, clean d) : pure_ h (.ref h.length) (h ++ [.lst ds]) = .ok (.lst ds) h := by
  unfold pure_
  rw [if_pos (by simp)]
  have : rlt.rlts h.length ds = true := by
    rw [rlts_eq, List.all_eq_true]
    exact fun d hd => c d hd _
  simp [fz, rlt, this]
theorem pure_clean {d : D} (h : HP) (c : clean d) : pure_ h d h = .ok d h := pure_same h (c _)
theorem pure_cleanJ {d : D} (h x : HP) (c : clean d) : pure_ h d (h ++ x) = .ok d h := pure_junk h x (c _)
theorem appL_last {y : D} {ds : List D} (h : HP) (c : ds.length < sizeLine) : appL h.length y (h ++ [.lst ds]) = .ok () (h ++ [.lst (ds ++ [y])]) := by
  unfold appL
  simp [c]
@[simp] theorem le_line {n : Nat} (h : n ≤ 16000000) : (n ≤ sizeLine) = True := by
  rw [sizeLine_eq]
  exact eq_true (by omega)
@[simp] theorem lt_line {n : Nat} (h : n ≤ 16000000) : (n < sizeLine) = True := by
  rw [sizeLine_eq]
  exact eq_true (by omega)
theorem rg_of {n : Int} (h1 : -1000000000000000000 ≤ n) (h2 : n ≤ 1000000000000000000) : Rg n := by
  unfold Rg
  omega
@[simp] theorem rg_nat {n : Nat} (h2 : n ≤ 1000000000000000000) : Rg (n : Int) := rg_of (by omega) (by omega)
@[simp] theorem rg_lit {n : Nat} (h2 : OfNat.ofNat n ≤ 1000000000000000000) : Rg (OfNat.ofNat n : Int) := by
  have := rg_nat h2
  exact this
theorem forE_inv {asg : TF} {body : SM} {gd : GdL} (I : Nat → EN → HP → Prop) {items : List D} (hg : ∀ i env h, I i env h → Gd gd h)
    (hs : ∀ i env h (hi : i < items.length), I i env h → ∃ e, asg items[i] env h = some e ∧ ∃ env' h', (body e h = .nx env' h' ∨ body e h = .ct env' h') ∧ I (i + 1) env' h')
    {env : EN} {h : HP} (h0 : I 0 env h) : ∃ env' h', forE asg body gd items env h = .nx env' h' ∧ I items.length env' h' := by
  have key : ∀ k i env h, i + k = items.length → I i env h → ∃ env' h', forE asg body gd (items.drop i) env h = .nx env' h' ∧ I items.length env' h' := by
    intro k
    induction k with
    | zero =>
      intro i env h e hI
      have e : i = items.length := by omega
      subst e
      refine ⟨env, h, ?_, hI⟩
      rw [List.drop_length]
      unfold forE
      rw [if_pos (hg _ _ _ hI)]
    | succ k ih =>
      intro i env h e hI
      have hi : i < items.length := by omega
      obtain ⟨e1, ea, env', h', eb, hI'⟩ := hs i env h hi hI
      obtain ⟨env2, h2, e2, hI2⟩ := ih (i + 1) env' h' (by omega) hI'
      refine ⟨env2, h2, ?_, hI2⟩
      rw [List.drop_eq_getElem_cons hi]
      unfold forE
      rw [if_pos (hg _ _ _ hI)]
      simp only [ea]
      rcases eb with eb | eb <;> simp only [eb, e2]
  exact key items.length 0 env h (by omega) h0
abbrev sz (i : Int) : Nat := i.natAbs.log2
theorem sz_lt {i : Int} {n : Nat} (h0 : 0 < n) (h : i.natAbs < 2 ^ n) : sz i < n := PySem.Flt.log2_lt_of h0 h
theorem lt_sz (i : Int) : i.natAbs < 2 ^ (sz i + 1) := Nat.lt_log2_self
theorem mulX {i j : Int} (a b : Nat) (hi : sz i ≤ a) (hj : sz j ≤ b) (h : a + b < 100000000) : CMulE i j := by
  unfold CMulE
  show sz i + sz j < _
  omega
theorem sz_mul (i j : Int) : sz (i * j) ≤ sz i + sz j + 1 := by
  have h : (i * j).natAbs < 2 ^ (sz i + sz j + 2) := by
    rw [Int.natAbs_mul, show sz i + sz j + 2 = (sz i + 1) + (sz j + 1) by omega, Nat.pow_add]
    exact Nat.mul_lt_mul'' (lt_sz i) (lt_sz j)
  have := sz_lt (by omega) h
  omega
theorem sz_add (i j : Int) : sz (i + j) ≤ max (sz i) (sz j) + 1 := by
  have h1 := lt_sz i
  have h2 := lt_sz j
  have p1 : 2 ^ (sz i + 1) ≤ 2 ^ (max (sz i) (sz j) + 1) := Nat.pow_le_pow_right (by decide) (by omega)
  have p2 : 2 ^ (sz j + 1) ≤ 2 ^ (max (sz i) (sz j) + 1) := Nat.pow_le_pow_right (by decide) (by omega)
  have h : (i + j).natAbs < 2 ^ (max (sz i) (sz j) + 2) := by
    rw [show max (sz i) (sz j) + 2 = (max (sz i) (sz j) + 1) + 1 by omega, Nat.pow_succ]
    omega
  have := sz_lt (by omega) h
  omega
theorem sz_neg (i : Int) : sz (-i) = sz i := by unfold sz; rw [Int.natAbs_neg]
theorem sz_sub (i j : Int) : sz (i - j) ≤ max (sz i) (sz j) + 1 := by
  have := sz_add i (-j)
  rw [sz_neg] at this
  rw [Int.sub_eq_add_neg]
  exact this
theorem sz_mono {i j : Int} (h : i.natAbs ≤ j.natAbs) : sz i ≤ sz j := by
  by_cases z : sz i = 0
  · omega
  · have h1 := lt_sz j
    have := sz_lt (i := i) (n := sz j + 1) (by omega) (by omega)
    omega
theorem sz_div {i j : Int} (hj : 0 < j) : sz (i / j) ≤ sz i := by
  apply sz_mono
  by_cases h : 0 ≤ i
  · have h1 : 0 ≤ i / j := Int.ediv_nonneg h (by omega)
    have h2 : i / j ≤ i := Int.ediv_le_self _ h
    omega
  · have h1 : i / j < 0 := Int.ediv_neg_of_neg_of_pos (by omega) hj
    have h2 : i ≤ i / j := by
      have := Int.mul_ediv_add_emod i j
      have h3 := Int.emod_nonneg i (show j ≠ 0 by omega)
      have h4 := Int.emod_lt_of_pos i hj
      have h5 : i / j * (j - 1) ≤ 0 := Int.mul_nonpos_of_nonpos_of_nonneg (by omega) (by omega)
      have : j * (i / j) = i / j * (j - 1) + i / j := by
        rw [Int.mul_sub, Int.mul_one, Int.mul_comm]
        omega
      -- i = j * q + r with 0 ≤ r
      have h6 : i / j * (j - 1) ≤ 0 := h5
      have h7 : i = i / j * (j - 1) + i / j + i % j := by omega
      have h8 : i / j * (j - 1) ≤ -1 * (j - 1) := Int.mul_le_mul_of_nonneg_right (by omega) (by omega)
      omega
    omega
theorem sz_small {i : Int} {n : Nat} (h0 : 0 < n) (h : i.natAbs < 2 ^ n) : sz i ≤ n := Nat.le_of_lt (sz_lt h0 h)
end Ev
namespace Ev
open PySem PySem.Spec PyProof.Rows L2
section
variable {g : G} {X : Cx} {E : XK}
@[simp] def setJ (n : Nat) (ds : List D) (y : D) : Option Nat → HP → R Unit
  | some j, h => .ok () (h.set n (.lst (ds.set j y)))
  | none, _ => .stuck
@[simp] def setL (n : Nat) (k : Int) (y : D) : Option O → HP → R Unit
  | some (.lst ds), h => setJ n ds y (ixN ds.length k) h
  | _, _ => .stuck
@[simp] def setD (y : D) : D → D → HP → R Unit
  | .ref n, .int k, h => setL n k y h[n]? h
  | _, _, _ => .stuck
@[simp] def kNx (env : EN) (_ : Unit) (h : HP) : SR := .nx env h
@[simp] def kSetIx2 (env : EN) (y o : D) (k : D) (h : HP) : SR := (setD y o k h).sbind (kNx env)
@[simp] def kSetIx1 (fi : M D) (env : EN) (y : D) (o : D) (h : HP) : SR := (fi env h).sbind (kSetIx2 env y o)
@[simp] def kSetIx (fo fi : M D) (env : EN) (y : D) (h : HP) : SR := (fo env h).sbind (kSetIx1 fi env y)
@[simp] def sSetIx (fv fo fi : M D) (env : EN) (hp : HP) : SR := (fv env hp).sbind (kSetIx fo fi env)
theorem reps.set {m : AM} {H : Hp} {y : D} {v : V} (rv : rep g m H y v) : ∀ {ds : List D} {vs : List V} {j : Nat}, reps g m H ds vs → reps g m H (ds.set j y) (vs.set j v)
  | [], vs, j, h => by
    simp only [reps] at h
    subst h
    simp [reps]
  | d :: ds, vs, 0, h => by
    simp only [reps] at h
    obtain ⟨w, r, rfl, h1, h2⟩ := h
    simp only [List.set_cons_zero, reps]
    exact ⟨v, r, rfl, rv, h2⟩
  | d :: ds, vs, j + 1, h => by
    simp only [reps] at h
    obtain ⟨w, r, rfl, h1, h2⟩ := h
    simp only [List.set_cons_succ, reps]
    exact ⟨w, _, rfl, h1, reps.set rv h2⟩
theorem SV.setIx {o i e : Expr} {pos pos' : Pos} {fv fo fi : M D} (hv : EV g X E e fv) (ho : EV g X E o fo) (hi : EV g X E i fi)
    (ha : ∀ v, assign (.Subscript o i pos') X.env v = (do
      let ov ← holding [v] (eval o X.env)
      let iv ← holding [v, ov] (eval i X.env)
      standAt pos'
      holding [v, ov, iv] (setItem ov iv v)
      release [v, ov, iv] []))
    (hs : swapsWithSole [.Subscript o i pos'] e pos.line X.env = pure false) (hw : swappedStores [.Subscript o i pos'] e X.env = pure none)
    (h1 : (assignEach [.Subscript o i pos'] X.env).map (·.2) = [assign (.Subscript o i pos') X.env]) : SV g X E (.Assign [.Subscript o i pos'] e pos) (sSetIx fv fo fi) := by
  obtain ⟨tv, pv, qv⟩ := hv
  obtain ⟨to, po, qo⟩ := ho
  obtain ⟨ti, pi, qi⟩ := hi
  refine ⟨_, ps_asg pv (pg_sub po pi set_list ha) hs hw h1, fun K σ H m env hp hl er h => ?_⟩
  refine qv σ H _ m env hp hl er (SPO.bind h fun y h1 m1 H1 v x1 hl1 r1 h => ?_)
  refine qo σ H1 _ m1 env h1 hl1 (er.ext x1) (SPO.bind h fun od h2 m2 H2 u x2 hl2 r2 h => ?_)
  refine qi σ H2 _ m2 env h2 hl2 ((er.ext x1).ext x2) (SPO.bind h fun k h3 m3 H3 w x3 hl3 r3 h => ?_)
  unfold kSetIx2 at h
  cases od with
  | ref n =>
    cases k with
    | int k =>
      simp only [setD] at h
      cases eo : h3[n]? with
      | none => rw [eo] at h; exact h.elim
      | some ob =>
        rw [eo] at h
        cases ob with
        | lst ds =>
          simp only [setL] at h
          cases ej : ixN ds.length k with
          | none => rw [ej] at h; exact h.elim
          | some j =>
            rw [ej] at h
            simp only [setJ, R.sbind, kNx] at h
            have r2' := rep.ext x3 _ _ r2
            simp only [rep] at r2'
            obtain ⟨a, ea, us, hA, rr⟩ := hl3.at eo (by simp)
            have ry := rep.ext (x2.trans x3) _ _ r1
            obtain ⟨x6, hl6⟩ := hl3.write (u := .lst (us.set j v)) (ob' := .lst (ds.set j y)) ea eo (by simp) fun x6 => ⟨us.set j v, upd_same, reps.ext x6 _ _ (reps.set ry rr)⟩
            exact ⟨a, us, k, j, r2'.2 a ea, rInt r3, hA, by rw [← reps.length rr]; exact ej, h m3 _ σ x6 hl6 (((er.ext x1).ext x2).ext x3 |>.ext x6)⟩
        | _ => exact h.elim
    | _ => exact h.elim
  | _ => exact h.elim
@[simp] def kBits : D → HP → R D
  | .int i, h => .ok (.int (Builtin.Int.intBits i : Nat)) h
  | _, _ => .stuck
@[simp] def mBits (f : M D) (env : EN) (hp : HP) : R D := (f env hp).bind kBits
@[simp] def tyLs (h : HP) (d : D) : Bool := (asL h d).isSome
@[simp] def idxN (n : Nat) (j : Nat) (h : HP) : R D := if j < n then .ok (.int (j : Nat)) h else .stuck
@[simp] def idxO (y : D) : Option (List D) → HP → R D
  | some ds, h => if flatD y = true ∧ ds.all flatD = true then idxN ds.length (ds.findIdx fun z => eqD z y) h else .stuck
  | none, _ => .stuck
@[simp] def lIndex : D → List D → HP → R D
  | d, [y], h => idxO y (asL h d) h
  | _, _, _ => .stuck
theorem reps.back {m : AM} {H : Hp} : ∀ {ds : List D} {vs : List V} {i : Nat} {v : V}, reps g m H ds vs → vs[i]? = some v → ∃ d, ds[i]? = some d ∧ rep g m H d v
  | [], vs, i, v, h, e => by
    simp only [reps] at h
    subst h
    simp at e
  | d :: ds, vs, 0, v, h, e => by
    simp only [reps] at h
    obtain ⟨w, r, rfl, h1, h2⟩ := h
    cases e
    exact ⟨d, rfl, h1⟩
  | d :: ds, vs, i + 1, v, h, e => by
    simp only [reps] at h
    obtain ⟨w, r, rfl, h1, h2⟩ := h
    obtain ⟨d', e', r'⟩ := reps.back (ds := ds) (i := i) h2 (by simpa using e)
    exact ⟨d', by simpa using e', r'⟩
def rngN (lo : Int) (n : Nat) : List D := (List.range n).map fun i => .int (lo + (i : Nat) * (-1))
open Classical in
@[simp] noncomputable def kRange3 : List D → HP → R (List D × GdL)
  | [.int i, .int j, .int c], h => if c = -1 ∧ Rg i ∧ Rg j then .ok (rngN i (i - j).toNat, []) h else .stuck
  | _, _ => .stuck
@[simp] noncomputable def iRange3 (a : M (List D)) (env : EN) (hp : HP) : R (List D × GdL) := (a env hp).bind kRange3
end
end Ev
namespace Ev
open PySem PySem.Spec PyProof.Rows L2
section
variable {g : G} {X : Cx} {E : XK}
section
variable {a b c d : Expr} {pos : Pos} {ta tb tc td : TE}
def tChain3 (r r' r'' : R2) (ta tb tc td : TE) : TE := fun σ H Q => ta σ H fun x H1 => tb σ H1 fun y H2 => r x y H2 fun z H3 => ∃ k, z = .bl k ∧
  (if k = true then tc σ H3 fun w' H4 => r' y w' H4 fun z2 H5 => ∃ k2, z2 = .bl k2 ∧ (if k2 = true then td σ H5 fun w2 H6 => r'' w' w2 H6 Q else Q (.bl false) H5) else Q (.bl false) H3)
theorem pe_chain3 {op op' op'' : CmpOp} {r r' r'' : R2} (ho : OpR X (compareOp op) r) (ho' : OpR X (compareOp op') r') (ho'' : OpR X (compareOp op'') r'') (ha : PE X a ta) (hb : PE X b tb) (hc : PE X c tc) (hd : PE X d td)
    (hm : lastMarks [op, op', op''] [b, c, d] = false) : PE X (.Compare a [op, op', op''] [b, c, d] pos) (tChain3 r r' r'' ta tb tc td) := by
  refine ⟨fun pins s σ H Q I h => ?_⟩
  refine Compare_chain (thn (ha.run pins s σ H _ I h) fun v s1 ⟨x, H1, I1, r1, q1⟩ => chain_link (thn (hb.run pins s1 σ H1 _ I1 q1) fun u s2 ⟨y, H2, I2, r2, q2⟩ =>
    thn (ho pins s2 σ H2 x y v u _ I2 r1 r2 q2) fun d s3 ⟨z, H3, I3, r3, k, e, q3⟩ => ?_)) hm
  subst e
  cases r3
  refine wpAny_truthy_bool ?_
  cases k with
  | false => exact ite_ff ⟨.bl false, H3, I3, rfl, q3⟩
  | true =>
    refine ite_tt (chain_link (thn (hc.run pins s3 σ H3 _ I3 q3) fun w' s4 ⟨z', H4, I4, r4, q4⟩ => thn (ho' pins s4 σ H4 y z' u w' _ I4 r2 r4 q4) fun d s5 ⟨z2, H5, I5, r5, k2, e2, q5⟩ => ?_))
    subst e2
    cases r5
    refine wpAny_truthy_bool ?_
    cases k2 with
    | false => exact ite_ff ⟨.bl false, H5, I5, rfl, q5⟩
    | true => exact ite_tt (chain_last (thn (hd.run pins s5 σ H5 _ I5 q5) fun w2 s6 ⟨z3, H6, I6, r6, q6⟩ => ho'' pins s6 σ H6 z' z3 w' w2 Q I6 r4 r6 q6))
theorem pt_chain3 {op op' op'' : CmpOp} {r r' r'' : R2} (ho : OpR X (compareOp op) r) (ho' : OpR X (compareOp op') r') (ho'' : OpR X (compareOp op'') r'') (ha : PE X a ta) (hb : PE X b tb) (hc : PE X c tc) (hd : PE X d td)
    (hm : lastMarks [op, op', op''] [b, c, d] = false) : PT X (.Compare a [op, op', op''] [b, c, d] pos) (tTest (tChain3 r r' r'' ta tb tc td)) := by
  refine ⟨fun pins s σ H Q I h => ?_⟩
  refine isTrue_chain (thn (ha.run pins s σ H _ I h) fun v s1 ⟨x, H1, I1, r1, q1⟩ => test_link (thn (hb.run pins s1 σ H1 _ I1 q1) fun u s2 ⟨y, H2, I2, r2, q2⟩ =>
    thn (ho pins s2 σ H2 x y v u _ I2 r1 r2 q2) fun d s3 ⟨z, H3, I3, r3, k, e, q3⟩ => ?_)) hm
  subst e
  cases r3
  refine wpAny_truthy_bool ?_
  cases k with
  | false =>
    obtain ⟨k', e', q'⟩ := q3
    cases e'
    exact ite_ff ⟨H3, I3, q'⟩
  | true =>
    refine ite_tt (test_link (thn (hc.run pins s3 σ H3 _ I3 q3) fun w' s4 ⟨z', H4, I4, r4, q4⟩ => thn (ho' pins s4 σ H4 y z' u w' _ I4 r2 r4 q4) fun d s5 ⟨z2, H5, I5, r5, k2, e2, q5⟩ => ?_))
    subst e2
    cases r5
    refine wpAny_truthy_bool ?_
    cases k2 with
    | false =>
      obtain ⟨k', e', q'⟩ := q5
      cases e'
      exact ite_ff ⟨H5, I5, q'⟩
    | true =>
      refine ite_tt (test_last (thn (hd.run pins s5 σ H5 _ I5 q5) fun w2 s6 ⟨z3, H6, I6, r6, q6⟩ => thn (ho'' pins s6 σ H6 z' z3 w' w2 _ I6 r4 r6 q6) fun d' s7 ⟨z4, H7, I7, r7, k3, e3, q7⟩ => ?_))
      subst e3
      cases r7
      exact wpAny_truthy_bool ⟨H7, I7, q7⟩
end
@[simp] def kC3g (f3 : F2) (d : M D) (env : EN) (w : D) (k : Bool) (h : HP) : R D := if k = true then (d env h).bind (f3 w) else .ok (.bl false) h
@[simp] def kC3f (f3 : F2) (d : M D) (env : EN) (w : D) (z : D) (h : HP) : R D := (isB z h).bind (kC3g f3 d env w)
@[simp] def kC3e (f2 f3 : F2) (d : M D) (env : EN) (y : D) (w : D) (h : HP) : R D := (f2 y w h).bind (kC3f f3 d env w)
@[simp] def kC3d (f2 f3 : F2) (c d : M D) (env : EN) (y : D) (k : Bool) (h : HP) : R D := if k = true then (c env h).bind (kC3e f2 f3 d env y) else .ok (.bl false) h
@[simp] def kC3c (f2 f3 : F2) (c d : M D) (env : EN) (y : D) (z : D) (h : HP) : R D := (isB z h).bind (kC3d f2 f3 c d env y)
@[simp] def kC3b (f f2 f3 : F2) (c d : M D) (env : EN) (x y : D) (h2 : HP) : R D := (f x y h2).bind (kC3c f2 f3 c d env y)
@[simp] def kC3a (f f2 f3 : F2) (b c d : M D) (env : EN) (x : D) (h1 : HP) : R D := (b env h1).bind (kC3b f f2 f3 c d env x)
@[simp] def mCh3 (f f2 f3 : F2) (a b c d : M D) (env : EN) (hp : HP) : R D := (a env hp).bind (kC3a f f2 f3 b c d env)
theorem EV.ch3 {op op2 op3 : CmpOp} {a b c d : Expr} {pos : Pos} {fa fb fc fd : M D} {f f2 f3 : F2} (ho : OKS X g E (compareOp op) f) (ho2 : OKS X g E (compareOp op2) f2) (ho3 : OKS X g E (compareOp op3) f3) (ha : EV g X E a fa) (hb : EV g X E b fb) (hc : EV g X E c fc) (hd : EV g X E d fd) (hm : lastMarks [op, op2, op3] [b, c, d] = false) :
    EV g X E (.Compare a [op, op2, op3] [b, c, d] pos) (mCh3 f f2 f3 fa fb fc fd) := by
  obtain ⟨r, hr, ho⟩ := ho
  obtain ⟨r2, hr2, ho2⟩ := ho2
  obtain ⟨r3, hr3, ho3⟩ := ho3
  obtain ⟨ta, pa, qa⟩ := ha
  obtain ⟨tb, pb, qb⟩ := hb
  obtain ⟨tc, pc, qc⟩ := hc
  obtain ⟨td, pd, qd⟩ := hd
  refine ⟨_, pe_chain3 hr hr2 hr3 pa pb pc pd hm, fun σ H Q m env hp hl er h => ?_⟩
  refine qa σ H _ m env hp hl er (PO.bind h fun x h1 m1 H1 v x1 hl1 r1 h => ?_)
  refine qb σ H1 _ m1 env h1 hl1 (er.ext x1) (PO.bind h fun y h2 m2 H2 u x2 hl2 r2 h => ?_)
  refine ho m2 H2 h2 x y v u _ hl2 (rep.ext x2 _ _ r1) r2 (PO.bind h fun z h3 m3 H3 w x3 hl3 r3 h => ?_)
  obtain ⟨k, e, h⟩ := PO.isBk r3 h
  refine ⟨k, e, ?_⟩
  unfold kC3d at h
  cases k with
  | true =>
    rw [if_pos rfl] at h ⊢
    refine qc σ H3 _ m3 env h3 hl3 ((er.ext x1).ext (x2.trans x3)) (PO.bind h fun z h4 m4 H4 w4 x4 hl4 r4 h => ?_)
    refine ho2 m4 H4 h4 y z u w4 _ hl4 (rep.ext (x3.trans x4) _ _ r2) r4 (PO.bind h fun z5 h5 m5 H5 w5 x5 hl5 r5 h => ?_)
    obtain ⟨k2, e2, h⟩ := PO.isBk r5 h
    refine ⟨k2, e2, ?_⟩
    unfold kC3g at h
    cases k2 with
    | true =>
      rw [if_pos rfl] at h ⊢
      refine qd σ H5 _ m5 env h5 hl5 ((er.ext x1).ext (x2.trans (x3.trans (x4.trans x5)))) (PO.bind h fun z6 h6 m6 H6 w6 x6 hl6 r6 h => ?_)
      exact ho3 m6 H6 h6 z z6 w4 w6 Q hl6 (rep.ext (x5.trans x6) _ _ r4) r6 h
    | false =>
      rw [if_neg Bool.false_ne_true] at h ⊢
      exact h m5 H5 _ (.refl _ _) hl5 (by simp [rep])
  | false =>
    rw [if_neg Bool.false_ne_true] at h ⊢
    exact h m3 H3 _ (.refl _ _) hl3 (by simp [rep])
theorem TV.ch3 {op op2 op3 : CmpOp} {a b c d : Expr} {pos : Pos} {fa fb fc fd : M D} {f f2 f3 : F2} (ho : OKS X g E (compareOp op) f) (ho2 : OKS X g E (compareOp op2) f2) (ho3 : OKS X g E (compareOp op3) f3) (ha : EV g X E a fa) (hb : EV g X E b fb) (hc : EV g X E c fc) (hd : EV g X E d fd) (hm : lastMarks [op, op2, op3] [b, c, d] = false) :
    TV g X E (.Compare a [op, op2, op3] [b, c, d] pos) (mB (mCh3 f f2 f3 fa fb fc fd)) := by
  obtain ⟨r, hr, ho⟩ := ho
  obtain ⟨r2, hr2, ho2⟩ := ho2
  obtain ⟨r3, hr3, ho3⟩ := ho3
  obtain ⟨ta, pa, qa⟩ := ha
  obtain ⟨tb, pb, qb⟩ := hb
  obtain ⟨tc, pc, qc⟩ := hc
  obtain ⟨td, pd, qd⟩ := hd
  refine ⟨_, pt_chain3 hr hr2 hr3 pa pb pc pd hm, fun σ H Q m env hp hl er h => ?_⟩
  simp only [mB, mCh3, R.bind_assoc] at h
  unfold kC3a kC3b kC3c at h
  simp only [R.bind_assoc] at h
  refine qa σ H _ m env hp hl er (PO.bind h fun x h1 m1 H1 v x1 hl1 r1 h => ?_)
  refine qb σ H1 _ m1 env h1 hl1 (er.ext x1) (PO.bind h fun y h2 m2 H2 u x2 hl2 r2 h => ?_)
  refine ho m2 H2 h2 x y v u _ hl2 (rep.ext x2 _ _ r1) r2 (PO.bind h fun z h3 m3 H3 w x3 hl3 r3 h => ?_)
  obtain ⟨k, e, h⟩ := PO.isBk r3 h
  refine ⟨k, e, ?_⟩
  unfold kC3d at h
  cases k with
  | true =>
    rw [if_pos rfl] at h ⊢
    rw [R.bind_assoc] at h
    unfold kC3e kC3f at h
    simp only [R.bind_assoc] at h
    refine qc σ H3 _ m3 env h3 hl3 ((er.ext x1).ext (x2.trans x3)) (PO.bind h fun z h4 m4 H4 w4 x4 hl4 r4 h => ?_)
    refine ho2 m4 H4 h4 y z u w4 _ hl4 (rep.ext (x3.trans x4) _ _ r2) r4 (PO.bind h fun z5 h5 m5 H5 w5 x5 hl5 r5 h => ?_)
    obtain ⟨k2, e2, h⟩ := PO.isBk r5 h
    refine ⟨k2, e2, ?_⟩
    unfold kC3g at h
    cases k2 with
    | true =>
      rw [if_pos rfl] at h ⊢
      rw [R.bind_assoc] at h
      refine qd σ H5 _ m5 env h5 hl5 ((er.ext x1).ext (x2.trans (x3.trans (x4.trans x5)))) (PO.bind h fun z6 h6 m6 H6 w6 x6 hl6 r6 h => ?_)
      refine ho3 m6 H6 h6 z z6 w4 w6 _ hl6 (rep.ext (x5.trans x6) _ _ r4) r6 (PO.bind h fun z7 h7 m7 H7 w7 x7 hl7 r7 h => ?_)
      exact PO.toB hl7 r7 h
    | false =>
      rw [if_neg Bool.false_ne_true] at h ⊢
      exact PO.toB (d := .bl false) (v := .bl false) hl5 (by simp [rep]) h
  | false =>
    rw [if_neg Bool.false_ne_true] at h ⊢
    exact PO.toB (d := .bl false) (v := .bl false) hl3 (by simp [rep]) h
/-- what is asked of a class: plain, and none of the names of its fields is one of its attributes -/
structure ClsT (K : PySem.W.Frag) (C : Addr) (fs : List Str) : Prop where
  cl : Cls K C
  na : ∀ f ∈ fs, NoAttr K C f
def CsOk (g : G) (f : Str) : Prop := ∀ c, Cls g.K (g.cA c) ∧ NoAttr g.K (g.cA c) f
theorem CsOk.of {f : Str} {fs : List Str} (t : ∀ c, ClsT g.K (g.cA c) fs) (hf : f ∈ fs) : CsOk g f := fun c => ⟨(t c).cl, (t c).na f hf⟩
@[simp] def insO : Option O → Option (Nat × List (Str × D))
  | some (.ins c fs) => some (c, fs)
  | _ => none
def asI (h : HP) : D → Option (Nat × List (Str × D))
  | .ins c fs => some (c, fs)
  | .ref n => insO h[n]?
  | _ => none
@[simp] theorem asI_ins (h : HP) (c : Nat) (fs : List (Str × D)) : asI h (.ins c fs) = some (c, fs) := rfl
@[simp] theorem asI_ref (h : HP) (n : Nat) : asI h (.ref n) = insO h[n]? := rfl
theorem asI_ok {m : AM} {H : Hp} {hp : HP} {d : D} {v : V} {c : Nat} {fs : List (Str × D)} (hl : HL g m H hp) (r : rep g m H d v) (e : asI hp d = some (c, fs)) : ∃ a dx vs, v = .ref a ∧ H a = some (.ins (g.cA c) dx vs) ∧ repf g m H fs vs := by
  cases d with
  | ins c' fs' =>
    simp only [asI] at e
    cases e
    simp only [rep] at r
    obtain ⟨a, dx, vs, e1, e2, _, e3⟩ := r
    exact ⟨a, dx, vs, e1, e2, e3⟩
  | ref n =>
    simp only [asI] at e
    unfold insO at e
    split at e
    · rename_i c' fs' q
      cases e
      simp only [rep] at r
      obtain ⟨a, ea, dx, vs, ha, rv⟩ := hl.at q (by simp)
      exact ⟨a, dx, vs, r.2 a ea, ha, rv⟩
    · cases e
  | _ => cases e
theorem repf.lookup {m : AM} {H : Hp} {f : Str} : ∀ {fs : List (Str × D)} {vs : List (Str × V)}, repf g m H fs vs → (∀ d, fs.lookup f = some d → ∃ v, vs.lookup f = some v ∧ rep g m H d v) ∧ (fs.lookup f = none → vs.lookup f = none)
  | [], vs, h => by
    simp only [repf] at h
    subst h
    exact ⟨fun d e => (by cases e), fun _ => rfl⟩
  | (k, d) :: fs, vs, h => by
    simp only [repf] at h
    obtain ⟨v, r, rfl, h1, h2⟩ := h
    have ih := repf.lookup (f := f) h2
    simp only [List.lookup_cons]
    cases q : f == k with
    | true => exact ⟨fun d' e => ⟨v, rfl, by cases e; exact h1⟩, fun e => by cases e⟩
    | false => exact ih
@[simp] def optR : Option D → HP → R D
  | some d, h => .ok d h
  | none, _ => .stuck
@[simp] def fldI (f : Str) : Option (Nat × List (Str × D)) → HP → R D
  | some (_, fs), h => optR (fs.lookup f) h
  | none, _ => .stuck
@[simp] def kFld (f : Str) (x : D) (h : HP) : R D := fldI f (asI h x) h
@[simp] def mFld (f : Str) (a : M D) (env : EN) (hp : HP) : R D := (a env hp).bind (kFld f)
/-- e.f -/
theorem EV.fld {e : Expr} {f : Str} {pos : Pos} {fe : M D} (hK : X.K = g.K) (hcs : CsOk g f) (h : EV g X E e fe) (hb : attributeBase e f X.env (eval e X.env) = eval e X.env) : EV g X E (.Attribute e f pos) (mFld f fe) := by
  obtain ⟨t, p, q⟩ := h
  refine ⟨_, pe_fld p hb, fun σ H Q m env hp hl er h => q σ H _ m env hp hl er (PO.bind h fun x h1 m1 H1 v x1 hl1 r1 h => ?_)⟩
  unfold kFld fldI at h
  split at h
  · rename_i c fs e
    unfold optR at h
    split at h
    · rename_i d el
      obtain ⟨a, dx, vs, rfl, ea, rf⟩ := asI_ok hl1 r1 e
      obtain ⟨u, eu, ru⟩ := rf.lookup.1 d el
      rw [hK]
      exact ⟨a, _, dx, vs, u, rfl, ea, (hcs c).1, (hcs c).2, eu, PO.here hl1 h ru⟩
    · exact h.elim
  · exact h.elim
@[simp] def putD (f : Str) (d : D) : List (Str × D) → List (Str × D)
  | [] => [(f, d)]
  | (k, x) :: r => if k = f then (k, d) :: r else (k, x) :: putD f d r
theorem repf.put {m : AM} {H : Hp} {f : Str} {d : D} {v : V} (rv : rep g m H d v) : ∀ {fs : List (Str × D)} {vs : List (Str × V)}, repf g m H fs vs → repf g m H (putD f d fs) (putF f v vs)
  | [], vs, h => by
    simp only [repf] at h
    subst h
    simp only [putD, putF, repf]
    exact ⟨v, [], rfl, rv, rfl⟩
  | (k, x) :: fs, vs, h => by
    simp only [repf] at h
    obtain ⟨w, r, rfl, h1, h2⟩ := h
    simp only [putD, putF]
    by_cases q : k = f
    · rw [if_pos q, if_pos q]
      simp only [repf]
      exact ⟨v, r, rfl, rv, h2⟩
    · rw [if_neg q, if_neg q]
      simp only [repf]
      exact ⟨w, _, rfl, h1, repf.put rv h2⟩
theorem repf.length {m : AM} {H : Hp} : ∀ {ds : List (Str × D)} {vs : List (Str × V)}, repf g m H ds vs → ds.length = vs.length
  | [], vs, h => by simp only [repf] at h; subst h; rfl
  | (k, d) :: ds, vs, h => by
    simp only [repf] at h
    obtain ⟨v, r, rfl, _, h2⟩ := h
    simp [repf.length h2]
@[simp] def putI (f : Str) (y : D) (n : Nat) : Option O → HP → R Unit
  | some (.ins c fs), h => if fs.length < 1000 then .ok () (h.set n (.ins c (putD f y fs))) else .stuck
  | _, _ => .stuck
@[simp] def putR (f : Str) (y : D) : D → HP → R Unit
  | .ref n, h => putI f y n h[n]? h
  | _, _ => .stuck
@[simp] def kPut2 (f : Str) (env : EN) (y o : D) (h : HP) : SR := (putR f y o h).sbind (kNx env)
@[simp] def kPut1 (f : Str) (fo : M D) (env : EN) (y : D) (h : HP) : SR := (fo env h).sbind (kPut2 f env y)
@[simp] def sPut (f : Str) (fv fo : M D) (env : EN) (hp : HP) : SR := (fv env hp).sbind (kPut1 f fo env)
theorem SV.put {o e : Expr} {f : Str} {pos pos' : Pos} {fv fo : M D} (hK : X.K = g.K) (hcs : CsOk g f) (hv : EV g X E e fv) (ho : EV g X E o fo) (hs : swapsWith e (some (.Attribute o f pos')) pos.line X.env = pure false) :
    SV g X E (.Assign [.Attribute o f pos'] e pos) (sPut f fv fo) := by
  obtain ⟨tv, pv, qv⟩ := hv
  obtain ⟨to, po, qo⟩ := ho
  refine ⟨_, ps_fld po pv hs, fun K σ H m env hp hl er h => ?_⟩
  refine qv σ H _ m env hp hl er (SPO.bind h fun y h1 m1 H1 v x1 hl1 r1 h => ?_)
  refine qo σ H1 _ m1 env h1 hl1 (er.ext x1) (SPO.bind h fun od h2 m2 H2 u x2 hl2 r2 h => ?_)
  unfold kPut2 at h
  cases od with
  | ref n =>
    simp only [putR] at h
    cases eo : h2[n]? with
    | none => rw [eo] at h; exact h.elim
    | some ob =>
      rw [eo] at h
      cases ob with
      | ins c fs =>
        simp only [putI] at h
        split at h
        · rename_i hc
          simp only [R.sbind, kNx] at h
          simp only [rep] at r2
          obtain ⟨a, ea, dx, vs, hA, rr⟩ := hl2.at eo (by simp)
          have ry := rep.ext x2 _ _ r1
          obtain ⟨x6, hl6⟩ := hl2.write (u := .ins (g.cA c) dx (putF f v vs)) (ob' := .ins c (putD f y fs)) ea eo (by simp) fun x6 => ⟨dx, _, upd_same, repf.ext x6 _ _ (repf.put ry rr)⟩
          rw [hK]
          exact ⟨a, _, dx, vs, r2.2 a ea, hA, (hcs c).1, (hcs c).2, by rw [← repf.length rr]; exact hc, h m2 _ σ x6 hl6 ((er.ext x1).ext x2 |>.ext x6)⟩
        · exact h.elim
      | _ => exact h.elim
  | _ => exact h.elim
@[simp] def sStuck (_ : EN) (_ : HP) : SR := .stuck
theorem SV.no {s : Stmt} : SV g X E s sStuck := ⟨fun _ _ _ => False, ⟨fun _ _ _ _ _ _ h => h.elim⟩, fun _ _ _ _ _ _ _ _ h => h⟩
structure KwV (g : G) (X : Cx) (E : XK) (ks : List Keyword) (f : M (List D)) : Prop where
  ex : ∃ t, PK X ks t ∧ ∀ σ H Q m env hp, HL g m H hp → ER g m H σ env → PO g m H E (reps g) Q (f env hp) → t σ H Q
theorem KwV.nil : KwV g X E [] aNil := ⟨_, pk_nil, fun σ H Q m env hp hl er h => h m H [] (.refl _ _) hl (by simp [reps])⟩
theorem KwV.cons {nm : Option Str} {kpos : Pos} {e : Expr} {es : List Keyword} {f : M D} {fs : M (List D)} (ha : EV g X E e f) (hr : KwV g X E es fs) : KwV g X E (⟨nm, e, kpos⟩ :: es) (aCons f fs) := by
  obtain ⟨ta, pa, qa⟩ := ha
  obtain ⟨tr, pr, qr⟩ := hr
  refine ⟨_, pk_cons pa pr, fun σ H Q m env hp hl er h => ?_⟩
  refine qa σ H _ m env hp hl er (PO.bind h fun x h1 m1 H1 v x1 hl1 r1 h => ?_)
  refine qr σ H1 _ m1 env h1 hl1 (er.ext x1) (PO.bind h fun xs h2 m2 H2 vs x2 hl2 r2 h => ?_)
  exact h m2 H2 _ (.refl _ _) hl2 (by simp only [reps]; exact ⟨v, vs, rfl, rep.ext x2 _ _ r1, r2⟩)
/-- how values of a call are put in the parameters' order -/
def ArgO (g : G) (gD : List D → List D → List D) (gV : List V → List V → List V) : Prop := ∀ m H xs vs ys ws, reps g m H xs vs → reps g m H ys ws → reps g m H (gD xs ys) (gV vs ws)
@[simp] def gApp (xs ys : List D) : List D := xs ++ ys
theorem ArgO.app : ArgO g gApp fun vs ws => vs ++ ws := fun m H xs vs ys ws h1 h2 => reps.append h1 h2
/-- .. defaults behind -/
@[simp] def gAppD (ds : List D) (xs ys : List D) : List D := xs ++ (ys ++ ds)
@[simp] def kCallN (n k : Nat) (gD : List D → List D → List D) (F : FA) (xs ys : List D) (h : HP) : R D := if xs.length = n ∧ ys.length = k then F (gD xs ys) h else .stuck
@[simp] def kCallN1 (n k : Nat) (gD : List D → List D → List D) (F : FA) (ks : M (List D)) (env : EN) (xs : List D) (h : HP) : R D := (ks env h).bind (kCallN n k gD F xs)
@[simp] def mCallN (n k : Nat) (gD : List D → List D → List D) (F : FA) (a ks : M (List D)) (env : EN) (hp : HP) : R D := (a env hp).bind (kCallN1 n k gD F ks env)
section
variable {CX : CXT} {k n np : Nat} {f : Addr} {fd : FuncData} {ps ks : List Str} {Fa : FA} {x : Str} {p pos : Pos} {e : Expr} {es : List Expr} {kws : List Keyword} {fs fk : M (List D)} {gv : List Value → List Value → List Value} {gV : List V → List V → List V} {gD : List D → List D → List D}
noncomputable def mkR (h0 : HP) : R D → R D
  | .ok .non h => pure_ h0 (.ref h0.length) h
  | _ => .stuck
@[simp] def gMk (gD : List D → List D → List D) (h : HP) (xs ys : List D) : List D := gD (.ref h.length :: xs) ys
@[simp] noncomputable def kMkN (c n k : Nat) (gD : List D → List D → List D) (F : FA) (xs ys : List D) (h : HP) : R D := if xs.length = n ∧ ys.length = k then mkR h (F (gMk gD h xs ys) (h ++ [.ins c []])) else .stuck
@[simp] noncomputable def kMkN1 (c n k : Nat) (gD : List D → List D → List D) (F : FA) (ks : M (List D)) (env : EN) (xs : List D) (h : HP) : R D := (ks env h).bind (kMkN c n k gD F xs)
@[simp] noncomputable def mMkN (c n k : Nat) (gD : List D → List D → List D) (F : FA) (a ks : M (List D)) (env : EN) (hp : HP) : R D := (a env hp).bind (kMkN1 c n k gD F ks env)
theorem mk_sp {c : Nat} {m : AM} {H : Hp} {hp : HP} {xs ys : List D} {vs ws : List V} {Q : VK} (hl : HL g m H hp) (r1 : reps g m H xs vs) (r2 : reps g m H ys ws) (hD : ArgO g gD gV) (hnp : (gMk gD hp xs ys).length = np)
    (h : PO g m H E (rep g) Q (mkR hp (Fa (gMk gD hp xs ys) (hp ++ [.ins c []])))) :
    ∀ x dx, H x = none → H dx = none → dx ≠ x → spF g np Fa (gV (.ref x :: vs) ws) (upd (upd H dx (.own x)) x (.ins (g.cA c) dx [])) (fun v H3 => v = .non ∧ Q (.ref x) H3) E := by
  intro x dx nx ndx ne
  obtain ⟨x1, hl1, _⟩ := hl.new (o := .own x) ndx
  have nx1 : (upd H dx (.own x)) x = none := by rw [upd_ne (Ne.symm ne)]; exact nx
  obtain ⟨x2, hl2⟩ := hl1.push (o := .ins (g.cA c) dx []) (ob := .ins c []) nx1 (by simp) fun x2 => ⟨dx, [], upd_same, by simp [repf]⟩
  have rx : rep g (m ++ [some x]) (upd (upd H dx (.own x)) x (.ins (g.cA c) dx [])) (.ref hp.length) (.ref x) := by
    simp only [rep]
    refine ⟨by simp [hl.len], fun a e => ?_⟩
    rw [← hl.len, List.getElem?_append_right (Nat.le_refl _)] at e
    simp at e
    rw [e]
  have rr := hD _ _ (.ref hp.length :: xs) (.ref x :: vs) ys ws (by simp only [reps]; exact ⟨_, _, rfl, rx, reps.ext (x1.trans x2) _ _ r1⟩) (reps.ext (x1.trans x2) _ _ r2)
  refine ⟨by rw [← reps.length rr]; exact hnp, _, _, _, hl2, rr, ?_⟩
  have e : gD (.ref hp.length :: xs) ys = gMk gD hp xs ys := rfl
  rw [e]
  revert h
  cases Fa (gMk gD hp xs ys) (hp ++ [.ins c []]) with
  | ok d h' =>
    cases d with
    | non =>
      intro h m' H' v x3 hl3 rv
      refine ⟨by simpa [rep] using rv, ?_⟩
      exact PO.pure_ hl ((x1.trans x2).trans x3) hl3 (rep.ext x3 _ _ rx) h
    | _ => exact fun h => h.elim
  | exc _ _ _ => exact fun h => h.elim
  | stuck => exact fun h => h.elim
theorem EV.mkN {c : Nat} (M : Mk X.K (g.cA c) f) (F : FnOk X.prog X.w X.K X.mg X.base CX k f fd ps (spF g np Fa)) (hr : Room (k + 1) X.A) (hm : X.mg x = some (.ref (g.cA c))) (hb : KBn X.K fd ps (n + 1) ks gv gV) (hD : ArgO g gD gV) (hnp : ∀ xs ys : List D, xs.length = n + 1 → ys.length = ks.length → (gD xs ys).length = np) (hx : Passes CX X E)
    (ha : AV g X E (e :: es) fs) (hkw : KwV g X E kws fk) (hg : Gl X x) (hall : (backToKw pos (keywordEach kws X.env)).all (·.1.isSome) = true) (hks : (backToKw pos (keywordEach kws X.env)).filterMap (·.1) = ks)
    (hdb : (x == ("__debug__" : Str)) = false) (he : starEach (e :: es) X.env = (false, eval e X.env) :: starEach es X.env)
    (hpl : ((backTo pos (starEach (e :: es) X.env)).any (·.1) || (backToKw pos (keywordEach kws X.env)).any (·.1.isNone)) = false) :
    EV g X E (.Call (.Name x p) (e :: es) kws pos) (mMkN c n ks.length gD Fa fs fk) := by
  obtain ⟨t, pa, qa⟩ := ha
  obtain ⟨tk, pk, qk⟩ := hkw
  refine ⟨_, pe_makeK M F hr hg hm hb hx pa pk hall hks hdb he hpl, fun σ H Q m env hp hl er h => ?_⟩
  refine qa σ H _ m env hp hl er (PO.bind h fun xs h1 m1 H1 vs x1 hl1 r1 h => ?_)
  refine qk σ H1 _ m1 env h1 hl1 (er.ext x1) (PO.bind h fun ys h2 m2 H2 ws x2 hl2 r2 h => ?_)
  unfold kMkN at h
  split at h
  · rename_i cnd
    exact ⟨(reps.length r1).symm.trans cnd.1, (reps.length r2).symm.trans cnd.2, mk_sp hl2 (reps.ext x2 _ _ r1) r2 hD (hnp _ _ (by simp [cnd.1]) cnd.2) h⟩
  · exact h.elim
/-- C(e, ..) -/
@[simp] noncomputable def kMkP (c n : Nat) (F : FA) (xs : List D) (h : HP) : R D := if xs.length = n then mkR h (F (gMk gApp h xs []) (h ++ [.ins c []])) else .stuck
@[simp] noncomputable def mMkP (c n : Nat) (F : FA) (a : M (List D)) (env : EN) (hp : HP) : R D := (a env hp).bind (kMkP c n F)
@[simp] def methI (c : Nat) (nm : Str) : Option (Nat × List (Str × D)) → Bool
  | some (c', fs) => decide (c' = c) && (fs.lookup nm).isNone
  | none => false
@[simp] def kMeth2 (n : Nat) (F : FA) (x : D) (xs : List D) (h : HP) : R D := if xs.length = n then F (x :: xs) h else .stuck
@[simp] def kMeth (c n : Nat) (nm : Str) (F : FA) (a : M (List D)) (env : EN) (x : D) (h : HP) : R D := if methI c nm (asI h x) = true then (a env h).bind (kMeth2 n F x) else .stuck
@[simp] def mMeth (c n : Nat) (nm : Str) (F : FA) (o : M D) (a : M (List D)) (env : EN) (hp : HP) : R D := (o env hp).bind (kMeth c n nm F a env)
end
/-- how a def without defaults binds n values and the keywords ks, all in the parameters' order -/
theorem kbA {K : PySem.W.Frag} {x qual : Str} {st : Stmt} {f : Addr} {fd : FuncData} {ps : List Str} (F : Fun K x qual st f fd) (n : Nat) (ks : List Str)
    (h : ∀ (kV doc pm : Value) (an : Option Addr) (cdv ct : Value) (us ws : List Value), us.length = n → ws.length = ks.length → bindArgs (PySem.W.fnOf x qual (defArgs st) (defBody st) (defScope st) .none kV doc pm an cdv ct) ⟨us, ks.zip ws⟩ = pure (ps.zip (us ++ ws))) :
    KBn K fd ps n ks (fun us ws => us ++ ws) (fun vs zs => vs ++ zs) := by
  obtain ⟨oc, od, kV, doc, pm, an, cdv, ct, osl, rfl, lk, hcd⟩ := F.ex
  exact ⟨fun s us ws X l1 l2 => .of_eq (h kV doc pm an cdv ct us ws l1 l2), fun r1 r2 => r1.append r2⟩
end
end Ev
namespace Ev
open PySem PySem.Spec PyProof.Rows L2
/-- the law's own promise: no class is named in it -/
def spL (K : PySem.W.Frag) (F : FA) : Sp := fun vs H Q _ => ∃ (a : Addr) (ns : List Int), vs = [.ref a] ∧ SqL K H a (ns.map V.int) ∧ F [.klst (ns.map D.int)] [] = .ok (.bl true) [] ∧ ∀ H', Q (.bl true) H'
theorem spL_imp {g : G} {F : FA} {vs : List V} {H : Hp} {Q : VK} {E : XK} (h : spL g.K F vs H Q E) : spF g 1 F vs H Q E := by
  obtain ⟨a, ns, rfl, hS, e, k⟩ := h
  refine ⟨rfl, [], [], [.klst (ns.map D.int)], ⟨rfl, fun i j a e => by simp at e, fun i o e => by simp at e⟩, ?_, ?_⟩
  · simp only [reps]
    exact ⟨_, [], rfl, rep_script hS (by simp), rfl⟩
  · rw [e]
    intro m' H' v x hl r
    have : v = .bl true := by simpa [rep] using r
    rw [this]
    exact k H'
end Ev
namespace Ev
open PySem PySem.Spec PyProof.Rows L2
section
variable {g : G} {X : Cx} {E : XK}
@[simp] def bStr : List D → HP → R D
  | [.int i], h => if i.natAbs.log2 < 1920 then .ok (.str (toString i)) h else .stuck
  | _, _ => .stuck
end
end Ev
namespace Lib
open PySem PySem.Spec PyProof.Rows L2 Ev
@[simp] theorem nb_dims_speed : (("dims" : Str) == ("speed" : Str)) = false := by decide +kernel
@[simp] theorem ne_dims_speed : (("dims" : Str) = ("speed" : Str)) = False := eq_false (by decide +kernel)
@[simp] theorem nb_dims_drift : (("dims" : Str) == ("drift" : Str)) = false := by decide +kernel
@[simp] theorem ne_dims_drift : (("dims" : Str) = ("drift" : Str)) = False := eq_false (by decide +kernel)
@[simp] theorem nb_dims_per : (("dims" : Str) == ("per" : Str)) = false := by decide +kernel
@[simp] theorem ne_dims_per : (("dims" : Str) = ("per" : Str)) = False := eq_false (by decide +kernel)
@[simp] theorem nb_speed_dims : (("speed" : Str) == ("dims" : Str)) = false := by decide +kernel
@[simp] theorem ne_speed_dims : (("speed" : Str) = ("dims" : Str)) = False := eq_false (by decide +kernel)
@[simp] theorem nb_speed_drift : (("speed" : Str) == ("drift" : Str)) = false := by decide +kernel
@[simp] theorem ne_speed_drift : (("speed" : Str) = ("drift" : Str)) = False := eq_false (by decide +kernel)
@[simp] theorem nb_speed_per : (("speed" : Str) == ("per" : Str)) = false := by decide +kernel
@[simp] theorem ne_speed_per : (("speed" : Str) = ("per" : Str)) = False := eq_false (by decide +kernel)
@[simp] theorem nb_drift_dims : (("drift" : Str) == ("dims" : Str)) = false := by decide +kernel
@[simp] theorem ne_drift_dims : (("drift" : Str) = ("dims" : Str)) = False := eq_false (by decide +kernel)
@[simp] theorem nb_drift_speed : (("drift" : Str) == ("speed" : Str)) = false := by decide +kernel
@[simp] theorem ne_drift_speed : (("drift" : Str) = ("speed" : Str)) = False := eq_false (by decide +kernel)
@[simp] theorem nb_drift_per : (("drift" : Str) == ("per" : Str)) = false := by decide +kernel
@[simp] theorem ne_drift_per : (("drift" : Str) = ("per" : Str)) = False := eq_false (by decide +kernel)
@[simp] theorem nb_per_dims : (("per" : Str) == ("dims" : Str)) = false := by decide +kernel
@[simp] theorem ne_per_dims : (("per" : Str) = ("dims" : Str)) = False := eq_false (by decide +kernel)
@[simp] theorem nb_per_speed : (("per" : Str) == ("speed" : Str)) = false := by decide +kernel
@[simp] theorem ne_per_speed : (("per" : Str) = ("speed" : Str)) = False := eq_false (by decide +kernel)
@[simp] theorem nb_per_drift : (("per" : Str) == ("drift" : Str)) = false := by decide +kernel
@[simp] theorem ne_per_drift : (("per" : Str) = ("drift" : Str)) = False := eq_false (by decide +kernel)
@[simp] theorem nb_source_moment : (("source" : Str) == ("moment" : Str)) = false := by decide +kernel
@[simp] theorem ne_source_moment : (("source" : Str) = ("moment" : Str)) = False := eq_false (by decide +kernel)
@[simp] theorem nb_source_kind : (("source" : Str) == ("kind" : Str)) = false := by decide +kernel
@[simp] theorem ne_source_kind : (("source" : Str) = ("kind" : Str)) = False := eq_false (by decide +kernel)
@[simp] theorem nb_source_low : (("source" : Str) == ("low" : Str)) = false := by decide +kernel
@[simp] theorem ne_source_low : (("source" : Str) = ("low" : Str)) = False := eq_false (by decide +kernel)
@[simp] theorem nb_source_high : (("source" : Str) == ("high" : Str)) = false := by decide +kernel
@[simp] theorem ne_source_high : (("source" : Str) = ("high" : Str)) = False := eq_false (by decide +kernel)
@[simp] theorem nb_source_late : (("source" : Str) == ("late" : Str)) = false := by decide +kernel
@[simp] theorem ne_source_late : (("source" : Str) = ("late" : Str)) = False := eq_false (by decide +kernel)
@[simp] theorem nb_source_near : (("source" : Str) == ("near" : Str)) = false := by decide +kernel
@[simp] theorem ne_source_near : (("source" : Str) = ("near" : Str)) = False := eq_false (by decide +kernel)
@[simp] theorem nb_moment_source : (("moment" : Str) == ("source" : Str)) = false := by decide +kernel
@[simp] theorem ne_moment_source : (("moment" : Str) = ("source" : Str)) = False := eq_false (by decide +kernel)
@[simp] theorem nb_moment_kind : (("moment" : Str) == ("kind" : Str)) = false := by decide +kernel
@[simp] theorem ne_moment_kind : (("moment" : Str) = ("kind" : Str)) = False := eq_false (by decide +kernel)
@[simp] theorem nb_moment_low : (("moment" : Str) == ("low" : Str)) = false := by decide +kernel
@[simp] theorem ne_moment_low : (("moment" : Str) = ("low" : Str)) = False := eq_false (by decide +kernel)
@[simp] theorem nb_moment_high : (("moment" : Str) == ("high" : Str)) = false := by decide +kernel
@[simp] theorem ne_moment_high : (("moment" : Str) = ("high" : Str)) = False := eq_false (by decide +kernel)
@[simp] theorem nb_moment_late : (("moment" : Str) == ("late" : Str)) = false := by decide +kernel
@[simp] theorem ne_moment_late : (("moment" : Str) = ("late" : Str)) = False := eq_false (by decide +kernel)
@[simp] theorem nb_moment_near : (("moment" : Str) == ("near" : Str)) = false := by decide +kernel
@[simp] theorem ne_moment_near : (("moment" : Str) = ("near" : Str)) = False := eq_false (by decide +kernel)
@[simp] theorem nb_kind_source : (("kind" : Str) == ("source" : Str)) = false := by decide +kernel
@[simp] theorem ne_kind_source : (("kind" : Str) = ("source" : Str)) = False := eq_false (by decide +kernel)
@[simp] theorem nb_kind_moment : (("kind" : Str) == ("moment" : Str)) = false := by decide +kernel
@[simp] theorem ne_kind_moment : (("kind" : Str) = ("moment" : Str)) = False := eq_false (by decide +kernel)
@[simp] theorem nb_kind_low : (("kind" : Str) == ("low" : Str)) = false := by decide +kernel
@[simp] theorem ne_kind_low : (("kind" : Str) = ("low" : Str)) = False := eq_false (by decide +kernel)
@[simp] theorem nb_kind_high : (("kind" : Str) == ("high" : Str)) = false := by decide +kernel
@[simp] theorem ne_kind_high : (("kind" : Str) = ("high" : Str)) = False := eq_false (by decide +kernel)
@[simp] theorem nb_kind_late : (("kind" : Str) == ("late" : Str)) = false := by decide +kernel
@[simp] theorem ne_kind_late : (("kind" : Str) = ("late" : Str)) = False := eq_false (by decide +kernel)
@[simp] theorem nb_kind_near : (("kind" : Str) == ("near" : Str)) = false := by decide +kernel
@[simp] theorem ne_kind_near : (("kind" : Str) = ("near" : Str)) = False := eq_false (by decide +kernel)
@[simp] theorem nb_low_source : (("low" : Str) == ("source" : Str)) = false := by decide +kernel
@[simp] theorem ne_low_source : (("low" : Str) = ("source" : Str)) = False := eq_false (by decide +kernel)
@[simp] theorem nb_low_moment : (("low" : Str) == ("moment" : Str)) = false := by decide +kernel
@[simp] theorem ne_low_moment : (("low" : Str) = ("moment" : Str)) = False := eq_false (by decide +kernel)
@[simp] theorem nb_low_kind : (("low" : Str) == ("kind" : Str)) = false := by decide +kernel
@[simp] theorem ne_low_kind : (("low" : Str) = ("kind" : Str)) = False := eq_false (by decide +kernel)
@[simp] theorem nb_low_high : (("low" : Str) == ("high" : Str)) = false := by decide +kernel
@[simp] theorem ne_low_high : (("low" : Str) = ("high" : Str)) = False := eq_false (by decide +kernel)
@[simp] theorem nb_low_late : (("low" : Str) == ("late" : Str)) = false := by decide +kernel
@[simp] theorem ne_low_late : (("low" : Str) = ("late" : Str)) = False := eq_false (by decide +kernel)
@[simp] theorem nb_low_near : (("low" : Str) == ("near" : Str)) = false := by decide +kernel
@[simp] theorem ne_low_near : (("low" : Str) = ("near" : Str)) = False := eq_false (by decide +kernel)
@[simp] theorem nb_high_source : (("high" : Str) == ("source" : Str)) = false := by decide +kernel
@[simp] theorem ne_high_source : (("high" : Str) = ("source" : Str)) = False := eq_false (by decide +kernel)
@[simp] theorem nb_high_moment : (("high" : Str) == ("moment" : Str)) = false := by decide +kernel
@[simp] theorem ne_high_moment : (("high" : Str) = ("moment" : Str)) = False := eq_false (by decide +kernel)
@[simp] theorem nb_high_kind : (("high" : Str) == ("kind" : Str)) = false := by decide +kernel
@[simp] theorem ne_high_kind : (("high" : Str) = ("kind" : Str)) = False := eq_false (by decide +kernel)
@[simp] theorem nb_high_low : (("high" : Str) == ("low" : Str)) = false := by decide +kernel
@[simp] theorem ne_high_low : (("high" : Str) = ("low" : Str)) = False := eq_false (by decide +kernel)
@[simp] theorem nb_high_late : (("high" : Str) == ("late" : Str)) = false := by decide +kernel
@[simp] theorem ne_high_late : (("high" : Str) = ("late" : Str)) = False := eq_false (by decide +kernel)
@[simp] theorem nb_high_near : (("high" : Str) == ("near" : Str)) = false := by decide +kernel
@[simp] theorem ne_high_near : (("high" : Str) = ("near" : Str)) = False := eq_false (by decide +kernel)
@[simp] theorem nb_late_source : (("late" : Str) == ("source" : Str)) = false := by decide +kernel
@[simp] theorem ne_late_source : (("late" : Str) = ("source" : Str)) = False := eq_false (by decide +kernel)
@[simp] theorem nb_late_moment : (("late" : Str) == ("moment" : Str)) = false := by decide +kernel
@[simp] theorem ne_late_moment : (("late" : Str) = ("moment" : Str)) = False := eq_false (by decide +kernel)
@[simp] theorem nb_late_kind : (("late" : Str) == ("kind" : Str)) = false := by decide +kernel
@[simp] theorem ne_late_kind : (("late" : Str) = ("kind" : Str)) = False := eq_false (by decide +kernel)
@[simp] theorem nb_late_low : (("late" : Str) == ("low" : Str)) = false := by decide +kernel
@[simp] theorem ne_late_low : (("late" : Str) = ("low" : Str)) = False := eq_false (by decide +kernel)
@[simp] theorem nb_late_high : (("late" : Str) == ("high" : Str)) = false := by decide +kernel
@[simp] theorem ne_late_high : (("late" : Str) = ("high" : Str)) = False := eq_false (by decide +kernel)
@[simp] theorem nb_late_near : (("late" : Str) == ("near" : Str)) = false := by decide +kernel
@[simp] theorem ne_late_near : (("late" : Str) = ("near" : Str)) = False := eq_false (by decide +kernel)
@[simp] theorem nb_near_source : (("near" : Str) == ("source" : Str)) = false := by decide +kernel
@[simp] theorem ne_near_source : (("near" : Str) = ("source" : Str)) = False := eq_false (by decide +kernel)
@[simp] theorem nb_near_moment : (("near" : Str) == ("moment" : Str)) = false := by decide +kernel
@[simp] theorem ne_near_moment : (("near" : Str) = ("moment" : Str)) = False := eq_false (by decide +kernel)
@[simp] theorem nb_near_kind : (("near" : Str) == ("kind" : Str)) = false := by decide +kernel
@[simp] theorem ne_near_kind : (("near" : Str) = ("kind" : Str)) = False := eq_false (by decide +kernel)
@[simp] theorem nb_near_low : (("near" : Str) == ("low" : Str)) = false := by decide +kernel
@[simp] theorem ne_near_low : (("near" : Str) = ("low" : Str)) = False := eq_false (by decide +kernel)
@[simp] theorem nb_near_high : (("near" : Str) == ("high" : Str)) = false := by decide +kernel
@[simp] theorem ne_near_high : (("near" : Str) = ("high" : Str)) = False := eq_false (by decide +kernel)
@[simp] theorem nb_near_late : (("near" : Str) == ("late" : Str)) = false := by decide +kernel
@[simp] theorem ne_near_late : (("near" : Str) = ("late" : Str)) = False := eq_false (by decide +kernel)
@[simp] theorem nb_moment_root : (("moment" : Str) == ("root" : Str)) = false := by decide +kernel
@[simp] theorem ne_moment_root : (("moment" : Str) = ("root" : Str)) = False := eq_false (by decide +kernel)
@[simp] theorem nb_moment_liars : (("moment" : Str) == ("liars" : Str)) = false := by decide +kernel
@[simp] theorem ne_moment_liars : (("moment" : Str) = ("liars" : Str)) = False := eq_false (by decide +kernel)
@[simp] theorem nb_moment_share : (("moment" : Str) == ("share" : Str)) = false := by decide +kernel
@[simp] theorem ne_moment_share : (("moment" : Str) = ("share" : Str)) = False := eq_false (by decide +kernel)
@[simp] theorem nb_moment_earliest : (("moment" : Str) == ("earliest" : Str)) = false := by decide +kernel
@[simp] theorem ne_moment_earliest : (("moment" : Str) = ("earliest" : Str)) = False := eq_false (by decide +kernel)
@[simp] theorem nb_moment_latest : (("moment" : Str) == ("latest" : Str)) = false := by decide +kernel
@[simp] theorem ne_moment_latest : (("moment" : Str) = ("latest" : Str)) = False := eq_false (by decide +kernel)
@[simp] theorem nb_root_moment : (("root" : Str) == ("moment" : Str)) = false := by decide +kernel
@[simp] theorem ne_root_moment : (("root" : Str) = ("moment" : Str)) = False := eq_false (by decide +kernel)
@[simp] theorem nb_root_liars : (("root" : Str) == ("liars" : Str)) = false := by decide +kernel
@[simp] theorem ne_root_liars : (("root" : Str) = ("liars" : Str)) = False := eq_false (by decide +kernel)
@[simp] theorem nb_root_share : (("root" : Str) == ("share" : Str)) = false := by decide +kernel
@[simp] theorem ne_root_share : (("root" : Str) = ("share" : Str)) = False := eq_false (by decide +kernel)
@[simp] theorem nb_root_earliest : (("root" : Str) == ("earliest" : Str)) = false := by decide +kernel
@[simp] theorem ne_root_earliest : (("root" : Str) = ("earliest" : Str)) = False := eq_false (by decide +kernel)
@[simp] theorem nb_root_latest : (("root" : Str) == ("latest" : Str)) = false := by decide +kernel
@[simp] theorem ne_root_latest : (("root" : Str) = ("latest" : Str)) = False := eq_false (by decide +kernel)
@[simp] theorem nb_liars_moment : (("liars" : Str) == ("moment" : Str)) = false := by decide +kernel
@[simp] theorem ne_liars_moment : (("liars" : Str) = ("moment" : Str)) = False := eq_false (by decide +kernel)
@[simp] theorem nb_liars_root : (("liars" : Str) == ("root" : Str)) = false := by decide +kernel
@[simp] theorem ne_liars_root : (("liars" : Str) = ("root" : Str)) = False := eq_false (by decide +kernel)
@[simp] theorem nb_liars_share : (("liars" : Str) == ("share" : Str)) = false := by decide +kernel
@[simp] theorem ne_liars_share : (("liars" : Str) = ("share" : Str)) = False := eq_false (by decide +kernel)
@[simp] theorem nb_liars_earliest : (("liars" : Str) == ("earliest" : Str)) = false := by decide +kernel
@[simp] theorem ne_liars_earliest : (("liars" : Str) = ("earliest" : Str)) = False := eq_false (by decide +kernel)
@[simp] theorem nb_liars_latest : (("liars" : Str) == ("latest" : Str)) = false := by decide +kernel
@[simp] theorem ne_liars_latest : (("liars" : Str) = ("latest" : Str)) = False := eq_false (by decide +kernel)
@[simp] theorem nb_share_moment : (("share" : Str) == ("moment" : Str)) = false := by decide +kernel
@[simp] theorem ne_share_moment : (("share" : Str) = ("moment" : Str)) = False := eq_false (by decide +kernel)
@[simp] theorem nb_share_root : (("share" : Str) == ("root" : Str)) = false := by decide +kernel
@[simp] theorem ne_share_root : (("share" : Str) = ("root" : Str)) = False := eq_false (by decide +kernel)
@[simp] theorem nb_share_liars : (("share" : Str) == ("liars" : Str)) = false := by decide +kernel
@[simp] theorem ne_share_liars : (("share" : Str) = ("liars" : Str)) = False := eq_false (by decide +kernel)
@[simp] theorem nb_share_earliest : (("share" : Str) == ("earliest" : Str)) = false := by decide +kernel
@[simp] theorem ne_share_earliest : (("share" : Str) = ("earliest" : Str)) = False := eq_false (by decide +kernel)
@[simp] theorem nb_share_latest : (("share" : Str) == ("latest" : Str)) = false := by decide +kernel
@[simp] theorem ne_share_latest : (("share" : Str) = ("latest" : Str)) = False := eq_false (by decide +kernel)
@[simp] theorem nb_earliest_moment : (("earliest" : Str) == ("moment" : Str)) = false := by decide +kernel
@[simp] theorem ne_earliest_moment : (("earliest" : Str) = ("moment" : Str)) = False := eq_false (by decide +kernel)
@[simp] theorem nb_earliest_root : (("earliest" : Str) == ("root" : Str)) = false := by decide +kernel
@[simp] theorem ne_earliest_root : (("earliest" : Str) = ("root" : Str)) = False := eq_false (by decide +kernel)
@[simp] theorem nb_earliest_liars : (("earliest" : Str) == ("liars" : Str)) = false := by decide +kernel
@[simp] theorem ne_earliest_liars : (("earliest" : Str) = ("liars" : Str)) = False := eq_false (by decide +kernel)
@[simp] theorem nb_earliest_share : (("earliest" : Str) == ("share" : Str)) = false := by decide +kernel
@[simp] theorem ne_earliest_share : (("earliest" : Str) = ("share" : Str)) = False := eq_false (by decide +kernel)
@[simp] theorem nb_earliest_latest : (("earliest" : Str) == ("latest" : Str)) = false := by decide +kernel
@[simp] theorem ne_earliest_latest : (("earliest" : Str) = ("latest" : Str)) = False := eq_false (by decide +kernel)
@[simp] theorem nb_latest_moment : (("latest" : Str) == ("moment" : Str)) = false := by decide +kernel
@[simp] theorem ne_latest_moment : (("latest" : Str) = ("moment" : Str)) = False := eq_false (by decide +kernel)
@[simp] theorem nb_latest_root : (("latest" : Str) == ("root" : Str)) = false := by decide +kernel
@[simp] theorem ne_latest_root : (("latest" : Str) = ("root" : Str)) = False := eq_false (by decide +kernel)
@[simp] theorem nb_latest_liars : (("latest" : Str) == ("liars" : Str)) = false := by decide +kernel
@[simp] theorem ne_latest_liars : (("latest" : Str) = ("liars" : Str)) = False := eq_false (by decide +kernel)
@[simp] theorem nb_latest_share : (("latest" : Str) == ("share" : Str)) = false := by decide +kernel
@[simp] theorem ne_latest_share : (("latest" : Str) = ("share" : Str)) = False := eq_false (by decide +kernel)
@[simp] theorem nb_latest_earliest : (("latest" : Str) == ("earliest" : Str)) = false := by decide +kernel
@[simp] theorem ne_latest_earliest : (("latest" : Str) = ("earliest" : Str)) = False := eq_false (by decide +kernel)
@[simp] theorem nb_moment_cover : (("moment" : Str) == ("cover" : Str)) = false := by decide +kernel
@[simp] theorem ne_moment_cover : (("moment" : Str) = ("cover" : Str)) = False := eq_false (by decide +kernel)
@[simp] theorem nb_moment_used : (("moment" : Str) == ("used" : Str)) = false := by decide +kernel
@[simp] theorem ne_moment_used : (("moment" : Str) = ("used" : Str)) = False := eq_false (by decide +kernel)
@[simp] theorem nb_cover_moment : (("cover" : Str) == ("moment" : Str)) = false := by decide +kernel
@[simp] theorem ne_cover_moment : (("cover" : Str) = ("moment" : Str)) = False := eq_false (by decide +kernel)
@[simp] theorem nb_cover_used : (("cover" : Str) == ("used" : Str)) = false := by decide +kernel
@[simp] theorem ne_cover_used : (("cover" : Str) = ("used" : Str)) = False := eq_false (by decide +kernel)
@[simp] theorem nb_used_moment : (("used" : Str) == ("moment" : Str)) = false := by decide +kernel
@[simp] theorem ne_used_moment : (("used" : Str) = ("moment" : Str)) = False := eq_false (by decide +kernel)
@[simp] theorem nb_used_cover : (("used" : Str) == ("cover" : Str)) = false := by decide +kernel
@[simp] theorem ne_used_cover : (("used" : Str) = ("cover" : Str)) = False := eq_false (by decide +kernel)
@[simp] theorem nb_setting_table : (("setting" : Str) == ("table" : Str)) = false := by decide +kernel
@[simp] theorem ne_setting_table : (("setting" : Str) = ("table" : Str)) = False := eq_false (by decide +kernel)
@[simp] theorem nb_setting_held : (("setting" : Str) == ("held" : Str)) = false := by decide +kernel
@[simp] theorem ne_setting_held : (("setting" : Str) = ("held" : Str)) = False := eq_false (by decide +kernel)
@[simp] theorem nb_setting_keep : (("setting" : Str) == ("keep" : Str)) = false := by decide +kernel
@[simp] theorem ne_setting_keep : (("setting" : Str) = ("keep" : Str)) = False := eq_false (by decide +kernel)
@[simp] theorem nb_setting_moment : (("setting" : Str) == ("moment" : Str)) = false := by decide +kernel
@[simp] theorem ne_setting_moment : (("setting" : Str) = ("moment" : Str)) = False := eq_false (by decide +kernel)
@[simp] theorem nb_table_setting : (("table" : Str) == ("setting" : Str)) = false := by decide +kernel
@[simp] theorem ne_table_setting : (("table" : Str) = ("setting" : Str)) = False := eq_false (by decide +kernel)
@[simp] theorem nb_table_held : (("table" : Str) == ("held" : Str)) = false := by decide +kernel
@[simp] theorem ne_table_held : (("table" : Str) = ("held" : Str)) = False := eq_false (by decide +kernel)
@[simp] theorem nb_table_keep : (("table" : Str) == ("keep" : Str)) = false := by decide +kernel
@[simp] theorem ne_table_keep : (("table" : Str) = ("keep" : Str)) = False := eq_false (by decide +kernel)
@[simp] theorem nb_table_moment : (("table" : Str) == ("moment" : Str)) = false := by decide +kernel
@[simp] theorem ne_table_moment : (("table" : Str) = ("moment" : Str)) = False := eq_false (by decide +kernel)
@[simp] theorem nb_held_setting : (("held" : Str) == ("setting" : Str)) = false := by decide +kernel
@[simp] theorem ne_held_setting : (("held" : Str) = ("setting" : Str)) = False := eq_false (by decide +kernel)
@[simp] theorem nb_held_table : (("held" : Str) == ("table" : Str)) = false := by decide +kernel
@[simp] theorem ne_held_table : (("held" : Str) = ("table" : Str)) = False := eq_false (by decide +kernel)
@[simp] theorem nb_held_keep : (("held" : Str) == ("keep" : Str)) = false := by decide +kernel
@[simp] theorem ne_held_keep : (("held" : Str) = ("keep" : Str)) = False := eq_false (by decide +kernel)
@[simp] theorem nb_held_moment : (("held" : Str) == ("moment" : Str)) = false := by decide +kernel
@[simp] theorem ne_held_moment : (("held" : Str) = ("moment" : Str)) = False := eq_false (by decide +kernel)
@[simp] theorem nb_keep_setting : (("keep" : Str) == ("setting" : Str)) = false := by decide +kernel
@[simp] theorem ne_keep_setting : (("keep" : Str) = ("setting" : Str)) = False := eq_false (by decide +kernel)
@[simp] theorem nb_keep_table : (("keep" : Str) == ("table" : Str)) = false := by decide +kernel
@[simp] theorem ne_keep_table : (("keep" : Str) = ("table" : Str)) = False := eq_false (by decide +kernel)
@[simp] theorem nb_keep_held : (("keep" : Str) == ("held" : Str)) = false := by decide +kernel
@[simp] theorem ne_keep_held : (("keep" : Str) = ("held" : Str)) = False := eq_false (by decide +kernel)
@[simp] theorem nb_keep_moment : (("keep" : Str) == ("moment" : Str)) = false := by decide +kernel
@[simp] theorem ne_keep_moment : (("keep" : Str) = ("moment" : Str)) = False := eq_false (by decide +kernel)
@[simp] theorem nb_moment_setting : (("moment" : Str) == ("setting" : Str)) = false := by decide +kernel
@[simp] theorem ne_moment_setting : (("moment" : Str) = ("setting" : Str)) = False := eq_false (by decide +kernel)
@[simp] theorem nb_moment_table : (("moment" : Str) == ("table" : Str)) = false := by decide +kernel
@[simp] theorem ne_moment_table : (("moment" : Str) = ("table" : Str)) = False := eq_false (by decide +kernel)
@[simp] theorem nb_moment_held : (("moment" : Str) == ("held" : Str)) = false := by decide +kernel
@[simp] theorem ne_moment_held : (("moment" : Str) = ("held" : Str)) = False := eq_false (by decide +kernel)
@[simp] theorem nb_moment_keep : (("moment" : Str) == ("keep" : Str)) = false := by decide +kernel
@[simp] theorem ne_moment_keep : (("moment" : Str) = ("keep" : Str)) = False := eq_false (by decide +kernel)
@[simp] theorem nb_liars_points : (("liars" : Str) == ("points" : Str)) = false := by decide +kernel
@[simp] theorem ne_liars_points : (("liars" : Str) = ("points" : Str)) = False := eq_false (by decide +kernel)
@[simp] theorem nb_points_liars : (("points" : Str) == ("liars" : Str)) = false := by decide +kernel
@[simp] theorem ne_points_liars : (("points" : Str) = ("liars" : Str)) = False := eq_false (by decide +kernel)
noncomputable def F_root_up : FA := fnP 2 (sSeq (sAsg (mCall bIsqrt (aCons (mVar 0) aNil)) (gNm 1))
  (sSeq (sIf (mB (mBin fLt (mBin fMul (mVar 1) (mVar 1)) (mVar 0))) (sRet (mBin fAdd (mVar 1) (mCst (.int 1)))) sNil)
  (sRet (mVar 1))))
noncomputable def F__law_number : FA := fnP 5 (sSeq (sAsg (mBin fAdd (mBin fMul (mCst (.int 104729)) (mVar 1)) (mCst (.int 7919))) (gNm 2))
  (sSeq (sIf (mB (mBin fLt (mVar 1) (mCall bLen (aCons (mVar 0) aNil)))) (sAsg (mCall bInt (aCons (mBin fIx (mVar 0) (mVar 1)) aNil)) (gNm 2)) sNil)
  (sSeq (sIf (mB (mBin fLt (mVar 2) (mCst (.int 0)))) (sAsg (mBin fSub (mCst (.int 1)) (mBin fMul (mCst (.int 2)) (mVar 2))) (gNm 2)) sNil)
  (sSeq (sIf (mB (mBin fLt (mVar 2) (mCst (.int 1000000000)))) (sSeq (sAsg (mBin fMod (mCall bInt (aCons (mBin fAdd (mBin fAdd (mBin fMul (mVar 2) (mCst (.int 48271))) (mBin fMul (mVar 1) (mCst (.int 69621)))) (mCst (.int 7))) aNil)) (mCst (.int 2147483647))) (gNm 3))
  (sSeq (sAsg (mBin fMod (mCall bInt (aCons (mBin fAdd (mBin fAdd (mBin fMul (mVar 3) (mCst (.int 16807))) (mBin fMul (mVar 1) (mCst (.int 40692)))) (mCst (.int 13))) aNil)) (mCst (.int 2147483563))) (gNm 4))
  (sAsg (mBin fAdd (mBin fMul (mVar 3) (mCst (.int 2147483563))) (mVar 4)) (gNm 2)))) sNil)
  (sRet (mVar 2))))))
noncomputable def F_half_side : FA := fnP 3 (sSeq (sAsg (mVar 0) (gTp 2 (gsCons (gNm 1) (gsCons (gNm 2) gsNil))))
  (sRet (mBin fDiv (mBin fAdd (mBin fSub (mVar 2) (mVar 1)) (mCst (.int 1))) (mCst (.int 2)))))
noncomputable def F__law_near : FA := fnP 3 (sSeq (sAsg (mBin fMod (mCall bInt (aCons (mVar 0) aNil)) (mCst (.int 9))) (gNm 1))
  (sSeq (sAsg (mBin fDiv (mVar 0) (mCst (.int 9))) (gNm 2))
  (sSeq (sIf (mB (mBin fEq (mVar 1) (mCst (.int 0)))) (sRet (mBin fSub (mBin fMod (mCall bInt (aCons (mVar 2) aNil)) (mCst (.int 2000000000001))) (mCst (.int 1000000000000)))) sNil)
  (sSeq (sIf (mB (mBin fLt (mVar 1) (mCst (.int 3)))) (sRet (mBin fSub (mBin fMod (mCall bInt (aCons (mVar 2) aNil)) (mCst (.int 2001))) (mCst (.int 1000)))) sNil)
  (sRet (mBin fSub (mBin fMod (mCall bInt (aCons (mVar 2) aNil)) (mCst (.int 41))) (mCst (.int 20))))))))
noncomputable def F__law_length : FA := fnP 3 (sSeq (sAsg (mBin fMod (mCall bInt (aCons (mVar 0) aNil)) (mCst (.int 7))) (gNm 1))
  (sSeq (sAsg (mBin fDiv (mVar 0) (mCst (.int 7))) (gNm 2))
  (sSeq (sIf (mB (mBin fEq (mVar 1) (mCst (.int 0)))) (sRet (mCst (.int 0))) sNil)
  (sSeq (sIf (mB (mBin fEq (mVar 1) (mCst (.int 1)))) (sRet (mBin fMod (mCall bInt (aCons (mVar 2) aNil)) (mCst (.int 1000000000)))) sNil)
  (sRet (mBin fMod (mCall bInt (aCons (mVar 2) aNil)) (mCst (.int 13))))))))
noncomputable abbrev C_is_name_1 (live : Bool) : M D := mLc live (iAny (mVar 0)) [1] (gNm 1) cYes (mBin (fIn false) (mVar 1) (mCst (.str "abcdefghijklmnopqrstuvwxyz0123456789_-")))
noncomputable def F_is_name : FA := fnP 2 (sRet (mAnd (mCh2 fLe fLe (mCst (.int 1)) (mCall bLen (aCons (mVar 0) aNil)) (mCst (.int 64))) (mCall bAll (aCons (C_is_name_1 false) aNil))))
noncomputable abbrev C_all_within_1 (live : Bool) : M D := mLc live (iAny (mVar 0)) [3] (gNm 3) cYes (mCh2 fLe fLe (mVar 1) (mVar 3) (mVar 2))
noncomputable def F_all_within : FA := fnP 4 (sRet (mCall bAll (aCons (C_all_within_1 false) aNil)))
noncomputable def F_Setting__init__ : FA := fnR 5 (sSeq (sIf (tmNot (mB (mCh2 fLe fLe (mCst (.int 2)) (mVar 1) (mCst (.int 3))))) sStuck sNil)
  (sSeq (sIf (tmNot (mTru (mFn 3 F_all_within (aCons (mTup (aCons (mVar 2) (aCons (mVar 3) aNil))) (aCons (mCst (.int 0)) (aCons (mCst (.int 1000000000000)) aNil)))))) sStuck sNil)
  (sSeq (sIf (tmNot (mB (mCh2 fLe fLe (mCst (.int 1)) (mVar 4) (mCst (.int 1000000000000))))) sStuck sNil)
  (sSeq (sPut "dims" (mVar 1) (mVar 0))
  (sSeq (sPut "speed" (mVar 2) (mVar 0))
  (sSeq (sPut "drift" (mVar 3) (mVar 0))
  (sPut "per" (mVar 4) (mVar 0))))))))
noncomputable abbrev C_sides_within_1 (live : Bool) : M D := mLc live (iAny (mVar 0)) [2, 3] (gTp 2 (gsCons (gNm 2) (gsCons (gNm 3) gsNil))) cYes (mCh3 fLe fLe fLe (mNeg (mVar 1)) (mVar 2) (mVar 3) (mVar 1))
noncomputable def F_sides_within : FA := fnP 4 (sRet (mCall bAll (aCons (C_sides_within_1 false) aNil)))
noncomputable abbrev C__direction_holds_1 (live : Bool) : M D := mLc live (iAny (mVar 0)) [1] (gNm 1) cYes (mBin fNe (mVar 1) (mCst (.int 0)))
noncomputable def F__direction_holds : FA := fnP 2 (sRet (mAnd (mFn 3 F_all_within (aCons (mVar 0) (aCons (mNeg (mCst (.int 1000))) (aCons (mCst (.int 1000)) aNil)))) (mCall bAny (aCons (C__direction_holds_1 false) aNil))))
noncomputable abbrev C__boxes_hold_1 (live : Bool) : M D := mLc live (iAny (mVar 0)) [1] (gNm 1) cYes (mFn 2 F_sides_within (aCons (mVar 1) (aCons (mCst (.int 1000000000000)) aNil)))
noncomputable def F__boxes_hold : FA := fnP 2 (sRet (mAnd (mCh2 fLe fLe (mCst (.int 1)) (mCall bLen (aCons (mVar 0) aNil)) (mCst (.int 16))) (mCall bAll (aCons (C__boxes_hold_1 false) aNil))))
noncomputable abbrev C__kind_holds_1 (live : Bool) : M D := mLc live (iAny (mSl (mVar 0) (pYes (mCst (.int 1))) pNo)) [1] (gNm 1) cYes (mFn 3 F_all_within (aCons (mVar 1) (aCons (mNeg (mCst (.int 1000000000000))) (aCons (mCst (.int 1000000000000)) aNil))))
noncomputable def F__kind_holds : FA := fnP 2 (sSeq (sIf (mB (mBin (fIn false) (mBin fIx (mVar 0) (mCst (.int 0))) (mTup (aCons (mCst (.str "range")) (aCons (mCst (.str "clocked")) (aCons (mCst (.str "differ")) (aCons (mCst (.str "piece")) aNil))))))) (sRet (mCall bAll (aCons (C__kind_holds_1 false) aNil))) sNil)
  (sSeq (sIf (mB (mBin fEq (mBin fIx (mVar 0) (mCst (.int 0))) (mCst (.str "side")))) (sRet (mFn 1 F__direction_holds (aCons (mBin fIx (mVar 0) (mCst (.int 1))) aNil))) sNil)
  (sRet (mAnd (mBin fEq (mBin fIx (mVar 0) (mCst (.int 0))) (mCst (.str "boxes"))) (mFn 1 F__boxes_hold (aCons (mBin fIx (mVar 0) (mCst (.int 1))) aNil))))))
noncomputable def F_Reading__init__ : FA := fnR 8 (sSeq (sIf (tmNot (mTru (mFn 1 F_is_name (aCons (mVar 1) aNil)))) sStuck sNil)
  (sSeq (sIf (tmNot (mB (mCh2 fLe fLe (mNeg (mCst (.int 1000000000000))) (mVar 2) (mCst (.int 1000000000000))))) sStuck sNil)
  (sSeq (sIf (tmNot (mTru (mFn 1 F__kind_holds (aCons (mVar 3) aNil)))) sStuck sNil)
  (sSeq (sIf (tmNot (mB (mCh3 fLe fLe fLe (mNeg (mCst (.int 1000000000000000))) (mVar 4) (mVar 5) (mCst (.int 1000000000000000))))) sStuck sNil)
  (sSeq (sIf (tmNot (mTru (mFn 3 F_all_within (aCons (mTup (aCons (mVar 6) (aCons (mVar 7) aNil))) (aCons (mCst (.int 0)) (aCons (mCst (.int 1000000000000)) aNil)))))) sStuck sNil)
  (sSeq (sPut "source" (mVar 1) (mVar 0))
  (sSeq (sPut "moment" (mVar 2) (mVar 0))
  (sSeq (sPut "kind" (mVar 3) (mVar 0))
  (sSeq (sPut "low" (mVar 4) (mVar 0))
  (sSeq (sPut "high" (mVar 5) (mVar 0))
  (sSeq (sPut "late" (mVar 6) (mVar 0))
  (sPut "near" (mVar 7) (mVar 0)))))))))))))
noncomputable def F_Reading__eq__ : FA := fnP 2 (sRet (mAnd (mIsi "Reading" (mVar 1)) (mAnd (mBin fEq (mFld "source" (mVar 0)) (mFld "source" (mVar 1))) (mAnd (mBin fEq (mFld "moment" (mVar 0)) (mFld "moment" (mVar 1))) (mAnd (mBin fEq (mFld "kind" (mVar 0)) (mFld "kind" (mVar 1))) (mAnd (mBin fEq (mFld "low" (mVar 0)) (mFld "low" (mVar 1))) (mAnd (mBin fEq (mFld "high" (mVar 0)) (mFld "high" (mVar 1))) (mAnd (mBin fEq (mFld "late" (mVar 0)) (mFld "late" (mVar 1))) (mBin fEq (mFld "near" (mVar 0)) (mFld "near" (mVar 1)))))))))))
noncomputable abbrev C__law_point_1 (live : Bool) : M D := mLc live (iRange1 (aCons (mVar 2) aNil)) [3] (gNm 3) cYes (mFn 1 F__law_near (aCons (mFn 2 F__law_number (aCons (mVar 0) (aCons (mBin fAdd (mVar 1) (mVar 3)) aNil))) aNil))
noncomputable def F__law_point : FA := fnP 4 (sRet (mCall bTuple (aCons (C__law_point_1 false) aNil)))
noncomputable def F__law_slope : FA := fnP 2 (sSeq (sIf (mB (mBin fEq (mVar 1) (mCst (.int 0)))) (sRet (mBin fAdd (mCst (.int 1)) (mBin fMod (mCall bInt (aCons (mVar 0) aNil)) (mCst (.int 4))))) sNil)
  (sSeq (sIf (mB (mBin fEq (mBin fMod (mCall bInt (aCons (mBin fDiv (mVar 0) (mCst (.int 4))) aNil)) (mCst (.int 5))) (mCst (.int 0)))) (sRet (mBin fSub (mBin fMod (mCall bInt (aCons (mBin fDiv (mBin fDiv (mVar 0) (mCst (.int 20))) (mBin fMul (mVar 1) (mCst (.int 7)))) aNil)) (mCst (.int 2001))) (mCst (.int 1000)))) sNil)
  (sRet (mBin fSub (mBin fMod (mCall bInt (aCons (mBin fDiv (mBin fDiv (mVar 0) (mCst (.int 20))) (mBin fMul (mVar 1) (mCst (.int 7)))) aNil)) (mCst (.int 9))) (mCst (.int 4))))))
noncomputable abbrev B__law_plain_box_1 : SM := (sSeq (sAsg (mFn 2 F__law_number (aCons (mVar 0) (aCons (mBin fAdd (mVar 1) (mVar 4)) aNil))) (gNm 5))
  (sSeq (sAsg (mFn 1 F__law_near (aCons (mBin fDiv (mVar 5) (mCst (.int 14))) aNil)) (gNm 6))
  (sExp (mBm tyL lAppend (mVar 3) (aCons (mTup (aCons (mCall bMax (aCons (mBin fSub (mVar 6) (mFn 1 F__law_length (aCons (mVar 5) aNil))) (aCons (mNeg (mCst (.int 1000000000000))) aNil))) (aCons (mVar 6) aNil))) aNil)))))
noncomputable def F__law_plain_box : FA := fnP 7 (sSeq (sAsg (mLst true aNil) (gNm 3))
  (sSeq (sFor (iRange1 (aCons (mVar 2) aNil)) (gNm 4) B__law_plain_box_1)
  (sRet (mCall bTuple (aCons (mVar 3) aNil)))))
noncomputable abbrev C__law_kind_1 (live : Bool) : M D := mLc live (iRange1 (aCons (mVar 2) aNil)) [6] (gNm 6) cYes (mFn 2 F__law_slope (aCons (mVar 4) (aCons (mVar 6) aNil)))
noncomputable def F__law_kind : FA := fnP 7 (sSeq (sAsg (mBin fMod (mCall bInt (aCons (mFn 2 F__law_number (aCons (mVar 0) (aCons (mVar 1) aNil))) aNil)) (mCst (.int 6))) (gNm 3))
  (sSeq (sAsg (mBin fDiv (mFn 2 F__law_number (aCons (mVar 0) (aCons (mVar 1) aNil))) (mCst (.int 6))) (gNm 4))
  (sSeq (sIf (mB (mBin fEq (mVar 3) (mCst (.int 0)))) (sRet (mTup (aCons (mCst (.str "range")) (aCons (mFn 3 F__law_point (aCons (mVar 0) (aCons (mBin fAdd (mVar 1) (mCst (.int 1))) (aCons (mVar 2) aNil)))) aNil)))) sNil)
  (sSeq (sIf (mB (mBin fEq (mVar 3) (mCst (.int 1)))) (sRet (mTup (aCons (mCst (.str "clocked")) (aCons (mFn 3 F__law_point (aCons (mVar 0) (aCons (mBin fAdd (mVar 1) (mCst (.int 1))) (aCons (mVar 2) aNil)))) aNil)))) sNil)
  (sSeq (sIf (mB (mBin fEq (mVar 3) (mCst (.int 2)))) (sRet (mTup (aCons (mCst (.str "differ")) (aCons (mFn 3 F__law_point (aCons (mVar 0) (aCons (mBin fAdd (mVar 1) (mCst (.int 1))) (aCons (mVar 2) aNil)))) (aCons (mFn 3 F__law_point (aCons (mVar 0) (aCons (mBin fAdd (mVar 1) (mCst (.int 4))) (aCons (mVar 2) aNil)))) aNil))))) sNil)
  (sSeq (sIf (mB (mBin fEq (mVar 3) (mCst (.int 3)))) (sRet (mTup (aCons (mCst (.str "piece")) (aCons (mFn 3 F__law_point (aCons (mVar 0) (aCons (mBin fAdd (mVar 1) (mCst (.int 1))) (aCons (mVar 2) aNil)))) (aCons (mFn 3 F__law_point (aCons (mVar 0) (aCons (mBin fAdd (mVar 1) (mCst (.int 4))) (aCons (mVar 2) aNil)))) aNil))))) sNil)
  (sSeq (sIf (mB (mBin fEq (mVar 3) (mCst (.int 4)))) (sRet (mTup (aCons (mCst (.str "side")) (aCons (mCall bTuple (aCons (C__law_kind_1 false) aNil)) aNil)))) sNil)
  (sSeq (sAsg (mLst true (aCons (mFn 3 F__law_plain_box (aCons (mVar 0) (aCons (mBin fAdd (mVar 1) (mCst (.int 1))) (aCons (mVar 2) aNil)))) aNil)) (gNm 5))
  (sSeq (sIf (mB (mBin fEq (mBin fMod (mCall bInt (aCons (mVar 4) aNil)) (mCst (.int 2))) (mCst (.int 1)))) (sExp (mBm tyL lAppend (mVar 5) (aCons (mFn 3 F__law_plain_box (aCons (mVar 0) (aCons (mBin fAdd (mVar 1) (mCst (.int 4))) (aCons (mVar 2) aNil)))) aNil))) sNil)
  (sRet (mTup (aCons (mCst (.str "boxes")) (aCons (mCall bTuple (aCons (mVar 5) aNil)) aNil)))))))))))))
noncomputable def F_Question__init__ : FA := fnR 7 (sSeq (sIf (tmNot (mTru (mFn 3 F_all_within (aCons (mTup (aCons (mVar 1) (aCons (mVar 5) (aCons (mVar 6) aNil)))) (aCons (mNeg (mCst (.int 1000000000000))) (aCons (mCst (.int 1000000000000)) aNil)))))) sStuck sNil)
  (sSeq (sIf (mB (mBin fGt (mVar 5) (mVar 6))) sStuck sNil)
  (sSeq (sIf (tmNot (mTru (mFn 2 F_sides_within (aCons (mVar 2) (aCons (mCst (.int 1000000000000)) aNil))))) sStuck sNil)
  (sSeq (sIf (tmNot (mB (mCh2 fLe fLe (mCst (.int 0)) (mVar 3) (mCst (.int 3))))) sStuck sNil)
  (sSeq (sIf (tmNot (mB (mCh2 fLe fLe (mCst (.int 1)) (mVar 4) (mCst (.int 1000000000000))))) sStuck sNil)
  (sSeq (sPut "moment" (mVar 1) (mVar 0))
  (sSeq (sPut "root" (mVar 2) (mVar 0))
  (sSeq (sPut "liars" (mVar 3) (mVar 0))
  (sSeq (sPut "share" (mVar 4) (mVar 0))
  (sSeq (sPut "earliest" (mVar 5) (mVar 0))
  (sPut "latest" (mVar 6) (mVar 0))))))))))))
noncomputable abbrev C_asked_1 (live : Bool) : M D := mLc live (iAny (mVar 1)) [2, 3] (gTp 2 (gsCons (gNm 2) (gsCons (gNm 3) gsNil))) (mB (mCh2 fLe fLe (mFld "earliest" (mVar 0)) (mFld "moment" (mVar 3)) (mFld "latest" (mVar 0)))) (mTup (aCons (mVar 2) (aCons (mVar 3) aNil)))
noncomputable def F_asked : FA := fnP 4 (sRet (C_asked_1 false))
noncomputable abbrev B__law_root_1 : SM := (sSeq (sAsg (mBin fAdd (mVar 1) (mBin fShl (mCst (.int 1)) (mVar 2))) (gNm 3))
  (sIf (mB (mBin fLe (mBin fMul (mVar 3) (mVar 3)) (mVar 0))) (sAsg (mVar 3) (gNm 1)) sNil))
noncomputable def F__law_root : FA := fnP 4 (sSeq (sAsg (mCst (.int 0)) (gNm 1))
  (sSeq (sFor (iRange3 (aCons (mBin fAdd (mBin fDiv (mBits (mVar 0)) (mCst (.int 2))) (mCst (.int 1))) (aCons (mNeg (mCst (.int 1))) (aCons (mNeg (mCst (.int 1))) aNil)))) (gNm 2) B__law_root_1)
  (sRet (mVar 1))))
noncomputable abbrev C__law_square_1 (live : Bool) : M D := mLc live (iRange1 (aCons (mCall bLen (aCons (mVar 0) aNil)) aNil)) [2] (gNm 2) cYes (mBin fMul (mBin fSub (mBin fIx (mVar 0) (mVar 2)) (mBin fIx (mVar 1) (mVar 2))) (mBin fSub (mBin fIx (mVar 0) (mVar 2)) (mBin fIx (mVar 1) (mVar 2))))
noncomputable def F__law_square : FA := fnP 3 (sRet (mCall bSum (aCons (C__law_square_1 false) aNil)))
noncomputable def F_quotient_up : FA := fnP 2 (sRet (mNeg (mBin fDiv (mNeg (mVar 0)) (mVar 1))))
noncomputable abbrev C_dot_1 (live : Bool) : M D := mLc live (iZip2 (aCons (mVar 0) (aCons (mVar 1) aNil))) [2, 3] (gTp 2 (gsCons (gNm 2) (gsCons (gNm 3) gsNil))) cYes (mBin fMul (mVar 2) (mVar 3))
noncomputable def F_dot : FA := fnP 4 (sRet (mCall bSum (aCons (C_dot_1 false) aNil)))
noncomputable abbrev B__law_from_boxes_1 : SM := (sSeq (sAsg (mCall bMax (aCons (mBin fSub (mBin fIx (mBin fIx (mVar 3) (mVar 5)) (mCst (.int 0))) (mBin fIx (mVar 0) (mVar 5))) (aCons (mBin fSub (mBin fIx (mVar 0) (mVar 5)) (mBin fIx (mBin fIx (mVar 3) (mVar 5)) (mCst (.int 1)))) (aCons (mCst (.int 0)) aNil)))) (gNm 6))
  (sAsg (mBin fAdd (mVar 4) (mBin fMul (mVar 6) (mVar 6))) (gNm 4)))
noncomputable def F_rate : FA := fnP 1 (sSeq (sIf (mB (mBin fEq (mBin fIx (mVar 0) (mCst (.int 0))) (mCst (.str "differ")))) (sRet (mCst (.int 2))) sNil)
  (sSeq (sIf (mB (mBin fEq (mBin fIx (mVar 0) (mCst (.int 0))) (mCst (.str "side")))) (sRet (mFn 1 F_root_up (aCons (mFn 2 F_dot (aCons (mBin fIx (mVar 0) (mCst (.int 1))) (aCons (mBin fIx (mVar 0) (mCst (.int 1))) aNil))) aNil))) sNil)
  (sRet (mCst (.int 1)))))
noncomputable def F_clock_rate : FA := fnP 1 (sRet (mIf (mB (mBin fEq (mBin fIx (mVar 0) (mCst (.int 0))) (mCst (.str "clocked")))) (mCst (.int 1)) (mCst (.int 0))))
noncomputable def F_moved : FA := fnP 1 (sSeq (sIf (mB (mBin fEq (mBin fIx (mVar 0) (mCst (.int 0))) (mCst (.str "differ")))) (sRet (mCst (.int 2))) sNil)
  (sRet (mIf (mB (mBin fEq (mBin fIx (mVar 0) (mCst (.int 0))) (mCst (.str "side")))) (mCst (.int 0)) (mCst (.int 1)))))
noncomputable def F_reach : FA := fnP 2 (sRet (mFn 2 F_quotient_up (aCons (mBin fMul (mFld "speed" (mVar 0)) (mVar 1)) (aCons (mFld "per" (mVar 0)) aNil))))
noncomputable def F_slip : FA := fnP 2 (sRet (mFn 2 F_quotient_up (aCons (mBin fMul (mFld "drift" (mVar 0)) (mVar 1)) (aCons (mFld "per" (mVar 0)) aNil))))
noncomputable def F__law_setting : FA := fnP 7 (sSeq (sAsg (mFn 2 F__law_number (aCons (mVar 0) (aCons (mVar 1) aNil))) (gNm 2))
  (sSeq (sAsg (mFn 2 F__law_number (aCons (mVar 0) (aCons (mBin fAdd (mVar 1) (mCst (.int 1))) aNil))) (gNm 3))
  (sSeq (sAsg (mBin fAdd (mCst (.int 2)) (mBin fMod (mCall bInt (aCons (mVar 2) aNil)) (mCst (.int 2)))) (gNm 4))
  (sSeq (sAsg (mBin fAdd (mCst (.int 1)) (mBin fMod (mCall bInt (aCons (mBin fDiv (mVar 2) (mCst (.int 2))) aNil)) (mCst (.int 5)))) (gNm 5))
  (sSeq (sAsg (mBin fMod (mCall bInt (aCons (mBin fDiv (mVar 2) (mCst (.int 10))) aNil)) (mCst (.int 23))) (gNm 6))
  (sSeq (sIf (mB (mBin fEq (mBin fMod (mCall bInt (aCons (mBin fDiv (mVar 2) (mCst (.int 230))) aNil)) (mCst (.int 8))) (mCst (.int 0)))) (sSeq (sAsg (mBin fAdd (mCst (.int 1)) (mBin fMod (mCall bInt (aCons (mVar 3) aNil)) (mCst (.int 1000000000000)))) (gNm 5))
  (sAsg (mBin fMod (mCall bInt (aCons (mBin fDiv (mVar 3) (mCst (.int 1000000000000))) aNil)) (mCst (.int 1000000000001))) (gNm 6))) sNil)
  (sRet (mMkN 0 1 3 gApp F_Setting__init__ (aCons (mVar 4) aNil) (aCons (mVar 6) (aCons (mBin fMod (mCall bInt (aCons (mBin fDiv (mVar 2) (mCst (.int 1840))) aNil)) (mCst (.int 7))) (aCons (mVar 5) aNil)))))))))))
noncomputable abbrev B__law_rows_1 : SM := (sSeq (sAsg (mCst (.int 0)) (gNm 4))
  (sSeq (sIf (mB (mBin fGt (mCall bLen (aCons (mVar 0) aNil)) (mCst (.int 0)))) (sAsg (mCall bInt (aCons (mBin fIx (mVar 0) (mBin fMod (mCall bInt (aCons (mVar 3) aNil)) (mCall bLen (aCons (mVar 0) aNil)))) aNil)) (gNm 4)) sNil)
  (sSeq (sIf (mB (mBin fLt (mVar 4) (mCst (.int 0)))) (sAsg (mBin fSub (mCst (.int 1)) (mBin fMul (mCst (.int 2)) (mVar 4))) (gNm 4)) sNil)
  (sSeq (sIf (tmOr (mB (mBin fGe (mVar 3) (mCall bLen (aCons (mVar 0) aNil)))) (mB (mBin fLt (mVar 4) (mCst (.int 1000000000))))) (sSeq (sAsg (mBin fMod (mCall bInt (aCons (mBin fAdd (mBin fMul (mBin fAdd (mBin fAdd (mVar 4) (mBin fMul (mCst (.int 131)) (mVar 3))) (mCst (.int 7))) (mCst (.int 48271))) (mBin fMul (mBin fMul (mVar 3) (mVar 3)) (mCst (.int 69621)))) aNil)) (mCst (.int 1000000007))) (gNm 4))
  (sAsg (mBin fMod (mCall bInt (aCons (mBin fMul (mBin fAdd (mBin fAdd (mVar 4) (mBin fMul (mCst (.int 17)) (mVar 3))) (mCst (.int 3))) (mCst (.int 2862933555777941757))) aNil)) (mCst (.int 18446744073709551557))) (gNm 4))) sNil)
  (sExp (mBm tyL lAppend (mVar 2) (aCons (mVar 4) aNil)))))))
noncomputable def F__law_rows : FA := fnP 5 (sSeq (sAsg (mLst true aNil) (gNm 2))
  (sSeq (sFor (iRange1 (aCons (mVar 1) aNil)) (gNm 3) B__law_rows_1)
  (sRet (mVar 2))))
noncomputable abbrev B__law_digits_1 : SM := (sSeq (sExp (mBm tyL lAppend (mVar 3) (aCons (mBin fMod (mCall bInt (aCons (mVar 0) aNil)) (mVar 1)) aNil)))
  (sAsg (mBin fDiv (mVar 0) (mVar 1)) (gNm 0)))
noncomputable def F__law_digits : FA := fnP 5 (sSeq (sAsg (mLst true aNil) (gNm 3))
  (sSeq (sFor (iRange1 (aCons (mVar 2) aNil)) (gNm 4) B__law_digits_1)
  (sRet (mVar 3))))
noncomputable def F_cell_radius : FA := fnP 3 (sSeq (sAsg (mFn 1 F_half_side (aCons (mTup (aCons (mCst (.int 0)) (aCons (mVar 1) aNil))) aNil)) (gNm 2))
  (sRet (mFn 1 F_root_up (aCons (mBin fMul (mBin fMul (mFld "dims" (mVar 0)) (mVar 2)) (mVar 2)) aNil))))
noncomputable def F_spread : FA := fnP 3 (sRet (mBin fAdd (mBin fMul (mFn 1 F_rate (aCons (mVar 2) aNil)) (mBin fAdd (mBin fMul (mCst (.int 2)) (mFn 2 F_cell_radius (aCons (mVar 0) (aCons (mVar 1) aNil)))) (mCst (.int 2)))) (mBin fMul (mFn 1 F_clock_rate (aCons (mVar 2) aNil)) (mVar 1))))
noncomputable def F_margin : FA := fnP 5 (sSeq (sAsg (mFld "kind" (mVar 2)) (gNm 3))
  (sSeq (sAsg (mBin fAdd (mBin fMul (mFn 1 F_rate (aCons (mVar 3) aNil)) (mFn 2 F_reach (aCons (mVar 0) (aCons (mFld "late" (mVar 2)) aNil)))) (mBin fMul (mFn 1 F_clock_rate (aCons (mVar 3) aNil)) (mFn 2 F_slip (aCons (mVar 0) (aCons (mFld "late" (mVar 2)) aNil))))) (gNm 4))
  (sRet (mBin fAdd (mBin fAdd (mBin fMul (mFn 1 F_moved (aCons (mVar 3) aNil)) (mFld "near" (mVar 2))) (mVar 4)) (mFn 3 F_spread (aCons (mVar 0) (aCons (mFld "share" (mVar 1)) (aCons (mVar 3) aNil))))))))
noncomputable abbrev C__law_velocity_1 (live : Bool) : M D := mLc live (iAny (mFn 3 F__law_digits (aCons (mVar 1) (aCons (mCst (.int 7)) (aCons (mFld "dims" (mVar 0)) aNil))))) [5] (gNm 5) cYes (mBin fSub (mVar 5) (mCst (.int 3)))
noncomputable abbrev C__law_velocity_2 (live : Bool) : M D := mLc live (iAny (mVar 2)) [6] (gNm 6) cYes (mBin fMul (mVar 6) (mVar 6))
noncomputable abbrev C__law_velocity_3 (live : Bool) : M D := mLc live (iAny (mVar 2)) [6] (gNm 6) cYes (mBin fMul (mBin fDiv (mCall bAbs (aCons (mVar 6) aNil)) (mCst (.int 2))) (mBin fSub (mCst (.int 1)) (mBin fMul (mCst (.int 2)) (mCall bInt (aCons (mBin fLt (mVar 6) (mCst (.int 0))) aNil)))))
noncomputable abbrev B__law_velocity_1 : SM := (sSeq (sAsg (mCall bSum (aCons (C__law_velocity_2 false) aNil)) (gNm 4))
  (sSeq (sIf (mB (mBin fLe (mBin fMul (mBin fMul (mFld "per" (mVar 0)) (mFld "per" (mVar 0))) (mVar 4)) (mBin fMul (mFld "speed" (mVar 0)) (mFld "speed" (mVar 0))))) sBrk sNil)
  (sAsg (C__law_velocity_3 false) (gNm 2))))
noncomputable def F__law_velocity : FA := fnP 7 (sSeq (sAsg (C__law_velocity_1 false) (gNm 2))
  (sSeq (sFor (iRange1 (aCons (mCst (.int 8)) aNil)) (gNm 3) B__law_velocity_1)
  (sRet (mVar 2))))
noncomputable abbrev C__law_way_1 (live : Bool) : M D := mLc live (iAny (mFn 3 F__law_digits (aCons (mBin fIx (mVar 1) (mCst (.int 0))) (aCons (mCst (.int 31)) (aCons (mFld "dims" (mVar 0)) aNil))))) [8] (gNm 8) cYes (mBin fSub (mVar 8) (mCst (.int 15)))
noncomputable def F__law_way : FA := fnP 9 (sSeq (sAsg (C__law_way_1 false) (gNm 2))
  (sSeq (sAsg (mBin fDiv (mFld "drift" (mVar 0)) (mFld "per" (mVar 0))) (gNm 3))
  (sSeq (sAsg (mBin fSub (mBin fMod (mCall bInt (aCons (mBin fIx (mVar 1) (mCst (.int 1))) aNil)) (mBin fAdd (mBin fMul (mCst (.int 2)) (mVar 3)) (mCst (.int 1)))) (mVar 3)) (gNm 4))
  (sSeq (sAsg (mBin fSub (mBin fMod (mCall bInt (aCons (mBin fDiv (mBin fIx (mVar 1) (mCst (.int 1))) (mCst (.int 16))) aNil)) (mBin fAdd (mBin fMul (mCst (.int 2)) (mVar 3)) (mCst (.int 1)))) (mVar 3)) (gNm 5))
  (sSeq (sAsg (mFn 2 F__law_velocity (aCons (mVar 0) (aCons (mBin fIx (mVar 1) (mCst (.int 2))) aNil))) (gNm 6))
  (sSeq (sAsg (mFn 2 F__law_velocity (aCons (mVar 0) (aCons (mBin fDiv (mBin fIx (mVar 1) (mCst (.int 2))) (mCst (.int 2401))) aNil))) (gNm 7))
  (sRet (mTup (aCons (mVar 2) (aCons (mBin fSub (mBin fMod (mCall bInt (aCons (mBin fDiv (mBin fIx (mVar 1) (mCst (.int 1))) (mCst (.int 256))) aNil)) (mCst (.int 9))) (mCst (.int 4))) (aCons (mBin fSub (mBin fMod (mCall bInt (aCons (mBin fDiv (mBin fIx (mVar 1) (mCst (.int 1))) (mCst (.int 4096))) aNil)) (mCst (.int 9))) (mCst (.int 4))) (aCons (mVar 6) (aCons (mVar 7) (aCons (mVar 4) (aCons (mVar 5) aNil)))))))))))))))
noncomputable abbrev C__law_piece_1 (live : Bool) : M D := mLc live (iRange1 (aCons (mCall bLen (aCons (mVar 1) aNil)) aNil)) [8] (gNm 8) cYes (mBin fSub (mBin fIx (mVar 2) (mVar 8)) (mBin fIx (mVar 1) (mVar 8)))
noncomputable abbrev C__law_piece_2 (live : Bool) : M D := mLc live (iRange1 (aCons (mCall bLen (aCons (mVar 1) aNil)) aNil)) [8] (gNm 8) cYes (mBin fSub (mBin fIx (mVar 0) (mVar 8)) (mBin fIx (mVar 1) (mVar 8)))
noncomputable abbrev C__law_piece_3 (live : Bool) : M D := mLc live (iAny (mVar 3)) [9] (gNm 9) cYes (mBin fMul (mVar 9) (mVar 9))
noncomputable abbrev C__law_piece_4 (live : Bool) : M D := mLc live (iRange1 (aCons (mCall bLen (aCons (mVar 1) aNil)) aNil)) [8] (gNm 8) cYes (mBin fMul (mBin fIx (mVar 4) (mVar 8)) (mBin fIx (mVar 3) (mVar 8)))
noncomputable abbrev C__law_piece_5 (live : Bool) : M D := mLc live (iAny (mVar 4)) [9] (gNm 9) cYes (mBin fMul (mVar 9) (mVar 9))
noncomputable def F__law_piece : FA := fnP 10 (sSeq (sAsg (C__law_piece_1 false) (gNm 3))
  (sSeq (sAsg (C__law_piece_2 false) (gNm 4))
  (sSeq (sAsg (mCall bSum (aCons (C__law_piece_3 false) aNil)) (gNm 5))
  (sSeq (sAsg (mCall bSum (aCons (C__law_piece_4 false) aNil)) (gNm 6))
  (sSeq (sIf (mB (mBin fLe (mVar 6) (mCst (.int 0)))) (sRet (mTup (aCons (mFn 2 F__law_square (aCons (mVar 0) (aCons (mVar 1) aNil))) (aCons (mFn 2 F__law_square (aCons (mVar 0) (aCons (mVar 1) aNil))) aNil)))) sNil)
  (sSeq (sIf (mB (mBin fGe (mVar 6) (mVar 5))) (sRet (mTup (aCons (mFn 2 F__law_square (aCons (mVar 0) (aCons (mVar 2) aNil))) (aCons (mFn 2 F__law_square (aCons (mVar 0) (aCons (mVar 2) aNil))) aNil)))) sNil)
  (sSeq (sAsg (mBin fSub (mBin fMul (mCall bSum (aCons (C__law_piece_5 false) aNil)) (mVar 5)) (mBin fMul (mVar 6) (mVar 6))) (gNm 7))
  (sRet (mTup (aCons (mBin fDiv (mVar 7) (mVar 5)) (aCons (mBin fSub (mCst (.int 0)) (mBin fDiv (mBin fSub (mCst (.int 0)) (mVar 7)) (mVar 5))) aNil)))))))))))
noncomputable abbrev C__law_moved_1 (live : Bool) : M D := mLc live (iRange1 (aCons (mCall bLen (aCons (mVar 3) aNil)) aNil)) [5] (gNm 5) cYes (mTup (aCons (mBin fAdd (mBin fIx (mBin fIx (mVar 3) (mVar 5)) (mCst (.int 0))) (mBin fIx (mVar 1) (mVar 5))) (aCons (mBin fAdd (mBin fIx (mBin fIx (mVar 3) (mVar 5)) (mCst (.int 1))) (mBin fIx (mVar 1) (mVar 5))) aNil)))
noncomputable abbrev B__law_moved_1 : SM := (sExp (mBm tyL lAppend (mVar 2) (aCons (mCall bTuple (aCons (C__law_moved_1 false) aNil)) aNil)))
noncomputable abbrev C__law_moved_2 (live : Bool) : M D := mLc live (iRange1 (aCons (mCall bLen (aCons (mVar 6) aNil)) aNil)) [5] (gNm 5) cYes (mBin fAdd (mBin fIx (mVar 6) (mVar 5)) (mBin fIx (mVar 1) (mVar 5)))
noncomputable abbrev C__law_moved_3 (live : Bool) : M D := mLc live (iAny (mSl (mVar 0) (pYes (mCst (.int 1))) pNo)) [6] (gNm 6) cYes (mCall bTuple (aCons (C__law_moved_2 false) aNil))
noncomputable def F__law_moved : FA := fnP 7 (sSeq (sIf (mB (mBin fEq (mBin fIx (mVar 0) (mCst (.int 0))) (mCst (.str "side")))) (sRet (mVar 0)) sNil)
  (sSeq (sIf (mB (mBin fEq (mBin fIx (mVar 0) (mCst (.int 0))) (mCst (.str "boxes")))) (sSeq (sAsg (mLst true aNil) (gNm 2))
  (sSeq (sFor (iAny (mBin fIx (mVar 0) (mCst (.int 1)))) (gNm 3) B__law_moved_1)
  (sRet (mTup (aCons (mBin fIx (mVar 0) (mCst (.int 0))) (aCons (mCall bTuple (aCons (mVar 2) aNil)) aNil)))))) sNil)
  (sSeq (sAsg (C__law_moved_3 false) (gNm 4))
  (sRet (mCall bTuple (aCons (mBin fAdd (mLst false (aCons (mBin fIx (mVar 0) (mCst (.int 0))) aNil)) (mVar 4)) aNil))))))
end Lib
namespace Lib
open PySem PySem.Spec PyProof.Rows L2 Ev
theorem sz64 {i : Int} (h : i.natAbs < 18446744073709551616) : sz i ≤ 64 := sz_small (n := 64) (by omega) h
def Sc (ns : List Int) : D := .klst (ns.map D.int)
/-- scripts of the law -/
def Okn (ns : List Int) : Prop := ns.length ≤ 63 ∧ ∀ z ∈ ns, sz z ≤ 1048576
theorem lit2 : sz 2 = 1 := by decide
theorem lit1 : sz 1 = 0 := by decide
theorem bits_sz {z : Int} (h : Builtin.Int.intBits z ≤ 1048576) : sz z ≤ 1048576 := by
  unfold Builtin.Int.intBits at h
  unfold sz
  split at h
  · rename_i c
    have : z.natAbs = 0 := by
      first | omega | simpa using c
    rw [this]
    decide
  · omega
theorem l2 : Nat.log2 2 < 9000 := by decide
theorem lg {n : Nat} (h : n < 18446744073709551616) : Nat.log2 n < 9000 := by
  have := sz64 (i := (n : Int)) (by omega)
  unfold sz at this
  simp at this
  omega
/-- sides, boxes -/
def sideD (s : Int × Int) : D := .tup [.int s.1, .int s.2]
def boxD (b : List (Int × Int)) : D := .tup (b.map sideD)
theorem clean_side (s : Int × Int) : clean (sideD s) := clean_tup (by simp [clean_int])
theorem clean_box (b : List (Int × Int)) : clean (boxD b) := clean_tup fun d hd => by
  obtain ⟨s, _, rfl⟩ := List.mem_map.mp hd
  exact clean_side s
theorem rng_get {n i : Nat} (h : i < (rngD 0 n).length) : (rngD 0 n)[i] = .int (i : Nat) := by simp [rngD]
theorem F_half (s : Int × Int) (h : HP) : F_half_side [sideD s] h = .ok (.int ((s.2 - s.1 + 1) / 2)) h := by
  have p : ∀ z : Int, pure_ h (.int z) h = .ok (.int z) h := fun z => pure_clean h (clean_int z)
  simp [F_half_side, sideD, lg, p]
theorem lcE_ty {α : Type} (asg : TF) (cond : M Bool) (elt : M D) (envw : EN) (h : HP) (f G : α → D) (p : α → Bool) : ∀ (xs : List α) (acc : List D), acc.length + xs.length ≤ sizeLine →
    (∀ x ∈ xs, ∀ h' : HP, ∃ e, asg (f x) envw h' = some e ∧ cond e h' = .ok (p x) h' ∧ (p x = true → elt e h' = .ok (G x) h')) →
    lcE asg cond elt envw h.length [] (xs.map f) (h ++ [.lst acc]) = .ok () (h ++ [.lst (acc ++ (xs.filter p).map G)])
  | [], acc, _, _ => by
    rw [List.map_nil]
    unfold lcE
    rw [if_pos (by simp [Gd])]
    simp
  | d :: ds, acc, hz, H => by
    rw [List.map_cons]
    unfold lcE
    rw [if_pos (by simp [Gd])]
    obtain ⟨e, e1, e2, e3⟩ := H d (List.mem_cons_self ..) (h ++ [.lst acc])
    simp only [e1, e2, R.nx, R.bind]
    cases q : p d with
    | true =>
      have hz' : acc.length < sizeLine := by simp only [List.length_cons] at hz; omega
      simp only [if_true, e3 q, R.nx, R.bind, appL_last h hz']
      rw [lcE_ty asg cond elt envw h f G p ds (acc ++ [G d]) (by simp only [List.length_append, List.length_cons, List.length_nil] at hz ⊢; omega) fun d' hd h' => H d' (List.mem_cons_of_mem _ hd) h']
      simp [List.filter_cons, q]
    | false =>
      simp only [if_neg Bool.false_ne_true]
      rw [lcE_ty asg cond elt envw h f G p ds acc (by simp only [List.length_cons] at hz; omega) fun d' hd h' => H d' (List.mem_cons_of_mem _ hd) h']
      simp [List.filter_cons, q]
theorem mLc_tyF {α : Type} {it : IM} {own : List Nat} {asg : TF} {cond : M Bool} {elt : M D} {env : EN} {h h1 : HP} (xs : List α) (f G : α → D) (p : α → Bool) (hi : it env h = .ok (xs.map f, []) h1) (hz : xs.length ≤ 16000000)
    (H : ∀ x ∈ xs, ∀ h' : HP, ∃ e, asg (f x) (wipeE env own) h' = some e ∧ cond e h' = .ok (p x) h' ∧ (p x = true → elt e h' = .ok (G x) h')) (c : ∀ x ∈ xs, p x = true → clean (G x)) :
    mLc false it own asg cond elt env h = .ok (.lst ((xs.filter p).map G)) h1 := by
  unfold mLc
  rw [hi]
  simp only [R.bind]
  rw [lcE_ty asg cond elt _ h1 f G p xs [] (by have := sizeLine_eq; simp only [List.length_nil]; omega) H]
  simp only [List.nil_append, outL, if_neg Bool.false_ne_true]
  exact pure_list h1 (by
    intro d hd
    obtain ⟨x, hx, rfl⟩ := List.mem_map.mp hd
    obtain ⟨h1, h2⟩ := List.mem_filter.mp hx
    exact c x h1 h2)
theorem mLc_ty {α : Type} {it : IM} {own : List Nat} {asg : TF} {elt : M D} {env : EN} {h h1 : HP} (xs : List α) (f G : α → D) (hi : it env h = .ok (xs.map f, []) h1) (hz : xs.length ≤ 16000000)
    (H : ∀ x ∈ xs, ∀ h' : HP, ∃ e, asg (f x) (wipeE env own) h' = some e ∧ elt e h' = .ok (G x) h') (c : ∀ x ∈ xs, clean (G x)) :
    mLc false it own asg cYes elt env h = .ok (.lst (xs.map G)) h1 := by
  have := mLc_tyF (cond := cYes) xs f G (fun _ => true) hi hz (fun d hd h' => let ⟨e, e1, e2⟩ := H d hd h'; ⟨e, e1, rfl, fun _ => e2⟩) fun d hd _ => c d hd
  rw [this, List.filter_eq_self.mpr (fun _ _ => rfl)]
/-- a loop over a range -/
theorem for_rng {asg : TF} {body : SM} (I : Nat → EN → HP → Prop) {n : Nat}
    (hs : ∀ i env h, i < n → I i env h → ∃ e, asg (.int (i : Nat)) env h = some e ∧ ∃ env' h', (body e h = .nx env' h' ∨ body e h = .ct env' h') ∧ I (i + 1) env' h')
    {env : EN} {h : HP} (h0 : I 0 env h) : ∃ env' h', forE asg body [] (rngD 0 n) env h = .nx env' h' ∧ I n env' h' := by
  obtain ⟨env', h', e, H⟩ := forE_inv (gd := []) (asg := asg) (items := rngD 0 n) (body := body) I (fun i env h _ => by simp) (fun i env h hi hI => by
    rw [rngD_len] at hi
    obtain ⟨e, e1, e2⟩ := hs i env h hi hI
    exact ⟨e, by rw [rng_get]; exact e1, e2⟩) h0
  rw [rngD_len] at H
  exact ⟨env', h', e, H⟩
/-- a loop over a typed list -/
theorem for_ty {α : Type} {asg : TF} {body : SM} {gd : GdL} (I : Nat → EN → HP → Prop) (xs : List α) (f : α → D) (hg : ∀ i env h, I i env h → Gd gd h)
    (hs : ∀ i env h (hi : i < xs.length), I i env h → ∃ e, asg (f xs[i]) env h = some e ∧ ∃ env' h', (body e h = .nx env' h' ∨ body e h = .ct env' h') ∧ I (i + 1) env' h')
    {env : EN} {h : HP} (h0 : I 0 env h) : ∃ env' h', forE asg body gd (xs.map f) env h = .nx env' h' ∧ I xs.length env' h' := by
  obtain ⟨env', h', e, H⟩ := forE_inv (gd := gd) (asg := asg) (items := xs.map f) (body := body) I hg (fun i env h hi hI => by
    have hi' : i < xs.length := by simpa using hi
    obtain ⟨e, e1, e2⟩ := hs i env h hi' hI
    exact ⟨e, by simpa using e1, e2⟩) h0
  rw [List.length_map] at H
  exact ⟨env', h', e, H⟩
theorem sh_int (k : Int) : SeqAt.shaped (.int k) = true := by simp [SeqAt.shaped, PyData.canLay0, PyData.depth]
theorem at_box {b : List (Int × Int)} {i : Nat} (hi : i < b.length) : atI (b.map sideD) (i : Int) = some (sideD b[i]) := by
  simp [atI, ixN, hi]
theorem at_int {b : List Int} {i : Nat} (hi : i < b.length) : atI (b.map D.int) (i : Int) = some (.int b[i]) := by
  simp [atI, ixN, hi]
@[simp] theorem at2_0 (x y : D) : atI [x, y] 0 = some x := by simp [atI, ixN]
@[simp] theorem at2_1 (x y : D) : atI [x, y] 1 = some y := by simp [atI, ixN]
def Shp (n : Nat) (p : PyData) : Prop := p.canLay0 = true ∧ p.depth ≤ n
theorem Shp.int (n : Nat) (i : Int) : Shp n (.int i) := ⟨by simp [PyData.canLay0], by simp [PyData.depth]⟩
theorem Shp.bool (n : Nat) (i : Bool) : Shp n (.bool i) := ⟨by simp [PyData.canLay0], by simp [PyData.depth]⟩
theorem Shp.none (n : Nat) : Shp n .none := ⟨by simp [PyData.canLay0], by simp [PyData.depth]⟩
theorem Shp.all {n : Nat} : ∀ {ps : List PyData}, (∀ p ∈ ps, Shp n p) → PyData.canLayAll0 ps = true ∧ PyData.depthAll ps ≤ n
  | [], _ => ⟨by simp [PyData.canLayAll0], by simp [PyData.depthAll]⟩
  | p :: ps, h => by
    have h1 := h p (List.mem_cons_self ..)
    have h2 := Shp.all (ps := ps) fun q hq => h q (List.mem_cons_of_mem _ hq)
    refine ⟨by simp [PyData.canLayAll0, h1.1, h2.1], ?_⟩
    simp only [PyData.depthAll]
    have := h1.2
    have := h2.2
    omega
theorem Shp.tup {n : Nat} {ps : List PyData} (h : ∀ p ∈ ps, Shp n p) : Shp (n + 1) (.tuple ps) := by
  have := Shp.all h
  exact ⟨by simp [PyData.canLay0, this.1], by simp only [PyData.depth]; omega⟩
theorem Shp.list {n : Nat} {ps : List PyData} (h : ∀ p ∈ ps, Shp n p) : Shp (n + 1) (.list ps) := by
  have := Shp.all h
  exact ⟨by simp [PyData.canLay0, this.1], by simp only [PyData.depth]; omega⟩
theorem Shp.ok {n : Nat} {p : PyData} (h : Shp n p) (hn : n ≤ 64) : SeqAt.shaped p = true := by
  unfold SeqAt.shaped
  rw [h.1, decide_eq_true (by have := h.2; omega)]
  rfl
theorem Shp.self {n : Nat} {p : PyData} (h : Shp n p) : PyData.eqv p p = true := PySem.SeqAt.eqv_refl p h.1
theorem toPs_map {α : Type} (f : α → D) (q : α → PyData) : ∀ (xs : List α), (∀ x ∈ xs, toP (f x) = some (q x)) → toPs (xs.map f) = some (xs.map q)
  | [], _ => by simp
  | x :: xs, h => by
    have h1 := h x (List.mem_cons_self ..)
    have h2 := toPs_map f q xs fun y hy => h y (List.mem_cons_of_mem _ hy)
    simp [h1, h2]
def sidePy (s : Int × Int) : PyData := .tuple [.int s.1, .int s.2]
def boxPy (b : List (Int × Int)) : PyData := .tuple (b.map sidePy)
theorem toP_side (s : Int × Int) : toP (sideD s) = some (sidePy s) := by simp [sideD, sidePy]
theorem toP_box (b : List (Int × Int)) : toP (boxD b) = some (boxPy b) := by
  have := toPs_map sideD sidePy b fun s _ => toP_side s
  simp [boxD, boxPy, this]
theorem Shp.side (s : Int × Int) : Shp 1 (sidePy s) := Shp.tup fun p hp => by
  simp only [List.mem_cons, List.not_mem_nil, or_false] at hp
  rcases hp with rfl | rfl <;> exact Shp.int _ _
theorem Shp.box (b : List (Int × Int)) : Shp 2 (boxPy b) := Shp.tup fun p hp => by
  obtain ⟨s, _, rfl⟩ := List.mem_map.mp hp
  exact Shp.side s
theorem cut_to {xs : List D} {i : Nat} (hi : i ≤ xs.length) : Ev.cutD xs none (some (i : Int)) = xs.take i := by
  unfold Ev.cutD
  rw [HT.sIx_none, HT.sIx_nat, Nat.min_eq_left hi]
  simp
theorem cut_from {xs : List D} {i : Nat} (hi : i ≤ xs.length) : Ev.cutD xs (some (i : Int)) none = xs.drop i := by
  unfold Ev.cutD
  rw [HT.sIx_none, HT.sIx_nat, Nat.min_eq_left hi]
  exact List.take_of_length_le (by simp)
end Lib
namespace Lib
open PySem PySem.Spec PyProof.Rows L2 Ev
def rd (n : Int) : Int := (Float64.isqrt n.toNat : Nat)
def ru (n : Int) : Int := if rd n * rd n < n then rd n + 1 else rd n
theorem rd_spec {n : Int} (h : 0 ≤ n) : 0 ≤ rd n ∧ rd n * rd n ≤ n ∧ n < (rd n + 1) * (rd n + 1) := by
  have := Float64.isqrt_spec n.toNat
  unfold rd
  generalize Float64.isqrt n.toNat = r at this
  obtain ⟨h1, h2⟩ := this
  have h1 : ((r * r : Nat) : Int) ≤ (n.toNat : Int) := by exact_mod_cast h1
  have h2 : (n.toNat : Int) < (((r + 1) * (r + 1) : Nat) : Int) := by exact_mod_cast h2
  rw [Int.toNat_of_nonneg h] at h1 h2
  push_cast at h1 h2
  exact ⟨by omega, h1, h2⟩
theorem ru_spec {n : Int} (h : 0 ≤ n) : 0 ≤ ru n ∧ n ≤ ru n * ru n ∧ (0 < ru n → (ru n - 1) * (ru n - 1) < n) := by
  obtain ⟨h0, h1, h2⟩ := rd_spec h
  unfold ru
  generalize rd n = r at *
  split
  · rename_i c
    refine ⟨by omega, by omega, fun _ => ?_⟩
    rw [Int.add_sub_cancel]
    exact c
  · rename_i c
    refine ⟨h0, by omega, fun hr => ?_⟩
    have : (r - 1) * (r - 1) = r * r - 2 * r + 1 := by
      rw [Int.sub_mul, Int.mul_sub]
      omega
    omega
theorem rd_le {n : Int} (h : 0 ≤ n) : rd n ≤ n := by
  obtain ⟨h0, h1, h2⟩ := rd_spec h
  by_cases c : rd n = 0
  · omega
  · have : 1 * rd n ≤ rd n * rd n := Int.mul_le_mul_of_nonneg_right (by omega) h0
    omega
theorem sz_rd {n : Int} (h : 0 ≤ n) : sz (rd n) ≤ sz n := sz_mono (by have := rd_le h; have := (rd_spec h).1; omega)
theorem F_root_up' {n : Int} (h : 0 ≤ n) (hz : sz n < 6000) (hp : HP) : F_root_up [.int n] hp = .ok (.int (ru n)) hp := by
  have p : ∀ z : Int, pure_ hp (.int z) hp = .ok (.int z) hp := fun z => pure_clean hp (clean_int z)
  have hz' : n.toNat.log2 < 6000 := by
    have : n.toNat = n.natAbs := by omega
    rw [this]
    exact hz
  have s := sz_rd h
  have m : CMulE (rd n) (rd n) := mulX 6000 6000 (by omega) (by omega) (by decide)
  have e : ((Float64.isqrt n.toNat : Nat) : Int) = rd n := rfl
  by_cases c : rd n * rd n < n
  · simp [F_root_up, h, hz', e, m, c, ru, p]
  · simp [F_root_up, h, hz', e, m, c, ru, p]
def hf (s : Int × Int) : Int := (s.2 - s.1 + 1) / 2
def hq (s : Int × Int) : Int := hf s * hf s
def sq (b : List (Int × Int)) : Int := (b.map hq).sum
end Lib
namespace Lib
open PySem PySem.Spec PyProof.Rows L2 Ev
def vec (n : Nat) (p : Nat → Int) : D := .tup ((List.range n).map fun i => .int (p i))
def sg (n : Nat) (f : Nat → Int) : Int := ((List.range n).map f).sum
theorem sg_zero (f : Nat → Int) : sg 0 f = 0 := rfl
theorem sg_succ (n : Nat) (f : Nat → Int) : sg (n + 1) f = sg n f + f n := by
  unfold sg
  rw [List.range_succ, List.map_append, List.sum_append]
  simp
theorem sg_congr {f k : Nat → Int} : ∀ {n : Nat}, (∀ i < n, f i = k i) → sg n f = sg n k
  | 0, _ => rfl
  | n + 1, h => by rw [sg_succ, sg_succ, sg_congr (fun i hi => h i (by omega)), h n (by omega)]
theorem sg_bd {f : Nat → Int} {B : Int} : ∀ {n : Nat}, (∀ i < n, -B ≤ f i ∧ f i ≤ B) → -(n * B) ≤ sg n f ∧ sg n f ≤ n * B
  | 0, _ => by simp [sg_zero]
  | n + 1, h => by
    have h1 := sg_bd (n := n) fun i hi => h i (by omega)
    have h2 := h n (by omega)
    rw [sg_succ]
    have : ((n + 1 : Nat) : Int) * B = n * B + B := by push_cast; rw [Int.add_mul, Int.one_mul]
    omega
theorem sg_nn {f : Nat → Int} : ∀ {n : Nat}, (∀ i < n, 0 ≤ f i) → 0 ≤ sg n f
  | 0, _ => by simp [sg_zero]
  | n + 1, h => by
    have h1 := sg_nn (n := n) fun i hi => h i (by omega)
    have h2 := h n (by omega)
    rw [sg_succ]
    omega
theorem clean_vec (n : Nat) (p : Nat → Int) : clean (vec n p) := clean_tup fun d hd => by
  obtain ⟨i, _, rfl⟩ := List.mem_map.mp hd
  exact clean_int _
theorem at_vec {n : Nat} {p : Nat → Int} {i : Nat} (hi : i < n) : atI ((List.range n).map fun i => D.int (p i)) (i : Int) = some (.int (p i)) := by
  simp [atI, ixN, hi]
theorem rngD_eq (n : Nat) : rngD 0 n = (List.range n).map fun i => .int (i : Nat) := by
  unfold rngD
  simp
theorem zip_vec (n : Nat) (a b : Nat → D) : zipD ((List.range n).map a) ((List.range n).map b) = (List.range n).map fun i => .tup [a i, b i] := by
  unfold zipD
  rw [List.zipWith_map]
  generalize List.range n = l
  induction l with
  | nil => rfl
  | cons x l ih => simp [ih]
theorem ints_vec (n : Nat) (f : Nat → Int) : intsD ((List.range n).map fun i => D.int (f i)) = some ((List.range n).map f) := by
  have k := intsD_map ((List.range n).map f)
  simp only [List.map_map] at k
  exact k
theorem mul64 {x y : Int} (hx : x.natAbs < 18446744073709551616) (hy : y.natAbs < 18446744073709551616) : CMulE x y := mulX 64 64 (sz64 hx) (sz64 hy) (by decide)
def sub (p q : Nat → Int) : Nat → Int := fun i => p i - q i
def dt (n : Nat) (p q : Nat → Int) : Int := sg n fun i => p i * q i
theorem dt_self (n : Nat) (p : Nat → Int) : 0 ≤ dt n p p := sg_nn fun i _ => by
  by_cases c : 0 ≤ p i
  · exact Int.mul_nonneg c c
  · exact Int.le_of_lt (Int.mul_pos_of_neg_of_neg (by omega) (by omega))
/-- square, whole -/
def pc1 (n : Nat) (x a t : Nat → Int) : Int × Int :=
  if dt n (sub x a) (sub t a) ≤ 0 then (dt n (sub x a) (sub x a), 1) else if dt n (sub t a) (sub t a) ≤ dt n (sub x a) (sub t a) then (dt n (sub x t) (sub x t), 1)
  else (dt n (sub x a) (sub x a) * dt n (sub t a) (sub t a) - dt n (sub x a) (sub t a) * dt n (sub x a) (sub t a), dt n (sub t a) (sub t a))
/-- the greatest whole number that is not more, the least that is not less -/
def pc2 (n : Nat) (x a t : Nat → Int) : Int × Int := ((pc1 n x a t).1 / (pc1 n x a t).2, -(-(pc1 n x a t).1 / (pc1 n x a t).2))
theorem pc1_pos (n : Nat) (x a t : Nat → Int) : 0 < (pc1 n x a t).2 := by
  unfold pc1
  have := dt_self n (sub t a)
  split
  · exact Int.one_pos
  · split
    · exact Int.one_pos
    · simp only
      omega
theorem div_facts (S W : Int) (h : 0 < W) : S / W * W ≤ S ∧ S < (S / W + 1) * W ∧ S ≤ -(-S / W) * W ∧ (-(-S / W) - 1) * W < S := by
  have e1 := Int.mul_ediv_add_emod S W
  have e2 := Int.emod_nonneg S (show W ≠ 0 by omega)
  have e3 := Int.emod_lt_of_pos S h
  have f1 := Int.mul_ediv_add_emod (-S) W
  have f2 := Int.emod_nonneg (-S) (show W ≠ 0 by omega)
  have f3 := Int.emod_lt_of_pos (-S) h
  generalize S / W = u at *
  generalize -S / W = v at *
  generalize S % W = r at *
  generalize -S % W = s at *
  have g1 : u * W = W * u := Int.mul_comm _ _
  have g2 : (u + 1) * W = W * u + W := by grind
  have g3 : -v * W = -(W * v) := by grind
  have g4 : (-v - 1) * W = -(W * v) - W := by grind
  rw [g1, g2, g3, g4]
  omega
end Lib
namespace Lib
open PySem PySem.Spec PyProof.Rows L2 Ev
inductive Kd where
  | range (p : Nat → Int)
  | clocked (p : Nat → Int)
  | differ (p q : Nat → Int)
  | piece (p q : Nat → Int)
  | side (p : Nat → Int)
  | boxes (bs : List (List (Int × Int)))
def boxesD (bs : List (List (Int × Int))) : D := .tup (bs.map boxD)
def kdD (n : Nat) : Kd → D
  | .range p => .tup [.str "range", vec n p]
  | .clocked p => .tup [.str "clocked", vec n p]
  | .differ p q => .tup [.str "differ", vec n p, vec n q]
  | .piece p q => .tup [.str "piece", vec n p, vec n q]
  | .side p => .tup [.str "side", vec n p]
  | .boxes bs => .tup [.str "boxes", boxesD bs]
theorem clean_boxes (bs : List (List (Int × Int))) : clean (boxesD bs) := clean_tup fun d hd => by
  obtain ⟨s, _, rfl⟩ := List.mem_map.mp hd
  exact clean_box s
theorem clean_kd (n : Nat) (K : Kd) : clean (kdD n K) := by
  cases K <;> exact clean_tup (by simp [clean_str, clean_vec, clean_boxes])
@[simp] theorem shs_range : SeqAt.shaped (.str "range") = true := by decide +kernel
@[simp] theorem eqs_range_range : PyData.eqv (.str "range") (.str "range") = true := by decide +kernel
@[simp] theorem eqs_range_clocked : PyData.eqv (.str "range") (.str "clocked") = false := by decide +kernel
@[simp] theorem eqs_range_differ : PyData.eqv (.str "range") (.str "differ") = false := by decide +kernel
@[simp] theorem eqs_range_piece : PyData.eqv (.str "range") (.str "piece") = false := by decide +kernel
@[simp] theorem eqs_range_side : PyData.eqv (.str "range") (.str "side") = false := by decide +kernel
@[simp] theorem eqs_range_boxes : PyData.eqv (.str "range") (.str "boxes") = false := by decide +kernel
@[simp] theorem shs_clocked : SeqAt.shaped (.str "clocked") = true := by decide +kernel
@[simp] theorem eqs_clocked_range : PyData.eqv (.str "clocked") (.str "range") = false := by decide +kernel
@[simp] theorem eqs_clocked_clocked : PyData.eqv (.str "clocked") (.str "clocked") = true := by decide +kernel
@[simp] theorem eqs_clocked_differ : PyData.eqv (.str "clocked") (.str "differ") = false := by decide +kernel
@[simp] theorem eqs_clocked_piece : PyData.eqv (.str "clocked") (.str "piece") = false := by decide +kernel
@[simp] theorem eqs_clocked_side : PyData.eqv (.str "clocked") (.str "side") = false := by decide +kernel
@[simp] theorem eqs_clocked_boxes : PyData.eqv (.str "clocked") (.str "boxes") = false := by decide +kernel
@[simp] theorem shs_differ : SeqAt.shaped (.str "differ") = true := by decide +kernel
@[simp] theorem eqs_differ_range : PyData.eqv (.str "differ") (.str "range") = false := by decide +kernel
@[simp] theorem eqs_differ_clocked : PyData.eqv (.str "differ") (.str "clocked") = false := by decide +kernel
@[simp] theorem eqs_differ_differ : PyData.eqv (.str "differ") (.str "differ") = true := by decide +kernel
@[simp] theorem eqs_differ_piece : PyData.eqv (.str "differ") (.str "piece") = false := by decide +kernel
@[simp] theorem eqs_differ_side : PyData.eqv (.str "differ") (.str "side") = false := by decide +kernel
@[simp] theorem eqs_differ_boxes : PyData.eqv (.str "differ") (.str "boxes") = false := by decide +kernel
@[simp] theorem shs_piece : SeqAt.shaped (.str "piece") = true := by decide +kernel
@[simp] theorem eqs_piece_range : PyData.eqv (.str "piece") (.str "range") = false := by decide +kernel
@[simp] theorem eqs_piece_clocked : PyData.eqv (.str "piece") (.str "clocked") = false := by decide +kernel
@[simp] theorem eqs_piece_differ : PyData.eqv (.str "piece") (.str "differ") = false := by decide +kernel
@[simp] theorem eqs_piece_piece : PyData.eqv (.str "piece") (.str "piece") = true := by decide +kernel
@[simp] theorem eqs_piece_side : PyData.eqv (.str "piece") (.str "side") = false := by decide +kernel
@[simp] theorem eqs_piece_boxes : PyData.eqv (.str "piece") (.str "boxes") = false := by decide +kernel
@[simp] theorem shs_side : SeqAt.shaped (.str "side") = true := by decide +kernel
@[simp] theorem eqs_side_range : PyData.eqv (.str "side") (.str "range") = false := by decide +kernel
@[simp] theorem eqs_side_clocked : PyData.eqv (.str "side") (.str "clocked") = false := by decide +kernel
@[simp] theorem eqs_side_differ : PyData.eqv (.str "side") (.str "differ") = false := by decide +kernel
@[simp] theorem eqs_side_piece : PyData.eqv (.str "side") (.str "piece") = false := by decide +kernel
@[simp] theorem eqs_side_side : PyData.eqv (.str "side") (.str "side") = true := by decide +kernel
@[simp] theorem eqs_side_boxes : PyData.eqv (.str "side") (.str "boxes") = false := by decide +kernel
@[simp] theorem shs_boxes : SeqAt.shaped (.str "boxes") = true := by decide +kernel
@[simp] theorem eqs_boxes_range : PyData.eqv (.str "boxes") (.str "range") = false := by decide +kernel
@[simp] theorem eqs_boxes_clocked : PyData.eqv (.str "boxes") (.str "clocked") = false := by decide +kernel
@[simp] theorem eqs_boxes_differ : PyData.eqv (.str "boxes") (.str "differ") = false := by decide +kernel
@[simp] theorem eqs_boxes_piece : PyData.eqv (.str "boxes") (.str "piece") = false := by decide +kernel
@[simp] theorem eqs_boxes_side : PyData.eqv (.str "boxes") (.str "side") = false := by decide +kernel
@[simp] theorem eqs_boxes_boxes : PyData.eqv (.str "boxes") (.str "boxes") = true := by decide +kernel
@[simp] theorem at3_0 (x y z : D) : atI [x, y, z] 0 = some x := by simp [atI, ixN]
@[simp] theorem at3_1 (x y z : D) : atI [x, y, z] 1 = some y := by simp [atI, ixN]
@[simp] theorem at3_2 (x y z : D) : atI [x, y, z] 2 = some z := by simp [atI, ixN]
def rateK (n : Nat) : Kd → Int
  | .differ _ _ => 2
  | .side p => ru (dt n p p)
  | _ => 1
def clockK : Kd → Int
  | .clocked _ => 1
  | _ => 0
def movedK : Kd → Int
  | .differ _ _ => 2
  | .side _ => 0
  | _ => 1
theorem F_clock_rate' (n : Nat) (K : Kd) (h : HP) : F_clock_rate [kdD n K] h = .ok (.int (clockK K)) h := by
  have p : ∀ z : Int, pure_ h (.int z) h = .ok (.int z) h := fun z => pure_clean h (clean_int z)
  cases K <;> simp [F_clock_rate, kdD, clockK, p]
theorem F_moved' (n : Nat) (K : Kd) (h : HP) : F_moved [kdD n K] h = .ok (.int (movedK K)) h := by
  have p : ∀ z : Int, pure_ h (.int z) h = .ok (.int z) h := fun z => pure_clean h (clean_int z)
  cases K <;> simp [F_moved, kdD, movedK, p]
end Lib
namespace Lib
open PySem PySem.Spec PyProof.Rows L2 Ev
theorem lcE_tyG {α : Type} (asg : TF) (cond : M Bool) (elt : M D) (envw : EN) (h : HP) (gd : GdL) (hg : ∀ x, Gd gd (h ++ x)) (f G : α → D) (p : α → Bool) : ∀ (xs : List α) (acc : List D), acc.length + xs.length ≤ sizeLine →
    (∀ x ∈ xs, ∀ y : HP, ∃ e, asg (f x) envw (h ++ y) = some e ∧ cond e (h ++ y) = .ok (p x) (h ++ y) ∧ (p x = true → elt e (h ++ y) = .ok (G x) (h ++ y))) →
    lcE asg cond elt envw h.length gd (xs.map f) (h ++ [.lst acc]) = .ok () (h ++ [.lst (acc ++ (xs.filter p).map G)])
  | [], acc, _, _ => by
    rw [List.map_nil]
    unfold lcE
    rw [if_pos (hg _)]
    simp
  | d :: ds, acc, hz, H => by
    rw [List.map_cons]
    unfold lcE
    rw [if_pos (hg _)]
    obtain ⟨e, e1, e2, e3⟩ := H d (List.mem_cons_self ..) [.lst acc]
    simp only [e1, e2, R.nx, R.bind]
    cases q : p d with
    | true =>
      have hz' : acc.length < sizeLine := by simp only [List.length_cons] at hz; omega
      simp only [if_true, e3 q, R.nx, R.bind, appL_last h hz']
      rw [lcE_tyG asg cond elt envw h gd hg f G p ds (acc ++ [G d]) (by simp only [List.length_append, List.length_cons, List.length_nil] at hz ⊢; omega) fun d' hd y => H d' (List.mem_cons_of_mem _ hd) y]
      simp [List.filter_cons, q]
    | false =>
      simp only [if_neg Bool.false_ne_true]
      rw [lcE_tyG asg cond elt envw h gd hg f G p ds acc (by simp only [List.length_cons] at hz; omega) fun d' hd y => H d' (List.mem_cons_of_mem _ hd) y]
      simp [List.filter_cons, q]
theorem mLc_tyL {α : Type} {it : IM} {own : List Nat} {asg : TF} {elt : M D} {env : EN} {h h1 : HP} {gd : GdL} (xs : List α) (f G : α → D) (hi : it env h = .ok (xs.map f, gd) h1) (hg : ∀ x, Gd gd (h1 ++ x)) (hz : xs.length ≤ 16000000)
    (H : ∀ x ∈ xs, ∀ y : HP, ∃ e, asg (f x) (wipeE env own) (h1 ++ y) = some e ∧ elt e (h1 ++ y) = .ok (G x) (h1 ++ y)) :
    mLc true it own asg cYes elt env h = .ok (.ref h1.length) (h1 ++ [.lst (xs.map G)]) := by
  unfold mLc
  rw [hi]
  simp only [R.bind]
  rw [lcE_tyG asg cYes elt _ h1 gd hg f G (fun _ => true) xs [] (by have := sizeLine_eq; simp only [List.length_nil]; omega) fun x hx y => let ⟨e, e1, e2⟩ := H x hx y; ⟨e, e1, rfl, fun _ => e2⟩, List.filter_eq_self.mpr (fun _ _ => rfl)]
  simp [outL]
def sd (b : List (Int × Int)) (i : Nat) : Int × Int := b.getD i (0, 0)
theorem sd_get {b : List (Int × Int)} {i : Nat} (hi : i < b.length) : sd b i = b[i] := by simp [sd, hi]
end Lib
namespace Lib
open PySem PySem.Spec PyProof.Rows L2 Ev
def mx (a b : Int) : Int := if b > a then b else a
theorem mx_le {a b c : Int} (h1 : a ≤ c) (h2 : b ≤ c) : mx a b ≤ c := by unfold mx; split <;> assumption
theorem le_mx1 (a b : Int) : a ≤ mx a b := by unfold mx; split <;> omega
theorem le_mx2 (a b : Int) : b ≤ mx a b := by unfold mx; split <;> omega
def gapS (s o : Int × Int) : Int := mx (mx 0 (o.1 - s.2)) (s.1 - o.2)
theorem gap_nn (s o : Int × Int) : 0 ≤ gapS s o := Int.le_trans (le_mx1 _ _) (le_mx1 _ _)
theorem gap_le {s o : Int × Int} {c : Int} (h0 : 0 ≤ c) (h1 : o.1 - s.2 ≤ c) (h2 : s.1 - o.2 ≤ c) : gapS s o ≤ c := mx_le (mx_le h0 h1) h2
theorem le_gap1 (s o : Int × Int) : o.1 - s.2 ≤ gapS s o := Int.le_trans (le_mx2 _ _) (le_mx1 _ _)
theorem le_gap2 (s o : Int × Int) : s.1 - o.2 ≤ gapS s o := le_mx2 _ _
/-- sides of a size for squares -/
def Sm (s : Int × Int) : Prop := s.1.natAbs < 4611686018427387904 ∧ s.2.natAbs < 4611686018427387904
theorem gap_sm {s o : Int × Int} (h : Sm s) (k : Sm o) : (gapS s o).natAbs < 18446744073709551616 := by
  obtain ⟨h1, h2⟩ := h
  obtain ⟨k1, k2⟩ := k
  unfold gapS mx
  split <;> split <;> omega
theorem sd_sm {b : List (Int × Int)} (h : ∀ s ∈ b, Sm s) {i : Nat} (hi : i < b.length) : Sm (sd b i) := by
  rw [sd_get hi]
  exact h _ (List.getElem_mem hi)
def nearS (p : Nat → Int) (b : List (Int × Int)) (i : Nat) : Int := gapS (p i, p i) (sd b i)
end Lib
namespace Lib
open PySem PySem.Spec PyProof.Rows L2 Ev
theorem pure_ref {h x : HP} {n : Nat} {ds : List D} (hn : h.length ≤ n) (e : (h ++ x)[n]? = some (.lst ds)) (c : ∀ d ∈ ds, clean d) : pure_ h (.ref n) (h ++ x) = .ok (.lst ds) h := by
  unfold pure_
  rw [if_pos (by simp)]
  have : rlt.rlts h.length ds = true := by
    rw [rlts_eq, List.all_eq_true]
    exact fun d hd => c d hd _
  have n' : ¬ n < h.length := by omega
  simp [fz, rlt, this, e, n']
theorem sq_le_sq {x y : Int} (hx : 0 ≤ x) (h : x ≤ y) : x * x ≤ y * y := Int.mul_le_mul h h hx (by omega)
end Lib
namespace Lib
open PySem PySem.Spec PyProof.Rows L2 Ev
theorem sq_nn (x : Int) : 0 ≤ x * x := by
  by_cases c : 0 ≤ x
  · exact Int.mul_nonneg c c
  · exact Int.le_of_lt (Int.mul_pos_of_neg_of_neg (by omega) (by omega))
theorem near_sm {n : Nat} {p : Nat → Int} {b : List (Int × Int)} (hb : b.length = n) (hp : ∀ i < n, (p i).natAbs < 4611686018427387904) (hs : ∀ s ∈ b, Sm s) : ∀ i < n, (nearS p b i).natAbs < 18446744073709551616 := fun i hi =>
  gap_sm (s := (p i, p i)) ⟨hp i hi, hp i hi⟩ (sd_sm hs (by omega))
end Lib
namespace Lib
open PySem PySem.Spec PyProof.Rows L2 Ev
theorem clean_ins {c : Nat} {fs : List (Str × D)} (h : ∀ p ∈ fs, clean p.2) : clean (.ins c fs) := fun n => by
  simp only [rlt]
  induction fs with
  | nil => rfl
  | cons p fs ih =>
    simp only [rlt.rltf, Bool.and_eq_true]
    exact ⟨h p List.mem_cons_self n, ih fun q hq => h q (List.mem_cons_of_mem _ hq)⟩
theorem pure_ins {h : HP} {c : Nat} {fs : List (Str × D)} (k : ∀ p ∈ fs, clean p.2) : pure_ h (.ref h.length) (h ++ [.ins c fs]) = .ok (.ins c fs) h := by
  unfold pure_
  rw [if_pos (by simp)]
  have := clean_ins (c := c) k h.length
  simp only [rlt] at this
  simp [fz, rlt, this]
structure SetV where
  d : Int
  s : Int
  r : Int
  p : Int
def SetV.ok (S : SetV) : Prop := 2 ≤ S.d ∧ S.d ≤ 3 ∧ 0 ≤ S.s ∧ S.s ≤ 1000000000000 ∧ 0 ≤ S.r ∧ S.r ≤ 1000000000000 ∧ 1 ≤ S.p ∧ S.p ≤ 1000000000000
@[simp] def setF (S : SetV) : List (Str × D) := [("dims", .int S.d), ("speed", .int S.s), ("drift", .int S.r), ("per", .int S.p)]
def setD (S : SetV) : D := .ins 0 (setF S)
@[simp] theorem asI_set (S : SetV) (h : HP) : asI h (setD S) = some (0, setF S) := rfl
theorem clean_set (S : SetV) : clean (setD S) := clean_ins (by simp [clean_int])
def wIn (lo hi x : Int) : Bool := decide (lo ≤ x) && decide (x ≤ hi)
theorem F_allw (xs : List Int) (lo hi : Int) (hz : xs.length ≤ 1000) (h : HP) : F_all_within [.tup (xs.map D.int), .int lo, .int hi] h = .ok (.bl ((xs.map (wIn lo hi)).all id)) h := by
  have lc : C_all_within_1 false [some (.tup (xs.map D.int)), some (.int lo), some (.int hi), none] h = _ :=
    mLc_ty (h1 := h) xs D.int (fun x => .bl (wIn lo hi x)) (by simp) (by omega) (fun i hi' h' => ⟨[some (.tup (xs.map D.int)), some (.int lo), some (.int hi), some (.int i)], by simp, by
      by_cases q : lo ≤ i <;> simp [q, wIn]⟩) fun i _ => clean_bl _
  have pb : ∀ b, pure_ h (.bl b) h = .ok (.bl b) h := fun b => pure_clean h (clean_bl b)
  have e : (xs.map fun x => D.bl (wIn lo hi x)) = (xs.map (wIn lo hi)).map D.bl := by simp
  rw [e] at lc
  have k := blsD_map (xs.map (wIn lo hi))
  generalize (xs.map (wIn lo hi)).map D.bl = ys at *
  generalize xs.map D.int = zs at *
  simp [F_all_within, lc, k, pb]
theorem F_allwT {xs : List Int} {lo hi : Int} (hz : xs.length ≤ 1000) (k : ∀ x ∈ xs, lo ≤ x ∧ x ≤ hi) (h : HP) : F_all_within [.tup (xs.map D.int), .int lo, .int hi] h = .ok (.bl true) h := by
  rw [F_allw xs lo hi hz h]
  congr 2
  rw [List.all_eq_true]
  intro b hb
  obtain ⟨x, hx, rfl⟩ := List.mem_map.mp hb
  have := k x hx
  simp [wIn, this]
theorem F_set_init {S : SetV} (k : S.ok) (h : HP) : F_Setting__init__ [.ref h.length, .int S.d, .int S.s, .int S.r, .int S.p] (h ++ [.ins 0 []]) = .ok .non (h ++ [.ins 0 [("dims", .int S.d), ("speed", .int S.s), ("drift", .int S.r), ("per", .int S.p)]]) := by
  obtain ⟨k1, k2, k3, k4, k5, k6, k7, k8⟩ := k
  have a : ∀ h, F_all_within [.tup [.int S.s, .int S.r], .int 0, .int 1000000000000] h = .ok (.bl true) h := fun h => F_allwT (xs := [S.s, S.r]) (by simp) (by simp [k3, k4, k5, k6]) h
  simp [F_Setting__init__, k1, k2, a, k7, k8]
theorem mk_set {S : SetV} (k : S.ok) (h : HP) : mkR h (F_Setting__init__ [.ref h.length, .int S.d, .int S.s, .int S.r, .int S.p] (h ++ [.ins 0 []])) = .ok (setD S) h := by
  rw [F_set_init k h]
  exact pure_ins (by simp [clean_int])
def qup (n d : Int) : Int := -(-n / d)
theorem F_qup {n d : Int} (h0 : 0 < d) (hd : d ≤ 1000000000000) (h : HP) : F_quotient_up [.int n, .int d] h = .ok (.int (qup n d)) h := by
  have l : Nat.log2 d.natAbs < 9000 := lg (by omega)
  have pr : ∀ z : Int, pure_ h (.int z) h = .ok (.int z) h := fun z => pure_clean h (clean_int z)
  simp [F_quotient_up, h0, l, pr, qup]
theorem qup_ge {n d : Int} (h : 0 < d) : n ≤ d * qup n d := by
  have := Int.ediv_mul_le (-n) (show d ≠ 0 by omega)
  unfold qup
  rw [Int.mul_neg, Int.mul_comm]
  omega
theorem qup_lt {n d : Int} (h : 0 < d) : d * (qup n d - 1) < n := by
  have := Int.lt_ediv_add_one_mul_self (-n) h
  unfold qup
  have e : d * (-(-n / d) - 1) = -((-n / d + 1) * d) := by grind
  rw [e]
  omega
def rchS (S : SetV) (t : Int) : Int := qup (S.s * t) S.p
def slpS (S : SetV) (t : Int) : Int := qup (S.r * t) S.p
theorem set_mul {S : SetV} (k : S.ok) {t : Int} (ht : t.natAbs < 18446744073709551616) : CMulE S.s t ∧ CMulE S.r t := by
  obtain ⟨k1, k2, k3, k4, k5, k6, k7, k8⟩ := k
  exact ⟨mul64 (by omega) ht, mul64 (by omega) ht⟩
theorem F_reach' {S : SetV} (k : S.ok) {t : Int} (ht : t.natAbs < 18446744073709551616) (h : HP) : F_reach [setD S, .int t] h = .ok (.int (rchS S t)) h := by
  obtain ⟨m1, m2⟩ := set_mul k ht
  obtain ⟨k1, k2, k3, k4, k5, k6, k7, k8⟩ := k
  have qu := fun h => F_qup (n := S.s * t) (d := S.p) (by omega) k8 h
  have pr : ∀ z : Int, pure_ h (.int z) h = .ok (.int z) h := fun z => pure_clean h (clean_int z)
  simp [F_reach, List.lookup, m1, qu, pr, rchS]
theorem F_slip' {S : SetV} (k : S.ok) {t : Int} (ht : t.natAbs < 18446744073709551616) (h : HP) : F_slip [setD S, .int t] h = .ok (.int (slpS S t)) h := by
  obtain ⟨m1, m2⟩ := set_mul k ht
  obtain ⟨k1, k2, k3, k4, k5, k6, k7, k8⟩ := k
  have qu := fun h => F_qup (n := S.r * t) (d := S.p) (by omega) k8 h
  have pr : ∀ z : Int, pure_ h (.int z) h = .ok (.int z) h := fun z => pure_clean h (clean_int z)
  simp [F_slip, List.lookup, m2, qu, pr, slpS]
end Lib
namespace Lib
open PySem PySem.Spec PyProof.Rows L2 Ev
theorem gap3 (s o : Int × Int) : (if 0 > (if s.1 - o.2 > o.1 - s.2 then s.1 - o.2 else o.1 - s.2) then 0 else (if s.1 - o.2 > o.1 - s.2 then s.1 - o.2 else o.1 - s.2)) = gapS s o := by
  have e : (if 0 > (if s.1 - o.2 > o.1 - s.2 then s.1 - o.2 else o.1 - s.2) then 0 else (if s.1 - o.2 > o.1 - s.2 then s.1 - o.2 else o.1 - s.2)) = mx (mx (o.1 - s.2) (s.1 - o.2)) 0 := rfl
  rw [e]
  exact Int.le_antisymm (mx_le (mx_le (le_gap1 _ _) (le_gap2 _ _)) (gap_nn _ _)) (gap_le (le_mx2 _ _) (Int.le_trans (le_mx1 _ _) (le_mx1 _ _)) (Int.le_trans (le_mx2 _ _) (le_mx1 _ _)))
theorem set_sz {S : SetV} (k : S.ok) : sz S.d ≤ 64 ∧ sz S.s ≤ 64 ∧ sz S.r ≤ 64 ∧ sz S.p ≤ 64 := by
  obtain ⟨k1, k2, k3, k4, k5, k6, k7, k8⟩ := k
  exact ⟨sz64 (by omega), sz64 (by omega), sz64 (by omega), sz64 (by omega)⟩
end Lib
namespace Lib
open PySem PySem.Spec PyProof.Rows L2 Ev
def W (x : Int) : Prop := sz x ≤ 500
def WS (s : Int × Int) : Prop := W s.1 ∧ W s.2
theorem W.of {x : Int} (h : x.natAbs < 18446744073709551616) : W x := Nat.le_trans (sz64 h) (by decide)
theorem sz_mx {a b : Int} {k : Nat} (h1 : sz a ≤ k) (h2 : sz b ≤ k) : sz (mx a b) ≤ k := by unfold mx; split <;> assumption
theorem sz0 : sz 0 = 0 := by decide
theorem sz_gap {s o : Int × Int} (h : WS s) (k : WS o) : sz (gapS s o) ≤ 501 := by
  have a1 := sz_sub o.1 s.2
  have a2 := sz_sub s.1 o.2
  obtain ⟨h1, h2⟩ := h
  obtain ⟨k1, k2⟩ := k
  unfold W at *
  exact sz_mx (sz_mx (by rw [sz0]; omega) (by omega)) (by omega)
theorem sg_sz {f : Nat → Int} {k : Nat} : ∀ {n : Nat}, (∀ i < n, sz (f i) ≤ k) → sz (sg n f) ≤ k + n
  | 0, _ => by rw [sg_zero, sz0]; omega
  | n + 1, h => by
    have h1 := sg_sz (n := n) fun i hi => h i (by omega)
    have h2 := h n (by omega)
    have h3 := sz_add (sg n f) (f n)
    rw [sg_succ]
    omega
theorem sg_dot {f e : Nat → Int} {k n : Nat} (h : ∀ i < n, sz (f i) ≤ k) (h2 : ∀ i < n, sz (e i) ≤ k) : sz (sg n fun i => f i * e i) ≤ 2 * k + 1 + n :=
  sg_sz fun i hi => by
    have := sz_mul (f i) (e i)
    have := h i hi
    have := h2 i hi
    omega
theorem sd_w {b : List (Int × Int)} (h : ∀ s ∈ b, WS s) {i : Nat} (hi : i < b.length) : WS (sd b i) := by
  rw [sd_get hi]
  exact h _ (List.getElem_mem hi)
def WP (n : Nat) (p : Nat → Int) : Prop := ∀ i < n, W (p i)
section
variable {n : Nat} {p : Nat → Int} {a b : List (Int × Int)}
theorem near_w (hb : b.length = n) (hp : WP n p) (hs : ∀ s ∈ b, WS s) : ∀ i < n, sz (nearS p b i) ≤ 501 := fun i hi => sz_gap (s := (p i, p i)) ⟨hp i hi, hp i hi⟩ (sd_w hs (by omega))
def nearQ (n : Nat) (p : Nat → Int) (b : List (Int × Int)) : Int := sg n fun i => nearS p b i * nearS p b i
theorem dt_lin : ∀ (n : Nat) (p q : Nat → Int) (u v : Int), u * u * dt n p p + 2 * u * v * dt n p q + v * v * dt n q q = dt n (fun i => u * p i + v * q i) (fun i => u * p i + v * q i)
  | 0, p, q, u, v => by simp [dt, sg_zero]
  | n + 1, p, q, u, v => by
    have ih := dt_lin n p q u v
    unfold dt at ih ⊢
    rw [sg_succ, sg_succ, sg_succ, sg_succ, ← ih]
    grind
theorem cauchy (n : Nat) (p q : Nat → Int) : dt n p q * dt n p q ≤ dt n p p * dt n q q := by
  have lin := fun u v => (dt_lin n p q u v).symm ▸ dt_self n (fun i => u * p i + v * q i)
  have hW := dt_self n q
  have hH := dt_self n p
  generalize dt n p q = L at *
  generalize dt n p p = H at *
  generalize dt n q q = V at *
  by_cases c : V = 0
  · subst c
    have := lin 1 (-((H + 1) * L))
    have l0 : L = 0 := by
      apply Decidable.byContradiction
      intro z
      have sq : 1 ≤ L * L := by
        by_cases z2 : 0 < L
        · have := Int.mul_le_mul (show 1 ≤ L by omega) (show 1 ≤ L by omega) (by omega) (by omega)
          omega
        · have := Int.mul_le_mul (show 1 ≤ -L by omega) (show 1 ≤ -L by omega) (by omega) (by omega)
          rw [Int.neg_mul_neg] at this
          omega
      have e : 1 * 1 * H + 2 * 1 * -((H + 1) * L) * L + -((H + 1) * L) * -((H + 1) * L) * 0 = H - 2 * ((H + 1) * (L * L)) := by grind
      rw [e] at this
      have := Int.mul_le_mul_of_nonneg_left sq (show 0 ≤ H + 1 by omega)
      omega
    subst l0
    simp
  · have := lin V (-L)
    have e : V * V * H + 2 * V * -L * L + -L * -L * V = (H * V - L * L) * V := by grind
    rw [e] at this
    have := Int.le_of_mul_le_mul_right (a := V) (b := 0) (c := H * V - L * L) (by rw [Int.zero_mul]; exact this) (by omega)
    omega
def Sz (k n : Nat) (p : Nat → Int) : Prop := ∀ i < n, sz (p i) ≤ k
theorem F_dotW (hn : n ≤ 10) {k : Nat} (hk : k ≤ 10000) {q : Nat → Int} (hp : Sz k n p) (hq : Sz k n q) (h : HP) : F_dot [vec n p, vec n q] h = .ok (.int (dt n p q)) h := by
  have pr : ∀ z : Int, pure_ h (.int z) h = .ok (.int z) h := fun z => pure_clean h (clean_int z)
  have lc : C_dot_1 false [some (vec n p), some (vec n q), none, none] h = _ :=
    mLc_ty (h1 := h) (List.range n) (fun i => .tup [.int (p i), .int (q i)]) (fun i => .int (p i * q i)) (by simp [vec, zip_vec]) (by simp; omega)
      (fun i hi h' => ⟨[some (vec n p), some (vec n q), some (.int (p i)), some (.int (q i))], by simp, by
        have hi' := List.mem_range.mp hi
        have m : CMulE (p i) (q i) := mulX k k (hp i hi') (hq i hi') (by omega)
        simp [m]⟩) fun i _ => clean_int _
  have k := ints_vec n fun i => p i * q i
  simp [F_dot, lc, k, sg, pr, dt]
theorem sub_w {q : Nat → Int} (hp : WP n p) (hq : WP n q) : Sz 501 n (sub p q) := fun i hi => by
  have h1 := hp i hi
  have h2 := hq i hi
  have := sz_sub (p i) (q i)
  unfold W at *
  unfold sub
  omega
theorem dt_w (hn : n ≤ 10) {q : Nat → Int} (hp : Sz 501 n p) (hq : Sz 501 n q) : sz (dt n p q) ≤ 1100 := by
  have := sg_dot hp hq
  unfold dt
  omega
theorem pc1_w (hn : n ≤ 10) {x a t : Nat → Int} (h1 : Sz 501 n (sub x a)) (h2 : Sz 501 n (sub t a)) (h3 : Sz 501 n (sub x t)) : 0 ≤ (pc1 n x a t).1 ∧ sz (pc1 n x a t).1 ≤ 2300 := by
  have W1 := dt_self n (sub x a)
  have W2 := dt_self n (sub t a)
  have W3 := dt_self n (sub x t)
  have q1 := dt_w hn h1 h1
  have q2 := dt_w hn h2 h2
  have q3 := dt_w hn h1 h2
  have q4 := dt_w hn h3 h3
  unfold pc1
  split
  · exact ⟨W1, by show sz (dt n (sub x a) (sub x a)) ≤ 2300; omega⟩
  · split
    · exact ⟨W3, by show sz (dt n (sub x t) (sub x t)) ≤ 2300; omega⟩
    · rename_i c1 c2
      have r1 := sz_mul (dt n (sub x a) (sub x a)) (dt n (sub t a) (sub t a))
      have r2 := sz_mul (dt n (sub x a) (sub t a)) (dt n (sub x a) (sub t a))
      have r3 := sz_sub (dt n (sub x a) (sub x a) * dt n (sub t a) (sub t a)) (dt n (sub x a) (sub t a) * dt n (sub x a) (sub t a))
      refine ⟨?_, by show sz (_ - _) ≤ 2300; omega⟩
      show 0 ≤ dt n (sub x a) (sub x a) * dt n (sub t a) (sub t a) - dt n (sub x a) (sub t a) * dt n (sub x a) (sub t a)
      have := cauchy n (sub x a) (sub t a)
      omega
end
end Lib
namespace Lib
open PySem PySem.Spec PyProof.Rows L2 Ev
section
variable {n : Nat} {p : Nat → Int} {b : List (Int × Int)}
theorem Sz.mono {j k : Nat} {p : Nat → Int} (h : Sz j n p) (l : j ≤ k) : Sz k n p := fun i hi => Nat.le_trans (h i hi) l
/-- a box's numbers of at most 480 bits, points as well -/
def V (x : Int) : Prop := sz x ≤ 480
def VS (s : Int × Int) : Prop := V s.1 ∧ V s.2
def VP (n : Nat) (p : Nat → Int) : Prop := ∀ i < n, V (p i)
theorem VS.w {s : Int × Int} (h : VS s) : WS s := ⟨Nat.le_trans h.1 (by decide), Nat.le_trans h.2 (by decide)⟩
theorem VP.w (h : VP n p) : WP n p := fun i hi => Nat.le_trans (h i hi) (by decide)
theorem pc2_w (hn : n ≤ 10) {x a t : Nat → Int} (h1 : Sz 501 n (sub x a)) (h2 : Sz 501 n (sub t a)) (h3 : Sz 501 n (sub x t)) : 0 ≤ (pc2 n x a t).1 ∧ sz (pc2 n x a t).1 ≤ 2300 ∧ 0 ≤ (pc2 n x a t).2 ∧ sz (pc2 n x a t).2 ≤ 2300 := by
  obtain ⟨a1, a2⟩ := pc1_w hn h1 h2 h3
  have W := pc1_pos n x a t
  have d := div_facts (pc1 n x a t).1 (pc1 n x a t).2 W
  have s1 := sz_div (i := (pc1 n x a t).1) W
  have s2 := sz_div (i := -(pc1 n x a t).1) W
  have s3 := sz_neg (pc1 n x a t).1
  have s4 := sz_neg (-(pc1 n x a t).1 / (pc1 n x a t).2)
  unfold pc2
  simp only
  refine ⟨Int.ediv_nonneg a1 (by omega), by omega, ?_, by omega⟩
  have : -(pc1 n x a t).1 / (pc1 n x a t).2 ≤ 0 := by
    have := Int.ediv_le_ediv W (show -(pc1 n x a t).1 ≤ 0 by omega)
    rw [Int.zero_ediv] at this
    exact this
  omega
/-- boxes of a kind -/
def BsOk (n : Nat) (bs : List (List (Int × Int))) : Prop := 0 < bs.length ∧ bs.length ≤ 1000 ∧ ∀ b ∈ bs, b.length = n ∧ ∀ s ∈ b, VS s
/-- kinds with numbers of a size -/
def KdV (n : Nat) : Kd → Prop
  | .range p => VP n p
  | .clocked p => VP n p
  | .differ p q => VP n p ∧ VP n q
  | .piece p q => VP n p ∧ VP n q
  | .side p => VP n p
  | .boxes bs => BsOk n bs
end
end Lib
namespace Lib
open PySem PySem.Spec PyProof.Rows L2 Ev
theorem rd_lt {x y : Int} (hx : 0 ≤ x) (hy : 0 ≤ y) (h : x * x < y * y) : x < y := by
  apply Decidable.byContradiction
  intro c
  have := sq_le_sq hy (show y ≤ x by omega)
  omega
theorem rd_max {n r : Int} (hn : 0 ≤ n) (h : r * r ≤ n) : r ≤ rd n := by
  obtain ⟨h0, h1, h2⟩ := rd_spec hn
  by_cases c : 0 ≤ r
  · have := rd_lt c (show 0 ≤ rd n + 1 by omega) (by omega)
    omega
  · omega
theorem rd_mono {a b : Int} (ha : 0 ≤ a) (h : a ≤ b) : rd a ≤ rd b := rd_max (by omega) (by have := (rd_spec ha).2.1; omega)
theorem ru_min {n r : Int} (hn : 0 ≤ n) (hr : 0 ≤ r) (h : n ≤ r * r) : ru n ≤ r := by
  obtain ⟨h0, h1, h2⟩ := ru_spec hn
  by_cases c : 0 < ru n
  · have := rd_lt (show 0 ≤ ru n - 1 by omega) hr (by have := h2 c; omega)
    omega
  · omega
theorem rd_le_ru {n : Int} (hn : 0 ≤ n) : rd n ≤ ru n := by unfold ru; split <;> omega
def adv (u v : Nat → Int) : Nat → Int := fun i => u i + v i
theorem dt_add (n : Nat) (u v : Nat → Int) : dt n (adv u v) (adv u v) = dt n u u + 2 * dt n u v + dt n v v := by
  have := dt_lin n u v 1 1
  have e : (fun i => 1 * u i + 1 * v i) = adv u v := by funext i; simp [adv]
  rw [e] at this
  rw [← this]
  omega
theorem dt_le {n : Nat} {u v : Nat → Int} {α β : Int} (ha : 0 ≤ α) (hb : 0 ≤ β) (h1 : dt n u u ≤ α * α) (h2 : dt n v v ≤ β * β) : dt n u v ≤ α * β := by
  have c := cauchy n u v
  have m : dt n u u * dt n v v ≤ α * α * (β * β) := Int.mul_le_mul h1 h2 (dt_self n v) (Int.mul_nonneg ha ha)
  have e : α * α * (β * β) = α * β * (α * β) := by grind
  apply Decidable.byContradiction
  intro z
  have q := Int.mul_nonneg ha hb
  have := sq_le_sq (x := α * β + 1) (y := dt n u v) (by omega) (by omega)
  have e2 : (α * β + 1) * (α * β + 1) = α * β * (α * β) + 2 * (α * β) + 1 := by grind
  omega
theorem tri {n : Nat} {u v : Nat → Int} {α β : Int} (ha : 0 ≤ α) (hb : 0 ≤ β) (h1 : dt n u u ≤ α * α) (h2 : dt n v v ≤ β * β) : dt n (adv u v) (adv u v) ≤ (α + β) * (α + β) := by
  have := dt_le ha hb h1 h2
  rw [dt_add]
  have e : (α + β) * (α + β) = α * α + 2 * (α * β) + β * β := by grind
  omega
/-- the way from a place of the piece, times P -/
def pv (x a t : Nat → Int) (P q : Int) : Nat → Int := fun i => P * sub x a i + -q * sub t a i
end Lib
namespace Lib
open PySem PySem.Spec PyProof.Rows L2 Ev
section
variable {asg : TF} {body : SM} {d : D} {ds : List D} {env e e' : EN} {h h' : HP}
theorem for_nx (ha : asg d env h = some e) (hb : body e h = .nx e' h') : forE asg body [] (d :: ds) env h = forE asg body [] ds e' h' := by
  conv => lhs; unfold forE
  rw [if_pos (by simp), ha]
  simp only [hb]
end
theorem sg_mono {f g : Nat → Int} : ∀ {n : Nat}, (∀ i < n, f i ≤ g i) → sg n f ≤ sg n g
  | 0, _ => by simp [sg_zero]
  | n + 1, h => by
    have h1 := sg_mono (n := n) fun i hi => h i (by omega)
    have h2 := h n (by omega)
    rw [sg_succ, sg_succ]
    omega
theorem sq_abs {x y : Int} (h1 : -y ≤ x) (h2 : x ≤ y) : x * x ≤ y * y := by
  by_cases c : 0 ≤ x
  · exact sq_le_sq c h2
  · have := sq_le_sq (x := -x) (y := y) (by omega) (by omega)
    rw [Int.neg_mul_neg] at this
    exact this
theorem min_ex {α : Type} {f : α → Int} {xs : List α} (h0 : 0 < xs.length) : ∃ x ∈ xs, minL (xs.map f) = f x := by
  obtain ⟨x, hx, e⟩ := List.mem_map.mp (minL_mem (ns := xs.map f) (fun z => by rw [List.map_eq_nil_iff] at z; subst z; simp at h0)).1
  exact ⟨x, hx, e.symm⟩
section
end
end Lib
namespace Lib
open PySem PySem.Spec PyProof.Rows L2 Ev
def lvec (n : Nat) (p : Nat → Int) : D := .lst ((List.range n).map fun i => .int (p i))
def VL (d : D) (n : Nat) (p : Nat → Int) : Prop := d = vec n p ∨ d = lvec n p
theorem clean_lvec (n : Nat) (p : Nat → Int) : clean (lvec n p) := clean_lst fun d hd => by
  obtain ⟨i, _, rfl⟩ := List.mem_map.mp hd
  exact clean_int _
section
variable {n : Nat} {p q : Nat → Int} {a b : List (Int × Int)}
theorem F_law_squareW (hn : n ≤ 10) {x y : D} (hx : VL x n p) (hy : VL y n q) (hp : WP n p) (hq : WP n q) (h : HP) : F__law_square [x, y] h = .ok (.int (dt n (sub p q) (sub p q))) h := by
  have pr : ∀ z : Int, pure_ h (.int z) h = .ok (.int z) h := fun z => pure_clean h (clean_int z)
  have rg : Rg (n : Int) := rg_nat (by omega)
  have sw := sub_w hp hq
  have lc : C__law_square_1 false [some x, some y, none] h = _ :=
    mLc_ty (h1 := h) (List.range n) (fun i => .int (i : Nat)) (fun i => .int (sub p q i * sub p q i)) (by rcases hx with rfl | rfl <;> simp [vec, lvec, rg, rngD_eq]) (by simp; omega)
      (fun i hi h' => ⟨[some x, some y, some (.int (i : Nat))], by simp, by
        have hi' := List.mem_range.mp hi
        have m : CMulE (p i - q i) (p i - q i) := mulX 501 501 (sw i hi') (sw i hi') (by omega)
        have a1 := at_vec (p := p) hi'
        have a2 := at_vec (p := q) hi'
        rcases hx with rfl | rfl <;> rcases hy with rfl | rfl <;> simp [vec, lvec, a1, a2, m, sub]⟩) fun i _ => clean_int _
  have k := ints_vec n fun i => sub p q i * sub p q i
  simp [F__law_square, lc, k, sg, pr, dt]
theorem gap3' (s1 s2 o1 o2 : Int) : (if 0 > (if s1 - o2 > o1 - s2 then s1 - o2 else o1 - s2) then 0 else (if s1 - o2 > o1 - s2 then s1 - o2 else o1 - s2)) = gapS (s1, s2) (o1, o2) := gap3 (s1, s2) (o1, o2)
theorem fb_turn {i : Nat} (hi : i < n) {x : D} (hx : VL x n p) (hb : b.length = n) (hp : WP n p) (hs : ∀ s ∈ b, WS s) (c : Int) (z1 z2 z6 : Option D) (h : HP) :
    ∃ y6, B__law_from_boxes_1 [some x, z1, z2, some (boxD b), some (.int c), some (.int i), z6] h = .nx [some x, z1, z2, some (boxD b), some (.int (c + nearS p b i * nearS p b i)), some (.int i), y6] h := by
  have a1 := at_box (b := b) (i := i) (by omega)
  rw [← sd_get (by omega)] at a1
  have a2 := at_vec (p := p) hi
  have nw := near_w hb hp hs i hi
  have m : CMulE (nearS p b i) (nearS p b i) := mulX 501 501 nw nw (by decide)
  have g := gap3' (p i) (p i) (sd b i).1 (sd b i).2
  have e : gapS (p i, p i) ((sd b i).1, (sd b i).2) = nearS p b i := rfl
  rw [e] at g
  simp only [gt_iff_lt] at g
  refine ⟨some (.int (nearS p b i)), ?_⟩
  rcases hx with rfl | rfl <;> simp [vec, lvec, boxD, a1, a2, sideD, g, m]
end
end Lib
namespace Lib
open PySem PySem.Spec PyProof.Rows L2 Ev
section
variable {n : Nat} {p x : Nat → Int} {b o : List (Int × Int)}
def Pl (n : Nat) (b : List (Int × Int)) (x : Nat → Int) : Prop := ∀ i < n, (sd b i).1 ≤ x i ∧ x i ≤ (sd b i).2
theorem near_pl (h : Pl n b x) : nearQ n p b ≤ dt n (sub x p) (sub x p) := sg_mono fun i hi => by
  obtain ⟨h1, h2⟩ := h i hi
  unfold nearS sub
  by_cases c : p i ≤ x i
  · exact sq_le_sq (gap_nn _ _) (gap_le (by omega) (by simp only; omega) (by simp only; omega))
  · have := sq_le_sq (gap_nn (p i, p i) (sd b i)) (gap_le (s := (p i, p i)) (o := sd b i) (c := p i - x i) (by omega) (by simp only; omega) (by simp only; omega))
    have e : (x i - p i) * (x i - p i) = (p i - x i) * (p i - x i) := by grind
    omega
end
end Lib
namespace Lib
open PySem PySem.Spec PyProof.Rows L2 Ev
abbrev goodS : Str := "abcdefghijklmnopqrstuvwxyz0123456789_-"
def inG (c : Nat) : Bool := !(Builtin.Str.occurrences goodS ⟨#[c]⟩ 0 goodS.length 1).isEmpty
theorem in_good (c : Nat) (h : HP) : fIn false (.str ⟨#[c]⟩) (.str goodS) h = .ok (.bl (inG c)) h := rfl
def inAll (z : Str) : Bool := (z.cps.toList.map inG).all id
def isn (z : Str) : Bool := (decide (1 ≤ z.length) && decide (z.length ≤ 64)) && inAll z
theorem F_name (z : Str) (hz : z.length ≤ 1000) (h : HP) : F_is_name [.str z] h = .ok (.bl (isn z)) h := by
  have p : ∀ b : Bool, pure_ h (.bl b) h = .ok (.bl b) h := fun b => pure_clean h (clean_bl b)
  have lz : z.cps.toList.length = z.length := by simp [Str.length]
  have zl : z.length ≤ sizeLine := by rw [sizeLine_eq]; omega
  have lc : C_is_name_1 false [some (.str z), none] h = _ :=
    mLc_ty (h1 := h) z.cps.toList (fun c => .str ⟨#[c]⟩) (fun c => .bl (inG c)) (by simp) (by omega)
      (fun c _ h' => ⟨[some (.str z), some (.str ⟨#[c]⟩)], by simp, by simp [-fIn, in_good]⟩) fun c _ => clean_bl _
  have k := blsD_map (z.cps.toList.map inG)
  simp only [List.map_map] at k
  have e : D.bl ∘ inG = fun c => D.bl (inG c) := rfl
  rw [e] at k
  have e2 : (z.cps.toList.map inG).all id = inAll z := rfl
  generalize z.cps.toList.map (fun c => D.bl (inG c)) = xs at *
  generalize z.cps.toList.map inG = ys at *
  unfold isn
  by_cases c1 : 1 ≤ z.length
  · have c1i : (1 : Int) ≤ (z.length : Int) := by omega
    by_cases c2 : z.length ≤ 64
    · have c2i : (z.length : Int) ≤ 64 := by omega
      simp [F_is_name, zl, c1, c2, c1i, c2i, lc, k, e2, p]
    · have c2i : ¬ (z.length : Int) ≤ 64 := by omega
      simp [F_is_name, zl, c1, c2, p, c1i, c2i]
  · have c1i : ¬ (1 : Int) ≤ (z.length : Int) := by omega
    simp [F_is_name, zl, c1, c1i, p]
def In12 (x : Int) : Prop := -1000000000000 ≤ x ∧ x ≤ 1000000000000
def SideOk (s : Int × Int) : Prop := -1000000000000 ≤ s.1 ∧ s.1 ≤ s.2 ∧ s.2 ≤ 1000000000000
def KdH (n : Nat) : Kd → Prop
  | .range p => ∀ i < n, In12 (p i)
  | .clocked p => ∀ i < n, In12 (p i)
  | .differ p q => (∀ i < n, In12 (p i)) ∧ ∀ i < n, In12 (q i)
  | .piece p q => (∀ i < n, In12 (p i)) ∧ ∀ i < n, In12 (q i)
  | .side p => (∀ i < n, -1000 ≤ p i ∧ p i ≤ 1000) ∧ ∃ i < n, p i ≠ 0
  | .boxes bs => 1 ≤ bs.length ∧ bs.length ≤ 16 ∧ ∀ b ∈ bs, b.length ≤ 1000 ∧ ∀ s ∈ b, SideOk s
section
variable {n : Nat}
theorem F_allwV (hn : n ≤ 10) {p : Nat → Int} {lo hi : Int} (hp : ∀ i < n, lo ≤ p i ∧ p i ≤ hi) (h : HP) : F_all_within [vec n p, .int lo, .int hi] h = .ok (.bl true) h := by
  have e : vec n p = .tup (((List.range n).map p).map D.int) := by simp [vec]
  rw [e]
  exact F_allwT (by simp; omega) (fun x hx => by
    obtain ⟨i, hi, rfl⟩ := List.mem_map.mp hx
    exact hp i (List.mem_range.mp hi)) h
theorem alltrue (k : Nat) : ((List.replicate k true).all id) = true := by
  rw [List.all_eq_true]
  intro x hx
  exact (List.mem_replicate.mp hx).2
theorem map_true {α : Type} (xs : List α) : xs.map (fun _ => D.bl true) = (List.replicate xs.length true).map D.bl := by
  rw [List.map_replicate]
  exact List.map_const' ..
theorem F_sides_within' {b : List (Int × Int)} (hb : b.length ≤ 1000) (hs : ∀ s ∈ b, SideOk s) (h : HP) : F_sides_within [boxD b, .int 1000000000000] h = .ok (.bl true) h := by
  have p := pure_clean h (clean_bl true)
  have lc : C_sides_within_1 false [some (boxD b), some (.int 1000000000000), none, none] h = _ :=
    mLc_ty (h1 := h) b sideD (fun _ => .bl true) (by simp [boxD]) (by omega)
      (fun s hS h' => ⟨[some (boxD b), some (.int 1000000000000), some (.int s.1), some (.int s.2)], by simp [sideD], by
        obtain ⟨h1, h2, h3⟩ := hs s hS
        simp [h1, h2, h3]⟩) fun s _ => clean_bl _
  rw [map_true] at lc
  have k := blsD_map (List.replicate b.length true)
  have e := alltrue b.length
  generalize (List.replicate b.length true).map D.bl = ys at *
  generalize List.replicate b.length true = zs at *
  simp [F_sides_within, lc, k, e, p]
theorem F_boxes_hold' {bs : List (List (Int × Int))} (h0 : 1 ≤ bs.length) (h1 : bs.length ≤ 16) (hs : ∀ b ∈ bs, b.length ≤ 1000 ∧ ∀ s ∈ b, SideOk s) (h : HP) : F__boxes_hold [boxesD bs] h = .ok (.bl true) h := by
  have p := pure_clean h (clean_bl true)
  have lc : C__boxes_hold_1 false [some (boxesD bs), none] h = _ :=
    mLc_ty (h1 := h) bs boxD (fun _ => .bl true) (by simp [boxesD]) (by omega)
      (fun b hB h' => ⟨[some (boxesD bs), some (boxD b)], by simp, by
        have := F_sides_within' (hs b hB).1 (hs b hB).2 h'
        simp [this]⟩) fun s _ => clean_bl _
  rw [map_true] at lc
  have k := blsD_map (List.replicate bs.length true)
  have e := alltrue bs.length
  have i1 : (1 : Int) ≤ (bs.length : Int) := by omega
  have i2 : (bs.length : Int) ≤ 16 := by omega
  have l : (bs.map boxD).length = bs.length := by simp
  unfold boxesD at *
  generalize (List.replicate bs.length true).map D.bl = ys at *
  generalize List.replicate bs.length true = zs at *
  generalize bs.map boxD = us at *
  simp [F__boxes_hold, l, i1, i2, lc, k, e, p]
theorem F_direction' (hn : n ≤ 10) {p : Nat → Int} (hp : ∀ i < n, -1000 ≤ p i ∧ p i ≤ 1000) (h0 : ∃ i < n, p i ≠ 0) (h : HP) : F__direction_holds [vec n p] h = .ok (.bl true) h := by
  have pr := pure_clean h (clean_bl true)
  have a : ∀ h, F_all_within [vec n p, .int (-1000), .int 1000] h = .ok (.bl true) h := fun h => F_allwV hn hp h
  have lc : C__direction_holds_1 false [some (vec n p), none] h = _ :=
    mLc_ty (h1 := h) (List.range n) (fun i => .int (p i)) (fun i => .bl (decide (p i ≠ 0))) (by simp [vec]) (by simp; omega)
      (fun i hi h' => ⟨[some (vec n p), some (.int (p i))], by simp, by
        simp [sh_int, PyData.eqv]
        by_cases q : p i = 0 <;> simp [q]⟩) fun s _ => clean_bl _
  have e : (List.range n).map (fun i => D.bl (decide (p i ≠ 0))) = ((List.range n).map fun i => decide (p i ≠ 0)).map D.bl := by simp
  rw [e] at lc
  have k := blsD_map ((List.range n).map fun i => decide (p i ≠ 0))
  have e2 : ((List.range n).map fun i => decide (p i ≠ 0)).any id = true := by
    rw [List.any_eq_true]
    obtain ⟨i, hi, q⟩ := h0
    exact ⟨true, List.mem_map.mpr ⟨i, List.mem_range.mpr hi, by simp [q]⟩, rfl⟩
  generalize ((List.range n).map fun i => decide (p i ≠ 0)).map D.bl = ys at *
  generalize ((List.range n).map fun i => decide (p i ≠ 0)) = zs at *
  simp [F__direction_holds, a, lc, k, e2, pr]
@[simp] theorem eqd_range_range : eqD (.str "range") (.str "range") = true := by unfold eqD; decide +kernel
@[simp] theorem eqd_range_clocked : eqD (.str "range") (.str "clocked") = false := by unfold eqD; decide +kernel
@[simp] theorem eqd_range_differ : eqD (.str "range") (.str "differ") = false := by unfold eqD; decide +kernel
@[simp] theorem eqd_range_piece : eqD (.str "range") (.str "piece") = false := by unfold eqD; decide +kernel
@[simp] theorem eqd_range_side : eqD (.str "range") (.str "side") = false := by unfold eqD; decide +kernel
@[simp] theorem eqd_range_boxes : eqD (.str "range") (.str "boxes") = false := by unfold eqD; decide +kernel
@[simp] theorem eqd_clocked_range : eqD (.str "clocked") (.str "range") = false := by unfold eqD; decide +kernel
@[simp] theorem eqd_clocked_clocked : eqD (.str "clocked") (.str "clocked") = true := by unfold eqD; decide +kernel
@[simp] theorem eqd_clocked_differ : eqD (.str "clocked") (.str "differ") = false := by unfold eqD; decide +kernel
@[simp] theorem eqd_clocked_piece : eqD (.str "clocked") (.str "piece") = false := by unfold eqD; decide +kernel
@[simp] theorem eqd_clocked_side : eqD (.str "clocked") (.str "side") = false := by unfold eqD; decide +kernel
@[simp] theorem eqd_clocked_boxes : eqD (.str "clocked") (.str "boxes") = false := by unfold eqD; decide +kernel
@[simp] theorem eqd_differ_range : eqD (.str "differ") (.str "range") = false := by unfold eqD; decide +kernel
@[simp] theorem eqd_differ_clocked : eqD (.str "differ") (.str "clocked") = false := by unfold eqD; decide +kernel
@[simp] theorem eqd_differ_differ : eqD (.str "differ") (.str "differ") = true := by unfold eqD; decide +kernel
@[simp] theorem eqd_differ_piece : eqD (.str "differ") (.str "piece") = false := by unfold eqD; decide +kernel
@[simp] theorem eqd_differ_side : eqD (.str "differ") (.str "side") = false := by unfold eqD; decide +kernel
@[simp] theorem eqd_differ_boxes : eqD (.str "differ") (.str "boxes") = false := by unfold eqD; decide +kernel
@[simp] theorem eqd_piece_range : eqD (.str "piece") (.str "range") = false := by unfold eqD; decide +kernel
@[simp] theorem eqd_piece_clocked : eqD (.str "piece") (.str "clocked") = false := by unfold eqD; decide +kernel
@[simp] theorem eqd_piece_differ : eqD (.str "piece") (.str "differ") = false := by unfold eqD; decide +kernel
@[simp] theorem eqd_piece_piece : eqD (.str "piece") (.str "piece") = true := by unfold eqD; decide +kernel
@[simp] theorem eqd_piece_side : eqD (.str "piece") (.str "side") = false := by unfold eqD; decide +kernel
@[simp] theorem eqd_piece_boxes : eqD (.str "piece") (.str "boxes") = false := by unfold eqD; decide +kernel
@[simp] theorem eqd_side_range : eqD (.str "side") (.str "range") = false := by unfold eqD; decide +kernel
@[simp] theorem eqd_side_clocked : eqD (.str "side") (.str "clocked") = false := by unfold eqD; decide +kernel
@[simp] theorem eqd_side_differ : eqD (.str "side") (.str "differ") = false := by unfold eqD; decide +kernel
@[simp] theorem eqd_side_piece : eqD (.str "side") (.str "piece") = false := by unfold eqD; decide +kernel
@[simp] theorem eqd_side_side : eqD (.str "side") (.str "side") = true := by unfold eqD; decide +kernel
@[simp] theorem eqd_side_boxes : eqD (.str "side") (.str "boxes") = false := by unfold eqD; decide +kernel
@[simp] theorem eqd_boxes_range : eqD (.str "boxes") (.str "range") = false := by unfold eqD; decide +kernel
@[simp] theorem eqd_boxes_clocked : eqD (.str "boxes") (.str "clocked") = false := by unfold eqD; decide +kernel
@[simp] theorem eqd_boxes_differ : eqD (.str "boxes") (.str "differ") = false := by unfold eqD; decide +kernel
@[simp] theorem eqd_boxes_piece : eqD (.str "boxes") (.str "piece") = false := by unfold eqD; decide +kernel
@[simp] theorem eqd_boxes_side : eqD (.str "boxes") (.str "side") = false := by unfold eqD; decide +kernel
@[simp] theorem eqd_boxes_boxes : eqD (.str "boxes") (.str "boxes") = true := by unfold eqD; decide +kernel
theorem cut1_2 (a b : D) : Ev.cutD [a, b] (some 1) none = [b] := cut_from (i := 1) (by simp)
theorem cut1_3 (a b c : D) : Ev.cutD [a, b, c] (some 1) none = [b, c] := cut_from (i := 1) (by simp)
theorem F_kind_holds' (hn : n ≤ 10) {K : Kd} (hK : KdH n K) (h : HP) : F__kind_holds [kdD n K] h = .ok (.bl true) h := by
  have pr := pure_clean h (clean_bl true)
  have pt : ∀ {p : Nat → Int}, (∀ i < n, In12 (p i)) → ∀ h, F_all_within [vec n p, .int (-1000000000000), .int 1000000000000] h = .ok (.bl true) h := fun hp h => F_allwV hn hp h
  cases K with
  | range p =>
    have lc : C__kind_holds_1 false [some (.tup [.str "range", vec n p]), none] h = _ :=
      mLc_ty (h1 := h) [p] (vec n) (fun _ => .bl true) (by simp [cut1_2]) (by simp)
        (fun q hq h' => ⟨[some (.tup [.str "range", vec n p]), some (vec n q)], by simp, by
          simp only [List.mem_singleton] at hq
          subst hq
          simp [pt hK]⟩) fun s _ => clean_bl _
    simp only [kdD]
    simp [F__kind_holds, lc, pr]
  | clocked p =>
    have lc : C__kind_holds_1 false [some (.tup [.str "clocked", vec n p]), none] h = _ :=
      mLc_ty (h1 := h) [p] (vec n) (fun _ => .bl true) (by simp [cut1_2]) (by simp)
        (fun q hq h' => ⟨[some (.tup [.str "clocked", vec n p]), some (vec n q)], by simp, by
          simp only [List.mem_singleton] at hq
          subst hq
          simp [pt hK]⟩) fun s _ => clean_bl _
    simp only [kdD]
    simp [F__kind_holds, lc, pr]
  | differ p t =>
    have lc : C__kind_holds_1 false [some (.tup [.str "differ", vec n p, vec n t]), none] h = _ :=
      mLc_ty (h1 := h) [p, t] (vec n) (fun _ => .bl true) (by simp [cut1_3]) (by simp)
        (fun q hq h' => ⟨[some (.tup [.str "differ", vec n p, vec n t]), some (vec n q)], by simp, by
          simp only [List.mem_cons, List.not_mem_nil, or_false] at hq
          rcases hq with rfl | rfl
          · simp [pt hK.1]
          · simp [pt hK.2]⟩) fun s _ => clean_bl _
    simp only [kdD]
    simp [F__kind_holds, lc, pr]
  | piece p t =>
    have lc : C__kind_holds_1 false [some (.tup [.str "piece", vec n p, vec n t]), none] h = _ :=
      mLc_ty (h1 := h) [p, t] (vec n) (fun _ => .bl true) (by simp [cut1_3]) (by simp)
        (fun q hq h' => ⟨[some (.tup [.str "piece", vec n p, vec n t]), some (vec n q)], by simp, by
          simp only [List.mem_cons, List.not_mem_nil, or_false] at hq
          rcases hq with rfl | rfl
          · simp [pt hK.1]
          · simp [pt hK.2]⟩) fun s _ => clean_bl _
    simp only [kdD]
    simp [F__kind_holds, lc, pr]
  | side p =>
    have d := fun h => F_direction' hn hK.1 hK.2 h
    simp only [kdD]
    simp [F__kind_holds, d, pr]
  | boxes bs =>
    have d := fun h => F_boxes_hold' hK.1 hK.2.1 hK.2.2 h
    simp only [kdD]
    simp [F__kind_holds, d, pr]
end
end Lib
namespace Lib
open PySem PySem.Spec PyProof.Rows L2 Ev
structure RdV where
  src : Str
  mo : Int
  kd : Kd
  lo : Int
  hi : Int
  la : Int
  ne : Int
@[simp] def rdF (n : Nat) (R : RdV) : List (Str × D) := [("source", .str R.src), ("moment", .int R.mo), ("kind", kdD n R.kd), ("low", .int R.lo), ("high", .int R.hi), ("late", .int R.la), ("near", .int R.ne)]
def rdD (n : Nat) (R : RdV) : D := .ins 1 (rdF n R)
@[simp] theorem asI_rd (n : Nat) (R : RdV) (h : HP) : asI h (rdD n R) = some (1, rdF n R) := rfl
theorem clean_rd (n : Nat) (R : RdV) : clean (rdD n R) := clean_ins (by simp [clean_int, clean_str, clean_kd])
structure RdOk (n : Nat) (R : RdV) : Prop where
  ln : R.src.length ≤ 1000
  nm : isn R.src = true
  mo : In12 R.mo
  kd : KdH n R.kd
  lh : -1000000000000000 ≤ R.lo ∧ R.lo ≤ R.hi ∧ R.hi ≤ 1000000000000000
  la : 0 ≤ R.la ∧ R.la ≤ 1000000000000
  ne : 0 ≤ R.ne ∧ R.ne ≤ 1000000000000
theorem F_read_init {n : Nat} (hn : n ≤ 10) {R : RdV} (k : RdOk n R) (h : HP) : F_Reading__init__ [.ref h.length, .str R.src, .int R.mo, kdD n R.kd, .int R.lo, .int R.hi, .int R.la, .int R.ne] (h ++ [.ins 1 []]) = .ok .non (h ++ [.ins 1 (rdF n R)]) := by
  have a : ∀ h, F_all_within [.tup [.int R.la, .int R.ne], .int 0, .int 1000000000000] h = .ok (.bl true) h := fun h => F_allwT (xs := [R.la, R.ne]) (by simp) (by simp [k.la, k.ne]) h
  have nm := fun h => F_name R.src k.ln h
  rw [k.nm] at nm
  have kh := fun h => F_kind_holds' hn k.kd h
  obtain ⟨m1, m2⟩ := k.mo
  obtain ⟨l1, l2, l3⟩ := k.lh
  generalize hK : kdD n R.kd = kk at *
  simp [F_Reading__init__, nm, m1, m2, kh, l1, l2, l3, a, hK]
theorem mk_read {n : Nat} (hn : n ≤ 10) {R : RdV} (k : RdOk n R) (h : HP) : mkR h (F_Reading__init__ [.ref h.length, .str R.src, .int R.mo, kdD n R.kd, .int R.lo, .int R.hi, .int R.la, .int R.ne] (h ++ [.ins 1 []])) = .ok (rdD n R) h := by
  rw [F_read_init hn k h]
  exact pure_ins (by simp [clean_int, clean_str, clean_kd])
end Lib
namespace Lib
open PySem PySem.Spec PyProof.Rows L2 Ev
def absI (x : Int) : Int := if x < 0 then -x else x
end Lib
namespace Lib
open PySem PySem.Spec PyProof.Rows L2 Ev
section
variable {n : Nat} {p q w x : Nat → Int} {b o : List (Int × Int)}
def vq (n : Nat) (w p : Nat → Int) : Int := dt n (sub w p) (sub w p)
/-- what the law works out of a kind at a place -/
def lawV (n : Nat) (K : Kd) (w : Nat → Int) (c : Int) : Int × Int := match K with
  | .range p => (rd (vq n w p), ru (vq n w p))
  | .clocked p => (rd (vq n w p) + c, ru (vq n w p) + c)
  | .differ p q => (rd (vq n w p) - ru (vq n w q), ru (vq n w p) - rd (vq n w q))
  | .side p => (dt n p w, dt n p w)
  | .piece a t => (rd (pc2 n w a t).1, ru (pc2 n w a t).2)
  | .boxes bs => (rd (minL (bs.map (nearQ n w))), ru (minL (bs.map (nearQ n w))))
theorem pc2_le {a t : Nat → Int} : (pc2 n w a t).1 ≤ (pc2 n w a t).2 := by
  have p := pc1_pos n w a t
  have d := div_facts (pc1 n w a t).1 (pc1 n w a t).2 p
  have e1 : (pc2 n w a t).1 = (pc1 n w a t).1 / (pc1 n w a t).2 := rfl
  have e2 : (pc2 n w a t).2 = -(-(pc1 n w a t).1 / (pc1 n w a t).2) := rfl
  rw [e1, e2]
  exact Int.le_of_mul_le_mul_right (show (pc1 n w a t).1 / (pc1 n w a t).2 * (pc1 n w a t).2 ≤ -(-(pc1 n w a t).1 / (pc1 n w a t).2) * (pc1 n w a t).2 by omega) p
end
end Lib
namespace Lib
open PySem PySem.Spec PyProof.Rows L2 Ev
theorem eqvI (a b : Int) : PyData.eqv (.int a) (.int b) = (a == b) := by simp [PyData.eqv]
theorem seq_nx {a b : SM} {e e' : EN} {h h' : HP} (ha : a e h = .nx e' h') : (sSeq a b) e h = b e' h' := by simp [sSeq, ha]
def rC0 (ns : List Int) (k : Nat) : Int := if ns.length = 0 then 0 else ns.getD (k % ns.length) 0
def rC1 (ns : List Int) (k : Nat) : Int := if rC0 ns k < 0 then 1 - 2 * rC0 ns k else rC0 ns k
def rC2 (ns : List Int) (k : Nat) : Int := if ns.length ≤ k ∨ rC1 ns k < 1000000000 then ((((rC1 ns k + 131 * k + 7) * 48271 + (k : Int) * k * 69621) % 1000000007) + 17 * k + 3) * 2862933555777941757 % 18446744073709551557 else rC1 ns k
theorem rC0_sz {ns : List Int} (hn : Okn ns) (k : Nat) : sz (rC0 ns k) ≤ 1048576 := by
  unfold rC0
  split
  · rw [sz0]; omega
  · rename_i c
    have hk : k % ns.length < ns.length := Nat.mod_lt _ (by omega)
    rw [List.getD_eq_getElem?_getD, List.getElem?_eq_getElem hk]
    exact hn.2 _ (List.getElem_mem hk)
theorem rC1_sz {ns : List Int} (hn : Okn ns) (k : Nat) : sz (rC1 ns k) ≤ 1048580 := by
  have h0 := rC0_sz hn k
  unfold rC1
  split
  · have h1 := sz_mul 2 (rC0 ns k)
    have h2 := sz_sub 1 (2 * rC0 ns k)
    rw [lit2] at h1
    rw [lit1] at h2
    omega
  · omega
theorem rC1_nn (ns : List Int) (k : Nat) : 0 ≤ rC1 ns k := by unfold rC1; split <;> omega
theorem row_turn {ns : List Int} (hn : Okn ns) {k : Nat} (hk : k ≤ 1000) (z1 z4 : Option D) (h : HP) (acc : List D) (ha : acc.length ≤ 1000) :
    ∃ y4, B__law_rows_1 [some (Sc ns), z1, some (.ref h.length), some (.int k), z4] (h ++ [.lst acc]) = .nx [some (Sc ns), z1, some (.ref h.length), some (.int k), y4] (h ++ [.lst (acc ++ [.int (rC2 ns k)])]) := by
  have ap := fun y => appL_last (y := y) (ds := acc) h (by rw [sizeLine_eq]; omega)
  have hz : ns.length ≤ sizeLine := by have := hn.1; rw [sizeLine_eq]; omega
  have c0 := rC0_sz hn k
  have c1 := rC1_sz hn k
  have n1 := rC1_nn ns k
  have ll : (ns.map D.int).length = ns.length := by simp
  have m1 : CMulE 2 (rC0 ns k) := mulX 64 1048576 (sz64 (by decide)) c0 (by decide)
  have m2 : CMulE 131 (k : Int) := mul64 (by decide) (by omega)
  have m3 : CMulE (k : Int) (k : Int) := mul64 (by omega) (by omega)
  have kk : (k : Int) * k ≤ 1000 * 1000 := Int.mul_le_mul (by omega) (by omega) (by omega) (by omega)
  have kk0 : 0 ≤ (k : Int) * k := Int.mul_nonneg (by omega) (by omega)
  have m4 : CMulE ((k : Int) * k) 69621 := mul64 (by omega) (by decide)
  have s1 := sz_add (rC1 ns k) (131 * (k : Int))
  have s2 := sz_add (rC1 ns k + 131 * (k : Int)) 7
  have s3 := sz64 (i := 131 * (k : Int)) (by omega)
  have s4 := sz64 (i := 7) (by decide)
  have m5 : CMulE (rC1 ns k + 131 * (k : Int) + 7) 48271 := mulX 1048590 64 (by omega) (sz64 (by decide)) (by decide)
  have m6 : CMulE 17 (k : Int) := mul64 (by decide) (by omega)
  have e1 := Int.emod_lt_of_pos ((rC1 ns k + 131 * k + 7) * 48271 + (k : Int) * k * 69621) (show (0 : Int) < 1000000007 by decide)
  have e2 := Int.emod_nonneg ((rC1 ns k + 131 * k + 7) * 48271 + (k : Int) * k * 69621) (show (1000000007 : Int) ≠ 0 by decide)
  have m7 : CMulE (((rC1 ns k + 131 * k + 7) * 48271 + (k : Int) * k * 69621) % 1000000007 + 17 * k + 3) 2862933555777941757 := mul64 (by omega) (by decide)
  refine ⟨some (.int (rC2 ns k)), ?_⟩
  have c4 : ¬ rC1 ns k < 0 := by omega
  by_cases a0 : ns.length = 0
  · have e0 : rC0 ns k = 0 := by unfold rC0; rw [if_pos a0]
    have er1 : rC1 ns k = 0 := by unfold rC1; rw [e0]; rfl
    have er2 : rC2 ns k = ((((rC1 ns k + 131 * k + 7) * 48271 + (k : Int) * k * 69621) % 1000000007) + 17 * k + 3) * 2862933555777941757 % 18446744073709551557 := by unfold rC2; rw [if_pos (.inl (by omega))]
    rw [er2, er1]
    rw [er1] at m5 m7
    have nil : ns = [] := List.length_eq_zero_iff.mp a0
    subst nil
    simp [Sc] at *
    simp [lg, m2, m3, m4, m5, m6, m7, ap]
  · have pl : 0 < ns.length := by omega
    have pl2 : (0 : Int) < (ns.length : Int) := by omega
    have hk2 : k % ns.length < ns.length := Nat.mod_lt _ (by omega)
    have e0 : ns[k % ns.length] = rC0 ns k := by unfold rC0; rw [if_neg a0, List.getD_eq_getElem?_getD, List.getElem?_eq_getElem hk2]; rfl
    have lgn : Nat.log2 (ns.length : Int).natAbs < 9000 := lg (by have := hn.1; omega)
    have ix : atI (ns.map D.int) ((k : Int) % (ns.length : Int)) = some (.int (rC0 ns k)) := by
      have e : (k : Int) % (ns.length : Int) = ((k % ns.length : Nat) : Int) := by omega
      rw [e, at_int hk2, e0]
    have tail : ∀ x : Int, x = rC1 ns k → True := fun _ _ => trivial
    by_cases a1 : rC0 ns k < 0
    · have er1 : 1 - 2 * rC0 ns k = rC1 ns k := by unfold rC1; rw [if_pos a1]
      by_cases a2 : ns.length ≤ k
      · have er2 : rC2 ns k = ((((rC1 ns k + 131 * k + 7) * 48271 + (k : Int) * k * 69621) % 1000000007) + 17 * k + 3) * 2862933555777941757 % 18446744073709551557 := by unfold rC2; rw [if_pos (.inl a2)]
        rw [er2]
        unfold Sc
        generalize ns.map D.int = xs at *
        simp [ll, hz, pl, pl2, lgn, ix, a1, m1, er1, a2, lg, m2, m3, m4, m5, m6, m7, ap]
      · by_cases a3 : rC1 ns k < 1000000000
        · have er2 : rC2 ns k = ((((rC1 ns k + 131 * k + 7) * 48271 + (k : Int) * k * 69621) % 1000000007) + 17 * k + 3) * 2862933555777941757 % 18446744073709551557 := by unfold rC2; rw [if_pos (.inr a3)]
          rw [er2]
          unfold Sc
          generalize ns.map D.int = xs at *
          simp [ll, hz, pl, pl2, lgn, ix, a1, m1, er1, a2, a3, lg, m2, m3, m4, m5, m6, m7, ap]
        · have er2 : rC2 ns k = rC1 ns k := by unfold rC2; rw [if_neg (by omega)]
          rw [er2]
          unfold Sc
          generalize ns.map D.int = xs at *
          simp [ll, hz, pl, pl2, lgn, ix, a1, m1, er1, a2, a3, lg, ap]
    · have er1 : rC0 ns k = rC1 ns k := by unfold rC1; rw [if_neg a1]
      rw [er1] at ix
      by_cases a2 : ns.length ≤ k
      · have er2 : rC2 ns k = ((((rC1 ns k + 131 * k + 7) * 48271 + (k : Int) * k * 69621) % 1000000007) + 17 * k + 3) * 2862933555777941757 % 18446744073709551557 := by unfold rC2; rw [if_pos (.inl a2)]
        rw [er2]
        unfold Sc
        generalize ns.map D.int = xs at *
        simp [ll, hz, pl, pl2, lgn, ix, c4, a2, lg, m2, m3, m4, m5, m6, m7, ap]
      · by_cases a3 : rC1 ns k < 1000000000
        · have er2 : rC2 ns k = ((((rC1 ns k + 131 * k + 7) * 48271 + (k : Int) * k * 69621) % 1000000007) + 17 * k + 3) * 2862933555777941757 % 18446744073709551557 := by unfold rC2; rw [if_pos (.inr a3)]
          rw [er2]
          unfold Sc
          generalize ns.map D.int = xs at *
          simp [ll, hz, pl, pl2, lgn, ix, c4, a2, a3, lg, m2, m3, m4, m5, m6, m7, ap]
        · have er2 : rC2 ns k = rC1 ns k := by unfold rC2; rw [if_neg (by omega)]
          rw [er2]
          unfold Sc
          generalize ns.map D.int = xs at *
          simp [ll, hz, pl, pl2, lgn, ix, c4, a2, a3, lg, ap]
def rowsL (ns : List Int) (n : Nat) : D := .lst ((List.range n).map fun k => .int (rC2 ns k))
theorem F_rows {ns : List Int} (hn : Okn ns) {n : Nat} (hk : n ≤ 1000) (h : HP) : F__law_rows [Sc ns, .int n] h = .ok (rowsL ns n) h := by
  obtain ⟨_, h1, e, ⟨y3, y4, rfl⟩, rfl⟩ := for_rng (asg := gNm 3) (body := B__law_rows_1) (n := n)
    (fun i env h' => (∃ y3 y4, env = [some (Sc ns), some (.int n), some (.ref h.length), y3, y4]) ∧ h' = h ++ [.lst ((List.range i).map fun k => .int (rC2 ns k))])
    (fun i env h' hi hI => by
      obtain ⟨⟨y3, y4, rfl⟩, rfl⟩ := hI
      obtain ⟨w4, e⟩ := row_turn hn (k := i) (by omega) (some (.int n)) y4 h ((List.range i).map fun k => .int (rC2 ns k)) (by simp; omega)
      exact ⟨_, rfl, _, _, .inl e, ⟨_, _, rfl⟩, by simp [List.range_succ]⟩)
    (env := [some (Sc ns), some (.int n), some (.ref h.length), none, none]) (h := h ++ [.lst []]) ⟨⟨none, none, rfl⟩, by simp⟩
  have p := pure_ref (h := h) (x := [.lst ((List.range n).map fun k => .int (rC2 ns k))]) (n := h.length) (ds := (List.range n).map fun k => .int (rC2 ns k)) (Nat.le_refl _) (by simp) (fun d hd => by
    obtain ⟨i, _, rfl⟩ := List.mem_map.mp hd
    exact clean_int _)
  have rg : Rg (n : Int) := rg_nat (by omega)
  unfold rowsL
  generalize ((List.range n).map fun k => D.int (rC2 ns k)) = qs at *
  simp [F__law_rows, rg, e, p]
theorem F_digits {base : Int} (hb : 0 < base) (lb : base < 18446744073709551616) {n : Nat} (hn : n ≤ 1000) (row : Int) (h : HP) : ∃ ds : Nat → Int, F__law_digits [.int row, .int base, .int n] h = .ok (lvec n ds) h ∧ ∀ i, 0 ≤ ds i ∧ ds i < base := by
  have lgb : Nat.log2 base.natAbs < 9000 := lg (by omega)
  refine ⟨fun i => row / base ^ i % base, ?_, fun i => ⟨Int.emod_nonneg _ (by omega), Int.emod_lt_of_pos _ hb⟩⟩
  obtain ⟨_, h1, e, ⟨y4, rfl⟩, rfl⟩ := for_rng (asg := gNm 4) (body := B__law_digits_1) (n := n)
    (fun i env h' => (∃ y4, env = [some (.int (row / base ^ i)), some (.int base), some (.int n), some (.ref h.length), y4]) ∧ h' = h ++ [.lst ((List.range i).map fun k => .int (row / base ^ k % base))])
    (fun i env h' hi hI => by
      obtain ⟨⟨y4, rfl⟩, rfl⟩ := hI
      have e : row / base ^ (i + 1) = row / base ^ i / base := by
        rw [Int.pow_succ]
        exact (Int.ediv_ediv_of_nonneg (Int.pow_nonneg (by omega))).symm
      have al : ((List.range i).map fun k => D.int (row / base ^ k % base)).length < sizeLine := by rw [sizeLine_eq]; simp; omega
      have e2 : ((List.range (i + 1)).map fun k => D.int (row / base ^ k % base)) = ((List.range i).map fun k => D.int (row / base ^ k % base)) ++ [.int (row / base ^ i % base)] := by simp [List.range_succ]
      rw [e, e2]
      generalize ((List.range i).map fun k => D.int (row / base ^ k % base)) = acc at *
      generalize row / base ^ i = r at *
      have ap := fun y => appL_last (y := y) (ds := acc) h al
      exact ⟨_, rfl, _, _, .inl (by simp [hb, lgb, ap]; rfl), ⟨_, rfl⟩, rfl⟩)
    (env := [some (.int row), some (.int base), some (.int n), some (.ref h.length), none]) (h := h ++ [.lst []]) ⟨⟨none, by simp⟩, by simp⟩
  have p := pure_ref (h := h) (x := [.lst ((List.range n).map fun k => .int (row / base ^ k % base))]) (n := h.length) (ds := (List.range n).map fun k => .int (row / base ^ k % base)) (Nat.le_refl _) (by simp) (fun d hd => by
    obtain ⟨i, _, rfl⟩ := List.mem_map.mp hd
    exact clean_int _)
  have rg : Rg (n : Int) := rg_nat (by omega)
  unfold lvec
  generalize ((List.range n).map fun k => D.int (row / base ^ k % base)) = qs at *
  simp [F__law_digits, rg, e, p]
end Lib
namespace Lib
open PySem PySem.Spec PyProof.Rows L2 Ev
def mm (ns : List Int) : Int := if 0 < ns.length then maxL ns else 0
theorem at_map {α : Type} (f : α → D) {xs : List α} {i : Nat} (hi : i < xs.length) : atI (xs.map f) (i : Int) = some (f xs[i]) := by
  have := hi
  simp [atI, ixN, hi]
end Lib
namespace EvQ
open PySem PySem.SeqAt GQ
open AutoSeq1 (wpAny_loadPart')
open MeetsSeq MeetsSeq2 MeetsSeq3 SeqRoads2
section
end
section
end
end EvQ
namespace Ev
open PySem PySem.Spec PyProof.Rows L2
section
variable {g : G} {X : Cx} {n : Nat} {hp : HP}
/-- the state has grown, the live objects say what they said -/
def Grown (X : Cx) (g : G) (hp : HP) (pins : List (Addr × Obj)) (σ : L2.St) (m : AM) (H : Hp) (s' : Shared) : Prop := ∃ m' H', Inv X pins σ H' s' ∧ Ex m H m' H' ∧ HL g m' H' hp
/-- two copies of d are seen to be equal -/
def EqN (X : Cx) (g : G) (n : Nat) (hp : HP) (d : D) : Prop :=
  ∀ (A : Around) (pins : List (Addr × Obj)) (s : Shared) (σ : L2.St) (m : AM) (H : Hp) (x y : V) (u v : Value), Sub X n A → Inv X pins σ H s → HL g m H hp → rep g m H d x → rep g m H d y → RelV x u → RelV y v →
    wpAny (model X.prog X.w) A (eqBool u v) (fun r s' => r = true ∧ Grown X g hp pins σ m H s') X.xe s
theorem EqN.mono {n k : Nat} {d : D} (h : EqN X g n hp d) (l : n ≤ k) : EqN X g k hp d := fun A pins s σ m H x y u v sb => h A pins s σ m H x y u v (sb.mono l)
theorem eqN_flat {d : D} (hf : ∀ m H v, rep g m H d v → (flatV v = true ∧ eqV v v = true) ∧ ∀ w, rep g m H d w → w = v) : EqN X g n hp d := by
  intro A pins s σ m H x y u v sb I hl rx ry ru rv
  obtain ⟨⟨f, e⟩, q⟩ := hf m H x rx
  obtain rfl := q y ry
  have z := eqAt_V (A := A) (s := s) ru rv f f
  rw [e] at z
  exact z X.prog X.w X.xe _ ⟨rfl, m, H, I, Ex.refl _ _, hl⟩
theorem eqN_int {i : Int} : EqN X g n hp (.int i) := eqN_flat fun m H v r => by
  simp only [rep] at r
  subst r
  exact ⟨⟨rfl, by simp [eqV]⟩, fun w r => by simpa [rep] using r⟩
theorem eqN_str {i : Str} : EqN X g n hp (.str i) := eqN_flat fun m H v r => by
  simp only [rep] at r
  subst r
  exact ⟨⟨rfl, by simp [eqV]⟩, fun w r => by simpa [rep] using r⟩
theorem eqN_bl {i : Bool} : EqN X g n hp (.bl i) := eqN_flat fun m H v r => by
  simp only [rep] at r
  subst r
  exact ⟨⟨rfl, by simp [eqV]⟩, fun w r => by simpa [rep] using r⟩
theorem eqN_non : EqN X g n hp .non := eqN_flat fun m H v r => by
  simp only [rep] at r
  subst r
  exact ⟨⟨rfl, by simp [eqV]⟩, fun w r => by simpa [rep] using r⟩
theorem turnN (hK : X.K = g.K) {ds : List D} (hd : ∀ d ∈ ds, EqN X g n hp d) {A : Around} (sb : Sub X (n + 1) A) {pins : List (Addr × Obj)} {σ : L2.St} {m m1 : AM} {H H1 : Hp} {xs ys : List V} {its its2 : List Value}
    (r1 : reps g m1 H1 ds xs) (r2 : reps g m1 H1 ds ys) (q1 : Vals xs its) (q2 : Vals ys its2) (s' : Shared) (I1 : Inv X pins σ H1 s') (e1 : Ex m H m1 H1) (hl : HL g m1 H1 hp)
    (i : Nat) (h1 : i < its.toArray.size) (h2 : i < its2.toArray.size) :
    wpAny (model X.prog X.w) A.in1 (eqBool its.toArray[i] its2.toArray[i]) (fun r s2 => r = true ∧ Grown X g hp pins σ m H s2) X.xe s' := by
  have g1 : its[i]? = some its.toArray[i] := by
    have h1' : i < its.length := by simpa using h1
    rw [List.getElem?_eq_getElem h1'] <;> simp
  have g2 : its2[i]? = some its2.toArray[i] := by
    have h2' : i < its2.length := by simpa using h2
    rw [List.getElem?_eq_getElem h2'] <;> simp
  have k1 : i < xs.length := by rw [q1.length]; simpa using h1
  have kd : i < ds.length := by rw [r1.length]; exact k1
  obtain ⟨x, ex, rx⟩ := r1.get (List.getElem?_eq_getElem kd)
  obtain ⟨y, ey, ry⟩ := r2.get (List.getElem?_eq_getElem kd)
  obtain ⟨u, hu, ru⟩ := q1.get ex
  obtain ⟨v, hv, rv⟩ := q2.get ey
  rw [g1] at hu
  rw [g2] at hv
  rw [Option.some.inj hu, Option.some.inj hv]
  refine wpAny_mono (hd _ (List.getElem_mem kd) A.in1 pins s' σ m1 H1 x y u v sb.in1 I1 hl rx ry ru rv) (fun r s2 q => ?_) fun _ _ x => x
  obtain ⟨hr, m2, H2, I2, x2, hl2⟩ := q
  exact ⟨hr, m2, H2, I2, e1.trans x2, hl2⟩
theorem eqN_tup (hK : X.K = g.K) {ds : List D} (hd : ∀ d ∈ ds, EqN X g n hp d) : EqN X g (n + 1) hp (.tup ds) := by
  intro A pins s σ m H x y u v sb I hl rx ry ru rv
  obtain ⟨a, xs, rfl, fa, ra⟩ := rTup rx
  obtain ⟨b, ys, rfl, fb, rb⟩ := rTup ry
  rw [← hK] at fa fb
  cases ru
  cases rv
  by_cases hab : a = b
  · subst hab
    exact SeqAt.EqAt.same (A := A) (s := s) (.ref a) X.prog X.w X.xe _ ⟨rfl, m, H, I, Ex.refl _ _, hl⟩
  · refine GQ.eqBool_refG hab ?_
    obtain ⟨its, r, e, z⟩ := I.tuple fa
    obtain ⟨its2, r2, e2, z2⟩ := I.tuple fb
    have hsz : its.toArray.size = its2.toArray.size := by
      rw [List.size_toArray, List.size_toArray, ← r.length, ← r2.length, ← ra.length, ← rb.length]
    refine GQ.rc_tupG hsz sb.room.units0 (fun _ s' => Grown X g hp pins σ m H s') e e2 (fun i h1 h2 s' q => ?_) (fun s' q => ⟨true, rfl, rfl, q⟩) ⟨m, H, I, Ex.refl _ _, hl⟩
    obtain ⟨m1, H1, I1, e1, hl1⟩ := q
    exact turnN hK hd sb (reps.ext e1 _ _ ra) (reps.ext e1 _ _ rb) r r2 s' I1 e1 hl1 i h1 h2
/-- the own == of a class, at these fields -/
structure OwnQ (X : Cx) (g : G) (CX : CXT) (E : XK) (c n : Nat) (F : FA) (f : Addr) (fd : FuncData) (ps : List Str) : Prop where
  ok : FnOk X.prog X.w X.K X.mg X.base CX n f fd ps (spF g 2 F)
  at_ : PySem.W.findIn X.K (.ref (g.cA c)) "__eq__" = some (some (.ref f))
  fn : PySem.W.isFn X.K (.ref f) = true
  bind : Binds X.K fd ps []
  pass : Passes CX X E
theorem eqN_ins {CX : CXT} {c : Nat} {F : FA} {f : Addr} {fd : FuncData} {ps : List Str} (O : OwnQ X g CX (fun _ _ _ => False) c n F f fd ps) {fs : List (Str × D)} (hF : F [.ins c fs, .ins c fs] hp = .ok (.bl true) hp) : EqN X g n hp (.ins c fs) := by
  intro A pins s σ m H x y u v sb I hl rx ry ru rv
  have rx' := rx
  have ry' := ry
  simp only [rep] at rx ry
  obtain ⟨a, dx, xs, rfl, ha, _, _⟩ := rx
  obtain ⟨b, dy, ys, rfl, hb, _, _⟩ := ry
  cases ru
  cases rv
  by_cases hab : a = b
  · subst hab
    exact SeqAt.EqAt.same (A := A) (s := s) (.ref a) X.prog X.w X.xe _ ⟨rfl, m, H, I, Ex.refl _ _, hl⟩
  · refine GQ.eqBool_refG hab ?_
    obtain ⟨mA, J, _⟩ := ins_get I.hok ha
    obtain ⟨mB, J', _⟩ := ins_get I.hok hb
    obtain ⟨od, J, _⟩ := J.look
    obtain ⟨od', J', _⟩ := J'.look
    obtain ⟨mm, hF'⟩ := I.fr
    refine PySem.W.cmp_K (op := .Eq) (tb := .ref (g.cA c)) sb.room.units0 hF' I.ok.mod.kin J J'.type (by simp [PySem.W.notFirst]) O.at_ O.fn ?_
    have hsp : spF g 2 F [.ref a, .ref b] H (fun v H' => v = .bl true ∧ ∃ m', Ex m H m' H' ∧ HL g m' H' hp) (fun _ _ _ => False) := by
      refine ⟨rfl, m, hp, [.ins c fs, .ins c fs], hl, ?_, ?_⟩
      · exact ⟨_, _, rfl, rx', _, _, rfl, ry', rfl⟩
      · rw [hF]
        intro m' H' v x' hl' rv
        simp only [rep] at rv
        exact ⟨rv, m', x', hl'⟩
    have e0 : Env0 X.prog X.w X.K X.mg X.base A X.stack s H := by
      have e := I.env0
      exact ⟨by rw [sb.fr]; exact e.frames, e.mod, e.bs, e.bsz, e.funs, e.frf, e.hok, e.bare⟩
    have hl2 := O.ok.len _ _ _ _ hsp
    have r2 : Vals [V.ref a, V.ref b] [Value.ref a, Value.ref b] := .cons rfl (.cons rfl .nil)
    refine wpAny_call (codeAny_mono (O.ok.run A X.stack s H ⟨[.ref a, .ref b], []⟩ [.ref a, .ref b] [.ref a, .ref b] _ _ sb.room e0 (by
      have := O.bind s [.ref a, .ref b] I.kIn (by simpa using hl2)
      simpa using this) r2 hsp) fun r s' hq => ?_)
    cases r with
    | error e => exact O.pass pins σ H s e s' I hq
    | ok fl =>
      cases fl with
      | ret w =>
        obtain ⟨z, H', I', rz, ez, m', ex, hl'⟩ := I.after hq
        subst ez
        cases rz
        exact ⟨true, rfl, rfl, m', H', I', ex, hl'⟩
      | next => exact False.elim hq
      | brk => exact False.elim hq
      | cont => exact False.elim hq
/-- what the own == says is equal to itself; F: the classes' own == -/
def owD (F : Nat → FA) (h : HP) : Nat → D → Prop
  | 0, _ => False
  | n + 1, .tup ds => ∀ d ∈ ds, owD F h n d
  | _ + 1, .ins c fs => F c [.ins c fs, .ins c fs] h = .ok (.bl true) h
  | _ + 1, .int _ => True
  | _ + 1, .str _ => True
  | _ + 1, .bl _ => True
  | _ + 1, .non => True
  | _ + 1, _ => False
/-- the classes' own ==, those that are known -/
def Owns (X : Cx) (g : G) (n : Nat) (F : Nat → FA) : Prop := ∀ c, (∃ CX f fd ps, OwnQ X g CX (fun _ _ _ => False) c n (F c) f fd ps) ∨ ∀ ds h, F c ds h = .stuck
theorem owD_ok {F : Nat → FA} {n0 : Nat} (hK : X.K = g.K) (O : Owns X g n0 F) : ∀ (k : Nat) (d : D), owD F hp k d → EqN X g (n0 + k) hp d
  | 0, _, h => (show False from h).elim
  | k + 1, .tup ds, h => eqN_tup hK fun d hd => owD_ok hK O k d (by
      simp only [owD] at h
      exact h d hd)
  | k + 1, .ins c fs, h => by
    simp only [owD] at h
    rcases O c with ⟨CX, f, fd, ps, o⟩ | o
    · exact (eqN_ins o h).mono (by omega)
    · rw [o] at h
      cases h
  | _ + 1, .int _, _ => eqN_int
  | _ + 1, .str _, _ => eqN_str
  | _ + 1, .bl _, _ => eqN_bl
  | _ + 1, .non, _ => eqN_non
  | _ + 1, .lst _, h => by simp [owD] at h
  | _ + 1, .klst _, h => by simp [owD] at h
  | _ + 1, .dic _, h => by simp [owD] at h
  | _ + 1, .set _, h => by simp [owD] at h
  | _ + 1, .ref _, h => by simp [owD] at h
  | _ + 1, .xcp _ _, h => by simp [owD] at h
/-- the items of a list -/
@[simp] def lsD (h : HP) : D → Option (List D)
  | .lst ds => some ds
  | .ref i => match h[i]? with
    | some (.lst ds) => some ds
    | _ => none
  | _ => none
theorem lsD_ok {m : AM} {H : Hp} {d : D} {v : V} {ds : List D} (hl : HL g m H hp) (r : rep g m H d v) (e : lsD hp d = some ds) : ∃ a vs, v = .ref a ∧ H a = some (.lst vs) ∧ reps g m H ds vs := by
  cases d with
  | lst es =>
    simp only [lsD, Option.some.injEq] at e
    subst e
    simp only [rep] at r
    obtain ⟨a, vs, rfl, e, _, rr⟩ := r
    exact ⟨a, vs, rfl, e, rr⟩
  | ref i =>
    simp only [lsD] at e
    split at e
    · rename_i es q
      cases e
      obtain ⟨a, ea, vs, ha, rv⟩ := hl.at q (by simp)
      simp only [rep] at r
      exact ⟨a, vs, r.2 a ea, ha, rv⟩
    · cases e
  | _ => simp [lsD] at e
open Classical in
/-- two lists that say the same -/
@[simp] noncomputable def sameLs (F : Nat → FA) (b : Bool) : Option (List D) → Option (List D) → HP → R D
  | some ds, some es, h => if ds = es ∧ ∀ d ∈ ds, owD F h 6 d then .ok (.bl b) h else .stuck
  | _, _, _ => .stuck
@[simp] noncomputable def sameL (F : Nat → FA) (b : Bool) (x y : D) (h : HP) : R D := sameLs F b (lsD h x) (lsD h y) h
def rSameL (g : G) (F : Nat → FA) (b : Bool) : R2 := fun x y H Q => ∃ m hp d e ds, HL g m H hp ∧ rep g m H d x ∧ rep g m H e y ∧ lsD hp d = some ds ∧ lsD hp e = some ds ∧ (∀ d ∈ ds, owD F hp 6 d) ∧
  ∀ m' H', Ex m H m' H' → HL g m' H' hp → Q (.bl b) H'
theorem ok2_same {F : Nat → FA} {b : Bool} {E : XK} : OK2 g E (rSameL g F b) (sameL F b) := by
  intro m H hp x y v u Q hl rx ry h
  unfold sameL sameLs at h
  split at h
  · split at h
    · rename_i _ _ _ ds es _ e1 e2 c
      obtain ⟨rfl, c⟩ := c
      exact ⟨m, _, x, y, _, hl, rx, ry, e1, e2, c, fun m' H' ex hl' => h m' H' _ ex hl' (by simp [rep])⟩
    · exact h.elim
  · exact h.elim
theorem listI_same {F : Nat → FA} {n0 : Nat} (hK : X.K = g.K) (O : Owns X g n0 F) {A : Around} (sb : Sub X (n0 + 7) A) {pins : List (Addr × Obj)} {σ : L2.St} {m : AM} {H : Hp} {d e : D} {ds : List D} {a b : Addr}
    (r1 : rep g m H d (.ref a)) (r2 : rep g m H e (.ref b)) (e1 : lsD hp d = some ds) (e2 : lsD hp e = some ds) (hd : ∀ d ∈ ds, owD F hp 6 d) :
    GQ.ListI X.prog X.w A X.xe a b ds.length (fun _ s' => Grown X g hp pins σ m H s') := by
  intro i' s' q
  obtain ⟨m1, H1, I1, x1, hl1⟩ := q
  obtain ⟨a', xs, qa, ha, ra⟩ := lsD_ok hl1 (rep.ext x1 _ _ r1) e1
  obtain ⟨b', ys, qb, hb, rb⟩ := lsD_ok hl1 (rep.ext x1 _ _ r2) e2
  cases qa
  cases qb
  obtain ⟨z, its, k, r, e⟩ := I1.hok a _ ha
  obtain ⟨z2, its2, k2, r2, e2'⟩ := I1.hok b _ hb
  refine ⟨its.toArray, its2.toArray, k, k2, e, e2', by rw [List.size_toArray, ← r.length, ← ra.length], by rw [List.size_toArray, ← r2.length, ← rb.length], fun h1 h2 => ?_⟩
  exact turnN hK (fun d m => owD_ok hK O 6 d (hd d m)) sb ra rb r r2 s' I1 x1 hl1 i' h1 h2
theorem op_eqSame {F : Nat → FA} {n0 : Nat} (hK : X.K = g.K) (O : Owns X g n0 F) (hr : Room (n0 + 7) X.A) : OpR X (compareOp .Eq) (rSameL g F true) := by
  intro pins s σ H x y v u Q I rx ry h
  obtain ⟨m, hp, d, e, ds, hl, r1, r2, e1, e2, hd, q⟩ := h
  obtain ⟨a, vs, rfl, ha, rv⟩ := lsD_ok hl r1 e1
  obtain ⟨b, ws, rfl, hb, rw'⟩ := lsD_ok hl r2 e2
  cases rx
  cases ry
  show wpAny (model X.prog X.w) X.A (richCompare .Eq (.ref a) (.ref b)) (EP X pins σ Q) X.xe s
  refine GQ.rc_listG hr.units0 (fun _ s' => Grown X g hp pins σ m H s') (listI_same hK O ⟨hr, rfl⟩ r1 r2 e1 e2 hd) (fun s' q' => ?_) ⟨m, H, I, Ex.refl _ _, hl⟩
  obtain ⟨m', H', I', ex, hl'⟩ := q'
  exact ⟨.bl true, H', I', rfl, q m' H' ex hl'⟩
theorem ok_eqO {F : Nat → FA} {n0 : Nat} {E : XK} (hK : X.K = g.K) (O : Owns X g n0 F) (hr : Room (n0 + 7) X.A) : OKS X g E (compareOp .Eq) (sameL F true) := ⟨_, op_eqSame hK O hr, ok2_same⟩
def own1 (c0 : Nat) (F0 : FA) : Nat → FA := fun c => if c = c0 then F0 else fun _ _ => .stuck
@[simp] theorem own1_at (c0 : Nat) (F0 : FA) : own1 c0 F0 c0 = F0 := if_pos rfl
theorem owns1 {c0 n : Nat} {F0 : FA} {f : Addr} {fd : FuncData} {ps : List Str} (me : Meth X.K (g.cA c0) "__eq__" f) (o : FnOk X.prog X.w X.K X.mg X.base CX0 n f fd ps (spF g 2 F0)) (b : Binds X.K fd ps []) : Owns X g n (own1 c0 F0) := fun c => by
  by_cases h : c = c0
  · subst h
    exact .inl ⟨CX0, f, fd, ps, by rw [own1_at]; exact o, me.1, me.2, b, fun _ _ _ _ _ _ _ h => h.elim⟩
  · exact .inr fun ds hp => by rw [own1, if_neg h]
structure Isi (K : PySem.W.Frag) (C : Addr) : Prop where
  ha : PySem.W.findIn K (.ref C) "__class__" = some (some (.builtin "object.__class__"))
  hn : PySem.W.specialIn K (.builtin "object.__class__") "__get__" = some (some (.builtin "getset_descriptor.__get__"))
  ht : PySem.W.takesIn K (.builtin "object.__class__") = some true
  hm : PySem.W.mroIn K C (.type "object") = some true
@[simp] def kIsC (c : Nat) : D → HP → R D
  | .ins c' _, h => if c' = c then .ok (.bl true) h else .stuck
  | _, _ => .stuck
@[simp] def mIsC (c : Nat) (a : M D) (env : EN) (hp : HP) : R D := (a env hp).bind (kIsC c)
theorem EV.isC {E : XK} {c : Nat} {t isi : Str} {a : Expr} {p p2 pos : Pos} {fa : M D} (hK : X.K = g.K) (he0 : isi = "isinstance") (hm : X.mg isi = none) (hmt : X.mg t = some (.ref (g.cA c))) (tc : Cls X.K (g.cA c)) (ui : Isi X.K (g.cA c)) (ha : EV g X E a fa) (hg : Gl X isi) (hgt : Gl X t) (hd : (t == ("__debug__" : Str)) = false)
    (he : starEach [a, .Name t p2] X.env = (false, eval a X.env) :: starEach [.Name t p2] X.env) : EV g X E (.Call (.Name isi p) [a, .Name t p2] [] pos) (mIsC c fa) := by
  subst he0
  obtain ⟨ta, pa, qa⟩ := ha
  refine ⟨_, pe_callB call_isi hg hm (by decide +kernel) (pa_cons pa (pa_cons (pe_glob (v := .ref (g.cA c)) hgt hmt rfl hd) pa_nil rfl) he) (by decide) (by decide) he rfl, fun σ H Q m env hp hl er h => ?_⟩
  refine qa σ H _ m env hp hl er (PO.bind h fun x h1 m1 H1 v x1 hl1 r1 h => ?_)
  cases x with
  | ins c' fs =>
    simp only [kIsC] at h
    by_cases e : c' = c
    · subst e
      rw [if_pos rfl] at h
      simp only [rep] at r1
      obtain ⟨a, dx, vs, rfl, e, _⟩ := r1
      exact ⟨_, .ref (g.cA c'), .ref (g.cA c'), .ref (g.cA c'), true, rfl, .own _, .base (.ins e tc ui.ha ui.hn ui.ht ui.hm), by simp [PySem.W.kitOne], PO.here hl1 h (by simp [rep])⟩
    · rw [if_neg e] at h
      exact h.elim
  | _ => exact h.elim
end
end Ev
namespace Ev
open PySem PySem.Spec PyProof.Rows L2
section
variable {g : G} {X : Cx} {n : Nat} {hp : HP}
@[simp] def boR : R D → R D
  | .ok (.bl b) h => .ok (.bl b) h
  | _ => .stuck
/-- the other side: an object of the class, of another one, or a value of a built-in type -/
@[simp] def othC (dp : Nat → Nat → Bool) (c : Nat) (h : HP) : D → Bool
  | .ins c' _ => c' == c || dp c' c
  | d => (tyD h d).isSome
@[simp] def fEqI (dp : Nat → Nat → Bool) (F : Nat → FA) (x y : D) (h : HP) : R D := match x with
  | .ins c fs => if othC dp c h y = true then boR (F c [.ins c fs, y] h) else .stuck
  | _ => .stuck
@[simp] def bNo : Option String → HP → R D
  | some _, h => .ok (.bl false) h
  | none, _ => .stuck
@[simp] def kIsD (dp : Nat → Nat → Bool) (c : Nat) : D → HP → R D
  | .ins c' _, h => if c' = c then .ok (.bl true) h else if dp c' c = true then .ok (.bl false) h else .stuck
  | d, h => bNo (tyD h d) h
@[simp] def mIsD (dp : Nat → Nat → Bool) (c : Nat) (a : M D) (env : EN) (hp : HP) : R D := (a env hp).bind (kIsD dp c)
end
end Ev
namespace EvQ
open PySem PySem.W PySem.Calls PyProof.Rows
section
end
end EvQ
namespace Ev
open PySem PySem.Spec PyProof.Rows L2
section
variable {g : G} {X : Cx} {n : Nat} {hp : HP}
@[simp] def noR : R D → R D
  | .ok (.bl b) h => .ok (.bl (!b)) h
  | _ => .stuck
/-- x != y by the class's own == -/
@[simp] def fNeI (dp : Nat → Nat → Bool) (F : Nat → FA) (x y : D) (h : HP) : R D := match x with
  | .ins c fs => if othC dp c h y = true then noR (F c [.ins c fs, y] h) else .stuck
  | _ => .stuck
end
end Ev
namespace Ev
open PySem PySem.Spec PyProof.Rows L2
section
variable {g : G} {X : Cx} {E : XK} {prog : Program} {w : World} {A : Around}
@[simp] def maxDn (z : D) : Option (List Int) → HP → R D
  | some ns, h => if 0 < ns.length then .ok (.int (maxL ns)) h else .ok z h
  | none, _ => .stuck
@[simp] def maxDo (z : D) : Option (List D) → HP → R D
  | some es, h => maxDn z (intsD es) h
  | none, _ => .stuck
@[simp] def maxDk (z : D) (x : D) (h : HP) : R D := maxDo z (asL h x) h
@[simp] def maxDk1 (b : M D) (env : EN) (x : D) (h : HP) : R D := (b env h).bind fun z h2 => maxDk z x h2
@[simp] def mmaxD (a b : M D) (env : EN) (hp : HP) : R D := (a env hp).bind (maxDk1 b env)
@[simp] def minDn (z : D) : Option (List Int) → HP → R D
  | some ns, h => if 0 < ns.length then .ok (.int (minL ns)) h else .ok z h
  | none, _ => .stuck
@[simp] def minDo (z : D) : Option (List D) → HP → R D
  | some es, h => minDn z (intsD es) h
  | none, _ => .stuck
@[simp] def minDk (z : D) (x : D) (h : HP) : R D := minDo z (asL h x) h
@[simp] def minDk1 (b : M D) (env : EN) (x : D) (h : HP) : R D := (b env h).bind fun z h2 => minDk z x h2
@[simp] def mminD (a b : M D) (env : EN) (hp : HP) : R D := (a env hp).bind (minDk1 b env)
theorem reps.reverse {m : AM} {H : Hp} {ds : List D} {vs : List V} (r : reps g m H ds vs) : reps g m H ds.reverse vs.reverse := by
  induction ds generalizing vs with
  | nil => simp only [reps] at r; subst r; simp [reps]
  | cons d ds ih =>
    simp only [reps] at r
    obtain ⟨v, us, rfl, h1, h2⟩ := r
    rw [List.reverse_cons, List.reverse_cons]
    exact (ih h2).append (by simp only [reps]; exact ⟨v, [], rfl, h1, rfl⟩)
@[simp] def revO : Option (List D) → HP → R D
  | some es, h => .ok (.lst es.reverse) h
  | none, _ => .stuck
@[simp] def kRevS (x : D) (h : HP) : R D := revO (asL h x) h
@[simp] def mRevS (a : M D) (env : EN) (hp : HP) : R D := (a env hp).bind kRevS
end
end Ev
namespace Ev
open PySem PySem.Spec PyProof.Rows L2
section
variable {g : G} {X : Cx} {E : XK}
@[simp] def kPar2 (i j : Nat) (env : EN) : List D → HP → SR
  | [x, y], h => .nx ((env.set i (some x)).set j (some y)) h
  | _, _ => .stuck
@[simp] def sPar2 (i j : Nat) (a : M (List D)) (env : EN) (hp : HP) : SR := (a env hp).sbind (kPar2 i j env)
@[simp] def kPar3 (i j l : Nat) (env : EN) : List D → HP → SR
  | [x, y, z], h => .nx (((env.set i (some x)).set j (some y)).set l (some z)) h
  | _, _ => .stuck
@[simp] def sPar3 (i j l : Nat) (a : M (List D)) (env : EN) (hp : HP) : SR := (a env hp).sbind (kPar3 i j l env)
@[simp] def fIsB : D → D → HP → R D
  | .bl a, .bl b, h => .ok (.bl (decide (a = b))) h
  | _, _, _ => .stuck
@[simp] def fNotB : D → D → HP → R D
  | .bl a, .bl b, h => .ok (.bl (!decide (a = b))) h
  | _, _, _ => .stuck
end
end Ev
namespace Ev
open PySem PySem.Spec PyProof.Rows L2
section
variable {g : G} {X : Cx} {E : XK}
@[simp] def kAug2 (i : Nat) (f : Int → Int → Int) (env : EN) (a : Int) : D → HP → SR
  | .int b, h => .nx (env.set i (some (.int (f a b)))) h
  | _, _ => .stuck
@[simp] def kAug (i : Nat) (f : Int → Int → Int) (fa : M D) (env : EN) (hp : HP) : Option (Option D) → SR
  | some (some (.int a)) => (fa env hp).sbind (kAug2 i f env a)
  | _ => .stuck
@[simp] def sAug (i : Nat) (f : Int → Int → Int) (fa : M D) (env : EN) (hp : HP) : SR := kAug i f fa env hp env[i]?
end
end Ev
namespace EvQ
open PySem PySem.SeqAt GQ
open AutoSeq1 (wpAny_loadPart')
open MeetsSeq MeetsSeq2 MeetsSeq3 SeqRoads2
section
end
section
end
end EvQ
namespace Ev
open PySem PySem.Spec PyProof.Rows L2
section
variable {g : G} {X : Cx} {E : XK}
open Classical in
@[simp] noncomputable def sameT (F : Nat → FA) (b : Bool) : D → D → HP → R D
  | .tup ds, .tup es, h => if ds = es ∧ ∀ d ∈ ds, owD F h 6 d then .ok (.bl b) h else if ds.isEmpty = es.isEmpty then .stuck else .ok (.bl (!b)) h
  | _, _, _ => .stuck
end
end Ev
namespace Ev
open PySem PySem.Spec PyProof.Rows L2
def valT : List (Key × D) → Key → Option D
  | [], _ => none
  | p :: r, k => if p.1 = k then some p.2 else valT r k
def putT (ks : List (Key × D)) (k : Key) (y : D) : List (Key × D) := if (ks.any fun p => decide (p.1 = k)) = true then ks.map (fun p => if p.1 = k then (p.1, y) else p) else ks ++ [(k, y)]
theorem valT_any (k : Key) : ∀ ks : List (Key × D), (ks.any fun p => decide (p.1 = k)) = (valT ks k).isSome
  | [] => rfl
  | p :: r => by
    have := valT_any k r
    by_cases e : p.1 = k
    · simp [valT, e]
    · simp [valT, e, this]
section
variable {g : G} {X : Cx} {E : XK} {m : AM} {H : Hp}
theorem repk.val {k : Key} : ∀ {ks : List (Key × D)} {vs : List (Key × V)}, repk g m H ks vs → (∀ d, valT ks k = some d → ∃ v, valV vs k = some v ∧ rep g m H d v) ∧ (valT ks k = none → valV vs k = none)
  | [], vs, h => by
    simp only [repk] at h
    subst h
    exact ⟨fun d e => by simp [valT] at e, fun _ => valV_nil⟩
  | (k', d') :: ks, vs, h => by
    simp only [repk] at h
    obtain ⟨v, r, rfl, h1, h2⟩ := h
    obtain ⟨i1, i2⟩ := repk.val h2
    by_cases e : k' = k
    · subst e
      refine ⟨fun d q => ?_, fun q => by simp [valT] at q⟩
      simp [valT] at q
      subst q
      exact ⟨v, valV_pos rfl, h1⟩
    · refine ⟨fun d q => ?_, fun q => ?_⟩
      · rw [valV_neg (by exact e)]
        exact i1 d (by simpa [valT, e] using q)
      · rw [valV_neg (by exact e)]
        exact i2 (by simpa [valT, e] using q)
theorem repk.isSome {k : Key} {ks : List (Key × D)} {vs : List (Key × V)} (h : repk g m H ks vs) : (valV vs k).isSome = (valT ks k).isSome := by
  obtain ⟨i1, i2⟩ := h.val (k := k)
  cases e : valT ks k with
  | none => rw [i2 e]; rfl
  | some d =>
    obtain ⟨v, q, _⟩ := i1 d e
    rw [q]
    rfl
theorem repk.snoc {k : Key} {y : D} {v : V} (hy : rep g m H y v) : ∀ {ks : List (Key × D)} {vs : List (Key × V)}, repk g m H ks vs → repk g m H (ks ++ [(k, y)]) (vs ++ [(k, v)])
  | [], vs, h => by
    simp only [repk] at h
    subst h
    simp only [List.nil_append, repk]
    exact ⟨v, [], rfl, hy, rfl⟩
  | (k', d') :: ks, vs, h => by
    simp only [repk] at h
    obtain ⟨w, r, rfl, h1, h2⟩ := h
    simp only [List.cons_append, repk]
    exact ⟨w, r ++ [(k, v)], rfl, h1, repk.snoc hy h2⟩
theorem repk.repl {k : Key} {y : D} {v : V} (hy : rep g m H y v) : ∀ {ks : List (Key × D)} {vs : List (Key × V)}, repk g m H ks vs → repk g m H (ks.map fun p => if p.1 = k then (p.1, y) else p) (vs.map fun p => if p.1 = k then (p.1, v) else p)
  | [], vs, h => by
    simp only [repk] at h
    subst h
    simp [repk]
  | (k', d') :: ks, vs, h => by
    simp only [repk] at h
    obtain ⟨w, r, rfl, h1, h2⟩ := h
    have ih := repk.repl (k := k) hy h2
    simp only [List.map_cons]
    by_cases e : k' = k
    · simp only [e, if_true, repk]
      exact ⟨v, _, rfl, hy, ih⟩
    · simp only [e, if_false, repk]
      exact ⟨w, _, rfl, h1, ih⟩
theorem repk.put {k : Key} {y : D} {v : V} (hy : rep g m H y v) {ks : List (Key × D)} {vs : List (Key × V)} (h : repk g m H ks vs) : repk g m H (putT ks k y) (putK vs k v) := by
  unfold putT putK
  rw [valT_any, valV_any, h.isSome]
  split
  · exact h.repl hy
  · exact h.snoc hy
@[simp] def dKey : D → Option Key
  | .int i => some (.inl i)
  | .str x => some (.inr x)
  | _ => none
@[simp] def dicO (h : HP) : D → Option (List (Key × D))
  | .ref n => match h[n]? with
    | some (.dic ks) => some ks
    | _ => none
  | _ => none
@[simp] def dinO (neg : Bool) : Option Key → Option (List (Key × D)) → HP → R D
  | some k, some ks, h => .ok (.bl (if neg = true then !(valT ks k).isSome else (valT ks k).isSome)) h
  | _, _, _ => .stuck
@[simp] def fDIn (neg : Bool) (x y : D) (h : HP) : R D := dinO neg (dKey x) (dicO h y) h
@[simp] def dgetV : Option D → HP → R D
  | some y, h => .ok y h
  | none, _ => .stuck
@[simp] def dgetO : Option Key → Option (List (Key × D)) → HP → R D
  | some k, some ks, h => dgetV (valT ks k) h
  | _, _, _ => .stuck
@[simp] def kDGet (d k : D) (h : HP) : R D := dgetO (dKey k) (dicO h d) h
@[simp] def kDGet1 (fk : M D) (env : EN) (d : D) (h : HP) : R D := (fk env h).bind (kDGet d)
@[simp] def mDGet (fd fk : M D) (env : EN) (h : HP) : R D := (fd env h).bind (kDGet1 fk env)
@[simp] def dgetE (z : D) : Option D → HP → R D
  | some y, h => .ok y h
  | none, h => .ok z h
@[simp] def dgetP (z : D) : Option Key → Option (List (Key × D)) → HP → R D
  | some k, some ks, h => dgetE z (valT ks k) h
  | _, _, _ => .stuck
@[simp] def kDGet23 (d k z : D) (h : HP) : R D := dgetP z (dKey k) (dicO h d) h
@[simp] def kDGet22 (fz : M D) (env : EN) (d k : D) (h : HP) : R D := (fz env h).bind (kDGet23 d k)
@[simp] def kDGet21 (fk fz : M D) (env : EN) (d : D) (h : HP) : R D := if (dicO h d).isSome = true then (fk env h).bind (kDGet22 fz env d) else .stuck
@[simp] def mDGet2 (fd fk fz : M D) (env : EN) (h : HP) : R D := (fd env h).bind (kDGet21 fk fz env)
@[simp] def kDisp3 (n : Nat) (y : D) : Option Key → Option O → HP → R D
  | some k, some (.dic []), h => .ok (.ref n) (h.set n (.dic [(k, y)]))
  | _, _, _ => .stuck
@[simp] def kDisp2 (n : Nat) (kd y : D) (h : HP) : R D := kDisp3 n y (dKey kd) h[n]? h
@[simp] def kDisp1 (fv : M D) (env : EN) (n : Nat) (kd : D) (h : HP) : R D := (fv env h).bind (kDisp2 n kd)
@[simp] def mDisp1 (fk fv : M D) (env : EN) (h : HP) : R D := (fk env (h ++ [.dic []])).bind (kDisp1 fv env h.length)
@[simp] def dputL (n : Nat) (k : Key) (y : D) (env : EN) : Option O → HP → SR
  | some (.dic ks), h => if ks.length < sizeLine then .nx env (h.set n (.dic (putT ks k y))) else .stuck
  | _, _ => .stuck
@[simp] def dputK (n : Nat) (y : D) (env : EN) : Option Key → HP → SR
  | some k, h => dputL n k y env h[n]? h
  | none, _ => .stuck
@[simp] def kDPut2 (env : EN) (y : D) : D → D → HP → SR
  | .ref n, k, h => dputK n y env (dKey k) h
  | _, _, _ => .stuck
@[simp] def kDPut1 (fi : M D) (env : EN) (y o : D) (h : HP) : SR := (fi env h).sbind (kDPut2 env y o)
@[simp] def kDPut (fo fi : M D) (env : EN) (y : D) (h : HP) : SR := (fo env h).sbind (kDPut1 fi env y)
@[simp] def sDPut (fv fo fi : M D) (env : EN) (h : HP) : SR := (fv env h).sbind (kDPut fo fi env)
end
end Ev
namespace EvZ
open PySem PySem.Spec PyProof.Rows L2
def ItB (k : Bool) (h : Heap) (it a : Addr) (i : Nat) : Prop := if k = true then h.IsListIter it a i else h.IsTupleIter it a i
def HasB (k : Bool) (h : Heap) (a : Addr) (its : Array Value) : Prop := if k = true then h.IsList a its else h.IsTuple a its
theorem ItB.at {k : Bool} {h h' : Heap} {it a : Addr} {i : Nat} (x : ItB k h it a i) (e : ∀ o, h.get? it = some o → h'.get? it = some o) : ItB k h' it a i := by
  cases k with
  | true => exact Heap.IsListIter.at (show h.IsListIter it a i from x) e
  | false => exact Heap.IsTupleIter.at (show h.IsTupleIter it a i from x) e
section
end
end EvZ
namespace Ev
open PySem PySem.Spec PyProof.Rows L2 EvZ
section
variable {g : G} {X : Cx} {E : XK}
@[simp] def srcD (h : HP) : D → Option (List D × GdL)
  | .tup ds => some (ds, [])
  | d => lview h d
@[simp] def zipS : Option (List D × GdL) → Option (List D × GdL) → HP → R (List D × GdL)
  | some p, some q, h => .ok (zipD p.1 q.1, p.2 ++ q.2) h
  | _, _, _ => .stuck
@[simp] def kZipS : List D → HP → R (List D × GdL)
  | [x, y], h => zipS (srcD h x) (srcD h y) h
  | _, _ => .stuck
@[simp] def iZipS (a : M (List D)) (env : EN) (hp : HP) : R (List D × GdL) := (a env hp).bind kZipS
end
end Ev
namespace Ev
open PySem PySem.Spec PyProof.Rows L2
@[simp] def gPreD (ds : List D) (xs ys : List D) : List D := xs ++ (ds ++ ys)
end Ev
namespace EvZ
open PySem PySem.Spec PyProof.Rows L2
section
end
end EvZ
namespace Ev
open PySem PySem.Spec PyProof.Rows L2 EvZ
section
variable {g : G} {X : Cx} {E : XK}
def enumD (xs : List D) : List D := xs.mapIdx fun i d => .tup [.int (i : Nat), d]
@[simp] def enumS : Option (List D × GdL) → HP → R (List D × GdL)
  | some p, h => .ok (enumD p.1, p.2) h
  | none, _ => .stuck
@[simp] def kEnumS : List D → HP → R (List D × GdL)
  | [x], h => enumS (srcD h x) h
  | _, _ => .stuck
@[simp] def iEnumS (a : M (List D)) (env : EN) (hp : HP) : R (List D × GdL) := (a env hp).bind kEnumS
end
end Ev
namespace Ev
open PySem PySem.Spec PyProof.Rows L2
section
variable {g : G} {X : Cx} {E : XK}
@[simp] def kTupR : D → HP → R D
  | .int n, h => if 0 ≤ n ∧ n ≤ 16000000 then .ok (.tup (rngD 0 n.toNat)) h else .stuck
  | _, _ => .stuck
@[simp] def mTupR (f : M D) (env : EN) (h : HP) : R D := (f env h).bind kTupR
end
end Ev
namespace Ev
open PySem PySem.Spec PyProof.Rows L2
section
end
end Ev
namespace EvS
open PySem PySem.Spec PyProof.Rows L2
section
end
section
end
section
variable {P : Program} {w : World} {A : Around} {E : Value → Shared → Prop} {s : Shared}
abbrev freshS (w : World) : Obj := { cls := .type "set", dict := none, data := .set #[] 0 (.fresh 0 0 (!w.params.followText "set-order")) }
set_option maxHeartbeats 3200000 in
theorem call_set_lstI {l : Addr} {items : Array Value} (ns : List Int) {Q : Value → Shared → Prop} (hh : A.handled = none) (hl : s.heap.IsList l items) (hit : IntsAre items.toList ns) (hb : ns.length + 1 < scanBound)
    (h : ∀ (h' : Heap) (tk c : Nat), SetR w h' s.heap.objs.size (fun j => decide (j ∈ ns)) c → c ≤ ns.length → (∀ b o, s.heap.get? b = some o → h'.get? b = some o) → Q (.ref s.heap.objs.size) { s with heap := h', toks := tk }) :
    wpAny (model P w) A (call (.type "set") [.ref l]) Q E s := by
  have hisz : items.size = ns.length := by have q := IntsAre.length hit; rw [Array.length_toList] at q; exact q
  obtain ⟨c, tl, hmro⟩ := F.called_set.mro; have hmade := F.called_set.made; have hsub := F.called_set.sub
  refine wpAny_call (codeAny_of_tree ?_); show wpAny _ _ (callAny (.type "set") _) _ _ _
  refine wpAny_pure ⟨Code.quiet_builtin _ (by decide +kernel), codeAny_builtin F.entry_type_call ?_⟩; rw [Around.under_plain (weight_type_call_type "set" [.ref l] []) rfl]
  have h1 := F.called_set.notType; have h2 := F.called_set.canCreate; have hct := F.typeCall_set_1 (.ref l); repeat (any_goals (first | assumption | wp_step))
  refine codeAny_mono (code_set_led1 (.ref l) (E := E) (Q₁ := fun obj s₁ => obj = .ref s.heap.objs.size ∧ s₁ = { s with heap := s.heap.push (freshS w) }) ⟨rfl, rfl⟩) fun r s₁ hr => ?_
  cases r with
  | error e => exact hr
  | ok fl =>
    cases fl with
    | ret obj =>
      obtain ⟨rfl, rfl⟩ := hr
      have hS : (s.heap.push (freshS w)).get? s.heap.objs.size = some (freshS w) := Heap.get?_push_size _ rfl
      have hT : Shared.TypeIs { s with heap := s.heap.push (freshS w) } (.ref s.heap.objs.size) "set" := ⟨_, hS, rfl⟩
      have hli := F.called_set.init.lookup; have hbi := F.called_set.init.bind (.ref s.heap.objs.size); repeat (any_goals (first | assumption | wp_step))
      refine codeAny_mono (codeAny_call_builtin (R := wants (fun r s₂ => r = .none ∧ ∃ h' tk c, s₂ = { s with heap := h', toks := tk } ∧ SetR w h' s.heap.objs.size (fun j => decide (j ∈ ns)) c ∧ c ≤ ns.length ∧
          ∀ b o, s.heap.get? b = some o → h'.get? b = some o) E) F.called_set.init.plain F.entry_set_init (check_set_init_1 hT ?_)) fun r₂ s₂ hr₂ => ?_
      · obtain ⟨ol, hol, hcl, nl, hdl⟩ := hl; obtain ⟨ocls, odict, odata, oslots⟩ := ol; simp only at hcl hdl; subst hcl; subst hdl
        have hol' : (s.heap.push (freshS w)).get? l = some { cls := .type "list", dict := odict, data := .seq items nl, slots := oslots } := Heap.get?_push_of_some _ hol
        have hsls := PySem.F.sub_list_set; have hslf := PySem.F.sub_list_frozenset; have hne : (Value.type "list" == Value.type "dict") = false := by decide
        have hl1 : (s.heap.push (freshS w)).IsList l items := ⟨_, hol', rfl, nl, rfl⟩
        unfold Builtin.«set.__init__» noKeywords Builtin.Frozenset.updateFrom
        generalize hPI : pyIter = PI; wp_walk; subst hPI
        refine wpAny_pyIter_list hl1 ?_; refine wpAny_bind (wpAny_runValue ?_)
        have hlS : l < s.heap.objs.size := Heap.lt_size hol
        have hh3 : A.in1.in1.in1.handled = none := by simp [hh]
        have hz1 : (s.heap.push (freshS w)).objs.size = s.heap.objs.size + 1 := Heap.size_push ..
        have hval : ∀ (i : Nat) (v : Value), items[i]? = some v → ∃ k t, ns[i]? = some k ∧ v = .int k t := fun i v hv => by
          have hi : i < ns.length := by rw [← hisz]; exact (Array.getElem?_eq_some_iff.mp hv).1
          obtain ⟨t, e⟩ := PyProof.Rows.IntsAre.int_at hit i v (by rw [Array.getElem?_toList]; exact hv)
          refine ⟨ns[i], t, List.getElem?_eq_getElem hi, ?_⟩; rw [e, List.getD_eq_getElem?_getD, List.getElem?_eq_getElem hi] <;> rfl
        refine set_update_ints ((Walks.list hh3 _ l (by rw [hz1]; exact Nat.ne_of_lt (Nat.lt_succ_of_lt hlS)) items).toS) s.heap.objs.size
          (by rw [hz1]; simp only [List.mem_cons, List.not_mem_nil, or_false, not_or]; exact ⟨Nat.ne_of_lt (Nat.lt_succ_self _), Nat.ne_of_gt hlS⟩) ns hisz hb hval (items.size - 0) 0 _ (by omega) (Nat.zero_le _)
          ⟨⟨_, Heap.get?_push_size _ rfl, rfl, rfl⟩, hl1.push _⟩ ⟨0, Nat.le_refl 0, setR_new_at (Heap.get?_push_of_some _ hS)⟩ ?_
        intro s' c' hm hc' hS'
        obtain ⟨h', g2, d', tk', os'⟩ := s'
        have eg : g2 = s.gens := hm.gens; have ed : d' = s.drawn := hm.drawn; have eo : os' = s.os := hm.os; subst eg; subst ed; subst eo
        show wpAny _ _ _ _ _ _; refine wpAny_pure ?_; show wpAny _ _ (ret Value.none) _ _ _; rw [hisz] at hc'
        refine wpAny_pure ⟨rfl, h', tk', c', rfl, hS', hc', fun b o e => ?_⟩
        have hb0 : b < s.heap.objs.size := Heap.lt_size e
        exact hm.heap b o (by simp only [List.mem_cons, List.not_mem_nil, or_false, not_or]; exact ⟨Nat.ne_of_lt hb0, by rw [hz1]; exact Nat.ne_of_lt (Nat.lt_succ_of_lt hb0)⟩) (Heap.get?_push_of_some _ (Heap.get?_push_of_some _ e))
      · cases r₂ with
        | error e => exact hr₂
        | ok fl₂ =>
          cases fl₂ with
          | ret r =>
            obtain ⟨rfl, h', tk, c', rfl, hS', hc', hk'⟩ := hr₂
            repeat (any_goals (first | assumption | wp_step))
            exact h _ _ _ hS' hc' hk'
          | _ => exact hr₂.elim
    | _ => exact hr.elim
end
end EvS
namespace EvS
open PySem PySem.Spec PyProof.Rows L2 EvZ
def ins1 (k : Int) : List Int → List Int
  | [] => [k]
  | x :: xs => if k < x then k :: x :: xs else if k = x then x :: xs else x :: ins1 k xs
def srt : List Int → List Int
  | [] => []
  | k :: ks => ins1 k (srt ks)
theorem mem_ins1 {j k : Int} : ∀ {xs : List Int}, j ∈ ins1 k xs ↔ j = k ∨ j ∈ xs
  | [] => by simp [ins1]
  | x :: xs => by
    unfold ins1
    split
    · simp
    · split
      · rename_i e
        subst e
        simp
      · simp only [List.mem_cons, mem_ins1 (xs := xs)]
        constructor
        · rintro (h | h | h) <;> simp [h]
        · rintro (h | h | h) <;> simp [h]
theorem mem_srt {j : Int} : ∀ {xs : List Int}, j ∈ srt xs ↔ j ∈ xs
  | [] => by simp [srt]
  | x :: xs => by
    unfold srt
    rw [mem_ins1, mem_srt (xs := xs), List.mem_cons]
theorem ins1_pw {k : Int} : ∀ {xs : List Int}, xs.Pairwise (· < ·) → (ins1 k xs).Pairwise (· < ·)
  | [], _ => by simp [ins1]
  | x :: xs, h => by
    unfold ins1
    have h2 := List.pairwise_cons.mp h
    split
    · rename_i c
      refine List.pairwise_cons.mpr ⟨fun y hy => ?_, h⟩
      rcases List.mem_cons.mp hy with rfl | hy
      · exact c
      · exact Int.lt_trans c (h2.1 y hy)
    · split
      · exact h
      · refine List.pairwise_cons.mpr ⟨fun y hy => ?_, ins1_pw h2.2⟩
        rcases mem_ins1.mp hy with rfl | hy
        · omega
        · exact h2.1 y hy
theorem srt_pw : ∀ {xs : List Int}, (srt xs).Pairwise (· < ·)
  | [] => by simp [srt]
  | x :: xs => by
    unfold srt
    exact ins1_pw srt_pw
theorem nodup_le : ∀ {xs ys : List Int}, xs.Nodup → (∀ j ∈ xs, j ∈ ys) → xs.length ≤ ys.length
  | [], _, _, _ => Nat.zero_le _
  | x :: xs, ys, h, k => by
    obtain ⟨h1, h2⟩ := List.nodup_cons.mp h
    have m := k x (by simp)
    have := nodup_le (xs := xs) (ys := ys.erase x) h2 fun j hj => (List.mem_erase_of_ne (by intro e; subst e; exact h1 hj)).mpr (k j (List.mem_cons_of_mem _ hj))
    have e := List.length_erase_of_mem m
    have : 0 < ys.length := List.length_pos_of_mem m
    simp only [List.length_cons]
    omega
section
variable {X : Cx}
/-- the same, ahead of sorted: a list -/
def rSetS (K : PySem.W.Frag) (w : World) : List V → Hp → VK → Prop := fun vs H Q => ∃ (a : Addr) (ns : List Int), vs = [V.ref a] ∧ SqL K H a (ns.map V.int) ∧ ns.length ≤ 1000 ∧ ∀ p n, H p = none → n ≤ (srt ns).length → Q (.ref p) (upd H p (SetO w p (fun j => decide (j ∈ ns)) n))
theorem cr_setS (hc : X.calm = true) : CallR X (.type "set") (rSetS X.K X.w) := by
  intro pins s σ H vs us Q I r h
  obtain ⟨a, ns, rfl, hs, hl, q⟩ := h
  rw [Vals.ref1 r]
  obtain ⟨its, rv, pl, hz⟩ := I.list hs
  refine call_set_lstI ns (I.ok.hd hc) pl.isList (by simpa using ints_of_vals rv) (by unfold scanBound; omega) fun h' tk c R1 hcn k => ?_
  have hc2 : c ≤ (srt ns).length := by
    have R2 := R1
    obtain ⟨o, es, ep, t, _, _, _, _, nd, hm, _, _, e, _⟩ := R2
    have := nodup_le nd fun j hj => mem_srt.mpr (decide_eq_true_eq.mp ((hm j).mpr hj))
    rw [List.length_map, Array.length_toList, e] at this
    exact this
  exact ⟨.ref s.heap.objs.size, _, I.laid (t' := tk) k (Nat.le_refl _) (setO_new R1), rfl, q _ c (I.hok.fresh (Nat.le_refl _)) hc2⟩
end
end EvS
namespace Ev
open PySem PySem.Spec PyProof.Rows L2 EvS
section
variable {g : G} {X : Cx} {E : XK}
@[simp] def setN : Option (List Int) → HP → R D
  | some ns, h => if ns.length ≤ 1000 then .ok (.set ns) h else .stuck
  | none, _ => .stuck
@[simp] def setD1 : Option (List D) → HP → R D
  | some es, h => setN (intsD es) h
  | none, _ => .stuck
@[simp] def bSet : List D → HP → R D
  | [x], h => setD1 (seqD h x) h
  | _, _ => .stuck
@[simp] def fSIn (neg : Bool) : D → D → HP → R D
  | .int k, .set ks, h => .ok (.bl (if neg then !(decide (k ∈ ks)) else decide (k ∈ ks))) h
  | _, _, _ => .stuck
@[simp] def srtN : Option (List Int) → HP → R D
  | some ns, h => if ns.length ≤ 1000 ∧ (srt ns).length < 64 then .ok (.lst ((srt ns).map D.int)) h else .stuck
  | none, _ => .stuck
@[simp] def srtD1 : Option (List D) → HP → R D
  | some es, h => srtN (intsD es) h
  | none, _ => .stuck
@[simp] def kSortSet (x : D) (h : HP) : R D := srtD1 (asL h x) h
@[simp] def mSortSet (a : M D) (env : EN) (hp : HP) : R D := (a env hp).bind kSortSet
@[simp] def neT : D → Option Bool
  | .tup ds => some (!ds.isEmpty)
  | _ => none
@[simp] def nesT : List D → Option (List Bool)
  | [] => some []
  | d :: ds => (neT d).bind fun b => (nesT ds).map (b :: ·)
@[simp] def allT2 : Option (List Bool) → HP → R D
  | some bs, h => .ok (.bl (bs.all id)) h
  | none, _ => .stuck
@[simp] def allT1 : Option (List D) → HP → R D
  | some es, h => allT2 (nesT es) h
  | none, _ => .stuck
@[simp] def bAllT : List D → HP → R D
  | [x], h => allT1 (asL h x) h
  | _, _ => .stuck
end
end Ev
namespace Ev
open PySem PySem.Spec PyProof.Rows L2
section
variable {g : G} {X : Cx} {E : XK}
@[simp] def slLL (lo hi : Option Int) : Option (List D) → HP → R D
  | some ds, h => newL true (cutD ds lo hi) h
  | none, _ => .stuck
@[simp] def kSlL2 (hi : M (Option Int)) (env : EN) (x : D) (l : Option Int) (h : HP) : R D := (hi env h).bind fun r h2 => slLL l r (asL h2 x) h2
@[simp] def kSlL1 (lo hi : M (Option Int)) (env : EN) (x : D) (h : HP) : R D := (lo env h).bind (kSlL2 hi env x)
@[simp] def mSlL (a : M D) (lo hi : M (Option Int)) (env : EN) (hp : HP) : R D := (a env hp).bind (kSlL1 lo hi env)
theorem EV.slL {e : Expr} {lo hi : Option Expr} {p2 pos : Pos} {f : M D} {fl fh : M (Option Int)} (hK : X.K = g.K) (he : EV g X E e f) (hl : PV g X E lo fl) (hh : PV g X E hi fh) : EV g X E (.Subscript e (.Slice lo hi none p2) pos) (mSlL f fl fh) := by
  obtain ⟨t, p, q⟩ := he
  obtain ⟨tl, pl, ql⟩ := hl
  obtain ⟨th, ph, qh⟩ := hh
  refine ⟨_, pe_slice sl_list p pl ph, fun σ H Q m env hp hl er h => ?_⟩
  refine q σ H _ m env hp hl er (PO.bind h fun x h1 m1 H1 v x1 hl1 r1 h => ?_)
  refine ql σ H1 _ m1 env h1 hl1 (er.ext x1) (PO.bind h fun y h2 m2 H2 u x2 hl2 r2 h => ?_)
  refine qh σ H2 _ m2 env h2 hl2 ((er.ext x1).ext x2) (PO.bind h fun z h3 m3 H3 w x3 hl3 r3 h => ?_)
  subst r2
  subst r3
  have r1 := rep.ext (x2.trans x3) _ _ r1
  rw [hK]
  unfold slLL at h
  split at h
  · rename_i ds e
    obtain ⟨a, vs, rfl, hs, rs⟩ := asL_ok hl3 r1 e
    exact ⟨a, vs, rfl, hs, (PO.newL hl3 rs.cut h).2⟩
  · exact h.elim
end
end Ev
namespace LibT
open PySem PySem.Spec PyProof.Rows L2 Ev Lib
@[simp] theorem nb_moment_boxes : (("moment" : Str) == ("boxes" : Str)) = false := by decide +kernel
@[simp] theorem ne_moment_boxes : (("moment" : Str) = ("boxes" : Str)) = False := eq_false (by decide +kernel)
@[simp] theorem nb_boxes_moment : (("boxes" : Str) == ("moment" : Str)) = false := by decide +kernel
@[simp] theorem ne_boxes_moment : (("boxes" : Str) = ("moment" : Str)) = False := eq_false (by decide +kernel)
end LibT
namespace EvQ
open PySem PySem.Spec PyProof.Rows L2 EvZ
abbrev T4 (h : Heap) (T : Addr) (a b c d : Value) : Prop := h.get? T = some { cls := .type "tuple", data := .seq #[a, b, c, d] }
def J (k : Bool) (h : Heap) (it a : Addr) (i : Nat) (its : Array Value) : Prop := ItB k h it a i ∧ HasB k h a its
theorem HasB.at {k : Bool} {h h' : Heap} {a : Addr} {its : Array Value} (x : HasB k h a its) (e : ∀ o, h.get? a = some o → h'.get? a = some o) : HasB k h' a its := by
  cases k with
  | true =>
    obtain ⟨o, e1, r⟩ := (show h.IsList a its from x)
    exact ⟨o, e _ e1, r⟩
  | false =>
    obtain ⟨o, e1, r⟩ := (show h.IsTuple a its from x)
    exact ⟨o, e _ e1, r⟩
theorem J.at {k : Bool} {h h' : Heap} {it a : Addr} {i : Nat} {its : Array Value} (x : J k h it a i its) (e1 : ∀ o, h.get? it = some o → h'.get? it = some o) (e2 : ∀ o, h.get? a = some o → h'.get? a = some o) : J k h' it a i its := ⟨ItB.at x.1 e1, HasB.at x.2 e2⟩
/-- all but the zip's cells is kept -/
def Kp (N : Nat) (h h' : Heap) : Prop := ∀ (b : Nat) o, (b < N ∨ N + 6 < b) → h.get? b = some o → h'.get? b = some o
theorem Kp.trans {N : Nat} {a b c : Heap} (x : Kp N a b) (y : Kp N b c) : Kp N a c := fun p o h e => y p o h (x p o h e)
theorem Kp.same {N x : Nat} {h h' : Heap} (s : Heap.SameBut x h h') (h1 : N ≤ x) (h2 : x ≤ N + 6) : Kp N h h' := fun b o c e => s.extBut b o (by rcases c with c | c; exact Nat.ne_of_lt (by omega); exact Nat.ne_of_gt (by omega)) e
theorem Kp.ext {N x : Nat} {h h' : Heap} (s : Heap.ExtBut x h h') (h1 : N ≤ x) (h2 : x ≤ N + 6) : Kp N h h' := fun b o c e => s b o (by rcases c with c | c; exact Nat.ne_of_lt (by omega); exact Nat.ne_of_gt (by omega)) e
section
end
end EvQ
namespace EvQ
open PySem PySem.Spec PyProof.Rows L2 EvZ
section
end
structure Z4 (N : Nat) (k1 k2 k3 k4 : Bool) (l1 l2 l3 l4 : Nat) (x1 x2 x3 x4 : Array Value) (S : Nat) (i : Nat) (h : Heap) : Prop where
  z : (IsZip h (N + 6) (N + 4) (N + 5) .none ∧ ∃ a b c d, T4 h (N + 5) a b c d) ∨ ∃ (T : Nat) (f : Bool) (oT : Obj), N + 6 < T ∧ T ≠ S ∧ IsZipHeld h (N + 6) (N + 4) (N + 5) T f ∧ h.get? T = some oT
  ti : T4 h (N + 4) (.ref N) (.ref (N + 1)) (.ref (N + 2)) (.ref (N + 3))
  j1 : J k1 h N l1 i x1
  j2 : J k2 h (N + 1) l2 i x2
  j3 : J k3 h (N + 2) l3 i x3
  j4 : J k4 h (N + 3) l4 i x4
theorem Z4.at {N : Nat} {k1 k2 k3 k4 : Bool} {l1 l2 l3 l4 : Nat} {x1 x2 x3 x4 : Array Value} {S i : Nat} {h h' : Heap} (q1 : l1 < N) (q2 : l2 < N) (q3 : l3 < N) (q4 : l4 < N) (hS : N + 6 < S) (x : Z4 N k1 k2 k3 k4 l1 l2 l3 l4 x1 x2 x3 x4 S i h) (k : ∀ (b : Nat) o, b ≠ S → h.get? b = some o → h'.get? b = some o) : Z4 N k1 k2 k3 k4 l1 l2 l3 l4 x1 x2 x3 x4 S i h' := by
  refine ⟨?_, k _ _ (by omega) x.ti, x.j1.at (fun o e => k _ o (by omega) e) fun o e => k _ o (by omega) e, x.j2.at (fun o e => k _ o (by omega) e) fun o e => k _ o (by omega) e, x.j3.at (fun o e => k _ o (by omega) e) fun o e => k _ o (by omega) e, x.j4.at (fun o e => k _ o (by omega) e) fun o e => k _ o (by omega) e⟩
  rcases x.z with ⟨z, a, b, c, d, t⟩ | ⟨T, f, oT, t1, t2, z, t⟩
  · exact .inl ⟨k _ _ (by omega) z, a, b, c, d, k _ _ (by omega) t⟩
  · exact .inr ⟨T, f, oT, t1, t2, k _ _ (by omega) z, k _ _ t2 t⟩
section
end
end EvQ
namespace EvQ
open PySem PySem.Spec PyProof.Rows L2 EvZ
section
end
def zr4 {α : Type} : List α → List α → List α → List α → List (List α)
  | a :: as, b :: bs, c :: cs, d :: ds => [a, b, c, d] :: zr4 as bs cs ds
  | _, _, _, _ => []
section
end
section
end
end EvQ
namespace Ev
open PySem PySem.Spec PyProof.Rows L2 EvZ EvQ
section
variable {g : G} {X : Cx} {E : XK}
def repL (g : G) (m : AM) (H : Hp) : List (List D) → List (List V) → Prop
  | [], [] => True
  | d :: ds, r :: rs => reps g m H d r ∧ repL g m H ds rs
  | _, _ => False
theorem repL.ext {m m' : AM} {H H' : Hp} (x : Ex m H m' H') : ∀ {ds : List (List D)} {rs : List (List V)}, repL g m H ds rs → repL g m' H' ds rs
  | [], [], _ => trivial
  | d :: ds, r :: rs, h => ⟨reps.ext x _ _ h.1, repL.ext x h.2⟩
  | [], _ :: _, h => h.elim
  | _ :: _, [], h => h.elim
def zip4D (as bs cs ds : List D) : List D := (EvQ.zr4 as bs cs ds).map D.tup
@[simp] def lz4S : Option (List D × GdL) → Option (List D × GdL) → Option (List D × GdL) → Option (List D × GdL) → HP → R D
  | some p, some q, some r, some s, h => .ok (.lst (zip4D p.1 q.1 r.1 s.1)) h
  | _, _, _, _, _ => .stuck
@[simp] def kLz4 : List D → HP → R D
  | [x, y, u, w], h => lz4S (srcD h x) (srcD h y) (srcD h u) (srcD h w) h
  | _, _ => .stuck
@[simp] def mLz4 (a : M (List D)) (env : EN) (hp : HP) : R D := (a env hp).bind kLz4
end
end Ev
namespace Ev
open PySem PySem.Spec PyProof.Rows L2
section
variable {g : G} {X : Cx} {E : XK}
@[simp] def apF (n k : Nat) : Option O → HP → R D
  | some (.lst ds), h => if n = k then .stuck else (appL n (.lst ds) (h.set k .dead)).bind kUnit
  | _, _ => .stuck
@[simp] def lAppendF : D → List D → HP → R D
  | .ref n, [.ref k], h => apF n k h[k]? h
  | _, _, _ => .stuck
end
end Ev
namespace Ev
open PySem PySem.Spec PyProof.Rows L2
section
variable {g : G} {X : Cx} {E : XK}
@[simp] def addJ (k : Str → HP → R D) (out : Str) : D → HP → R D
  | .str y, h => if (out ++ y).length ≤ sizeLine then k (out ++ y) h else .stuck
  | _, _ => .stuck
@[simp] def mJs : List (M D) → Str → M D
  | [], out, _, h => .ok (.str out) h
  | f :: fs, out, env, h => (f env h).bind (addJ (fun o h' => mJs fs o env h') out)
structure JV (g : G) (X : Cx) (E : XK) (es : List Expr) (fs : List (M D)) : Prop where
  ex : ∃ ts, PJ X es ts ∧ ∀ out σ H Q m env hp, HL g m H hp → ER g m H σ env → PO g m H E (rep g) (fun v H' => ∀ o, v = V.str o → Q o H') (mJs fs out env hp) → tJs ts out σ H Q
theorem JV.nil : JV g X E [] [] := ⟨[], .nil, fun out σ H Q m env hp hl er h => by
  exact h m H (.str out) (.refl _ _) hl (by simp [rep]) out rfl⟩
theorem JV.cons {e : Expr} {es : List Expr} {f : M D} {fs : List (M D)} (he : EV g X E e f) (hr : JV g X E es fs) : JV g X E (e :: es) (f :: fs) := by
  obtain ⟨t, p, q⟩ := he
  obtain ⟨ts, ps, qs⟩ := hr
  refine ⟨t :: ts, .cons p ps, fun out σ H Q m env hp hl er h => ?_⟩
  unfold tJs
  unfold mJs at h
  refine q σ H _ m env hp hl er (PO.bind h fun x h1 m1 H1 v x1 hl1 r1 h => ?_)
  unfold addJ at h
  split at h
  · rename_i y
    split at h
    · rename_i c
      exact ⟨y, rStr r1, c, qs _ σ H1 _ m1 env h1 hl1 (er.ext x1) h⟩
    · exact h.elim
  · exact h.elim
@[simp] def kFmt : D → HP → R D
  | .str y, h => if y.length ≤ sizeLine then .ok (.str y) h else .stuck
  | .int i, h => if i.natAbs.log2 < 1920 then .ok (.str (Str.ofString (toString i))) h else .stuck
  | _, _ => .stuck
@[simp] def mFmt (f : M D) (env : EN) (hp : HP) : R D := (f env hp).bind kFmt
@[simp] def padO (a : Str) (i : Int) (h : HP) : R D := if PadOk i = true then .ok (.str (Txt.rjust a i)) h else .stuck
@[simp] def kRj2 : D → D → HP → R D
  | .str a, .int i, h => padO a i h
  | _, _, _ => .stuck
@[simp] def isSD : D → Bool
  | .str _ => true
  | _ => false
@[simp] def kRj1 (f : M D) (env : EN) (x : D) (h : HP) : R D := if isSD x = true then (f env h).bind (kRj2 x) else .stuck
@[simp] def mRjust (fo f : M D) (env : EN) (hp : HP) : R D := (fo env hp).bind (kRj1 f env)
theorem EV.rjust {o e : Expr} {apos pos : Pos} {fo f : M D} (slot : Slot "str" "rjust" "str.rjust") (ty : typeOf (.builtin "str.rjust") = pure (.type "method_descriptor")) (ho : EV g X E o fo) (he : EV g X E e f)
    (h1 : starEach [e] X.env = [(false, eval e X.env)]) (h2 : attributeBase o "rjust" X.env (eval o X.env) = eval o X.env) (h3 : (apos.endLine == pos.line) = true) : EV g X E (.Call (.Attribute o "rjust" apos) [e] [] pos) (mRjust fo f) := by
  obtain ⟨to, po, qo⟩ := ho
  obtain ⟨t, p, q⟩ := he
  refine ⟨_, pe_m1 slot ty mt_rjust po p h1 h2 h3, fun σ H Q m env hp hl er h => ?_⟩
  refine qo σ H _ m env hp hl er (PO.bind h fun x k1 m1 H1 v x1 hl1 r1 h => ?_)
  unfold kRj1 at h
  split at h
  · rename_i c
    unfold isSD at c
    split at c
    · rename_i a
      refine ⟨⟨a, rStr r1⟩, ?_⟩
      refine q σ H1 _ m1 env k1 hl1 (er.ext x1) (PO.bind h fun y k2 m2 H2 u x2 hl2 r2 h => ?_)
      unfold kRj2 at h
      split at h
      · rename_i b i e
        cases e
        unfold padO at h
        split at h
        · rename_i ok
          exact ⟨a, i, rStr r1, by rw [rInt r2], ok, PO.here hl2 h (by simp [rep])⟩
        · exact h.elim
      · exact h.elim
    · cases c
  · exact h.elim
def strsD : List D → Option (List Str)
  | [] => some []
  | .str x :: r => (strsD r).map (x :: ·)
  | _ => none
theorem strsD_ok {m : AM} {H : Hp} : ∀ {ds : List D} {vs : List V} {ys : List Str}, reps g m H ds vs → strsD ds = some ys → vs = ys.map V.str
  | [], vs, ys, r, e => by
    simp only [reps] at r
    simp only [strsD, Option.some.injEq] at e
    subst r
    subst e
    rfl
  | d :: ds, vs, ys, r, e => by
    simp only [reps] at r
    obtain ⟨v, us, rfl, h1, h2⟩ := r
    cases d with
    | str x =>
      simp only [strsD, Option.map_eq_some_iff] at e
      obtain ⟨zs, e1, rfl⟩ := e
      rw [strsD_ok h2 e1, rStr h1]
      rfl
    | _ => simp [strsD] at e
@[simp] def joinO (a : Str) : Option (List Str) → HP → R D
  | some ys, h => if (ys.map fun x => x.length).sum + ys.length * a.length ≤ 16777216 then .ok (.str (Txt.join a ys)) h else .stuck
  | none, _ => .stuck
@[simp] def kJo3 (a : Str) : Option (List D) → HP → R D
  | some ds, h => joinO a (strsD ds) h
  | none, _ => .stuck
@[simp] def kJo2 : D → D → HP → R D
  | .str a, y, h => kJo3 a (seqD h y) h
  | _, _, _ => .stuck
@[simp] def kJo1 (f : M D) (env : EN) (x : D) (h : HP) : R D := if isSD x = true then (f env h).bind (kJo2 x) else .stuck
@[simp] def mJoin (fo f : M D) (env : EN) (hp : HP) : R D := (fo env hp).bind (kJo1 f env)
theorem EV.join {o e : Expr} {apos pos : Pos} {fo f : M D} (hK : X.K = g.K) (ho : EV g X E o fo) (he : EV g X E e f)
    (h1 : starEach [e] X.env = [(false, eval e X.env)]) (h2 : attributeBase o "join" X.env (eval o X.env) = eval o X.env) (h3 : (apos.endLine == pos.line) = true) : EV g X E (.Call (.Attribute o "join" apos) [e] [] pos) (mJoin fo f) := by
  obtain ⟨to, po, qo⟩ := ho
  obtain ⟨t, p, q⟩ := he
  refine ⟨_, pe_join po p h1 h2 h3, fun σ H Q m env hp hl er h => ?_⟩
  refine qo σ H _ m env hp hl er (PO.bind h fun x k1 m1 H1 v x1 hl1 r1 h => ?_)
  unfold kJo1 at h
  split at h
  · rename_i c
    unfold isSD at c
    split at c
    · rename_i a
      refine ⟨⟨a, rStr r1⟩, ?_⟩
      refine q σ H1 _ m1 env k1 hl1 (er.ext x1) (PO.bind h fun y k2 m2 H2 u x2 hl2 r2 h => ?_)
      simp only [kJo2] at h
      unfold kJo3 at h
      split at h
      · rename_i ds e
        obtain ⟨p, vs, rfl, hs, rs⟩ := seqD_ok hl2 r2 e
        unfold joinO at h
        split at h
        · rename_i ys ey
          split at h
          · rename_i c
            have ev := strsD_ok rs ey
            subst ev
            exact ⟨a, p, ys, rStr r1, rfl, by rw [hK]; exact hs, c, PO.here hl2 h (by simp [rep])⟩
          · exact h.elim
        · exact h.elim
      · exact h.elim
    · cases c
  · exact h.elim
end
end Ev
namespace Ev
open PySem PySem.Spec PyProof.Rows L2
section
variable {g : G} {X : Cx} {E : XK}
@[simp] def keyD : Key → D
  | .inl i => .int i
  | .inr x => .str x
@[simp] def keysO : Option (List (Key × D)) → HP → R D
  | some ks, h => .ok (.lst (ks.map fun kv => keyD kv.1)) h
  | none, _ => .stuck
@[simp] def bListD : List D → HP → R D
  | [x], h => keysO (dicO h x) h
  | _, _ => .stuck
end
end Ev
set_option maxHeartbeats 4000000
namespace EvR
open PySem PySem.Spec PyProof.Rows L2
theorem mul_one (l : Addr) (items : Array Value) (n : Nat) (dd : Option Addr) (sl : Array (Option Value)) (u : Tok) :
    Meets (Builtin.«tuple.__mul__» ⟨[.ref l, .int 1 u], []⟩) (fun _ R s => s.heap.get? l = some { cls := .type "tuple", dict := dd, data := .seq items n, slots := sl } ∧ R (.ok (.ret (Value.ref l))) s) :=
  .of_wp fun prog w A R s h => by
    obtain ⟨hp, g, d, tk, os⟩ := s
    obtain ⟨hl, h⟩ := h
    have f1 := AutoSeq1.idx_int
    wp_walk using wpAny_loadPart' hl
    exact ⟨_, rfl, h⟩
theorem mul_zero (l : Addr) (items : Array Value) (n : Nat) (dd : Option Addr) (sl : Array (Option Value)) (u : Tok) (c1 : (items.isEmpty || (0 : Int) == 1) = false) :
    Meets (Builtin.«tuple.__mul__» ⟨[.ref l, .int 0 u], []⟩) (fun _ R s => s.heap.get? l = some { cls := .type "tuple", dict := dd, data := .seq items n, slots := sl } ∧
      R (.ok (.ret (Value.ref s.heap.objs.size))) { s with heap := s.heap.push { cls := Value.type "tuple", data := Data.seq #[] }, toks := s.toks }) :=
  .of_wp fun prog w A R s h => by
    obtain ⟨hp, g, d, tk, os⟩ := s
    obtain ⟨hl, h⟩ := h
    have f1 := AutoSeq1.idx_int
    wp_walk using wpAny_loadPart' hl
    repeat (first
      | (refine wpAny_ite_false (decide_eq_false (by rw [c1]; exact Bool.false_ne_true)) ?_; wp_walk using wpAny_loadPart' hl))
    exact ⟨_, rfl, h⟩
section
variable {X : Cx}
theorem op_rep1 : OpR X (binaryOp .Mult) (fun x y H Q => ∃ l xs, x = .ref l ∧ y = .int 1 ∧ SqT X.K H l xs ∧ Q (.ref l) H) := by
  intro pins s σ H x y v u Q I rx ry h
  obtain ⟨l, xs, rfl, rfl, hT, q⟩ := h
  cases rx
  obtain ⟨t, rfl⟩ := ry
  obtain ⟨its, r, ⟨⟨cls, dd, data, sl⟩, ho, hc, n, hd⟩, hs⟩ := I.tuple hT
  simp only at hc hd
  subst hc hd
  refine wpAny_binaryOp_repeat_ref (T := "tuple") (U := "int") (by decide) ⟨_, ho, rfl⟩ (fun s' => typeIs_int s' 1 t) noFill_tuple_mul F.fills_int_mul F.slot_int_rmul repeat_tuple F.slot_int_index.lookup
    (call_meets F.slot_int_rmul (typeIs_int s 1 t) F.entry_int_rmul (F.args_int_rmul_2 _ _) (int_rmul_tuple 1 t l its.toArray n dd sl)
      ⟨ho, rfl, ⟨_, ho, rfl⟩, call_meets F.slot_tuple_mul ⟨_, ho, rfl⟩ F.entry_tuple_mul (F.args_tuple_mul_2 _ _) (mul_one l its.toArray n dd sl t) ⟨ho, ?_⟩⟩)
  exact ⟨.ref l, _, I, rfl, q⟩
theorem op_rep0 : OpR X (binaryOp .Mult) (fun x y H Q => ∃ l xs, x = .ref l ∧ y = .int 0 ∧ SqT X.K H l xs ∧ xs ≠ [] ∧ ∀ p, H p = none → Q (.ref p) (upd H p (.tup []))) := by
  intro pins s σ H x y v u Q I rx ry h
  obtain ⟨l, xs, rfl, rfl, hT, hne, q⟩ := h
  cases rx
  obtain ⟨t, rfl⟩ := ry
  obtain ⟨its, r, ⟨⟨cls, dd, data, sl⟩, ho, hc, n, hd⟩, hs⟩ := I.tuple hT
  simp only at hc hd
  subst hc hd
  have hn : its ≠ [] := fun e => hne (by
    have hle : its.length = xs.length := r.length.symm
    rw [e] at hle
    exact List.eq_nil_of_length_eq_zero hle.symm)
  have c1 : (its.toArray.isEmpty || (0 : Int) == 1) = false := by
    cases its with
    | nil => exact absurd rfl hn
    | cons a b => rfl
  refine wpAny_binaryOp_repeat_ref (T := "tuple") (U := "int") (by decide) ⟨_, ho, rfl⟩ (fun s' => typeIs_int s' 0 t) noFill_tuple_mul F.fills_int_mul F.slot_int_rmul repeat_tuple F.slot_int_index.lookup
    (call_meets F.slot_int_rmul (typeIs_int s 0 t) F.entry_int_rmul (F.args_int_rmul_2 _ _) (int_rmul_tuple 0 t l its.toArray n dd sl)
      ⟨ho, rfl, ⟨_, ho, rfl⟩, call_meets F.slot_tuple_mul ⟨_, ho, rfl⟩ F.entry_tuple_mul (F.args_tuple_mul_2 _ _) (mul_zero l its.toArray n dd sl t c1) ⟨ho, ?_⟩⟩)
  refine ⟨.ref s.heap.objs.size, _, I.laid (t' := s.toks) (o := .tup []) (fun b ob q => Heap.get?_push_of_some _ q) (Nat.le_refl _) ?_, rfl, q _ (I.hok.fresh (Nat.le_refl _))⟩
  exact ⟨by simp, [], .nil, IsTup.new _ _⟩
end
end EvR
namespace Ev
open PySem PySem.Spec PyProof.Rows L2
section
variable {g : G} {X : Cx} {E : XK}
def rRep (K : PySem.W.Frag) : R2 := fun x y H Q => (∃ l xs, x = .ref l ∧ y = .int 1 ∧ SqT K H l xs ∧ Q (.ref l) H) ∨ (∃ l xs, x = .ref l ∧ y = .int 0 ∧ SqT K H l xs ∧ xs ≠ [] ∧ ∀ p, H p = none → Q (.ref p) (upd H p (.tup []))) ∨ rRepT K x y H Q
theorem op_rep : OpR X (binaryOp .Mult) (rRep X.K) := by
  intro pins s σ H x y v u Q I rx ry h
  rcases h with h | h | h
  · exact EvR.op_rep1 pins s σ H x y v u Q I rx ry h
  · exact EvR.op_rep0 pins s σ H x y v u Q I rx ry h
  · exact op_repT pins s σ H x y v u Q I rx ry h
def repO (k : Int) : Option (List D) → HP → R D
  | some ds, h => if ds ≠ [] ∧ 0 ≤ k ∧ k ≤ 1000 ∧ ds.length ≤ 1000 then .ok (.tup (List.replicate k.toNat ds).flatten) h else .stuck
  | none, _ => .stuck
@[simp] def asTD : D → Option (List D)
  | .tup ds => some ds
  | _ => none
@[simp] def fRep : D → D → HP → R D
  | x, .int k, h => repO k (asTD x) h
  | _, _, _ => .stuck
theorem reps.app {m : AM} {H : Hp} : ∀ {ds : List D} {vs : List V} {es : List D} {us : List V}, reps g m H ds vs → reps g m H es us → reps g m H (ds ++ es) (vs ++ us)
  | [], vs, es, us, r, r2 => by
    simp only [reps] at r
    subst r
    simpa using r2
  | d :: ds, vs, es, us, r, r2 => by
    simp only [reps] at r
    obtain ⟨v, w, rfl, h1, h2⟩ := r
    simp only [List.cons_append, reps]
    exact ⟨v, w ++ us, rfl, h1, reps.app h2 r2⟩
theorem reps.rep {m : AM} {H : Hp} {ds : List D} {vs : List V} (r : reps g m H ds vs) : ∀ k : Nat, reps g m H (List.replicate k ds).flatten (List.replicate k vs).flatten
  | 0 => by simp [reps]
  | k + 1 => by
    rw [List.replicate_succ, List.replicate_succ, List.flatten_cons, List.flatten_cons]
    exact r.app (reps.rep r k)
@[simp] def catLL : Option (List D) → Option (List D) → HP → R D
  | some xs, some ys, h => if xs.length + ys.length ≤ sizeLine then newL true (xs ++ ys) h else .stuck
  | _, _, _ => .stuck
@[simp] def fAddL (x y : D) (h : HP) : R D := catLL (asLx h x) (asLx h y) h
end
end Ev
namespace Ev
open PySem PySem.Spec PyProof.Rows L2
section
variable {g : G} {X : Cx} {E : XK}
@[simp] def mDisp0 (_ : EN) (h : HP) : R D := .ok (.ref h.length) (h ++ [.dic []])
@[simp] def kDGet12 (d k : D) (h : HP) : R D := dgetP .non (dKey k) (dicO h d) h
@[simp] def kDGet11 (fk : M D) (env : EN) (d : D) (h : HP) : R D := if (dicO h d).isSome = true then (fk env h).bind (kDGet12 d) else .stuck
@[simp] def mDGet1 (fd fk : M D) (env : EN) (h : HP) : R D := (fd env h).bind (kDGet11 fk env)
end
end Ev
set_option maxHeartbeats 4000000
namespace EvT
open PySem PySem.Spec PyProof.Rows L2 PySem.W
section
end
end EvT
namespace Ev
open PySem PySem.Spec PyProof.Rows L2
section
variable {g : G} {X : Cx} {E : XK}
@[simp] def keysT : Option (List (Key × D)) → HP → R D
  | some ks, h => .ok (.tup (ks.map fun kv => keyD kv.1)) h
  | none, _ => .stuck
@[simp] def bTupD : List D → HP → R D
  | [x], h => keysT (dicO h x) h
  | _, _ => .stuck
end
end Ev
namespace Ev
open PySem PySem.Spec PyProof.Rows L2
section
variable {g : G} {X : Cx} {E : XK}
def repLO (live : Bool) (k : Int) : Option (List D) → HP → R D
  | some ds, h => if 0 ≤ k ∧ k ≤ 1000 ∧ ds.length ≤ 1000 then newL live (List.replicate k.toNat ds).flatten h else .stuck
  | none, _ => .stuck
@[simp] def fRepL (live : Bool) : D → D → HP → R D
  | x, .int k, h => repLO live k (asLx h x) h
  | _, _, _ => .stuck
theorem ok_repL (live : Bool) : OKS X g E (binaryOp .Mult) (fRepL live) := .mk L2.op_rep fun m H hp x y v u Q hl rx ry h => by
  unfold fRepL at h
  split at h
  · rename_i k
    unfold repLO at h
    split at h
    · rename_i ds e
      split at h
      · rename_i c
        obtain ⟨k0, k1, hd⟩ := c
        obtain ⟨a, vs, rfl, hs, rs⟩ := asLx_ok hl rx e
        have hle := reps.length rs
        refine ⟨a, k, vs, rfl, rInt ry, hs, by omega, by omega, ?_, (PO.newL hl (rs.rep k.toNat) h).2⟩
        rw [sizeLine_eq]
        have a1 : vs.length * k.toNat ≤ 1000 * 1000 := Nat.mul_le_mul (by omega) (by omega)
        omega
      · exact h.elim
    · exact h.elim
  · exact h.elim
end
end Ev
namespace Ev
open PySem PySem.Spec PyProof.Rows L2
section
variable {g : G} {X : Cx} {E : XK}
variable {CX : CXT} {k n np : Nat} {f : Addr} {fd : FuncData} {ps ks : List Str} {Fa : FA} {x : Str} {p pos : Pos} {e : Expr} {es : List Expr} {kws : List Keyword} {fs fk : M (List D)} {gv : List Value → List Value → List Value} {gV : List V → List V → List V} {gD : List D → List D → List D}
def mkL (h0 : HP) : R D → R D
  | .ok .non h => .ok (.ref h0.length) h
  | _ => .stuck
@[simp] theorem mkL_ok (h0 h : HP) : mkL h0 (.ok .non h) = .ok (.ref h0.length) h := rfl
@[simp] def kMkL (c n : Nat) (F : FA) (xs : List D) (h : HP) : R D := if xs.length = n then mkL h (F (gMk gApp h xs []) (h ++ [.ins c []])) else .stuck
@[simp] def mMkL (c n : Nat) (F : FA) (a : M (List D)) (env : EN) (hp : HP) : R D := (a env hp).bind (kMkL c n F)
end
end Ev
namespace Ev
open PySem PySem.Spec PyProof.Rows L2
structure FunT (K : PySem.W.Frag) (x qual : Str) (st : Stmt) (f : Addr) (fd : FuncData) : Prop where
  ex : ∃ (oc : Value) (od : Option Addr) (dV kV doc pm : Value) (an : Option Addr) (cdv ct : Value) (osl : Array (Option Value)),
    fd = PySem.W.fnOf x qual (defArgs st) (defBody st) (defScope st) dV kV doc pm an cdv ct ∧ K.lookup f = some ⟨oc, od, .func fd, osl⟩ ∧ PySem.W.codeIn K cdv qual = true
  kp : PySem.W.keepIn K (.ref f) = true
section
variable {P : Program} {w : World} {K : PySem.W.Frag} {mg : Str → Option Value} {base : Heap} {g : G}
theorem FunT.ok {x qual : Str} {st : Stmt} {f : Addr} {fd : FuncData} {N ps : List Str} {k : Nat} {sp : Sp} (F : FunT K x qual st f fd) (S : FnScope N ps (defScope st)) (len : ∀ vs H Q E, sp vs H Q E → vs.length = ps.length)
    (hbody : ∀ (cdv : Value) (A : Around) (outer : List Env) (s : Shared) (H : Hp) (vs : List V) (Q : VK) (E : XK), Room k (A.deeper (envOfC qual (defScope st) s.heap.objs.size f cdv)) → sp vs H Q E →
      ∃ t, PSs (cxOf CX0 P w K mg base N qual (defScope st) f cdv A outer s H E).nox (defBody st) t ∧ t { nx := fun _ H' => Q .non H', rt := Q } (start N vs) H) : FnOk P w K mg base CX0 (k + 1) f fd ps sp := by
  obtain ⟨oc, od, dV, kV, doc, pm, an, cdv, ct, osl, rfl, lk, hcd⟩ := F.ex
  refine fn_of lk hcd S len fun A outer s H vs Q E hr hsp => ?_
  obtain ⟨t, h, q⟩ := hbody cdv A outer s H vs Q E hr hsp
  exact ⟨t, h.nox, q⟩
end
end Ev
namespace Ev
open PySem PySem.Spec PyProof.Rows L2
section
variable {X : Cx} {g : G} {E : XK}
@[simp] def insL (n : Nat) (i : Int) (y : D) : Option O → HP → R D
  | some (.lst ds), h => if ds.length < 100000 ∧ 0 ≤ i ∧ i < 1000000 then .ok .non (h.set n (.lst (ds.take i.toNat ++ [y] ++ ds.drop i.toNat))) else .stuck
  | _, _ => .stuck
@[simp] def lInsert : D → List D → HP → R D
  | .ref n, [.int i, y], h => insL n i y h[n]? h
  | _, _, _ => .stuck
end
end Ev
namespace EvS
open PySem PySem.Spec PyProof.Rows L2 EvZ
section
variable {X : Cx}
/-- len(s) of a set of ints just made -/
def rLenSO (w : World) : List V → Hp → VK → Prop := fun vs H Q => ∃ (p : Addr) (ns : List Int) (n : Nat), vs = [V.ref p] ∧ H p = some (SetO w p (fun j => decide (j ∈ ns)) n) ∧ Q (.int (srt ns).length) H
theorem cr_lenSO : CallR X (.builtin "len") (rLenSO X.w) := by
  intro pins s σ H vs us Q I r h
  obtain ⟨p, ns, n, rfl, ha, q⟩ := h
  have R := setO_get I ha
  rw [Vals.ref1 r]
  obtain ⟨o, es, ep, t, ho, hex, hd, _, nd, hm, hb, hf, hn, _⟩ := R
  have e1 : es.size ≤ (srt ns).length := by
    have := nodup_le nd fun j hj => mem_srt.mpr (decide_eq_true_eq.mp ((hm j).mpr hj))
    rw [List.length_map, Array.length_toList] at this
    exact this
  have e2 : (srt ns).length ≤ es.size := by
    have pw : (srt ns).Nodup := (srt_pw (xs := ns)).imp fun {a b} h => by omega
    have := nodup_le pw fun j hj => (hm j).mp (decide_eq_true_eq.mpr (mem_srt.mp hj))
    rw [List.length_map, Array.length_toList] at this
    exact this
  have e : es.size = (srt ns).length := by omega
  refine call_len_set ho hex hd hf (by unfold scanBound at hb; omega) ⟨.int (srt ns).length, H, I.tok _, ⟨_, by rw [e]⟩, q⟩
end
end EvS
namespace Ev
open PySem PySem.Spec PyProof.Rows L2 EvS
section
variable {g : G} {X : Cx} {E : XK}
@[simp] def lenSN : Option (List Int) → HP → R D
  | some ns, h => if ns.length ≤ 1000 then .ok (.int (srt ns).length) h else .stuck
  | none, _ => .stuck
@[simp] def lenSD : Option (List D) → HP → R D
  | some es, h => lenSN (intsD es) h
  | none, _ => .stuck
@[simp] def kLenSet (x : D) (h : HP) : R D := lenSD (asL h x) h
@[simp] def mLenSet (a : M D) (env : EN) (hp : HP) : R D := (a env hp).bind kLenSet
theorem EV.lenSet {e : Expr} {p p2 pos pos2 : Pos} {fa : M D} (hK : X.K = g.K) (hc : X.calm = true) (hm : X.mg "len" = none) (hm2 : X.mg "set" = none) (ha : EV g X E e fa) (hg : Gl X "len") (hg2 : Gl X "set")
    (he2 : starEach [e] X.env = (false, eval e X.env) :: starEach [] X.env)
    (he : starEach [.Call (.Name "set" p2) [e] [] pos2] X.env = (false, eval (.Call (.Name "set" p2) [e] [] pos2) X.env) :: starEach [] X.env) (hpl : (backTo pos2 (starEach [] X.env)).any (·.1) = false) (hpl2 : (backTo pos (starEach [] X.env)).any (·.1) = false) :
    EV g X E (.Call (.Name "len" p) [.Call (.Name "set" p2) [e] [] pos2] [] pos) (mLenSet fa) := by
  obtain ⟨ta, pa, qa⟩ := ha
  refine ⟨_, pe_callB cr_lenSO hg hm (by decide +kernel) (pa_cons (pe_callTy (cr_setS hc) hg2 hm2 (by decide +kernel) (pa_cons pa pa_nil he2) (by decide) (by decide) he2 hpl) pa_nil he) (by decide) (by decide) he hpl2, fun σ H Q m env hp hl er h => ?_⟩
  refine qa σ H _ m env hp hl er (PO.bind h fun x h1 m1 H1 v x1 hl1 r1 h => ?_)
  unfold kLenSet lenSD at h
  rw [hK]
  split at h
  · rename_i es ee
    unfold lenSN at h
    split at h
    · rename_i ns en
      split at h
      · rename_i c
        obtain ⟨a, us, rfl, hs, rs⟩ := asL_ok hl1 r1 ee
        obtain rfl := intsD_ok rs en
        refine ⟨a, ns, rfl, hs, c, fun p n np hn => ?_⟩
        obtain ⟨x2, hl2, pm⟩ := hl1.new (o := SetO X.w p (fun j => decide (j ∈ ns)) n) np
        exact ⟨p, ns, n, rfl, upd_same, h m1 _ _ x2 hl2 (by simp [rep])⟩
      · exact h.elim
    · exact h.elim
  · exact h.elim
end
end Ev
namespace LibW
open PySem PySem.Spec PyProof.Rows L2 Ev Lib LibT
@[simp] theorem nb_setting_question : (("setting" : Str) == ("question" : Str)) = false := by decide +kernel
@[simp] theorem ne_setting_question : (("setting" : Str) = ("question" : Str)) = False := eq_false (by decide +kernel)
@[simp] theorem nb_setting_slack : (("setting" : Str) == ("slack" : Str)) = false := by decide +kernel
@[simp] theorem ne_setting_slack : (("setting" : Str) = ("slack" : Str)) = False := eq_false (by decide +kernel)
@[simp] theorem nb_setting_asks : (("setting" : Str) == ("asks" : Str)) = false := by decide +kernel
@[simp] theorem ne_setting_asks : (("setting" : Str) = ("asks" : Str)) = False := eq_false (by decide +kernel)
@[simp] theorem nb_question_setting : (("question" : Str) == ("setting" : Str)) = false := by decide +kernel
@[simp] theorem ne_question_setting : (("question" : Str) = ("setting" : Str)) = False := eq_false (by decide +kernel)
@[simp] theorem nb_question_slack : (("question" : Str) == ("slack" : Str)) = false := by decide +kernel
@[simp] theorem ne_question_slack : (("question" : Str) = ("slack" : Str)) = False := eq_false (by decide +kernel)
@[simp] theorem nb_question_asks : (("question" : Str) == ("asks" : Str)) = false := by decide +kernel
@[simp] theorem ne_question_asks : (("question" : Str) = ("asks" : Str)) = False := eq_false (by decide +kernel)
@[simp] theorem nb_slack_setting : (("slack" : Str) == ("setting" : Str)) = false := by decide +kernel
@[simp] theorem ne_slack_setting : (("slack" : Str) = ("setting" : Str)) = False := eq_false (by decide +kernel)
@[simp] theorem nb_slack_question : (("slack" : Str) == ("question" : Str)) = false := by decide +kernel
@[simp] theorem ne_slack_question : (("slack" : Str) = ("question" : Str)) = False := eq_false (by decide +kernel)
@[simp] theorem nb_slack_asks : (("slack" : Str) == ("asks" : Str)) = false := by decide +kernel
@[simp] theorem ne_slack_asks : (("slack" : Str) = ("asks" : Str)) = False := eq_false (by decide +kernel)
@[simp] theorem nb_asks_setting : (("asks" : Str) == ("setting" : Str)) = false := by decide +kernel
@[simp] theorem ne_asks_setting : (("asks" : Str) = ("setting" : Str)) = False := eq_false (by decide +kernel)
@[simp] theorem nb_asks_question : (("asks" : Str) == ("question" : Str)) = false := by decide +kernel
@[simp] theorem ne_asks_question : (("asks" : Str) = ("question" : Str)) = False := eq_false (by decide +kernel)
@[simp] theorem nb_asks_slack : (("asks" : Str) == ("slack" : Str)) = false := by decide +kernel
@[simp] theorem ne_asks_slack : (("asks" : Str) = ("slack" : Str)) = False := eq_false (by decide +kernel)
noncomputable abbrev C_stretch_1 (live : Bool) : M D := mLc live (iAny (mFn 2 F_asked (aCons (mVar 1) (aCons (mVar 2) aNil)))) [4, 5] (gTp 2 (gsCons (gNm 4) (gsCons (gNm 5) gsNil))) cYes (mFld "moment" (mVar 5))
noncomputable def F_stretch : FA := fnP 6 (sSeq (sAsg (C_stretch_1 false) (gNm 3))
  (sRet (mBin fMul (mBin fMul (mCst (.int 2)) (mFn 2 F_cell_radius (aCons (mVar 0) (aCons (mFld "share" (mVar 1)) aNil)))) (mLenSet (mBin fAdd (mLst false (aCons (mFld "moment" (mVar 1)) aNil)) (mVar 3))))))
noncomputable abbrev B__law_root_1 : SM := (sSeq (sIf (mB (mBin fGt (mBin fMul (mVar 2) (mVar 2)) (mVar 0))) sBrk sNil)
  (sAsg (mBin fMul (mVar 2) (mCst (.int 2))) (gNm 2)))
noncomputable abbrev B__law_root_2 : SM := (sSeq (sIf (mB (mBin fLe (mBin fSub (mVar 2) (mVar 1)) (mCst (.int 1)))) sBrk sNil)
  (sSeq (sAsg (mBin fDiv (mBin fAdd (mVar 1) (mVar 2)) (mCst (.int 2))) (gNm 4))
  (sIf (mB (mBin fLe (mBin fMul (mVar 4) (mVar 4)) (mVar 0))) (sAsg (mVar 4) (gNm 1)) (sAsg (mVar 4) (gNm 2)))))
noncomputable def F__law_root : FA := fnP 5 (sSeq (sAsg (mCst (.int 0)) (gNm 1))
  (sSeq (sAsg (mCst (.int 1)) (gNm 2))
  (sSeq (sFor (iRange1 (aCons (mCst (.int 400)) aNil)) (gNm 3) B__law_root_1)
  (sSeq (sFor (iRange1 (aCons (mCst (.int 400)) aNil)) (gNm 3) B__law_root_2)
  (sRet (mVar 1))))))
noncomputable def F__law_up : FA := fnP 2 (sSeq (sAsg (mFn 1 F__law_root (aCons (mVar 0) aNil)) (gNm 1))
  (sRet (mBin fAdd (mVar 1) (mCall bInt (aCons (mBin fLt (mBin fMul (mVar 1) (mVar 1)) (mVar 0)) aNil)))))
noncomputable def F__law_setting : FA := fnP 2 (sSeq (sAsg (mBin fAdd (mCst (.int 2)) (mBin fMod (mCall bInt (aCons (mVar 0) aNil)) (mCst (.int 2)))) (gNm 1))
  (sRet (mMkN 0 1 3 gApp F_Setting__init__ (aCons (mVar 1) aNil) (aCons (mBin fMod (mCall bInt (aCons (mBin fDiv (mVar 0) (mCst (.int 2))) aNil)) (mCst (.int 9))) (aCons (mBin fMod (mCall bInt (aCons (mBin fDiv (mVar 0) (mCst (.int 18))) aNil)) (mCst (.int 3))) (aCons (mBin fAdd (mCst (.int 1)) (mBin fMod (mCall bInt (aCons (mBin fDiv (mVar 0) (mCst (.int 54))) aNil)) (mCst (.int 3)))) aNil))))))
noncomputable abbrev C__law_at_1 (live : Bool) : M D := mLc live (iRange1 (aCons (mCall bLen (aCons (mVar 2) aNil)) aNil)) [13] (gNm 13) cYes (mBin fAdd (mBin fIx (mVar 2) (mVar 13)) (mBin fMul (mBin fIx (mVar 10) (mVar 13)) (mVar 9)))
noncomputable def F__law_at : FA := fnP 14 (sSeq (sAsg (mVar 0) (gTp 7 (gsCons (gNm 2) (gsCons (gNm 3) (gsCons (gNm 4) (gsCons (gNm 5) (gsCons (gNm 6) (gsCons (gNm 7) (gsCons (gNm 8) gsNil)))))))))
  (sSeq (sAsg (mBin fSub (mVar 1) (mVar 4)) (gNm 9))
  (sSeq (sAsg (mVar 6) (gNm 10))
  (sSeq (sAsg (mVar 8) (gNm 11))
  (sSeq (sIf (mB (mBin fLt (mVar 9) (mCst (.int 0)))) (sSeq (sAsg (mVar 5) (gNm 10))
  (sAsg (mVar 7) (gNm 11))) sNil)
  (sSeq (sAsg (C__law_at_1 false) (gNm 12))
  (sRet (mBin fAdd (mVar 12) (mLst false (aCons (mBin fAdd (mVar 3) (mBin fMul (mVar 11) (mVar 9))) aNil))))))))))
noncomputable abbrev B__law_boxes_1 : SM := (sSeq (sAsg (mCall bMax (aCons (mBin fSub (mBin fIx (mBin fIx (mVar 3) (mVar 5)) (mCst (.int 0))) (mBin fIx (mVar 0) (mVar 5))) (aCons (mBin fSub (mBin fIx (mVar 0) (mVar 5)) (mBin fIx (mBin fIx (mVar 3) (mVar 5)) (mCst (.int 1)))) (aCons (mCst (.int 0)) aNil)))) (gNm 6))
  (sAsg (mBin fAdd (mVar 4) (mBin fMul (mVar 6) (mVar 6))) (gNm 4)))
noncomputable abbrev B__law_boxes_2 : SM := (sSeq (sAsg (mCst (.int 0)) (gNm 4))
  (sSeq (sFor (iRange1 (aCons (mCall bLen (aCons (mVar 0) aNil)) aNil)) (gNm 5) B__law_boxes_1)
  (sIf (tmOr (mB (mBin fLt (mVar 2) (mCst (.int 0)))) (mB (mBin fLt (mVar 4) (mVar 2)))) (sAsg (mVar 4) (gNm 2)) sNil)))
noncomputable def F__law_boxes : FA := fnP 7 (sSeq (sAsg (mNeg (mCst (.int 1))) (gNm 2))
  (sSeq (sFor (iAny (mVar 1)) (gNm 3) B__law_boxes_2)
  (sRet (mVar 2))))
noncomputable abbrev C__law_value_1 (live : Bool) : M D := mLc live (iRange1 (aCons (mCall bLen (aCons (mVar 1) aNil)) aNil)) [9] (gNm 9) cYes (mBin fMul (mBin fIx (mBin fIx (mVar 0) (mCst (.int 1))) (mVar 9)) (mBin fIx (mVar 1) (mVar 9)))
noncomputable def F__law_value : FA := fnP 10 (sSeq (sIf (mB (mBin fEq (mBin fIx (mVar 0) (mCst (.int 0))) (mCst (.str "side")))) (sSeq (sAsg (mCall bSum (aCons (C__law_value_1 false) aNil)) (gNm 3))
  (sRet (mTup (aCons (mVar 3) (aCons (mVar 3) aNil))))) sNil)
  (sSeq (sIf (mB (mBin fEq (mBin fIx (mVar 0) (mCst (.int 0))) (mCst (.str "piece")))) (sSeq (sAsg (mFn 3 F__law_piece (aCons (mVar 1) (aCons (mBin fIx (mVar 0) (mCst (.int 1))) (aCons (mBin fIx (mVar 0) (mCst (.int 2))) aNil)))) (gTp 2 (gsCons (gNm 4) (gsCons (gNm 5) gsNil))))
  (sRet (mTup (aCons (mFn 1 F__law_root (aCons (mVar 4) aNil)) (aCons (mFn 1 F__law_up (aCons (mVar 5) aNil)) aNil))))) sNil)
  (sSeq (sIf (mB (mBin fEq (mBin fIx (mVar 0) (mCst (.int 0))) (mCst (.str "boxes")))) (sSeq (sAsg (mFn 2 F__law_boxes (aCons (mVar 1) (aCons (mBin fIx (mVar 0) (mCst (.int 1))) aNil))) (gNm 6))
  (sRet (mTup (aCons (mFn 1 F__law_root (aCons (mVar 6) aNil)) (aCons (mFn 1 F__law_up (aCons (mVar 6) aNil)) aNil))))) sNil)
  (sSeq (sAsg (mFn 2 F__law_square (aCons (mVar 1) (aCons (mBin fIx (mVar 0) (mCst (.int 1))) aNil))) (gNm 6))
  (sSeq (sIf (mB (mBin fEq (mBin fIx (mVar 0) (mCst (.int 0))) (mCst (.str "differ")))) (sSeq (sAsg (mFn 2 F__law_square (aCons (mVar 1) (aCons (mBin fIx (mVar 0) (mCst (.int 2))) aNil))) (gNm 7))
  (sRet (mTup (aCons (mBin fSub (mFn 1 F__law_root (aCons (mVar 6) aNil)) (mFn 1 F__law_up (aCons (mVar 7) aNil))) (aCons (mBin fSub (mFn 1 F__law_up (aCons (mVar 6) aNil)) (mFn 1 F__law_root (aCons (mVar 7) aNil))) aNil))))) sNil)
  (sSeq (sAsg (mBin fMul (mVar 2) (mCall bInt (aCons (mBin fEq (mBin fIx (mVar 0) (mCst (.int 0))) (mCst (.str "clocked"))) aNil))) (gNm 8))
  (sRet (mTup (aCons (mBin fAdd (mFn 1 F__law_root (aCons (mVar 6) aNil)) (mVar 8)) (aCons (mBin fAdd (mFn 1 F__law_up (aCons (mVar 6) aNil)) (mVar 8)) aNil))))))))))
noncomputable abbrev C__law_point_1 (live : Bool) : M D := mLc live (iAny (mFn 3 F__law_digits (aCons (mVar 1) (aCons (mCst (.int 41)) (aCons (mVar 0) aNil))))) [2] (gNm 2) cYes (mBin fSub (mVar 2) (mCst (.int 20)))
noncomputable def F__law_point : FA := fnP 3 (sRet (mCall bTuple (aCons (C__law_point_1 false) aNil)))
noncomputable abbrev C__law_kind_1 (live : Bool) : M D := mLc live (iAny (mFn 3 F__law_digits (aCons (mVar 4) (aCons (mCst (.int 9)) (aCons (mVar 0) aNil))))) [9] (gNm 9) cYes (mBin fSub (mVar 9) (mCst (.int 4)))
noncomputable abbrev C__law_kind_2 (live : Bool) : M D := mLc live (iAny (mVar 5)) [10] (gNm 10) cYes (mCall bAbs (aCons (mVar 10) aNil))
noncomputable abbrev C__law_kind_3 (live : Bool) : M D := mLc live (iAny (mVar 8)) [10] (gNm 10) cYes (mTup (aCons (mVar 10) (aCons (mBin fAdd (mVar 10) (mBin fMod (mCall bInt (aCons (mBin fDiv (mVar 4) (mCst (.int 5))) aNil)) (mCst (.int 7)))) aNil)))
noncomputable abbrev B__law_kind_1 : SM := (sSeq (sAsg (mFn 2 F__law_point (aCons (mVar 0) (aCons (mBin fAdd (mBin fDiv (mVar 4) (mCst (.int 2))) (mBin fMul (mCst (.int 97)) (mVar 7))) aNil))) (gNm 8))
  (sExp (mBm tyL lAppend (mVar 6) (aCons (mCall bTuple (aCons (C__law_kind_3 false) aNil)) aNil))))
noncomputable def F__law_kind : FA := fnP 11 (sSeq (sAsg (mLst false (aCons (mCst (.str "range")) (aCons (mCst (.str "clocked")) (aCons (mCst (.str "differ")) (aCons (mCst (.str "side")) (aCons (mCst (.str "piece")) (aCons (mCst (.str "boxes")) aNil))))))) (gNm 2))
  (sSeq (sAsg (mBin fIx (mVar 2) (mBin fMod (mCall bInt (aCons (mVar 1) aNil)) (mCst (.int 6)))) (gNm 3))
  (sSeq (sAsg (mBin fDiv (mVar 1) (mCst (.int 6))) (gNm 4))
  (sSeq (sIf (mB (mBin fEq (mVar 3) (mCst (.str "side")))) (sSeq (sAsg (C__law_kind_1 true) (gNm 5))
  (sSeq (sIf (mB (mBin fEq (mCall bSum (aCons (C__law_kind_2 false) aNil)) (mCst (.int 0)))) (sSetIx (mCst (.int 1)) (mVar 5) (mCst (.int 0))) sNil)
  (sRet (mTup (aCons (mVar 3) (aCons (mCall bTuple (aCons (mVar 5) aNil)) aNil)))))) sNil)
  (sSeq (sIf (mB (mBin fEq (mVar 3) (mCst (.str "boxes")))) (sSeq (sAsg (mLst true aNil) (gNm 6))
  (sSeq (sFor (iRange1 (aCons (mBin fAdd (mCst (.int 1)) (mBin fMod (mCall bInt (aCons (mVar 4) aNil)) (mCst (.int 2)))) aNil)) (gNm 7) B__law_kind_1)
  (sRet (mTup (aCons (mVar 3) (aCons (mCall bTuple (aCons (mVar 6) aNil)) aNil)))))) sNil)
  (sSeq (sIf (tmOr (mB (mBin fEq (mVar 3) (mCst (.str "differ")))) (mB (mBin fEq (mVar 3) (mCst (.str "piece"))))) (sRet (mTup (aCons (mVar 3) (aCons (mFn 2 F__law_point (aCons (mVar 0) (aCons (mVar 4) aNil))) (aCons (mFn 2 F__law_point (aCons (mVar 0) (aCons (mBin fDiv (mVar 4) (mCst (.int 68921))) aNil))) aNil))))) sNil)
  (sRet (mTup (aCons (mVar 3) (aCons (mFn 2 F__law_point (aCons (mVar 0) (aCons (mVar 4) aNil))) aNil))))))))))
noncomputable def F__law_reading : FA := fnP 14 (sSeq (sAsg (mFn 2 F__law_kind (aCons (mVar 1) (aCons (mBin fDiv (mVar 3) (mCst (.int 3125))) aNil))) (gNm 5))
  (sSeq (sAsg (mBin fSub (mBin fMod (mCall bInt (aCons (mVar 3) aNil)) (mCst (.int 25))) (mCst (.int 12))) (gNm 6))
  (sSeq (sAsg (mBin fDiv (mBin fMod (mCall bInt (aCons (mBin fDiv (mVar 3) (mCst (.int 25))) aNil)) (mCst (.int 5))) (mCst (.int 2))) (gNm 7))
  (sSeq (sAsg (mBin fAdd (mVar 6) (mBin fMul (mVar 7) (mBin fSub (mBin fMod (mCall bInt (aCons (mBin fDiv (mVar 3) (mCst (.int 125))) aNil)) (mCst (.int 3))) (mCst (.int 1))))) (gNm 8))
  (sSeq (sAsg (mBin fDiv (mBin fMod (mCall bInt (aCons (mBin fDiv (mVar 3) (mCst (.int 375))) aNil)) (mCst (.int 4))) (mCst (.int 2))) (gNm 9))
  (sSeq (sAsg (mBin (fRepL true) (mLst false (aCons (mCst (.int 0)) aNil)) (mVar 1)) (gNm 10))
  (sSeq (sSetIx (mBin fMul (mVar 9) (mBin fSub (mBin fMod (mCall bInt (aCons (mBin fDiv (mVar 3) (mCst (.int 625))) aNil)) (mCst (.int 3))) (mCst (.int 1)))) (mVar 10) (mBin fMod (mCall bInt (aCons (mBin fDiv (mVar 3) (mCst (.int 1500))) aNil)) (mVar 1)))
  (sSeq (sAsg (mFn 2 F__law_at (aCons (mVar 0) (aCons (mVar 8) aNil))) (gNm 11))
  (sSeq (sAsg (mFn 3 F__law_value (aCons (mFn 2 F__law_moved (aCons (mVar 5) (aCons (mVar 10) aNil))) (aCons (mSl (mVar 11) pNo (pYes (mVar 1))) (aCons (mBin fIx (mVar 11) (mVar 1)) aNil)))) (gTp 2 (gsCons (gNm 12) (gsCons (gNm 13) gsNil))))
  (sSeq (sIf (mTru (mVar 4)) (sSeq (sAsg (mBin fSub (mBin fAdd (mVar 12) (mBin fMod (mCall bInt (aCons (mBin fDiv (mVar 3) (mCst (.int 7))) aNil)) (mCst (.int 61)))) (mCst (.int 30))) (gNm 12))
  (sAsg (mBin fAdd (mVar 12) (mBin fMod (mCall bInt (aCons (mBin fDiv (mVar 3) (mCst (.int 11))) aNil)) (mCst (.int 5)))) (gNm 13))) sNil)
  (sSeq (sAsg (mBin fSub (mVar 12) (mBin fMod (mCall bInt (aCons (mBin fDiv (mVar 3) (mCst (.int 5))) aNil)) (mCst (.int 4)))) (gNm 12))
  (sSeq (sAsg (mBin fAdd (mVar 13) (mBin fMod (mCall bInt (aCons (mBin fDiv (mVar 3) (mCst (.int 9))) aNil)) (mCst (.int 4)))) (gNm 13))
  (sRet (mMkN 1 3 4 gApp F_Reading__init__ (aCons (mVar 2) (aCons (mVar 6) (aCons (mVar 5) aNil))) (aCons (mVar 12) (aCons (mVar 13) (aCons (mVar 7) (aCons (mVar 9) aNil))))))))))))))))))
noncomputable abbrev B__law_readings_1 : SM := (sSeq (sAsg (mBin fIx (mVar 4) (mBin fMod (mCall bInt (aCons (mBin fDiv (mBin fIx (mVar 2) (mVar 7)) (mCst (.int 13))) aNil)) (mCall bLen (aCons (mVar 4) aNil)))) (gNm 8))
  (sExp (mBm tyL lAppend (mVar 6) (aCons (mTup (aCons (mBin fAdd (mBin fMul (mVar 7) (mCst (.int 3))) (mCst (.int 2))) (aCons (mFn 5 F__law_reading (aCons (mVar 0) (aCons (mVar 1) (aCons (mVar 8) (aCons (mBin fIx (mVar 2) (mVar 7)) (aCons (mBin (fIn false) (mVar 8) (mVar 5)) aNil)))))) aNil))) aNil))))
noncomputable def F__law_readings : FA := fnP 9 (sSeq (sAsg (mLst true aNil) (gNm 6))
  (sSeq (sFor (iRange1 (aCons (mVar 3) aNil)) (gNm 7) B__law_readings_1)
  (sRet (mVar 6))))
noncomputable abbrev C__law_question_1 (live : Bool) : M D := mLc live (iRange1 (aCons (mBin fAdd (mVar 1) (mCst (.int 1))) aNil)) [12] (gNm 12) cYes (mTup (aCons (mBin fSub (mBin fIx (mVar 5) (mVar 12)) (mBin fIx (mVar 6) (mVar 12))) (aCons (mBin fAdd (mBin fIx (mVar 5) (mVar 12)) (mBin fIx (mVar 7) (mVar 12))) aNil)))
noncomputable def F__law_question : FA := fnP 13 (sSeq (sAsg (mBin fSub (mBin fMod (mCall bInt (aCons (mVar 2) aNil)) (mCst (.int 21))) (mCst (.int 10))) (gNm 4))
  (sSeq (sAsg (mFn 2 F__law_at (aCons (mVar 0) (aCons (mVar 4) aNil))) (gNm 5))
  (sSeq (sAsg (mFn 3 F__law_digits (aCons (mBin fDiv (mVar 2) (mCst (.int 21))) (aCons (mCst (.int 13)) (aCons (mBin fAdd (mVar 1) (mCst (.int 1))) aNil)))) (gNm 6))
  (sSeq (sAsg (mFn 3 F__law_digits (aCons (mBin fDiv (mVar 2) (mCst (.int 33))) (aCons (mCst (.int 11)) (aCons (mBin fAdd (mVar 1) (mCst (.int 1))) aNil)))) (gNm 7))
  (sSeq (sAsg (C__law_question_1 false) (gNm 8))
  (sSeq (sAsg (mBin fAdd (mCst (.int 1)) (mBin fMod (mCall bInt (aCons (mBin fDiv (mVar 2) (mCst (.int 7))) aNil)) (mCst (.int 6)))) (gNm 9))
  (sSeq (sAsg (mBin fSub (mCst (.int 0)) (mBin fMod (mCall bInt (aCons (mBin fDiv (mVar 2) (mCst (.int 3))) aNil)) (mCst (.int 16)))) (gNm 10))
  (sSeq (sAsg (mBin fAdd (mVar 10) (mBin fMod (mCall bInt (aCons (mBin fDiv (mVar 2) (mCst (.int 5))) aNil)) (mCst (.int 28)))) (gNm 11))
  (sRet (mMkN 2 2 4 gApp F_Question__init__ (aCons (mVar 4) (aCons (mCall bTuple (aCons (mVar 8) aNil)) aNil)) (aCons (mVar 3) (aCons (mVar 9) (aCons (mVar 10) (aCons (mVar 11) aNil))))))))))))))
end LibW
namespace LibW
open PySem PySem.Spec PyProof.Rows L2 Ev Lib
theorem mLc_tyNW {α : Type} {it : IM} {own : List Nat} {asg : TF} {elt : M D} {env : EN} {h h1 : HP} {gd : GdL} (xs : List α) (f G : α → D) (hi : it env h = .ok (xs.map f, gd) h1) (hg : ∀ x, Gd gd (h1 ++ x)) (hz : xs.length ≤ 16000000)
    (H : ∀ x ∈ xs, ∀ y : HP, ∃ e, asg (f x) (wipeE env own) (h1 ++ y) = some e ∧ elt e (h1 ++ y) = .ok (G x) (h1 ++ y)) (c : ∀ x ∈ xs, clean (G x)) :
    mLc false it own asg cYes elt env h = .ok (.lst (xs.map G)) h1 := by
  unfold mLc
  rw [hi]
  simp only [R.bind]
  rw [lcE_tyG asg cYes elt _ h1 gd hg f G (fun _ => true) xs [] (by have := sizeLine_eq; simp only [List.length_nil]; omega) fun x hx y => let ⟨e, e1, e2⟩ := H x hx y; ⟨e, e1, rfl, fun _ => e2⟩, List.filter_eq_self.mpr (fun _ _ => rfl)]
  simp only [List.nil_append, outL, if_neg Bool.false_ne_true]
  exact pure_list h1 (by
    intro d hd
    obtain ⟨x, hx, rfl⟩ := List.mem_map.mp hd
    exact c x hx)
section
variable {n : Nat}
def Sm20 (p : Nat → Int) : Prop := ∀ i, (p i).natAbs ≤ 20
def KdS (n : Nat) : Kd → Prop
  | .range p => Sm20 p
  | .clocked p => Sm20 p
  | .differ p q => Sm20 p ∧ Sm20 q
  | .piece p q => Sm20 p ∧ Sm20 q
  | .side p => Sm20 p ∧ ∃ i < n, p i ≠ 0
  | .boxes bs => 0 < bs.length ∧ bs.length ≤ 2 ∧ ∀ b ∈ bs, b.length = n ∧ ∀ s ∈ b, s.1.natAbs ≤ 20 ∧ s.2.natAbs ≤ 26 ∧ s.1 ≤ s.2
theorem KdS.v {K : Kd} (h : KdS n K) : KdV n K := by
  have pv : ∀ {p : Nat → Int}, Sm20 p → VP n p := fun {p} h i _ => by
    have := h i
    have := sz64 (i := p i) (by omega)
    unfold Lib.V
    omega
  cases K with
  | range p => exact pv h
  | clocked p => exact pv h
  | differ p q => exact ⟨pv h.1, pv h.2⟩
  | piece p q => exact ⟨pv h.1, pv h.2⟩
  | side p => exact pv h.1
  | boxes bs =>
    obtain ⟨h1, h2, h3⟩ := h
    refine ⟨h1, by omega, fun b hb => ⟨(h3 b hb).1, fun s hs => ?_⟩⟩
    obtain ⟨k2, k3, k4⟩ := (h3 b hb).2 s hs
    have := sz64 (i := s.1) (by omega)
    have := sz64 (i := s.2) (by omega)
    exact ⟨by unfold Lib.V; omega, by unfold Lib.V; omega⟩
theorem F_lpoint (hn : n ≤ 3) (row : Int) (h : HP) : ∃ p, F__law_point [.int n, .int row] h = .ok (vec n p) h ∧ Sm20 p := by
  obtain ⟨ds, fd, bd⟩ := F_digits (base := 41) (by omega) (by omega) (n := n) (by omega) row h
  have lc : C__law_point_1 false [some (.int n), some (.int row), none] h = _ :=
    mLc_ty (h1 := h) (List.range n) (fun i => .int (ds i)) (fun i => .int (ds i - 20)) (by simp [fd, lvec]) (by simp; omega)
      (fun i hi h' => ⟨[some (.int n), some (.int row), some (.int (ds i))], by simp, by simp⟩) fun i _ => clean_int _
  refine ⟨fun i => ds i - 20, ?_, fun i => by have := bd i; show (ds i - 20).natAbs ≤ 20; omega⟩
  have p := pure_clean h (clean_vec n fun i => ds i - 20)
  have l : ((List.range n).map fun i => D.int (ds i - 20)).length ≤ 16000000 := by simp; omega
  unfold vec at *
  generalize ((List.range n).map fun i => D.int (ds i - 20)) = qs at *
  simp [F__law_point, lc, l, p]
def bxP (n : Nat) (p : Nat → Int) (w : Int) : List (Int × Int) := (List.range n).map fun i => (p i, p i + w)
theorem bx_turn (hn : n ≤ 3) {rest : Int} {j : Nat} (hj : j < 2) (z1 z2 z3 z5 z8 z9 z10 : Option D) (h : HP) (acc : List D) (hl : acc.length ≤ 100) :
    ∃ b y8, (b.length = n ∧ ∀ s ∈ b, s.1.natAbs ≤ 20 ∧ s.2.natAbs ≤ 26 ∧ s.1 ≤ s.2) ∧ B__law_kind_1 [some (.int n), z1, z2, z3, some (.int rest), z5, some (.ref h.length), some (.int j), z8, z9, none] (h ++ [.lst acc]) =
      .nx [some (.int n), z1, z2, z3, some (.int rest), z5, some (.ref h.length), some (.int j), y8, z9, none] (h ++ [.lst (acc ++ [boxD b])]) := by
  obtain ⟨p, fp, bp⟩ := F_lpoint hn (rest / 2 + 97 * (j : Int)) (h ++ [.lst acc])
  have m : CMulE 97 (j : Int) := mul64 (by decide) (by omega)
  have lc : C__law_kind_3 false [some (.int n), z1, z2, z3, some (.int rest), z5, some (.ref h.length), some (.int j), some (vec n p), z9, none] (h ++ [.lst acc]) = _ :=
    mLc_ty (h1 := h ++ [.lst acc]) (List.range n) (fun i => .int (p i)) (fun i => sideD (p i, p i + rest / 5 % 7)) (by simp [vec]) (by simp; omega)
      (fun i hi h' => ⟨[some (.int n), z1, z2, z3, some (.int rest), z5, some (.ref h.length), some (.int j), some (vec n p), z9, some (.int (p i))], by simp, by simp [lg, sideD]⟩) fun i _ => clean_side _
  refine ⟨bxP n p (rest / 5 % 7), some (vec n p), ⟨by simp [bxP], fun s hs => ?_⟩, ?_⟩
  · obtain ⟨i, _, rfl⟩ := List.mem_map.mp hs
    have := bp i
    simp only
    omega
  · have eb : boxD (bxP n p (rest / 5 % 7)) = .tup ((List.range n).map fun i => sideD (p i, p i + rest / 5 % 7)) := by simp [boxD, bxP]
    have ap := fun y => appL_last (y := y) (ds := acc) h (by rw [sizeLine_eq]; omega)
    have l : ((List.range n).map fun i => sideD (p i, p i + rest / 5 % 7)).length ≤ 16000000 := by simp; omega
    rw [eb]
    generalize ((List.range n).map fun i => sideD (p i, p i + rest / 5 % 7)) = qs at *
    generalize vec n p = vp at *
    simp [lg, m, fp, lc, l, ap]
theorem set_vec0 (p : Nat → Int) : ((List.range n).map fun i => D.int (p i)).set 0 (.int 1) = (List.range n).map fun i => .int (if i = 0 then 1 else p i) := by
  apply List.ext_getElem
  · simp
  · intro i h1 h2
    rw [List.getElem_set]
    simp only [List.getElem_map, List.getElem_range]
    by_cases c : 0 = i
    · rw [if_pos c, if_pos c.symm]
    · rw [if_neg c, if_neg (fun z => c z.symm)]
theorem some_nz {f : Nat → Int} (c : ¬ ((List.range n).map fun i => absI (f i)).sum = 0) : ∃ i < n, f i ≠ 0 := by
  refine Classical.byContradiction fun no => c ?_
  have z : ∀ i ∈ List.range n, absI (f i) = 0 := fun i hi => by
    have : f i = 0 := Classical.byContradiction fun q => no ⟨i, List.mem_range.mp hi, q⟩
    rw [this]; rfl
  have e : ((List.range n).map fun i => absI (f i)) = (List.range n).map fun _ => (0 : Int) := List.map_congr_left z
  rw [e]
  clear e z no c
  induction n with
  | zero => rfl
  | succ m ih => rw [List.range_succ, List.map_append, List.sum_append, ih]; rfl
theorem F_lkind (hn : n ≤ 3) (h0 : 0 < n) (row : Int) (h : HP) : ∃ K, F__law_kind [.int n, .int row] h = .ok (kdD n K) h ∧ KdS n K := by
  have pr := fun K => pure_clean h (clean_kd n K)
  rcases (show row % 6 = 0 ∨ row % 6 = 1 ∨ row % 6 = 2 ∨ row % 6 = 3 ∨ row % 6 = 4 ∨ row % 6 = 5 by omega) with q | q | q | q | q | q
  · obtain ⟨p, fp, bp⟩ := F_lpoint hn (row / 6) h
    have p2 := pr (.range p)
    refine ⟨.range p, ?_, bp⟩
    simp only [kdD] at *
    simp [F__law_kind, q, lg, atI, ixN, fp, p2]
  · obtain ⟨p, fp, bp⟩ := F_lpoint hn (row / 6) h
    have p2 := pr (.clocked p)
    refine ⟨.clocked p, ?_, bp⟩
    simp only [kdD] at *
    simp [F__law_kind, q, lg, atI, ixN, fp, p2]
  · obtain ⟨p, fp, bp⟩ := F_lpoint hn (row / 6) h
    obtain ⟨p', fp', bp'⟩ := F_lpoint hn (row / 6 / 68921) h
    have p2 := pr (.differ p p')
    refine ⟨.differ p p', ?_, bp, bp'⟩
    simp only [kdD] at *
    simp [F__law_kind, q, lg, atI, ixN, fp, fp', p2]
  · -- side
    obtain ⟨ds, fd, bd⟩ := F_digits (base := 9) (by omega) (by omega) (n := n) (by omega) (row / 6) h
    obtain ⟨z2, hz2⟩ : ∃ z2 : D, z2 = .lst [.str "range", .str "clocked", .str "differ", .str "side", .str "piece", .str "boxes"] := ⟨_, rfl⟩
    have lc1 : C__law_kind_1 true [some (.int n), some (.int row), some z2, some (.str "side"), some (.int (row / 6)), none, none, none, none, none, none] h = _ :=
      mLc_tyL (h1 := h) (gd := []) (List.range n) (fun i => .int (ds i)) (fun i => .int (ds i - 4)) (by simp [fd, lvec]) (by simp) (by simp; omega)
        (fun i hi y => ⟨[some (.int n), some (.int row), some z2, some (.str "side"), some (.int (row / 6)), none, none, none, none, some (.int (ds i)), none], by simp, by simp⟩)
    have lc2 : C__law_kind_2 false [some (.int n), some (.int row), some z2, some (.str "side"), some (.int (row / 6)), some (.ref h.length), none, none, none, none, none] (h ++ [.lst ((List.range n).map fun i => .int (ds i - 4))]) = _ :=
      mLc_tyNW (h1 := h ++ [.lst ((List.range n).map fun i => .int (ds i - 4))]) (gd := [(h.length, (List.range n).map fun i => .int (ds i - 4))]) (List.range n) (fun i => .int (ds i - 4)) (fun i => .int (absI (ds i - 4))) (by simp) (fun x => by unfold Gd; simp) (by simp; omega)
        (fun i hi y => ⟨[some (.int n), some (.int row), some z2, some (.str "side"), some (.int (row / 6)), some (.ref h.length), none, none, none, none, some (.int (ds i - 4))], by simp, by
          have ea : (if ds i - 4 < 0 then -(ds i - 4) else ds i - 4) = absI (ds i - 4) := rfl
          simp [ea]⟩) fun i _ => clean_int _
    have ki := ints_vec n fun i => absI (ds i - 4)
    have sv := set_vec0 (n := n) fun i => ds i - 4
    have l0 : ((List.range n).map fun i => D.int (ds i - 4)).length = n := by simp
    by_cases c : ((List.range n).map fun i => absI (ds i - 4)).sum = 0
    · refine ⟨.side fun i => if i = 0 then 1 else ds i - 4, ?_, ⟨fun i => by have := bd i; show (if i = 0 then (1 : Int) else ds i - 4).natAbs ≤ 20; split <;> omega, 0, h0, by simp⟩⟩
      have pj := fun x => pure_cleanJ h x (clean_kd n (.side fun i => if i = 0 then 1 else ds i - 4))
      simp only [kdD, vec] at *
      rw [← sv] at pj ⊢
      clear sv
      generalize ((List.range n).map fun i => D.int (ds i - 4)) = ys at *
      generalize ((List.range n).map fun i => D.int (absI (ds i - 4))) = as at *
      generalize ((List.range n).map fun i => absI (ds i - 4)) = zs at *
      have l2 : ys.length ≤ 16000000 := by omega
      have l3 : 0 < ys.length := by omega
      have l4 : 0 < n := h0
      subst hz2
      simp [F__law_kind, q, lg, atI, ixN, lc1, lc2, ki, c, l0, l2, l3, l4, sh_int, eqvI, pj]
    · refine ⟨.side fun i => ds i - 4, ?_, ⟨fun i => by have := bd i; show (ds i - 4).natAbs ≤ 20; omega, some_nz c⟩⟩
      have pj := fun x => pure_cleanJ h x (clean_kd n (.side fun i => ds i - 4))
      simp only [kdD, vec] at *
      clear sv
      generalize ((List.range n).map fun i => D.int (ds i - 4)) = ys at *
      generalize ((List.range n).map fun i => D.int (absI (ds i - 4))) = as at *
      generalize ((List.range n).map fun i => absI (ds i - 4)) = zs at *
      have l2 : ys.length ≤ 16000000 := by omega
      subst hz2
      simp [F__law_kind, q, lg, atI, ixN, lc1, lc2, ki, c, l0, l2, sh_int, eqvI, pj]
  · obtain ⟨p, fp, bp⟩ := F_lpoint hn (row / 6) h
    obtain ⟨p', fp', bp'⟩ := F_lpoint hn (row / 6 / 68921) h
    have p2 := pr (.piece p p')
    refine ⟨.piece p p', ?_, bp, bp'⟩
    simp only [kdD] at *
    simp [F__law_kind, q, lg, atI, ixN, fp, fp', p2]
  · obtain ⟨m, hm, m1, m2⟩ : ∃ m : Nat, 1 + row / 6 % 2 = m ∧ 0 < m ∧ m ≤ 2 := ⟨(1 + row / 6 % 2).toNat, by omega, by omega, by omega⟩
    have rg : Rg (m : Int) := rg_nat (by omega)
    have nms : ∃ z2 : D, z2 = .lst [.str "range", .str "clocked", .str "differ", .str "side", .str "piece", .str "boxes"] := ⟨_, rfl⟩
    obtain ⟨z2, hz2⟩ := nms
    obtain ⟨_, h1, e, ⟨y7, y8, bs, rfl, rfl, lq, vq⟩⟩ := for_rng (asg := gNm 7) (body := B__law_kind_1) (n := m)
      (fun i env h' => ∃ y7 y8 bs, env = [some (.int n), some (.int row), some z2, some (.str "boxes"), some (.int (row / 6)), none, some (.ref h.length), y7, y8, none, none] ∧ h' = h ++ [.lst (bs.map boxD)] ∧ bs.length = i ∧ ∀ b ∈ bs, b.length = n ∧ ∀ s ∈ b, s.1.natAbs ≤ 20 ∧ s.2.natAbs ≤ 26 ∧ s.1 ≤ s.2)
      (fun i env h' hi hI => by
        obtain ⟨y7, y8, bs, rfl, rfl, lq, vq⟩ := hI
        obtain ⟨b, w8, hb, e⟩ := bx_turn hn (rest := row / 6) (j := i) (by omega) (some (.int row)) (some z2) (some (.str "boxes")) none y8 none none h (bs.map boxD) (by simp; omega)
        refine ⟨_, rfl, _, _, .inl e, ⟨_, _, bs ++ [b], rfl, by simp, by simp [lq], fun t ht => ?_⟩⟩
        rcases List.mem_append.mp ht with ht | ht
        · exact vq t ht
        · simp only [List.mem_singleton] at ht
          subst ht
          exact hb)
      (env := [some (.int n), some (.int row), some z2, some (.str "boxes"), some (.int (row / 6)), none, some (.ref h.length), none, none, none, none]) (h := h ++ [.lst []]) ⟨none, none, [], rfl, by simp, rfl, by simp⟩
    refine ⟨.boxes bs, ?_, by omega, by omega, vq⟩
    have pj := fun x => pure_cleanJ h x (clean_kd n (.boxes bs))
    have l2 : (bs.map boxD).length ≤ 16000000 := by simp; omega
    subst hz2
    simp only [kdD] at *
    unfold boxesD at *
    generalize bs.map boxD = us at *
    simp [F__law_kind, q, lg, atI, ixN, hm, rg, e, l2, pj]
theorem F_rateS (hn : n ≤ 3) {K : Kd} (hK : KdS n K) (h : HP) : F_rate [kdD n K] h = .ok (.int (rateK n K)) h := by
  have p : ∀ z : Int, pure_ h (.int z) h = .ok (.int z) h := fun z => pure_clean h (clean_int z)
  cases K with
  | side d =>
    have sd : Sz 500 n d := fun i _ => by
      have : (d i).natAbs ≤ 20 := hK.1 i
      have := sz64 (i := d i) (by omega)
      omega
    have f1 : ∀ h, F_dot [vec n d, vec n d] h = .ok (.int (dt n d d)) h := fun h => F_dotW (show n ≤ 10 by omega) (by omega) sd sd h
    have w : sz (dt n d d) ≤ 1100 := dt_w (by omega) (fun i hi => Nat.le_trans (sd i hi) (by omega)) (fun i hi => Nat.le_trans (sd i hi) (by omega))
    have f2 := F_root_up' (dt_self n d) (by omega) h
    simp [Lib.F_rate, kdD, f1, f2, rateK, p]
  | _ => simp [Lib.F_rate, kdD, rateK, p]
theorem rate_bd (hn : n ≤ 3) {K : Kd} (hK : KdS n K) : 0 ≤ rateK n K ∧ rateK n K ≤ 1200 := by
  cases K with
  | side d =>
    have hd : ∀ i, (d i).natAbs ≤ 20 := hK.1
    have z := dt_self n d
    have b : dt n d d ≤ 1200 := by
      have := (sg_bd (f := fun i => d i * d i) (B := 400) (n := n) fun i _ => by
        have := hd i
        have : d i * d i ≤ 20 * 20 := sq_abs (by omega) (by omega)
        have := sq_nn (d i)
        omega).2
      unfold dt
      omega
    have r := ru_spec z
    have : ru (dt n d d) ≤ dt n d d := by
      by_cases c : dt n d d = 0
      · rw [c]; exact ru_min (by omega) (by omega) (by omega)
      · refine ru_min z z ?_
        have := Int.mul_le_mul_of_nonneg_left (show 1 ≤ dt n d d by omega) z
        omega
    exact ⟨r.1, by show ru (dt n d d) ≤ 1200; omega⟩
  | differ p q => exact ⟨by show (0 : Int) ≤ 2; omega, by show (2 : Int) ≤ 1200; omega⟩
  | _ => exact ⟨by show (0 : Int) ≤ 1; omega, by show (1 : Int) ≤ 1200; omega⟩
def hlf (share : Int) : Int := (share + 1) / 2
def crd (n : Nat) (share : Int) : Int := ru ((n : Int) * hlf share * hlf share)
theorem hl_pos {share : Int} (h : 1 ≤ share) : 0 ≤ hlf share ∧ share ≤ 2 * hlf share := by unfold hlf; omega
theorem cr_bd (hn : n ≤ 3) {share : Int} (h : 1 ≤ share) (h2 : share ≤ 2000000) : 0 ≤ (n : Int) * hlf share * hlf share ∧ crd n share ≤ 3000006000003 ∧ (n : Int) * hlf share ≤ 3000003 := by
  obtain ⟨h0, _⟩ := hl_pos h
  have hh : hlf share ≤ 1000001 := by unfold hlf; omega
  have a0 : 0 ≤ (n : Int) * hlf share := Int.mul_nonneg (by omega) h0
  have a1 : (n : Int) * hlf share ≤ 3 * 1000001 := Int.mul_le_mul (by omega) hh h0 (by omega)
  have b0 := Int.mul_nonneg a0 h0
  have b1 : (n : Int) * hlf share * hlf share ≤ 3000003 * 1000001 := Int.mul_le_mul (by omega) hh h0 (by omega)
  refine ⟨b0, ?_, by omega⟩
  unfold crd
  by_cases c : (n : Int) * hlf share * hlf share = 0
  · have := ru_min b0 (r := 0) (by omega) (by omega)
    omega
  · have := ru_min b0 (r := (n : Int) * hlf share * hlf share) (by omega) (by
      have := Int.mul_le_mul_of_nonneg_left (show 1 ≤ (n : Int) * hlf share * hlf share by omega) b0
      omega)
    omega
theorem F_cell {S : SetV} (hd : S.d = n) (hn : n ≤ 3) {share : Int} (h1 : 1 ≤ share) (h2 : share ≤ 2000000) (h : HP) : F_cell_radius [setD S, .int share] h = .ok (.int (crd n share)) h := by
  have p : ∀ z : Int, pure_ h (.int z) h = .ok (.int z) h := fun z => pure_clean h (clean_int z)
  obtain ⟨b0, b1, b2⟩ := cr_bd hn h1 h2
  obtain ⟨h0, _⟩ := hl_pos h1
  have hh : hlf share ≤ 1000001 := by unfold hlf; omega
  have fh := fun h => F_half (0, share) h
  have e : ((share : Int) - 0 + 1) / 2 = hlf share := by unfold hlf; omega
  simp only at fh
  rw [e] at fh
  have a0 : 0 ≤ (n : Int) * hlf share := Int.mul_nonneg (by omega) h0
  have m1 : CMulE (n : Int) (hlf share) := mul64 (by omega) (by omega)
  have m2 : CMulE ((n : Int) * hlf share) (hlf share) := mul64 (by omega) (by omega)
  have b3 : (n : Int) * hlf share * hlf share ≤ 3000003 * 1000001 := Int.mul_le_mul b2 hh h0 (by omega)
  have fr := fun h => F_root_up' b0 (by have := sz64 (i := (n : Int) * hlf share * hlf share) (by omega); omega) h
  unfold sideD at fh
  unfold crd
  simp only at fh
  generalize hlf share = hl at *
  simp [Lib.F_cell_radius, fh, List.lookup, hd, m1, m2, fr, p]
end
end LibW
namespace LibW
open PySem PySem.Spec PyProof.Rows L2 Ev Lib
theorem for_brk {asg : TF} {body : SM} : ∀ (xs : List D) (I : Nat → EN → HP → Prop) (Q : EN → HP → Prop) (H : ∀ i env h (hi : i < xs.length), I i env h → ∃ e, asg xs[i] env h = some e ∧ ((∃ env' h', body e h = .nx env' h' ∧ I (i + 1) env' h') ∨ ∃ env' h', body e h = .bk env' h' ∧ Q env' h')) (env : EN) (h : HP), I 0 env h →
    ∃ env' h', forE asg body [] xs env h = .nx env' h' ∧ (I xs.length env' h' ∨ Q env' h')
  | [], I, Q, H, env, h, h0 => ⟨env, h, by unfold forE; rw [if_pos (by simp [Gd])], .inl h0⟩
  | x :: xs, I, Q, H, env, h, h0 => by
    obtain ⟨e, e1, e2⟩ := H 0 env h (by simp) h0
    rcases e2 with ⟨env', h', b, i'⟩ | ⟨env', h', b, q⟩
    · obtain ⟨env2, h2, r, j⟩ := for_brk xs (fun i => I (i + 1)) Q (fun i env h hi hI => by
        obtain ⟨e, e1, e2⟩ := H (i + 1) env h (by simp; omega) hI
        exact ⟨e, by simpa using e1, e2⟩) env' h' i'
      refine ⟨env2, h2, ?_, by simpa using j⟩
      rw [for_nx (by simpa using e1) b]
      exact r
    · refine ⟨env', h', ?_, .inr q⟩
      unfold forE
      rw [if_pos (by simp [Gd])]
      simp only [List.getElem_cons_zero] at e1
      simp [e1, b]
theorem rd_eq {n r : Int} (h0 : 0 ≤ r) (h1 : r * r ≤ n) (h2 : n < (r + 1) * (r + 1)) : rd n = r := by
  have n0 : 0 ≤ n := Int.le_trans (Int.mul_nonneg h0 h0) h1
  have a := rd_max n0 h1
  obtain ⟨b0, b1, b2⟩ := rd_spec n0
  have c : rd n < r + 1 := rd_lt b0 (by omega) (by omega)
  omega
theorem F_lroot {x : Int} (h0 : 0 ≤ x) (h1 : x < 4611686018427387904) (h : HP) : F__law_root [.int x] h = .ok (.int (rd x)) h := by
  have p32 : (2 : Int) ^ 32 = 4294967296 := by decide
  have pos : ∀ k : Nat, (0 : Int) < 2 ^ k := fun k => Int.pow_pos (by omega)
  have rg4 : Rg (400 : Int) := rg_nat (n := 400) (by omega)
  obtain ⟨e', h', e1, d1⟩ := for_brk (asg := gNm 3) (body := B__law_root_1) (rngD 0 400)
    (fun i env h' => ∃ z3 : Option D, env = [some (.int x), some (.int 0), some (.int (2 ^ i)), z3, none] ∧ h' = h ∧ (i = 0 ∨ ∃ g : Int, (2 : Int) ^ i = 2 * g ∧ 0 ≤ g ∧ g * g ≤ x))
    (fun env h' => ∃ (z3 : Option D) (j : Nat), env = [some (.int x), some (.int 0), some (.int (2 ^ j)), z3, none] ∧ h' = h ∧ j ≤ 399 ∧ x < (2 : Int) ^ j * 2 ^ j ∧ (2 : Int) ^ j ≤ 4294967296)
    (fun i env h' hi hI => by
      obtain ⟨z3, rfl, rfl, hg⟩ := hI
      rw [rngD_len] at hi
      have hp := pos i
      have hb : (2 : Int) ^ i ≤ 4294967296 := by
        rcases hg with rfl | ⟨g, e, g0, gg⟩
        · omega
        · have : g < 2147483648 := by
            apply Int.not_le.mp
            intro c
            have := Int.mul_le_mul c c (by omega) g0
            omega
          omega
      refine ⟨[some (.int x), some (.int 0), some (.int (2 ^ i)), some (.int (i : Int)), none], by rw [rng_get]; simp, ?_⟩
      have hs : (2 : Int) ^ (i + 1) = 2 ^ i * 2 := Int.pow_succ ..
      have m1 : CMulE ((2 : Int) ^ i) (2 ^ i) := mul64 (by omega) (by omega)
      have m2 : CMulE ((2 : Int) ^ i) 2 := mul64 (by omega) (by omega)
      by_cases c : x < (2 : Int) ^ i * 2 ^ i
      · refine .inr ⟨_, _, ?_, some (.int (i : Int)), i, rfl, rfl, by omega, c, hb⟩
        generalize (2 : Int) ^ i = p at *
        simp [m1, c]
      · refine .inl ⟨_, _, ?_, some (.int (i : Int)), rfl, rfl, .inr ⟨2 ^ i, by rw [hs]; omega, by omega, by omega⟩⟩
        rw [hs]
        generalize (2 : Int) ^ i = p at *
        simp [m1, m2, c])
    [some (.int x), some (.int 0), some (.int 1), none, none] h ⟨none, rfl, rfl, .inl rfl⟩
  have d2 : ∃ (z3 : Option D) (j : Nat), e' = [some (.int x), some (.int 0), some (.int (2 ^ j)), z3, none] ∧ h' = h ∧ j ≤ 399 ∧ x < (2 : Int) ^ j * 2 ^ j ∧ (2 : Int) ^ j ≤ 4294967296 := by
    rcases d1 with ⟨z3, e2, e3, hg⟩ | ⟨z3, j, e2, e3, h2, h3, h4⟩
    · exfalso
      rw [rngD_len] at hg
      rcases hg with hg | ⟨g, e, g0, gg⟩
      · omega
      · have e400 : (2 : Int) ^ 400 = 2 * (4294967296 * 2 ^ 367) := by decide +kernel
        have p3 := pos 367
        rw [e400] at e
        generalize (2 : Int) ^ 367 = p at *
        have g2 : 4294967296 ≤ g := by omega
        have := Int.mul_le_mul g2 g2 (by omega) g0
        omega
    · exact ⟨z3, j, e2, e3, h2, h3, h4⟩
  obtain ⟨z3, j, rfl, rfl, j4, xj, jb⟩ := d2
  obtain ⟨e'', h'', e2, d3⟩ := for_brk (asg := gNm 3) (body := B__law_root_2) (rngD 0 400)
    (fun i env h'' => ∃ (z3 z4 : Option D) (lo : Int) (k : Nat), env = [some (.int x), some (.int lo), some (.int (lo + 2 ^ k)), z3, z4] ∧ h'' = h' ∧ k + i = j ∧ 0 ≤ lo ∧ lo * lo ≤ x ∧ x < (lo + 2 ^ k) * (lo + 2 ^ k) ∧ lo + 2 ^ k ≤ 4294967296)
    (fun env h'' => ∃ (z2 z3 z4 : Option D) (lo : Int), env = [some (.int x), some (.int lo), z2, z3, z4] ∧ h'' = h' ∧ 0 ≤ lo ∧ lo * lo ≤ x ∧ x < (lo + 1) * (lo + 1))
    (fun i env h'' hi hI => by
      obtain ⟨z3, z4, lo, k, rfl, rfl, hk, l0, l1, l2, l3⟩ := hI
      rw [rngD_len] at hi
      refine ⟨[some (.int x), some (.int lo), some (.int (lo + 2 ^ k)), some (.int (i : Int)), z4], by rw [rng_get]; simp, ?_⟩
      cases k with
      | zero =>
        refine .inr ⟨[some (.int x), some (.int lo), some (.int (lo + 2 ^ 0)), some (.int (i : Int)), z4], _, ?_, some (.int (lo + 2 ^ 0)), some (.int (i : Int)), z4, lo, rfl, rfl, l0, l1, by simpa using l2⟩
        have e1 : lo + 1 - lo ≤ 1 := by omega
        simp [e1]
      | succ k =>
        have hp := pos k
        have hs : (2 : Int) ^ (k + 1) = 2 ^ k * 2 := Int.pow_succ ..
        rw [hs] at l2 l3 ⊢
        have hh : (lo + (lo + (2 : Int) ^ k * 2)) / 2 = lo + 2 ^ k := by omega
        have big : ¬ (lo + (2 : Int) ^ k * 2 - lo ≤ 1) := by omega
        have m1 : CMulE (lo + (2 : Int) ^ k) (lo + 2 ^ k) := mul64 (by omega) (by omega)
        by_cases c : (lo + (2 : Int) ^ k) * (lo + 2 ^ k) ≤ x
        · refine .inl ⟨[some (.int x), some (.int (lo + 2 ^ k)), some (.int (lo + 2 ^ k + 2 ^ k)), some (.int (i : Int)), some (.int (lo + 2 ^ k))], _, ?_, some (.int (i : Int)), some (.int (lo + 2 ^ k)), lo + 2 ^ k, k, rfl, rfl, by omega, by omega, c, ?_, by omega⟩
          · have e3 : lo + (2 : Int) ^ k + 2 ^ k = lo + 2 ^ k * 2 := by omega
            rw [e3]
            generalize (2 : Int) ^ k = p at *
            simp [lg, hh, big, m1, c]
          · have e3 : lo + (2 : Int) ^ k + 2 ^ k = lo + 2 ^ k * 2 := by omega
            rw [e3]
            exact l2
        · refine .inl ⟨[some (.int x), some (.int lo), some (.int (lo + 2 ^ k)), some (.int (i : Int)), some (.int (lo + 2 ^ k))], _, ?_, some (.int (i : Int)), some (.int (lo + 2 ^ k)), lo, k, rfl, rfl, by omega, l0, l1, by omega, by omega⟩
          generalize (2 : Int) ^ k = p at *
          simp [lg, hh, big, m1, c])
    [some (.int x), some (.int 0), some (.int (2 ^ j)), z3, none] h' ⟨z3, none, 0, j, by simp, rfl, by omega, by omega, by omega, by simpa using xj, by omega⟩
  have d4 : ∃ (z2 z3 z4 : Option D) (lo : Int), e'' = [some (.int x), some (.int lo), z2, z3, z4] ∧ h'' = h' ∧ 0 ≤ lo ∧ lo * lo ≤ x ∧ x < (lo + 1) * (lo + 1) := by
    rcases d3 with ⟨z3, z4, lo, k, _, _, hk, _⟩ | d
    · exfalso
      rw [rngD_len] at hk
      omega
    · exact d
  obtain ⟨z2, z3', z4, lo, rfl, rfl, l0, l1, l2⟩ := d4
  rw [rd_eq l0 l1 l2]
  have pr := pure_clean h'' (clean_int lo)
  have e1' : forE (gNm 3) B__law_root_1 [] (rngD 0 400) [some (D.int x), some (.int 0), some (.int 1), none, none] h'' = _ := e1
  simp [F__law_root, rg4, e1', e2, pr]
theorem F_lup {x : Int} (h0 : 0 ≤ x) (h1 : x < 4611686018427387904) (h : HP) : F__law_up [.int x] h = .ok (.int (ru x)) h := by
  have f := fun h => F_lroot h0 h1 h
  obtain ⟨r0, r1, r2⟩ := rd_spec h0
  have rb : rd x < 4294967296 := by
    apply Int.not_le.mp
    intro c
    have := Int.mul_le_mul c c (by omega) r0
    omega
  have m : CMulE (rd x) (rd x) := mul64 (by omega) (by omega)
  have pr := fun z : Int => pure_clean h (clean_int z)
  unfold ru
  by_cases c : rd x * rd x < x
  · simp [F__law_up, f, m, c, pr]
  · simp [F__law_up, f, m, c, pr]
end LibW
namespace LibW
open PySem PySem.Spec PyProof.Rows L2 Ev Lib
section
variable {n : Nat}
def hv (x : Int) : Int := absI x / 2 * (1 - 2 * (if x < 0 then 1 else 0))
theorem hv_bd {x : Int} {B : Int} (h : -(2 * B + 1) ≤ x ∧ x ≤ 2 * B + 1) : -B ≤ hv x ∧ hv x ≤ B := by
  unfold hv absI
  split <;> omega
def bB (i : Nat) : Int := if i = 0 then 4 else if i = 1 then 2 else if i = 2 then 1 else 0
theorem bB_le (i : Nat) : 0 ≤ bB i ∧ bB i ≤ 4 := by unfold bB; repeat' split
                                                    all_goals omega
theorem bB_step (i : Nat) {x : Int} (h : -(bB i) ≤ x ∧ x ≤ bB i) : -(bB (i + 1)) ≤ hv x ∧ hv x ≤ bB (i + 1) := by
  refine hv_bd ?_
  unfold bB at *
  repeat' split at h
  all_goals (repeat' split)
  all_goals omega
def PaceOk (S : SetV) (n : Nat) (mv : Nat → Int) : Prop := S.p * S.p * dt n mv mv ≤ S.s * S.s
theorem vel_turn {S : SetV} (k : S.ok) (hn : n ≤ 3) {mv : Nat → Int} {i : Nat} (hb : ∀ j < n, -(bB i) ≤ mv j ∧ mv j ≤ bB i) (z1 z3 z4 z5 z6 : Option D) (h : HP) :
    (∃ y4 y5 y6, B__law_velocity_1 [some (setD S), z1, some (lvec n mv), z3, z4, z5, z6] h = .nx [some (setD S), z1, some (lvec n fun j => hv (mv j)), z3, y4, y5, y6] h) ∨
    (∃ y4 y5 y6, B__law_velocity_1 [some (setD S), z1, some (lvec n mv), z3, z4, z5, z6] h = .bk [some (setD S), z1, some (lvec n mv), z3, y4, y5, y6] h ∧ PaceOk S n mv) := by
  have b4 := bB_le i
  have sm : ∀ j < n, -4 ≤ mv j ∧ mv j ≤ 4 := fun j hj => by have := hb j hj; omega
  have lc2 : ∀ z4, C__law_velocity_2 false [some (setD S), z1, some (lvec n mv), z3, z4, z5, none] h = _ := fun z4 =>
    mLc_ty (h1 := h) (List.range n) (fun j => .int (mv j)) (fun j => .int (mv j * mv j)) (by simp [lvec]) (by simp; omega)
      (fun j hj h' => ⟨[some (setD S), z1, some (lvec n mv), z3, z4, z5, some (.int (mv j))], by simp, by
        have := sm j (List.mem_range.mp hj)
        have m : CMulE (mv j) (mv j) := mul64 (by omega) (by omega)
        simp [m]⟩) fun i _ => clean_int _
  have lc2' : C__law_velocity_2 false [some (setD S), z1, some (lvec n mv), z3, z4, z5, z6] h = .ok (.lst ((List.range n).map fun j => .int (mv j * mv j))) h := lc2 z4
  have ki := ints_vec n fun j => mv j * mv j
  have es : ((List.range n).map fun j => mv j * mv j).sum = dt n mv mv := rfl
  have dbd : dt n mv mv ≤ 48 ∧ 0 ≤ dt n mv mv := by
    have := (sg_bd (f := fun i => mv i * mv i) (B := 16) (n := n) fun i hi => by
      have := sm i hi
      have : mv i * mv i ≤ 4 * 4 := sq_abs (by omega) (by omega)
      have := sq_nn (mv i)
      omega).2
    have := dt_self n mv
    unfold dt at *
    omega
  obtain ⟨s1, s2, s3, s4⟩ := set_sz k
  have q1 := sz_mul S.p S.p
  have m1 : CMulE S.p S.p := mulX 64 64 s4 s4 (by decide)
  have m2 : CMulE (S.p * S.p) (dt n mv mv) := mulX 200 64 (by omega) (sz64 (by omega)) (by decide)
  have m3 : CMulE S.s S.s := mulX 64 64 s2 s2 (by decide)
  by_cases c : S.p * S.p * dt n mv mv ≤ S.s * S.s
  · right
    refine ⟨some (.int (dt n mv mv)), z5, z6, ?_, c⟩
    generalize lvec n mv = mm at *
    generalize ((List.range n).map fun j => mv j * mv j) = zs at *
    generalize ((List.range n).map fun j => D.int (mv j * mv j)) = ys at *
    simp [List.lookup, lc2', ki, es, m1, m2, m3, c]
  · left
    have lc3 : ∀ z4, C__law_velocity_3 false [some (setD S), z1, some (lvec n mv), z3, z4, z5, z6] h = .ok (.lst ((List.range n).map fun j => .int (hv (mv j)))) h := fun z4 =>
      mLc_ty (h1 := h) (List.range n) (fun j => .int (mv j)) (fun j => .int (hv (mv j))) (by simp [lvec]) (by simp; omega)
        (fun j hj h' => ⟨[some (setD S), z1, some (lvec n mv), z3, z4, z5, some (.int (mv j))], by simp, by
          have := sm j (List.mem_range.mp hj)
          have ea : (if mv j < 0 then -(mv j) else mv j) = absI (mv j) := rfl
          have a4 : 0 ≤ absI (mv j) ∧ absI (mv j) ≤ 4 := by unfold absI; split <;> omega
          have m5 : CMulE 2 1 := mul64 (by decide) (by decide)
          have m6 : CMulE 2 0 := mul64 (by decide) (by decide)
          have m7 : CMulE (absI (mv j) / 2) (-1) := mul64 (by omega) (by decide)
          have m8 : CMulE (absI (mv j) / 2) 1 := mul64 (by omega) (by decide)
          unfold hv
          by_cases c : mv j < 0
          · rw [if_pos c] at ea
            simp [c, ea, lg, m5, m7]
          · rw [if_neg c] at ea
            rw [← ea] at m8 ⊢
            simp [c, lg, m6, m8]⟩) fun i _ => clean_int _
    refine ⟨some (.int (dt n mv mv)), z5, z6, ?_⟩
    have e3 : lvec n (fun j => hv (mv j)) = .lst ((List.range n).map fun j => .int (hv (mv j))) := rfl
    rw [e3]
    generalize lvec n mv = mm at *
    generalize ((List.range n).map fun j => mv j * mv j) = zs at *
    generalize ((List.range n).map fun j => D.int (mv j * mv j)) = ys at *
    generalize ((List.range n).map fun j => D.int (hv (mv j))) = hs at *
    simp [List.lookup, lc2', ki, es, m1, m2, m3, c, lc3]
theorem F_lvel {S : SetV} (k : S.ok) (hd : S.d = n) (hn : n ≤ 3) (c : Int) (h : HP) : ∃ mv : Nat → Int, F__law_velocity [setD S, .int c] h = .ok (lvec n mv) h ∧ (∀ j < n, -4 ≤ mv j ∧ mv j ≤ 4) ∧ PaceOk S n mv := by
  obtain ⟨ds, fd, bd⟩ := F_digits (base := 7) (by omega) (by omega) (n := n) (by omega) c h
  have lc1 : C__law_velocity_1 false [some (setD S), some (.int c), none, none, none, none, none] h = _ :=
    mLc_ty (h1 := h) (List.range n) (fun i => .int (ds i)) (fun i => .int (ds i - 3)) (by simp [List.lookup, hd, fd, lvec]) (by simp; omega)
      (fun i hi h' => ⟨[some (setD S), some (.int c), none, none, none, some (.int (ds i)), none], by simp, by simp⟩) fun i _ => clean_int _
  have rg4 : Rg 8 := rg_nat (n := 8) (by omega)
  obtain ⟨env', h1, e, key⟩ := for_brk (asg := gNm 3) (body := B__law_velocity_1) (rngD 0 8)
    (fun i env h' => (∃ mv y3 y4 y5 y6, (∀ j < n, -(bB i) ≤ mv j ∧ mv j ≤ bB i) ∧ env = [some (setD S), some (.int c), some (lvec n mv), y3, y4, y5, y6]) ∧ h' = h)
    (fun env h' => (∃ mv y3 y4 y5 y6, ((∀ j < n, -4 ≤ mv j ∧ mv j ≤ 4) ∧ PaceOk S n mv) ∧ env = [some (setD S), some (.int c), some (lvec n mv), y3, y4, y5, y6]) ∧ h' = h)
    (fun i env h' hi hI => by
      obtain ⟨⟨mv, y3, y4, y5, y6, hb, rfl⟩, rfl⟩ := hI
      rw [rng_get hi]
      refine ⟨_, rfl, ?_⟩
      rcases vel_turn k hn hb (some (.int c)) (some (.int (i : Nat))) y4 y5 y6 h' with ⟨w4, w5, w6, e⟩ | ⟨w4, w5, w6, e, q⟩
      · exact .inl ⟨_, _, e, ⟨_, _, _, _, _, fun j hj => bB_step i (hb j hj), rfl⟩, rfl⟩
      · exact .inr ⟨_, _, e, ⟨mv, _, _, _, _, ⟨fun j hj => by have := hb j hj; have := bB_le i; omega, q⟩, rfl⟩, rfl⟩)
    [some (setD S), some (.int c), some (lvec n fun i => ds i - 3), none, none, none, none] h ⟨⟨_, _, _, _, _, fun j _ => by have := bd j; unfold bB; simp only [if_true]; omega, rfl⟩, rfl⟩
  have fin : ∃ mv y3 y4 y5 y6, ((∀ j < n, -4 ≤ mv j ∧ mv j ≤ 4) ∧ PaceOk S n mv) ∧ env' = [some (setD S), some (.int c), some (lvec n mv), y3, y4, y5, y6] ∧ h1 = h := by
    rcases key with ⟨⟨mv, y3, y4, y5, y6, hb, e⟩, e2⟩ | ⟨⟨mv, y3, y4, y5, y6, hb, e⟩, e2⟩
    · refine ⟨mv, y3, y4, y5, y6, ⟨fun j hj => ?_, ?_⟩, e, e2⟩
      · have := hb j hj
        have := bB_le (rngD 0 8).length
        omega
      · have z : ∀ j < n, mv j = 0 := fun j hj => by
          have := hb j hj
          rw [rngD_len] at this
          unfold bB at this
          simp at this
          omega
        have : dt n mv mv = 0 := by
          have e : dt n mv mv = sg n fun _ => 0 := sg_congr fun j hj => by rw [z j hj]; rfl
          rw [e]
          have := sg_bd (f := fun _ => 0) (B := 0) (n := n) fun i _ => by omega
          omega
        unfold PaceOk
        rw [this]
        have := sq_nn S.s
        omega
    · exact ⟨mv, y3, y4, y5, y6, hb, e, e2⟩
  obtain ⟨mv, y3, y4, y5, y6, hm, rfl, rfl⟩ := fin
  refine ⟨mv, ?_, hm⟩
  have p := pure_clean h1 (clean_lvec n mv)
  unfold lvec at *
  generalize ((List.range n).map fun i => D.int (mv i)) = ms at *
  generalize ((List.range n).map fun i => D.int (ds i - 3)) = m0 at *
  simp [F__law_velocity, lc1, rg4, e, p]
def lsV (row : Int) : SetV := ⟨2 + row % 2, row / 2 % 9, row / 18 % 3, 1 + row / 54 % 3⟩
theorem ls_ok (row : Int) : (lsV row).ok ∧ (lsV row).s ≤ 8 ∧ (lsV row).r ≤ 2 ∧ (lsV row).p ≤ 3 := by unfold lsV SetV.ok; simp only; omega
theorem F_lsetV (row : Int) (h : HP) : F__law_setting [.int row] h = .ok (setD (lsV row)) h := by
  have k := (ls_ok row).1
  have mk := mk_set k h
  have p := pure_clean h (clean_set (lsV row))
  unfold lsV at *
  simp only at mk
  simp [F__law_setting, lg, mk, p]
structure WayV where
  pl : Nat → Int
  cl : Int
  tn : Int
  f1 : Nat → Int
  f2 : Nat → Int
  e1 : Int
  e2 : Int
def wayD (n : Nat) (W : WayV) : D := .tup [lvec n W.pl, .int W.cl, .int W.tn, lvec n W.f1, lvec n W.f2, .int W.e1, .int W.e2]
structure WayOk (S : SetV) (n : Nat) (W : WayV) : Prop where
  pl : ∀ i < n, -15 ≤ W.pl i ∧ W.pl i ≤ 15
  cl : -4 ≤ W.cl ∧ W.cl ≤ 4
  tn : -4 ≤ W.tn ∧ W.tn ≤ 4
  f1 : ∀ i < n, -4 ≤ W.f1 i ∧ W.f1 i ≤ 4
  f2 : ∀ i < n, -4 ≤ W.f2 i ∧ W.f2 i ≤ 4
  p1 : PaceOk S n W.f1
  p2 : PaceOk S n W.f2
  e1 : -2 ≤ W.e1 ∧ W.e1 ≤ 2
  e2 : -2 ≤ W.e2 ∧ W.e2 ≤ 2
  d1 : -S.r ≤ S.p * W.e1 ∧ S.p * W.e1 ≤ S.r
  d2 : -S.r ≤ S.p * W.e2 ∧ S.p * W.e2 ≤ S.r
theorem clean_lv (n : Nat) (p : Nat → Int) : clean (lvec n p) := clean_lst fun d hd => by obtain ⟨x, _, rfl⟩ := List.mem_map.mp hd; exact clean_int _
theorem clean_way (n : Nat) (W : WayV) : clean (wayD n W) := clean_tup (by simp [clean_int, clean_lv])
theorem slow_in {p r q x : Int} (hp : 1 ≤ p) (hr : 0 ≤ r) (hq : q = r / p) (hx : -q ≤ x ∧ x ≤ q) : -r ≤ p * x ∧ p * x ≤ r := by
  have e : p * q ≤ r := by rw [hq]; exact Int.mul_ediv_self_le (by omega)
  have a := Int.mul_le_mul_of_nonneg_left hx.1 (show 0 ≤ p by omega)
  have b := Int.mul_le_mul_of_nonneg_left hx.2 (show 0 ≤ p by omega)
  have n1 : p * -q = -(p * q) := Int.mul_neg _ _
  omega
theorem F_lway {S : SetV} (k : S.ok) (hd : S.d = n) (hn : n ≤ 3) (r2 : S.r ≤ 2) (a b c : Int) (h : HP) : ∃ W : WayV, F__law_way [setD S, .lst [.int a, .int b, .int c]] h = .ok (wayD n W) h ∧ WayOk S n W := by
  obtain ⟨ds, fd, bd⟩ := F_digits (base := 31) (by omega) (by omega) (n := n) (by omega) a h
  obtain ⟨m1, g1, v1, q1⟩ := F_lvel k hd hn c h
  obtain ⟨m2, g2, v2, q2⟩ := F_lvel k hd hn (c / 2401) h
  have p1 : 1 ≤ S.p := k.2.2.2.2.2.2.1
  have r0 : 0 ≤ S.r := k.2.2.2.2.1
  obtain ⟨q, hq⟩ : ∃ q, q = S.r / S.p := ⟨_, rfl⟩
  have q0 : 0 ≤ q ∧ q ≤ 2 := by
    have x1 := Int.ediv_le_self S.p r0
    have x2 := Int.ediv_nonneg r0 (show 0 ≤ S.p by omega)
    omega
  have l0 : 0 < 2 * q + 1 := by omega
  have e1 := Int.emod_nonneg b (show 2 * q + 1 ≠ 0 by omega)
  have e2 := Int.emod_lt_of_pos b l0
  have e3 := Int.emod_nonneg (b / 16) (show 2 * q + 1 ≠ 0 by omega)
  have e4 := Int.emod_lt_of_pos (b / 16) l0
  refine ⟨⟨fun i => ds i - 15, b / 256 % 9 - 4, b / 4096 % 9 - 4, m1, m2, b % (2 * q + 1) - q, b / 16 % (2 * q + 1) - q⟩, ?_, ?_⟩
  · have lc1 : C__law_way_1 false [some (setD S), some (.lst [.int a, .int b, .int c]), none, none, none, none, none, none, none] h = _ :=
      mLc_ty (h1 := h) (List.range n) (fun i => .int (ds i)) (fun i => .int (ds i - 15)) (by
          have i0 : atI [D.int a, .int b, .int c] 0 = some (.int a) := rfl
          simp [List.lookup, hd, fd, lvec, i0]) (by simp; omega)
        (fun i hi h' => ⟨[some (setD S), some (.lst [.int a, .int b, .int c]), none, none, none, none, none, none, some (.int (ds i))], by simp, by simp⟩) fun i _ => clean_int _
    have pr := pure_clean h (clean_way n ⟨fun i => ds i - 15, b / 256 % 9 - 4, b / 4096 % 9 - 4, m1, m2, b % (2 * q + 1) - q, b / 16 % (2 * q + 1) - q⟩)
    have lgp : Nat.log2 S.p.natAbs < 9000 := lg (by have := k.2.2.2.2.2.2.2; omega)
    have lgq : Nat.log2 (2 * q + 1).natAbs < 9000 := lg (by omega)
    have mq : CMulE 2 q := mul64 (by omega) (by omega)
    have i0 : atI [D.int a, .int b, .int c] 0 = some (.int a) := rfl
    have i1 : atI [D.int a, .int b, .int c] 1 = some (.int b) := rfl
    have i2 : atI [D.int a, .int b, .int c] 2 = some (.int c) := rfl
    have pp : 0 < S.p := by omega
    have e5 : D.lst ((List.range n).map fun i => .int (ds i - 15)) = lvec n fun i => ds i - 15 := rfl
    rw [e5] at lc1
    unfold wayD at *
    simp only at pr ⊢
    generalize lvec n (fun i => ds i - 15) = p0 at *
    generalize lvec n m1 = x1 at *
    generalize lvec n m2 = x2 at *
    simp [F__law_way, lc1, List.lookup, lgp, pp, ← hq, i1, i2, lgq, l0, mq, lg, g1, g2, pr]
  · refine ⟨fun i _ => by have := bd i; simp only; omega, by simp only; omega, by simp only; omega, v1, v2, q1, q2, by simp only; omega, by simp only; omega, slow_in p1 r0 hq (by simp only; omega), slow_in p1 r0 hq (by simp only; omega)⟩
def goW (W : WayV) (t : Int) : Nat → Int := if t - W.tn < 0 then W.f1 else W.f2
def rtW (W : WayV) (t : Int) : Int := if t - W.tn < 0 then W.e1 else W.e2
def plW (W : WayV) (t : Int) : Nat → Int := fun i => W.pl i + goW W t i * (t - W.tn)
def clW (W : WayV) (t : Int) : Int := W.cl + rtW W t * (t - W.tn)
def zP (n : Nat) (f : Nat → Int) (v : Int) : Nat → Int := fun i => if i < n then f i else v
theorem z_list (n : Nat) (f : Nat → Int) (v : Int) : ((List.range n).map fun i => D.int (f i)) ++ [.int v] = (List.range (n + 1)).map fun i => .int (zP n f v i) := by
  rw [List.range_succ, List.map_append]
  congr 1
  · refine List.map_congr_left fun i hi => ?_
    rw [zP, if_pos (List.mem_range.mp hi)]
  · simp [zP]
def zW (n : Nat) (W : WayV) (t : Int) : Nat → Int := zP n (plW W t) (clW W t)
theorem F_lat {S : SetV} (hn : n ≤ 3) {W : WayV} (o : WayOk S n W) {t : Int} (ht : -1000 ≤ t ∧ t ≤ 1000) (h : HP) : F__law_at [wayD n W, .int t] h = .ok (lvec (n + 1) (zW n W t)) h := by
  have rg : Rg (n : Int) := rg_nat (by omega)
  have tn := o.tn
  have e1 := o.e1
  have e2 := o.e2
  have gb : ∀ i < n, -4 ≤ goW W t i ∧ goW W t i ≤ 4 := fun i hi => by
    unfold goW
    split
    · exact o.f1 i hi
    · exact o.f2 i hi
  have sl : ((List.range n).map fun i => D.int (W.pl i)).length ≤ sizeLine := by rw [sizeLine_eq]; simp; omega
  have lc : ∀ z12, C__law_at_1 false [some (wayD n W), some (.int t), some (lvec n W.pl), some (.int W.cl), some (.int W.tn), some (lvec n W.f1), some (lvec n W.f2), some (.int W.e1), some (.int W.e2), some (.int (t - W.tn)), some (lvec n (goW W t)), some (.int (rtW W t)), z12, none] h = _ := fun z12 =>
    mLc_ty (h1 := h) (List.range n) (fun i => .int (i : Nat)) (fun i => .int (plW W t i)) (by
        unfold lvec at *
        simp [sl, rg, rngD_eq]) (by simp; omega)
      (fun i hi h' => ⟨[some (wayD n W), some (.int t), some (lvec n W.pl), some (.int W.cl), some (.int W.tn), some (lvec n W.f1), some (lvec n W.f2), some (.int W.e1), some (.int W.e2), some (.int (t - W.tn)), some (lvec n (goW W t)), some (.int (rtW W t)), z12, some (.int (i : Int))], by simp, by
        have hi' := List.mem_range.mp hi
        have b := gb i hi'
        have m : CMulE (goW W t i) (t - W.tn) := mul64 (by omega) (by omega)
        have a1 := at_vec (p := W.pl) hi'
        have a2 := at_vec (p := goW W t) hi'
        unfold lvec
        simp [a1, a2, m, plW]⟩) fun i _ => clean_int _
  have m2 : CMulE (rtW W t) (t - W.tn) := mul64 (by unfold rtW; split <;> omega) (by omega)
  have pr := pure_clean h (clean_lv (n + 1) (zW n W t))
  have zl : lvec (n + 1) (zW n W t) = .lst (((List.range n).map fun i => D.int (plW W t i)) ++ [.int (clW W t)]) := by unfold zW; rw [z_list]; rfl
  have l1 : ((List.range n).map fun i => D.int (plW W t i)).length + 1 ≤ sizeLine := by rw [sizeLine_eq]; simp; omega
  have ec : W.cl + rtW W t * (t - W.tn) = clW W t := rfl
  rw [zl] at pr ⊢
  unfold goW rtW at lc m2 ec
  by_cases c : t - W.tn < 0
  · simp only [if_pos c] at lc m2 ec
    unfold wayD at *
    generalize ((List.range n).map fun i => D.int (plW W t i)) = ps at *
    generalize lvec n W.pl = p0 at *
    generalize lvec n W.f1 = x1 at *
    generalize lvec n W.f2 = x2 at *
    simp [F__law_at, c, lc, m2, ec, l1, pr]
  · simp only [if_neg c] at lc m2 ec
    unfold wayD at *
    generalize ((List.range n).map fun i => D.int (plW W t i)) = ps at *
    generalize lvec n W.pl = p0 at *
    generalize lvec n W.f1 = x1 at *
    generalize lvec n W.f2 = x2 at *
    simp [F__law_at, c, lc, m2, ec, l1, pr]
end
end LibW
namespace LibW
open PySem PySem.Spec PyProof.Rows L2 Ev Lib
def KdB (n : Nat) : Kd → Prop
  | .range p => ∀ i < n, -30 ≤ p i ∧ p i ≤ 30
  | .clocked p => ∀ i < n, -30 ≤ p i ∧ p i ≤ 30
  | .differ p q => (∀ i < n, -30 ≤ p i ∧ p i ≤ 30) ∧ ∀ i < n, -30 ≤ q i ∧ q i ≤ 30
  | .piece p q => (∀ i < n, -30 ≤ p i ∧ p i ≤ 30) ∧ ∀ i < n, -30 ≤ q i ∧ q i ≤ 30
  | .side p => ∀ i < n, -30 ≤ p i ∧ p i ≤ 30
  | .boxes bs => 0 < bs.length ∧ bs.length ≤ 1000 ∧ ∀ b ∈ bs, b.length = n ∧ ∀ i < n, (sd b i).1 ≤ (sd b i).2 ∧ -30 ≤ (sd b i).1 ∧ (sd b i).1 ≤ 30 ∧ (sd b i).2 ≤ 50
theorem KdB.v {n : Nat} {K : Kd} (h : KdB n K) : KdV n K := by
  have pv : ∀ {p : Nat → Int}, (∀ i < n, -30 ≤ p i ∧ p i ≤ 30) → VP n p := fun {p} h i hi => by
    have := h i hi
    have := sz64 (i := p i) (by omega)
    unfold Lib.V
    omega
  cases K with
  | range p => exact pv h
  | clocked p => exact pv h
  | differ p q => exact ⟨pv h.1, pv h.2⟩
  | piece p q => exact ⟨pv h.1, pv h.2⟩
  | side p => exact pv h
  | boxes bs =>
    obtain ⟨h1, h2, h3⟩ := h
    refine ⟨h1, by omega, fun b hb => ⟨(h3 b hb).1, fun s hs => ?_⟩⟩
    obtain ⟨l, q⟩ := h3 b hb
    obtain ⟨i, hi, rfl⟩ := List.getElem_of_mem hs
    have k := q i (by omega)
    rw [sd_get hi] at k
    have := sz64 (i := b[i].1) (by omega)
    have := sz64 (i := b[i].2) (by omega)
    exact ⟨by unfold Lib.V; omega, by unfold Lib.V; omega⟩
theorem dt_sm {n : Nat} (hn : n ≤ 3) {p : Nat → Int} (h : ∀ i < n, -400 ≤ p i ∧ p i ≤ 400) : 0 ≤ dt n p p ∧ dt n p p ≤ 480000 := by
  refine ⟨dt_self n p, ?_⟩
  have := (sg_bd (n := n) (f := fun i => p i * p i) (B := 160000) fun i hi => by
    have := sq_abs (h i hi).1 (h i hi).2
    have := sq_nn (p i)
    omega).2
  unfold dt
  omega
theorem rt_sm {x B : Int} (h0 : 0 ≤ x) (h1 : x ≤ B) : 0 ≤ rd x ∧ rd x ≤ B ∧ 0 ≤ ru x ∧ ru x ≤ B + 1 := by
  have a := rd_spec h0
  have b := rd_le h0
  have c : ru x = rd x + 1 ∨ ru x = rd x := by unfold ru; split <;> simp
  omega
theorem v_sm {n : Nat} (hn : n ≤ 3) {y : Nat → Int} (hy : ∀ i < n, -300 ≤ y i ∧ y i ≤ 300) (p : Nat → Int) (hp : ∀ i < n, -30 ≤ p i ∧ p i ≤ 30) : 0 ≤ vq n y p ∧ vq n y p ≤ 480000 := dt_sm hn fun i hi => by
  have := hp i hi
  have := hy i hi
  show -400 ≤ y i - p i ∧ y i - p i ≤ 400
  omega
theorem pc_sm {n : Nat} (hn : n ≤ 3) {y a t : Nat → Int} (hy : ∀ i < n, -300 ≤ y i ∧ y i ≤ 300) (hK : (∀ i < n, -30 ≤ a i ∧ a i ≤ 30) ∧ ∀ i < n, -30 ≤ t i ∧ t i ≤ 30) :
    (0 ≤ (pc2 n y a t).1 ∧ (pc2 n y a t).1 ≤ 230400000000) ∧ (0 ≤ (pc2 n y a t).2 ∧ (pc2 n y a t).2 ≤ 230400000000) := by
    have v := v_sm hn hy
    have d1 := v a hK.1
    have d2 := v t hK.2
    have d3 : 0 ≤ dt n (sub t a) (sub t a) ∧ dt n (sub t a) (sub t a) ≤ 480000 := dt_sm hn fun i hi => by
      have := hK.1 i hi
      have := hK.2 i hi
      show -400 ≤ t i - a i ∧ t i - a i ≤ 400
      omega
    have W := pc1_pos n y a t
    have P : 0 ≤ (pc1 n y a t).1 ∧ (pc1 n y a t).1 ≤ 230400000000 := by
      refine ⟨?_, ?_⟩
      · have wp : ∀ {f : Nat → Int}, (∀ i < n, -300 ≤ f i ∧ f i ≤ 300) → WP n f := fun {f} h i hi => Lib.W.of (by have := h i hi; omega)
        have wa : WP n a := wp fun i hi => by have := hK.1 i hi; omega
        have wt : WP n t := wp fun i hi => by have := hK.2 i hi; omega
        exact (pc1_w (by omega) (sub_w (wp hy) wa) (sub_w wt wa) (sub_w (wp hy) wt)).1
      · unfold pc1
        unfold vq at d1 d2
        split
        · simp only; omega
        · split
          · simp only; omega
          · simp only
            have m := Int.mul_le_mul d1.2 d3.2 d3.1 (by omega)
            have q := sq_nn (dt n (sub y a) (sub t a))
            omega
    have lo : 0 ≤ (pc2 n y a t).1 ∧ (pc2 n y a t).1 ≤ 230400000000 := by
      unfold pc2
      simp only
      generalize (pc1 n y a t).1 = X at *
      generalize (pc1 n y a t).2 = Y at *
      have := Int.ediv_le_self Y P.1
      have := Int.ediv_nonneg P.1 (show 0 ≤ Y by omega)
      omega
    have hi : (pc2 n y a t).2 ≤ 230400000000 := by
      unfold pc2
      simp only
      generalize (pc1 n y a t).1 = X at *
      generalize (pc1 n y a t).2 = Y at *
      have q : -X ≤ -X / Y := Int.le_ediv_of_mul_le W (by
        have := Int.mul_le_mul_of_nonneg_left (show 1 ≤ Y by omega) P.1
        have e : -X * Y = -(X * Y) := Int.neg_mul _ _
        omega)
      omega
    have le := pc2_le (n := n) (w := y) (a := a) (t := t)
    exact ⟨lo, by omega, hi⟩
theorem near_sm {n : Nat} (hn : n ≤ 3) {y : Nat → Int} (hy : ∀ i < n, -300 ≤ y i ∧ y i ≤ 300) {o : List (Int × Int)} (h : ∀ i < n, (sd o i).1 ≤ (sd o i).2 ∧ -30 ≤ (sd o i).1 ∧ (sd o i).1 ≤ 30) : 0 ≤ nearQ n y o ∧ nearQ n y o ≤ 480000 := by
  have n1 : nearQ n y o ≤ dt n (sub (fun i => (sd o i).1) y) (sub (fun i => (sd o i).1) y) := near_pl fun i hi => by
    have := h i hi
    omega
  have n2 := (dt_sm hn (p := sub (fun i => (sd o i).1) y) fun i hi => by
    have := h i hi
    have := hy i hi
    show -400 ≤ (sd o i).1 - y i ∧ (sd o i).1 - y i ≤ 400
    omega).2
  have n0 : 0 ≤ nearQ n y o := sg_nn fun i _ => sq_nn _
  omega
theorem lawV_sm {n : Nat} (hn : n ≤ 3) {K : Kd} (hK : KdB n K) {y : Nat → Int} (hy : ∀ i < n, -300 ≤ y i ∧ y i ≤ 300) {c : Int} (hc : -1000 ≤ c ∧ c ≤ 1000) :
    -1000000000000 ≤ (lawV n K y c).1 ∧ (lawV n K y c).1 ≤ 1000000000000 ∧ -1000000000000 ≤ (lawV n K y c).2 ∧ (lawV n K y c).2 ≤ 1000000000000 := by
  have v : ∀ p : Nat → Int, (∀ i < n, -30 ≤ p i ∧ p i ≤ 30) → 0 ≤ vq n y p ∧ vq n y p ≤ 480000 := fun p hp => dt_sm hn fun i hi => by
    have := hp i hi
    have := hy i hi
    show -400 ≤ y i - p i ∧ y i - p i ≤ 400
    omega
  cases K with
  | range p =>
    obtain ⟨a, b⟩ := v p hK
    have := rt_sm a b
    simp only [lawV]
    omega
  | clocked p =>
    obtain ⟨a, b⟩ := v p hK
    have := rt_sm a b
    simp only [lawV]
    omega
  | differ p q =>
    obtain ⟨a, b⟩ := v p hK.1
    have := rt_sm a b
    obtain ⟨a, b⟩ := v q hK.2
    have := rt_sm a b
    simp only [lawV]
    omega
  | side p =>
    have := sg_bd (n := n) (f := fun i => p i * y i) (B := 9000) fun i hi => by
      have a := hK i hi
      have b := hy i hi
      have e : 0 ≤ (30 - p i) * (300 - y i) := Int.mul_nonneg (by omega) (by omega)
      have e1 : 0 ≤ (30 - p i) * (300 + y i) := Int.mul_nonneg (by omega) (by omega)
      have e2 : 0 ≤ (30 + p i) * (300 - y i) := Int.mul_nonneg (by omega) (by omega)
      have e3 : 0 ≤ (30 + p i) * (300 + y i) := Int.mul_nonneg (by omega) (by omega)
      have f : (30 - p i) * (300 - y i) = 9000 - 300 * p i - 30 * y i + p i * y i := by grind
      have f1 : (30 - p i) * (300 + y i) = 9000 - 300 * p i + 30 * y i - p i * y i := by grind
      have f2 : (30 + p i) * (300 - y i) = 9000 + 300 * p i - 30 * y i - p i * y i := by grind
      have f3 : (30 + p i) * (300 + y i) = 9000 + 300 * p i + 30 * y i + p i * y i := by grind
      show -9000 ≤ p i * y i ∧ p i * y i ≤ 9000
      omega
    simp only [lawV]
    unfold dt
    omega
  | piece a t =>
    have d1 := v a hK.1
    have d2 := v t hK.2
    have d3 : 0 ≤ dt n (sub t a) (sub t a) ∧ dt n (sub t a) (sub t a) ≤ 480000 := dt_sm hn fun i hi => by
      have := hK.1 i hi
      have := hK.2 i hi
      show -400 ≤ t i - a i ∧ t i - a i ≤ 400
      omega
    have W := pc1_pos n y a t
    have P : 0 ≤ (pc1 n y a t).1 ∧ (pc1 n y a t).1 ≤ 230400000000 := by
      refine ⟨?_, ?_⟩
      · have wp : ∀ {f : Nat → Int}, (∀ i < n, -300 ≤ f i ∧ f i ≤ 300) → WP n f := fun {f} h i hi => Lib.W.of (by have := h i hi; omega)
        have wa : WP n a := wp fun i hi => by have := hK.1 i hi; omega
        have wt : WP n t := wp fun i hi => by have := hK.2 i hi; omega
        exact (pc1_w (by omega) (sub_w (wp hy) wa) (sub_w wt wa) (sub_w (wp hy) wt)).1
      · unfold pc1
        unfold vq at d1 d2
        split
        · simp only; omega
        · split
          · simp only; omega
          · simp only
            have m := Int.mul_le_mul d1.2 d3.2 d3.1 (by omega)
            have q := sq_nn (dt n (sub y a) (sub t a))
            omega
    have lo : 0 ≤ (pc2 n y a t).1 ∧ (pc2 n y a t).1 ≤ 230400000000 := by
      unfold pc2
      simp only
      generalize (pc1 n y a t).1 = X at *
      generalize (pc1 n y a t).2 = Y at *
      have := Int.ediv_le_self Y P.1
      have := Int.ediv_nonneg P.1 (show 0 ≤ Y by omega)
      omega
    have hi : (pc2 n y a t).2 ≤ 230400000000 := by
      unfold pc2
      simp only
      generalize (pc1 n y a t).1 = X at *
      generalize (pc1 n y a t).2 = Y at *
      have q : -X ≤ -X / Y := Int.le_ediv_of_mul_le W (by
        have := Int.mul_le_mul_of_nonneg_left (show 1 ≤ Y by omega) P.1
        have e : -X * Y = -(X * Y) := Int.neg_mul _ _
        omega)
      omega
    have le := pc2_le (n := n) (w := y) (a := a) (t := t)
    have r1 := rt_sm lo.1 lo.2
    have r2 := rt_sm (x := (pc2 n y a t).2) (B := 230400000000) (by omega) hi
    simp only [lawV]
    omega
  | boxes bs =>
    obtain ⟨o, m, e⟩ := min_ex (f := nearQ n y) hK.1
    have h := fun i hi => ((hK.2.2 o m).2 i hi)
    have n1 : nearQ n y o ≤ dt n (sub (fun i => (sd o i).1) y) (sub (fun i => (sd o i).1) y) := near_pl fun i hi => by
      have := h i hi
      omega
    have n2 := (dt_sm hn (p := sub (fun i => (sd o i).1) y) fun i hi => by
      have := h i hi
      have := hy i hi
      show -400 ≤ (sd o i).1 - y i ∧ (sd o i).1 - y i ≤ 400
      omega).2
    have n0 : 0 ≤ nearQ n y o := sg_nn fun i _ => sq_nn _
    have := rt_sm (x := nearQ n y o) (B := 480000) n0 (by omega)
    simp only [lawV]
    rw [e]
    omega
section
variable {n : Nat}
theorem F_lpiece (hn : n ≤ 10) {x a t : Nat → Int} (h1 : Sz 501 n (sub x a)) (h2 : Sz 501 n (sub t a)) (wx : WP n x) (wa : WP n a) (wt : WP n t) (h : HP) :
    F__law_piece [lvec n x, vec n a, vec n t] h = .ok (.tup [.int (pc2 n x a t).1, .int (pc2 n x a t).2]) h := by
  have pr : ∀ y z : Int, pure_ h (.tup [.int y, .int z]) h = .ok (.tup [.int y, .int z]) h := fun y z => pure_clean h (clean_tup (by simp [clean_int]))
  have rg : Rg (n : Int) := rg_nat (by omega)
  have sq1 : ∀ h, F__law_square [lvec n x, vec n a] h = .ok (.int (dt n (sub x a) (sub x a))) h := fun h => F_law_squareW hn (.inr rfl) (.inl rfl) wx wa h
  have sq2 : ∀ h, F__law_square [lvec n x, vec n t] h = .ok (.int (dt n (sub x t) (sub x t))) h := fun h => F_law_squareW hn (.inr rfl) (.inl rfl) wx wt h
  have lv : ∀ f : Nat → Int, ((List.range n).map fun i => D.int (f i)).length ≤ sizeLine := fun f => by rw [sizeLine_eq]; simp; omega
  have l1 : ∀ z3 z4 z5 z6 z7 z9, C__law_piece_1 false [some (lvec n x), some (vec n a), some (vec n t), z3, z4, z5, z6, z7, none, z9] h = .ok (lvec n (sub t a)) h := fun z3 z4 z5 z6 z7 z9 =>
    mLc_ty (h1 := h) (List.range n) (fun i => .int (i : Nat)) (fun i => .int (sub t a i)) (by have := lv a; unfold vec; simp [this, rg, rngD_eq]) (by simp; omega)
      (fun i hi h' => ⟨[some (lvec n x), some (vec n a), some (vec n t), z3, z4, z5, z6, z7, some (.int (i : Nat)), z9], by simp, by
        have hi' := List.mem_range.mp hi
        have a1 := at_vec (p := t) hi'
        have a2 := at_vec (p := a) hi'
        unfold vec
        simp [a1, a2, sub]⟩) fun i _ => clean_int _
  have l2 : ∀ z3 z4 z5 z6 z7 z9, C__law_piece_2 false [some (lvec n x), some (vec n a), some (vec n t), z3, z4, z5, z6, z7, none, z9] h = .ok (lvec n (sub x a)) h := fun z3 z4 z5 z6 z7 z9 =>
    mLc_ty (h1 := h) (List.range n) (fun i => .int (i : Nat)) (fun i => .int (sub x a i)) (by have := lv a; unfold vec; simp [this, rg, rngD_eq]) (by simp; omega)
      (fun i hi h' => ⟨[some (lvec n x), some (vec n a), some (vec n t), z3, z4, z5, z6, z7, some (.int (i : Nat)), z9], by simp, by
        have hi' := List.mem_range.mp hi
        have a1 := at_vec (p := x) hi'
        have a2 := at_vec (p := a) hi'
        unfold vec lvec
        simp [a1, a2, sub]⟩) fun i _ => clean_int _
  have l3 : ∀ z0 z1 z2 z4 z5 z6 z7 z8, C__law_piece_3 false [z0, z1, z2, some (lvec n (sub t a)), z4, z5, z6, z7, z8, none] h = .ok (.lst ((List.range n).map fun i => .int (sub t a i * sub t a i))) h := fun z0 z1 z2 z4 z5 z6 z7 z8 =>
    mLc_ty (h1 := h) (List.range n) (fun i => .int (sub t a i)) (fun i => .int (sub t a i * sub t a i)) (by simp [lvec]) (by simp; omega)
      (fun i hi h' => ⟨[z0, z1, z2, some (lvec n (sub t a)), z4, z5, z6, z7, z8, some (.int (sub t a i))], by simp, by
        have m : CMulE (sub t a i) (sub t a i) := mulX 501 501 (h2 i (List.mem_range.mp hi)) (h2 i (List.mem_range.mp hi)) (by decide)
        simp [m]⟩) fun i _ => clean_int _
  have l5 : ∀ z0 z1 z2 z3 z5 z6 z7 z8, C__law_piece_5 false [z0, z1, z2, z3, some (lvec n (sub x a)), z5, z6, z7, z8, none] h = .ok (.lst ((List.range n).map fun i => .int (sub x a i * sub x a i))) h := fun z0 z1 z2 z3 z5 z6 z7 z8 =>
    mLc_ty (h1 := h) (List.range n) (fun i => .int (sub x a i)) (fun i => .int (sub x a i * sub x a i)) (by simp [lvec]) (by simp; omega)
      (fun i hi h' => ⟨[z0, z1, z2, z3, some (lvec n (sub x a)), z5, z6, z7, z8, some (.int (sub x a i))], by simp, by
        have m : CMulE (sub x a i) (sub x a i) := mulX 501 501 (h1 i (List.mem_range.mp hi)) (h1 i (List.mem_range.mp hi)) (by decide)
        simp [m]⟩) fun i _ => clean_int _
  have l4 : ∀ z5 z6 z7 z9, C__law_piece_4 false [some (lvec n x), some (vec n a), some (vec n t), some (lvec n (sub t a)), some (lvec n (sub x a)), z5, z6, z7, none, z9] h = .ok (.lst ((List.range n).map fun i => .int (sub x a i * sub t a i))) h := fun z5 z6 z7 z9 =>
    mLc_ty (h1 := h) (List.range n) (fun i => .int (i : Nat)) (fun i => .int (sub x a i * sub t a i)) (by have := lv a; unfold vec; simp [this, rg, rngD_eq]) (by simp; omega)
      (fun i hi h' => ⟨[some (lvec n x), some (vec n a), some (vec n t), some (lvec n (sub t a)), some (lvec n (sub x a)), z5, z6, z7, some (.int (i : Nat)), z9], by simp, by
        have hi' := List.mem_range.mp hi
        have a1 := at_vec (p := sub x a) hi'
        have a2 := at_vec (p := sub t a) hi'
        have m : CMulE (sub x a i) (sub t a i) := mulX 501 501 (h1 i hi') (h2 i hi') (by decide)
        unfold lvec
        simp [a1, a2, m]⟩) fun i _ => clean_int _
  have k3 := ints_vec n fun i => sub t a i * sub t a i
  have k4 := ints_vec n fun i => sub x a i * sub t a i
  have k5 := ints_vec n fun i => sub x a i * sub x a i
  have e3 : ((List.range n).map fun i => sub t a i * sub t a i).sum = dt n (sub t a) (sub t a) := rfl
  have e4 : ((List.range n).map fun i => sub x a i * sub t a i).sum = dt n (sub x a) (sub t a) := rfl
  have e5 : ((List.range n).map fun i => sub x a i * sub x a i).sum = dt n (sub x a) (sub x a) := rfl
  have b2 := dt_w hn h2 h2
  have m1 : CMulE (dt n (sub x a) (sub x a)) (dt n (sub t a) (sub t a)) := mulX 1100 1100 (dt_w hn h1 h1) b2 (by decide)
  have m2 : CMulE (dt n (sub x a) (sub t a)) (dt n (sub x a) (sub t a)) := mulX 1100 1100 (dt_w hn h1 h2) (dt_w hn h1 h2) (by decide)
  have lgb : Nat.log2 (dt n (sub t a) (sub t a)).natAbs < 9000 := by
    have : sz (dt n (sub t a) (sub t a)) ≤ 1100 := b2
    unfold sz at this
    omega
  unfold pc2 pc1
  clear rg lv
  generalize lvec n (sub t a) = v1 at *
  generalize lvec n (sub x a) = v2 at *
  generalize lvec n x = v3 at *
  generalize vec n a = v4 at *
  generalize vec n t = v5 at *
  generalize ((List.range n).map fun i => D.int (sub t a i * sub t a i)) = w1 at *
  generalize ((List.range n).map fun i => D.int (sub x a i * sub t a i)) = w2 at *
  generalize ((List.range n).map fun i => D.int (sub x a i * sub x a i)) = w3 at *
  generalize ((List.range n).map fun i => sub t a i * sub t a i) = u1 at *
  generalize ((List.range n).map fun i => sub x a i * sub t a i) = u2 at *
  generalize ((List.range n).map fun i => sub x a i * sub x a i) = u3 at *
  generalize dt n (sub x a) (sub x a) = H at *
  generalize dt n (sub x a) (sub t a) = L at *
  generalize dt n (sub t a) (sub t a) = V at *
  generalize dt n (sub x t) (sub x t) = G at *
  by_cases c1 : L ≤ 0
  · simp [F__law_piece, l1, l2, l3, l4, k3, k4, e3, e4, c1, sq1, pr]
  · by_cases c2 : V ≤ L
    · simp [F__law_piece, l1, l2, l3, l4, k3, k4, e3, e4, c1, c2, sq2, pr]
    · have c3 : 0 < V := by omega
      have z0 : ∀ q : Int, 0 - q = -q := fun q => by omega
      simp [F__law_piece, l1, l2, l3, l4, l5, k3, k4, k5, e3, e4, e5, c1, c2, m1, m2, c3, lgb, pr]
end
end LibW
namespace LibW
open PySem PySem.Spec PyProof.Rows L2 Ev Lib
section
variable {n : Nat}
theorem lb_inner {b : List (Int × Int)} {p : Nat → Int} (lb : b.length = n) (hp : WP n p) (hs : ∀ s ∈ b, WS s) (z1 z2 z4 z5 z6 : Option D) (h : HP) :
    ∃ y5 y6, forE (gNm 5) B__law_boxes_1 [] (rngD 0 n) [some (lvec n p), z1, z2, some (boxD b), some (.int 0), z5, z6] h = .nx [some (lvec n p), z1, z2, some (boxD b), some (.int (nearQ n p b)), y5, y6] h := by
  obtain ⟨_, h1, e, ⟨x5, x6, rfl⟩, rfl⟩ := for_rng (asg := gNm 5) (body := B__law_boxes_1) (n := n)
    (fun i env h' => (∃ x5 x6, env = [some (lvec n p), z1, z2, some (boxD b), some (.int (sg i fun i => nearS p b i * nearS p b i)), x5, x6]) ∧ h' = h)
    (fun i env h' hi hI => by
      obtain ⟨⟨x5, x6, rfl⟩, rfl⟩ := hI
      obtain ⟨y6, e⟩ := fb_turn hi (.inr rfl) lb hp hs (sg i fun i => nearS p b i * nearS p b i) z1 z2 x6 h'
      rw [← sg_succ i fun i => nearS p b i * nearS p b i] at e
      exact ⟨_, rfl, _, _, .inl e, ⟨_, _, rfl⟩, rfl⟩)
    (env := [some (lvec n p), z1, z2, some (boxD b), some (.int 0), z5, z6]) (h := h) ⟨⟨z5, z6, by simp [sg_zero]⟩, rfl⟩
  exact ⟨x5, x6, e⟩
/-- the least of what was seen, -1 before -/
def bestV (f : List (Int × Int) → Int) (bs : List (List (Int × Int))) : Int := match bs with
  | [] => -1
  | _ => minL (bs.map f)
theorem minL_snoc (x : Int) (xs : List Int) (y : Int) : minL ((x :: xs) ++ [y]) = if y < minL (x :: xs) then y else minL (x :: xs) := by
  have h1 := minL_mem (ns := (x :: xs) ++ [y]) (by simp)
  have h2 := minL_mem (ns := x :: xs) (by simp)
  have a := h1.2 y (by simp)
  have b := h1.2 _ (List.mem_append_left _ h2.1)
  have c := h1.1
  rcases List.mem_append.mp c with c | c
  · have := h2.2 _ c
    split <;> omega
  · rw [List.mem_singleton] at c
    split <;> omega
theorem F_lboxes (hn : n ≤ 10) {p : Nat → Int} (hp : WP n p) {bs : List (List (Int × Int))} (l0 : 0 < bs.length) (l1 : bs.length ≤ 1000) (hbs : ∀ b ∈ bs, b.length = n ∧ ∀ s ∈ b, WS s) (h : HP) :
    F__law_boxes [lvec n p, boxesD bs] h = .ok (.int (minL (bs.map (nearQ n p)))) h := by
  have rg : Rg (n : Int) := rg_nat (by omega)
  have nn : ∀ b, 0 ≤ nearQ n p b := fun b => sg_nn fun i _ => sq_nn _
  obtain ⟨_, h1, e, ⟨y3, y4, y5, y6, rfl⟩, rfl⟩ := for_ty (asg := gNm 3) (body := B__law_boxes_2) (gd := [])
    (fun i env h' => (∃ y3 y4 y5 y6, env = [some (lvec n p), some (boxesD bs), some (.int (bestV (nearQ n p) (bs.take i))), y3, y4, y5, y6]) ∧ h' = h) bs boxD
    (fun i env h' hI => by simp [Gd])
    (fun i env h' hi hI => by
      obtain ⟨⟨y3, y4, y5, y6, rfl⟩, rfl⟩ := hI
      obtain ⟨lb, hs⟩ := hbs _ (List.getElem_mem hi)
      refine ⟨[some (lvec n p), some (boxesD bs), some (.int (bestV (nearQ n p) (bs.take i))), some (boxD bs[i]), y4, y5, y6], by simp, ?_⟩
      obtain ⟨w5, w6, e⟩ := lb_inner lb hp hs (some (boxesD bs)) (some (.int (bestV (nearQ n p) (bs.take i)))) y4 y5 y6 h'
      have q := nn bs[i]
      have tk : bs.take (i + 1) = bs.take i ++ [bs[i]] := by rw [List.take_append_getElem hi]
      have nx : bestV (nearQ n p) (bs.take (i + 1)) = if bestV (nearQ n p) (bs.take i) < 0 ∨ nearQ n p bs[i] < bestV (nearQ n p) (bs.take i) then nearQ n p bs[i] else bestV (nearQ n p) (bs.take i) := by
        rw [tk]
        cases ht : bs.take i with
        | nil => simp [bestV, minL]
        | cons c cs =>
          have m0 : 0 ≤ minL ((c :: cs).map (nearQ n p)) := by
            obtain ⟨o, _, e⟩ := min_ex (f := nearQ n p) (xs := c :: cs) (by simp)
            rw [e]; exact nn o
          have ms := minL_snoc (nearQ n p c) (cs.map (nearQ n p)) (nearQ n p bs[i])
          have e1 : bestV (nearQ n p) ((c :: cs) ++ [bs[i]]) = minL ((nearQ n p c :: cs.map (nearQ n p)) ++ [nearQ n p bs[i]]) := by simp [bestV]
          have e2 : bestV (nearQ n p) (c :: cs) = minL (nearQ n p c :: cs.map (nearQ n p)) := by simp [bestV]
          have m1 : 0 ≤ minL (nearQ n p c :: cs.map (nearQ n p)) := m0
          rw [e1, e2, ms]
          generalize minL (nearQ n p c :: cs.map (nearQ n p)) = M at *
          by_cases c1 : nearQ n p bs[i] < M
          · rw [if_pos c1, if_pos (.inr c1)]
          · rw [if_neg c1, if_neg (by omega)]
      rw [nx]
      generalize bestV (nearQ n p) (bs.take i) = V at *
      generalize nearQ n p bs[i] = N at *
      have ll : ((List.range n).map fun i => D.int (p i)).length ≤ sizeLine := by rw [sizeLine_eq]; simp; omega
      have lz : ((List.range n).map fun i => D.int (p i)).length = n := by simp
      have ln : n ≤ sizeLine := by rw [sizeLine_eq]; omega
      refine ⟨[some (lvec n p), some (boxesD bs), some (.int (if V < 0 ∨ N < V then N else V)), some (boxD bs[i]), some (.int N), w5, w6], h', .inl ?_, ⟨_, _, _, _, rfl⟩, rfl⟩
      unfold B__law_boxes_2
      unfold lvec at *
      generalize boxD bs[i] = bx at *
      generalize boxesD bs = bb at *
      generalize ((List.range n).map fun i => D.int (p i)) = ps at *
      by_cases c1 : V < 0
      · simp [lz, ln, rg, e, c1]
      · by_cases c2 : N < V
        · simp [lz, ln, rg, e, c1, c2]
        · simp [lz, ln, rg, e, c1, c2])
    (env := [some (lvec n p), some (boxesD bs), some (.int (-1)), none, none, none, none]) (h := h) ⟨⟨none, none, none, none, by simp [bestV]⟩, rfl⟩
  have be : bestV (nearQ n p) (bs.take bs.length) = minL (bs.map (nearQ n p)) := by
    rw [List.take_length]
    cases bs with
    | nil => simp at l0
    | cons c cs => rfl
  rw [be] at e
  have pr := pure_clean h1 (clean_int (minL (bs.map (nearQ n p))))
  have lz : (bs.map boxD).length ≤ sizeLine := by rw [sizeLine_eq]; simp; omega
  unfold boxesD at *
  generalize minL (bs.map (nearQ n p)) = M at *
  generalize bs.map boxD = xs at *
  generalize lvec n p = ps at *
  simp [F__law_boxes, e, pr]
theorem F_lvalue (hn : n ≤ 3) {K : Kd} (hK : KdB n K) {y : Nat → Int} (hy : ∀ i < n, -300 ≤ y i ∧ y i ≤ 300) {c : Int} (hc : -1000 ≤ c ∧ c ≤ 1000) (h : HP) :
    F__law_value [kdD n K, lvec n y, .int c] h = .ok (.tup [.int (lawV n K y c).1, .int (lawV n K y c).2]) h := by
  have pr : ∀ u v : Int, pure_ h (.tup [.int u, .int v]) h = .ok (.tup [.int u, .int v]) h := fun u v => pure_clean h (clean_tup (by simp [clean_int]))
  have n10 : n ≤ 10 := by omega
  have hV := hK.v
  have wy : WP n y := fun i hi => Lib.W.of (by have := hy i hi; omega)
  have sqx : ∀ {p}, VP n p → ∀ h, F__law_square [lvec n y, vec n p] h = .ok (.int (vq n y p)) h := fun {p} hp h => F_law_squareW n10 (.inr rfl) (.inl rfl) wy hp.w h
  have dx : ∀ {p : Nat → Int}, (∀ i < n, -30 ≤ p i ∧ p i ≤ 30) → 0 ≤ vq n y p ∧ vq n y p ≤ 480000 := fun {p} hp => v_sm hn hy p hp
  have rdx : ∀ {p : Nat → Int}, (∀ i < n, -30 ≤ p i ∧ p i ≤ 30) → ∀ h, F__law_root [.int (vq n y p)] h = .ok (.int (rd (vq n y p))) h := fun {p} hp h => F_lroot (dx hp).1 (by have := (dx hp).2; omega) h
  have rux : ∀ {p : Nat → Int}, (∀ i < n, -30 ≤ p i ∧ p i ≤ 30) → ∀ h, F__law_up [.int (vq n y p)] h = .ok (.int (ru (vq n y p))) h := fun {p} hp h => F_lup (dx hp).1 (by have := (dx hp).2; omega) h
  have m0 : CMulE c 0 := mul64 (by omega) (by decide)
  have m1 : CMulE c 1 := mul64 (by omega) (by decide)
  cases K with
  | range p =>
    have e1 := sqx (p := p) hV
    have e2 := rdx (p := p) hK
    have e3 := rux (p := p) hK
    simp only [kdD, lawV]
    simp [F__law_value, e1, e2, e3, m0, pr]
  | clocked p =>
    have e1 := sqx (p := p) hV
    have e2 := rdx (p := p) hK
    have e3 := rux (p := p) hK
    simp only [kdD, lawV]
    simp [F__law_value, e1, e2, e3, m1, pr]
  | differ p q =>
    have e1 := sqx (p := p) hV.1
    have e2 := rdx (p := p) hK.1
    have e3 := rux (p := p) hK.1
    have e4 := sqx (p := q) hV.2
    have e5 := rdx (p := q) hK.2
    have e6 := rux (p := q) hK.2
    simp only [kdD, lawV]
    simp [F__law_value, e1, e2, e3, e4, e5, e6, pr]
  | side p =>
    have rg : Rg (n : Int) := rg_nat (by omega)
    have lc : ∀ z2 z3 z4 z5 z6 z7 z8, C__law_value_1 false [some (.tup [.str "side", vec n p]), some (lvec n y), z2, z3, z4, z5, z6, z7, z8, none] h = .ok (.lst ((List.range n).map fun i => .int (p i * y i))) h := fun z2 z3 z4 z5 z6 z7 z8 =>
      mLc_ty (h1 := h) (List.range n) (fun i => .int (i : Nat)) (fun i => .int (p i * y i)) (by
          have : ((List.range n).map fun i => D.int (y i)).length ≤ sizeLine := by rw [sizeLine_eq]; simp; omega
          unfold lvec; simp [this, rg, rngD_eq]) (by simp; omega)
        (fun i hi h' => ⟨[some (.tup [.str "side", vec n p]), some (lvec n y), z2, z3, z4, z5, z6, z7, z8, some (.int (i : Nat))], by simp, by
          have hi' := List.mem_range.mp hi
          have a1 := at_vec (p := p) hi'
          have a2 := at_vec (p := y) hi'
          have b := hK i hi'
          have b2 := hy i hi'
          have m : CMulE (p i) (y i) := mul64 (by omega) (by omega)
          have w1 : atI [D.str "side", vec n p] 1 = some (vec n p) := rfl
          unfold vec lvec at *
          simp [w1, a1, a2, m]⟩) fun i _ => clean_int _
    have k := ints_vec n fun i => p i * y i
    have es : ((List.range n).map fun i => p i * y i).sum = dt n p y := rfl
    simp only [kdD, lawV]
    generalize ((List.range n).map fun i => D.int (p i * y i)) = w1 at *
    generalize ((List.range n).map fun i => p i * y i) = w2 at *
    generalize lvec n y = yy at *
    generalize vec n p = pp at *
    simp [F__law_value, lc, k, es, pr]
  | piece a t =>
    have u1 := sub_w wy hV.1.w
    have u2 := sub_w hV.2.w hV.1.w
    have fp := fun h => F_lpiece (x := y) (a := a) (t := t) n10 u1 u2 wy hV.1.w hV.2.w h
    obtain ⟨⟨w1, w2⟩, w3, w4⟩ := pc_sm (y := y) (a := a) (t := t) hn hy hK
    have r1 := fun h => F_lroot w1 (by omega) h
    have r2 := fun h => F_lup w3 (by omega) h
    simp only [kdD, lawV]
    generalize (pc2 n y a t).1 = A at *
    generalize (pc2 n y a t).2 = B at *
    generalize lvec n y = yy at *
    generalize vec n a = va at *
    generalize vec n t = vt at *
    simp [F__law_value, fp, r1, r2, pr]
  | boxes bs =>
    obtain ⟨l0, l1, ho⟩ := hV
    have ow : ∀ o ∈ bs, o.length = n ∧ ∀ s ∈ o, WS s := fun o h => ⟨(ho o h).1, fun s hs => ((ho o h).2 s hs).w⟩
    have e := fun h => F_lboxes n10 (p := y) wy l0 l1 ow h
    obtain ⟨o, m, em⟩ := min_ex (f := nearQ n y) l0
    have nb := near_sm hn hy (o := o) (fun i hi => by have := (hK.2.2 o m).2 i hi; omega)
    rw [← em] at nb
    have e2 := fun h => F_lroot nb.1 (by omega) h
    have e3 := fun h => F_lup nb.1 (by omega) h
    simp only [kdD, lawV]
    simp [F__law_value, e, e2, e3, pr]
end
end LibW
namespace LibW
open PySem PySem.Spec PyProof.Rows L2 Ev Lib
def adP (s p : Nat → Int) : Nat → Int := fun i => p i + s i
def adB (n : Nat) (s : Nat → Int) (o : List (Int × Int)) : List (Int × Int) := (List.range n).map fun i => ((sd o i).1 + s i, (sd o i).2 + s i)
def adK (n : Nat) (s : Nat → Int) : Kd → Kd
  | .range p => .range (adP s p)
  | .clocked p => .clocked (adP s p)
  | .differ p q => .differ (adP s p) (adP s q)
  | .piece p q => .piece (adP s p) (adP s q)
  | .side p => .side p
  | .boxes bs => .boxes (bs.map (adB n s))
theorem sd_ad {n : Nat} {s : Nat → Int} {o : List (Int × Int)} {i : Nat} (hi : i < n) : sd (adB n s o) i = ((sd o i).1 + s i, (sd o i).2 + s i) := by
  unfold adB
  rw [sd, List.getD_eq_getElem?_getD, List.getElem?_map, List.getElem?_range hi]
  rfl
theorem adB_len (n : Nat) (s : Nat → Int) (o : List (Int × Int)) : (adB n s o).length = n := by simp [adB]
section
variable {n : Nat}
/-- a list of numbers, frozen or live -/
def VLv (h : HP) (sv : D) (n : Nat) (s : Nat → Int) : Prop := sv = lvec n s ∨ ∃ m, sv = .ref m ∧ h[m]? = some (.lst ((List.range n).map fun i => D.int (s i)))
theorem VLv.app {h : HP} {sv : D} {s : Nat → Int} (k : VLv h sv n s) (x : HP) : VLv (h ++ x) sv n s := by
  rcases k with k | ⟨m, k, e⟩
  · exact .inl k
  · exact .inr ⟨m, k, by rw [List.getElem?_append_left (List.getElem?_eq_some_iff.mp e).1]; exact e⟩
theorem VLv.at {h : HP} {sv : D} {s : Nat → Int} (k : VLv h sv n s) {i : Nat} (hi : i < n) : fIx sv (.int (i : Int)) h = .ok (.int (s i)) h := by
  have a := at_vec (p := s) hi
  rcases k with rfl | ⟨m, rfl, e⟩
  · unfold lvec
    generalize ((List.range n).map fun i => D.int (s i)) = xs at *
    simp [a]
  · generalize ((List.range n).map fun i => D.int (s i)) = xs at *
    simp [e, a]
theorem mv_box (hn : n ≤ 10) {s : Nat → Int} {o : List (Int × Int)} (lo : o.length = n) (z0 z2 z4 z6 : Option D) (sv : D) (h : HP) (k : VLv h sv n s) :
    C__law_moved_1 false [z0, some sv, z2, some (boxD o), z4, none, z6] h = .ok (.lst ((adB n s o).map sideD)) h := by
  have rg : Rg (n : Int) := rg_nat (by omega)
  have e : (adB n s o).map sideD = (List.range n).map fun i => sideD ((sd o i).1 + s i, (sd o i).2 + s i) := by unfold adB; rw [List.map_map]; rfl
  rw [e]
  have lz : (o.map sideD).length ≤ sizeLine := by rw [sizeLine_eq]; simp; omega
  have lq : (o.map sideD).length = n := by simp [lo]
  exact mLc_tyNW (h1 := h) (gd := []) (List.range n) (fun i => .int (i : Nat)) (fun i => sideD ((sd o i).1 + s i, (sd o i).2 + s i)) (by
      unfold boxD
      generalize o.map sideD = os at *
      simp [lz, lq, rg, rngD_eq]) (fun x => by simp [Gd]) (by simp; omega)
    (fun i hi y => ⟨[z0, some sv, z2, some (boxD o), z4, some (.int (i : Nat)), z6], by simp, by
      have hi' := List.mem_range.mp hi
      have a1 := at_box (b := o) (i := i) (by omega)
      rw [← sd_get (by omega)] at a1
      have a3 := at_vec (p := s) hi'
      unfold boxD
      generalize sd o i = q at *
      generalize o.map sideD = os at *
      rcases k.app y with rfl | ⟨m, rfl, e⟩
      · unfold lvec
        generalize ((List.range n).map fun i => D.int (s i)) = xs at *
        simp [a1, sideD, a3]
      · generalize ((List.range n).map fun i => D.int (s i)) = xs at *
        simp [a1, sideD, a3, e]⟩) fun i _ => clean_side _
theorem mv_pt (hn : n ≤ 10) {s p : Nat → Int} (z0 z2 z3 z4 : Option D) (sv : D) (h : HP) (k : VLv h sv n s) :
    C__law_moved_2 false [z0, some sv, z2, z3, z4, none, some (vec n p)] h = .ok (.lst ((List.range n).map fun i => .int (adP s p i))) h := by
  have rg : Rg (n : Int) := rg_nat (by omega)
  have lz : ((List.range n).map fun i => D.int (p i)).length ≤ sizeLine := by rw [sizeLine_eq]; simp; omega
  have lq : ((List.range n).map fun i => D.int (p i)).length = n := by simp
  exact mLc_tyNW (h1 := h) (gd := []) (List.range n) (fun i => .int (i : Nat)) (fun i => .int (adP s p i)) (by
      unfold vec
      generalize ((List.range n).map fun i => D.int (p i)) = ps at *
      simp [lz, lq, rg, rngD_eq]) (fun x => by simp [Gd]) (by simp; omega)
    (fun i hi y => ⟨[z0, some sv, z2, z3, z4, some (.int (i : Nat)), some (vec n p)], by simp, by
      have hi' := List.mem_range.mp hi
      have a1 := at_vec (p := p) hi'
      have a3 := at_vec (p := s) hi'
      unfold vec
      generalize ((List.range n).map fun i => D.int (p i)) = ps at *
      rcases k.app y with rfl | ⟨m, rfl, e⟩
      · unfold lvec
        generalize ((List.range n).map fun i => D.int (s i)) = xs at *
        simp [a1, a3, adP]
      · generalize ((List.range n).map fun i => D.int (s i)) = xs at *
        simp [a1, a3, e, adP]⟩) fun i _ => clean_int _
theorem mv_pts (hn : n ≤ 10) {s : Nat → Int} {nm : Str} (ps : List (Nat → Int)) (hp : ps.length ≤ 10) (z2 z3 : Option D) (sv : D) (h : HP) (k : VLv h sv n s) :
    C__law_moved_3 false [some (.tup (.str nm :: ps.map (vec n))), some sv, z2, z3, none, none, none] h = .ok (.lst ((ps.map (adP s)).map (vec n))) h := by
  have lz : (D.str nm :: ps.map (vec n)).length ≤ sizeLine := by rw [sizeLine_eq]; simp; omega
  have cu : Ev.cutD (D.str nm :: ps.map (vec n)) (some 1) none = ps.map (vec n) := cut_from (i := 1) (by simp)
  rw [List.map_map]
  exact mLc_tyNW (h1 := h) (gd := []) ps (vec n) (fun p => vec n (adP s p)) (by
      generalize ps.map (vec n) = us at *
      simp only [List.length_cons] at lz
      simp [lz, cu]) (fun x => by simp [Gd]) (by omega)
    (fun p hp y => ⟨[some (.tup (.str nm :: ps.map (vec n))), some sv, z2, z3, none, none, some (vec n p)], by simp, by
      have e := mv_pt hn (p := p) (some (.tup (.str nm :: ps.map (vec n)))) z2 z3 none sv (h ++ y) (k.app y)
      have l1 : ((List.range n).map fun i => D.int (adP s p i)).length ≤ sizeLine := by rw [sizeLine_eq]; simp; omega
      have l2 : ((List.range n).map fun i => D.int (adP s p i)).length ≤ 16000000 := by simp; omega
      have ev : vec n (adP s p) = .tup ((List.range n).map fun i => D.int (adP s p i)) := rfl
      rw [ev]
      generalize ((List.range n).map fun i => D.int (adP s p i)) = qs at *
      generalize ps.map (vec n) = us at *
      generalize vec n p = vp at *
      simp [e, l1, l2]⟩) fun p _ => clean_vec _ _
theorem F_lmovedP (hn : n ≤ 10) {s : Nat → Int} {nm : Str} (cn : clean (.str nm)) (b1 : PyData.eqv (.str nm) (.str "side") = false) (b2 : PyData.eqv (.str nm) (.str "boxes") = false) (b3 : SeqAt.shaped (.str nm) = true) (ps : List (Nat → Int)) (hp : ps.length ≤ 10) {sv : D} {h : HP} (k : VLv h sv n s) :
    F__law_moved [.tup (.str nm :: ps.map (vec n)), sv] h = .ok (.tup (.str nm :: (ps.map (adP s)).map (vec n))) h := by
  have e := mv_pts hn (nm := nm) ps hp none none sv h k
  have a0 : ∀ (x : D) (xs : List D), atI (x :: xs) 0 = some x := fun x xs => by simp [atI, ixN]
  have cc : clean (.tup (.str nm :: (ps.map (adP s)).map (vec n))) := clean_tup fun d hd => by
    rcases List.mem_cons.mp hd with rfl | hd
    · exact cn
    · obtain ⟨x, _, rfl⟩ := List.mem_map.mp hd
      exact clean_vec _ _
  have pj := pure_clean h cc
  have lq2 : 1 + ((ps.map (adP s)).map (vec n)).length ≤ sizeLine := by rw [sizeLine_eq]; simp; omega
  have lq3 : ((ps.map (adP s)).map (vec n)).length + 1 ≤ sizeLine := by omega
  have lq4 : ((ps.map (adP s)).map (vec n)).length + 1 ≤ 16000000 := by simp; omega
  generalize (ps.map (adP s)).map (vec n) = qs at *
  generalize ps.map (vec n) = us at *
  simp [F__law_moved, a0, b1, b2, b3, e, lq2, lq3, lq4, pj]
theorem F_lmoved (hn : n ≤ 10) {s : Nat → Int} {K : Kd} (hb : match K with | .boxes bs => bs.length ≤ 1000 ∧ ∀ b ∈ bs, b.length = n | _ => True) {sv : D} {h : HP} (k : VLv h sv n s) :
    F__law_moved [kdD n K, sv] h = .ok (kdD n (adK n s K)) h := by
  cases K with
  | range p => exact F_lmovedP hn (clean_str _) (by decide +kernel) (by decide +kernel) (by decide +kernel) [p] (by simp) k
  | clocked p => exact F_lmovedP hn (clean_str _) (by decide +kernel) (by decide +kernel) (by decide +kernel) [p] (by simp) k
  | differ p q => exact F_lmovedP hn (clean_str _) (by decide +kernel) (by decide +kernel) (by decide +kernel) [p, q] (by simp) k
  | piece p q => exact F_lmovedP hn (clean_str _) (by decide +kernel) (by decide +kernel) (by decide +kernel) [p, q] (by simp) k
  | side p =>
    have pr := pure_clean h (clean_kd n (.side p))
    simp only [kdD, adK] at *
    simp [F__law_moved, pr]
  | boxes bs =>
    simp only at hb
    obtain ⟨l1, ho⟩ := hb
    obtain ⟨_, h1, e, ⟨x3, rfl⟩, rfl⟩ := for_ty (asg := gNm 3) (body := B__law_moved_1) (gd := [])
      (fun i env h' => (∃ x3, env = [some (.tup [.str "boxes", boxesD bs]), some sv, some (.ref h.length), x3, none, none, none]) ∧ h' = h ++ [.lst (((bs.take i).map (adB n s)).map boxD)]) bs boxD (fun _ _ _ _ => by simp)
      (fun i env h' hi hI => by
        obtain ⟨⟨x3, rfl⟩, rfl⟩ := hI
        have tk : bs.take (i + 1) = bs.take i ++ [bs[i]] := by rw [List.take_append_getElem hi]
        have e : ((bs.take (i + 1)).map (adB n s)).map boxD = ((bs.take i).map (adB n s)).map boxD ++ [boxD (adB n s bs[i])] := by rw [tk, List.map_append, List.map_append]; rfl
        rw [e]
        have lb := ho bs[i] (List.getElem_mem hi)
        have hl : (((bs.take i).map (adB n s)).map boxD).length ≤ 1000 := by simp; omega
        have mb := mv_box hn lb (some (.tup [.str "boxes", boxesD bs])) (some (.ref h.length)) none none sv (h ++ [.lst (((bs.take i).map (adB n s)).map boxD)]) (k.app _)
        have ap := fun y => appL_last (y := y) (ds := ((bs.take i).map (adB n s)).map boxD) h (by rw [sizeLine_eq]; omega)
        have l3 : ((adB n s bs[i]).map sideD).length ≤ sizeLine := by rw [sizeLine_eq]; simp [adB]; omega
        have l4 : ((adB n s bs[i]).map sideD).length ≤ 16000000 := by simp [adB]; omega
        refine ⟨[some (.tup [.str "boxes", boxesD bs]), some sv, some (.ref h.length), some (boxD bs[i]), none, none, none], by simp, [some (.tup [.str "boxes", boxesD bs]), some sv, some (.ref h.length), some (boxD bs[i]), none, none, none], _, .inl ?_, ⟨_, rfl⟩, rfl⟩
        have eb : boxD (adB n s bs[i]) = .tup ((adB n s bs[i]).map sideD) := rfl
        rw [eb]
        clear e tk
        generalize (adB n s bs[i]).map sideD = qs at *
        generalize boxD bs[i] = bx at *
        generalize ((bs.take i).map (adB n s)).map boxD = acc at *
        generalize boxesD bs = bb at *
        simp [mb, l3, l4, ap])
      (env := [some (.tup [.str "boxes", boxesD bs]), some sv, some (.ref h.length), none, none, none, none]) (h := h ++ [.lst []]) ⟨⟨none, rfl⟩, by simp⟩
    rw [List.take_length] at e
    have pj := fun x => pure_cleanJ h x (clean_kd n (.boxes (bs.map (adB n s))))
    have lq : ((bs.map (adB n s)).map boxD).length ≤ 16000000 := by simp; omega
    have lq2 : ((bs.map (adB n s)).map boxD).length ≤ sizeLine := by rw [sizeLine_eq]; simp; omega
    simp only [kdD, adK] at *
    unfold boxesD at *
    generalize (bs.map (adB n s)).map boxD = qs at *
    generalize bs.map boxD = us at *
    simp [F__law_moved, e, lq, lq2, pj]
end
end LibW
namespace LibW
open PySem PySem.Spec PyProof.Rows L2 Ev Lib
section
variable {n : Nat}
theorem lawV_leW (hn : n ≤ 10) {K : Kd} (hK : KdV n K) {y : Nat → Int} (wy : WP n y) (c : Int) : (lawV n K y c).1 ≤ (lawV n K y c).2 := by
  have v : ∀ p, rd (vq n y p) ≤ ru (vq n y p) := fun p => rd_le_ru (dt_self n _)
  cases K with
  | range p => exact v p
  | clocked p => have := v p; simp only [lawV]; omega
  | differ p q => have := v p; have := v q; simp only [lawV]; omega
  | side p => exact Int.le_refl _
  | piece a t =>
    obtain ⟨w1, w2, w3, w4⟩ := pc2_w (x := y) (a := a) (t := t) hn (sub_w wy hK.1.w) (sub_w hK.2.w hK.1.w) (sub_w wy hK.2.w)
    have := rd_mono w1 pc2_le
    have := rd_le_ru w3
    simp only [lawV]
    omega
  | boxes bs =>
    obtain ⟨o, m, e⟩ := min_ex (f := nearQ n y) hK.1
    refine rd_le_ru ?_
    rw [e]
    exact sg_nn fun i _ => sq_nn _
theorem KdS.h (h0 : 0 < n) (hn : n ≤ 10) {K : Kd} (k : KdS n K) : KdH n K := by
  have pt : ∀ {p : Nat → Int}, Sm20 p → ∀ i < n, In12 (p i) := fun {p} h i _ => by have := h i; unfold In12; omega
  cases K with
  | range p => exact pt k
  | clocked p => exact pt k
  | differ p q => exact ⟨pt k.1, pt k.2⟩
  | piece p q => exact ⟨pt k.1, pt k.2⟩
  | side p => exact ⟨fun i _ => by have := k.1 i; omega, k.2⟩
  | boxes bs =>
    refine ⟨k.1, by have := k.2.1; omega, fun b hb => ⟨by have := (k.2.2 b hb).1; omega, fun s hs => ?_⟩⟩
    have := (k.2.2 b hb).2 s hs
    unfold SideOk
    omega
/-- moved by one at most -/
theorem KdS.ad {K : Kd} (k : KdS n K) {s : Nat → Int} (hs : ∀ i, -1 ≤ s i ∧ s i ≤ 1) : KdB n (adK n s K) := by
  have pt : ∀ {p : Nat → Int}, Sm20 p → ∀ i < n, -30 ≤ adP s p i ∧ adP s p i ≤ 30 := fun {p} h i _ => by
    have := h i
    have := hs i
    show -30 ≤ p i + s i ∧ p i + s i ≤ 30
    omega
  cases K with
  | range p => exact pt k
  | clocked p => exact pt k
  | differ p q => exact ⟨pt k.1, pt k.2⟩
  | piece p q => exact ⟨pt k.1, pt k.2⟩
  | side p => exact fun i _ => by have := k.1 i; omega
  | boxes bs =>
    refine ⟨by simpa using k.1, by simp; have := k.2.1; omega, fun b hb => ?_⟩
    obtain ⟨o, ho, rfl⟩ := List.mem_map.mp hb
    refine ⟨adB_len n s o, fun i hi => ?_⟩
    obtain ⟨lo, q⟩ := k.2.2 o ho
    have q := q o[i] (List.getElem_mem (by omega))
    have := hs i
    rw [sd_ad hi]
    rw [sd_get (by omega)]
    simp only
    omega
/-- what an honest reading says: at a time near its moment, of points near its own -/
def ToldW (n : Nat) (W : WayV) (R : RdV) : Prop := ∃ (ax : Nat) (st T : Int), ax < n ∧ (-R.ne ≤ st ∧ st ≤ R.ne) ∧ (-R.la ≤ T - R.mo ∧ T - R.mo ≤ R.la) ∧
  R.lo ≤ (lawV n (adK n (fun i => if i = ax then st else 0) R.kd) (plW W T) (clW W T)).1 ∧ (lawV n (adK n (fun i => if i = ax then st else 0) R.kd) (plW W T) (clW W T)).2 ≤ R.hi
structure RdW (n : Nat) (W : WayV) (name : Str) (lies : Bool) (R : RdV) : Prop where
  ok : RdOk n R
  kd : KdS n R.kd
  src : R.src = name
  mo : -12 ≤ R.mo ∧ R.mo ≤ 12
  la : 0 ≤ R.la ∧ R.la ≤ 2
  ne : R.ne = 0 ∨ R.ne = 1
  told : lies = false → ToldW n W R
theorem pl_bd {S : SetV} {W : WayV} (o : WayOk S n W) {t : Int} (ht : -14 ≤ t ∧ t ≤ 14) : (∀ i < n, -300 ≤ plW W t i ∧ plW W t i ≤ 300) ∧ -1000 ≤ clW W t ∧ clW W t ≤ 1000 := by
  have tn := o.tn
  have mb : ∀ {a b : Int}, -4 ≤ a ∧ a ≤ 4 → -18 ≤ b ∧ b ≤ 18 → -72 ≤ a * b ∧ a * b ≤ 72 := fun {a b} h k => by
    rcases (show a = -4 ∨ a = -3 ∨ a = -2 ∨ a = -1 ∨ a = 0 ∨ a = 1 ∨ a = 2 ∨ a = 3 ∨ a = 4 by omega) with q | q | q | q | q | q | q | q | q <;> rw [q] <;> omega
  refine ⟨fun i hi => ?_, ?_⟩
  · have a := o.pl i hi
    have g : -4 ≤ goW W t i ∧ goW W t i ≤ 4 := by
      unfold goW
      split
      · exact o.f1 i hi
      · exact o.f2 i hi
    have := mb g (show -18 ≤ t - W.tn ∧ t - W.tn ≤ 18 by omega)
    unfold plW
    omega
  · have c := o.cl
    have g : -4 ≤ rtW W t ∧ rtW W t ≤ 4 := by
      have := o.e1
      have := o.e2
      unfold rtW
      split <;> omega
    have := mb g (show -18 ≤ t - W.tn ∧ t - W.tn ≤ 18 by omega)
    unfold clW
    omega
theorem F_lreading {S : SetV} (h2 : 2 ≤ n) (hn : n ≤ 3) {W : WayV} (o : WayOk S n W) {name : Str} (ln : name.length ≤ 1000) (nm : isn name = true) (row : Int) (lies : Bool) (h : HP) :
    ∃ R : RdV, F__law_reading [wayD n W, .int (n : Int), .str name, .int row, .bl lies] h = .ok (rdD n R) h ∧ RdW n W name lies R := by
  obtain ⟨K, fk, hK⟩ := F_lkind (n := n) hn (by omega) (row / 3125) h
  obtain ⟨mo, hmo⟩ : ∃ mo, mo = row % 25 - 12 := ⟨_, rfl⟩
  obtain ⟨la, hla⟩ : ∃ la, la = row / 25 % 5 / 2 := ⟨_, rfl⟩
  obtain ⟨u, hu⟩ : ∃ u, u = row / 125 % 3 - 1 := ⟨_, rfl⟩
  obtain ⟨ne, hne⟩ : ∃ ne, ne = row / 375 % 4 / 2 := ⟨_, rfl⟩
  obtain ⟨v, hv⟩ : ∃ v, v = row / 625 % 3 - 1 := ⟨_, rfl⟩
  obtain ⟨ax, hax, ha⟩ : ∃ ax : Nat, row / 1500 % (n : Int) = ax ∧ ax < n := ⟨(row / 1500 % (n : Int)).toNat, by
    have := Int.emod_nonneg (row / 1500) (show (n : Int) ≠ 0 by omega)
    omega, by
    have := Int.emod_nonneg (row / 1500) (show (n : Int) ≠ 0 by omega)
    have := Int.emod_lt_of_pos (row / 1500) (show (0 : Int) < n by omega)
    omega⟩
  have lu : -la ≤ la * u ∧ la * u ≤ la := by
    rcases (show la = 0 ∨ la = 1 ∨ la = 2 by omega) with q | q | q <;> rw [q] <;> omega
  obtain ⟨st, hst⟩ : ∃ st, st = ne * v := ⟨_, rfl⟩
  have sb : -ne ≤ st ∧ st ≤ ne := by
    rw [hst]
    rcases (show ne = 0 ∨ ne = 1 by omega) with q | q <;> rw [q] <;> omega
  obtain ⟨T, hT⟩ : ∃ T, T = mo + la * u := ⟨_, rfl⟩
  obtain ⟨s, hs⟩ : ∃ s : Nat → Int, s = fun i => if i = ax then st else 0 := ⟨_, rfl⟩
  have s1 : ∀ i, -1 ≤ s i ∧ s i ≤ 1 := fun i => by rw [hs]; simp only; split <;> omega
  have kb := hK.ad s1
  obtain ⟨pb, cb⟩ := pl_bd o (t := T) (by omega)
  have fat := fun h => F_lat (S := S) hn o (t := T) (by omega) h
  have fm := F_lmoved (n := n) (by omega) (s := s) (K := K) (by
    cases K with
    | boxes bs => exact ⟨by have := hK.2.1; omega, fun b hb => (hK.2.2 b hb).1⟩
    | _ => trivial) (sv := .ref h.length) (h := h ++ [.lst ((List.range n).map fun i => D.int (s i))]) (.inr ⟨_, rfl, by simp⟩)
  have fv := fun h => F_lvalue hn kb pb (c := clW W T) cb h
  have wyp : WP n (plW W T) := fun i hi => Lib.W.of (by have := pb i hi; omega)
  have vle := lawV_leW (n := n) (by omega) kb.v wyp (clW W T)
  have vb := lawV_sm hn kb pb cb
  have told : ∀ lo hi, lo ≤ (lawV n (adK n s K) (plW W T) (clW W T)).1 → (lawV n (adK n s K) (plW W T) (clW W T)).2 ≤ hi → ToldW n W ⟨name, mo, K, lo, hi, la, ne⟩ := fun lo hi g1 g2 =>
    ⟨ax, st, T, ha, sb, by show -la ≤ T - mo ∧ T - mo ≤ la; omega, by rw [← hs]; exact g1, by rw [← hs]; exact g2⟩
  generalize (lawV n (adK n s K) (plW W T) (clW W T)).1 = l0 at *
  generalize (lawV n (adK n s K) (plW W T) (clW W T)).2 = h0 at *
  obtain ⟨lo, hlo⟩ : ∃ lo, lo = (if lies = true then l0 + row / 7 % 61 - 30 else l0) - row / 5 % 4 := ⟨_, rfl⟩
  obtain ⟨hi, hhi⟩ : ∃ hi, hi = (if lies = true then l0 + row / 7 % 61 - 30 + row / 11 % 5 else h0) + row / 9 % 4 := ⟨_, rfl⟩
  have lh : lo ≤ hi := by rw [hlo, hhi]; split <;> omega
  have lb : -1000000000000000 ≤ lo := by rw [hlo]; split <;> omega
  have hb : hi ≤ 1000000000000000 := by rw [hhi]; split <;> omega
  have rk : RdOk n ⟨name, mo, K, lo, hi, la, ne⟩ := ⟨ln, nm, by unfold In12; simp only; omega, hK.h (by omega) (by omega), ⟨lb, lh, hb⟩, by simp only; omega, by simp only; omega⟩
  have mk := fun h => mk_read (show n ≤ 10 by omega) rk h
  refine ⟨⟨name, mo, K, lo, hi, la, ne⟩, ?_, rk, hK, rfl, by simp only; omega, by simp only; omega, by simp only; omega, fun hf => told lo hi (by rw [hlo, if_neg (by simp [hf])]; omega) (by rw [hhi, if_neg (by simp [hf])]; omega)⟩
  have pj := pure_cleanJ h [.lst ((List.range n).map fun i => D.int (s i))] (clean_rd n ⟨name, mo, K, lo, hi, la, ne⟩)
  have mk := mk (h ++ [.lst ((List.range n).map fun i => D.int (s i))])
  simp only at mk
  clear told rk kb pb wyp vb
  have cut1 : Ev.cutD ((List.range (n + 1)).map fun i => D.int (zW n W T i)) none (some (n : Int)) = (List.range n).map fun i => D.int (plW W T i) := by
    have := cut_to (xs := (List.range (n + 1)).map fun i => D.int (zW n W T i)) (i := n) (by simp)
    rw [this]
    unfold zW
    rw [← z_list, List.take_append_of_le_length (by simp), List.take_of_length_le (by simp)]
  have at1 : atI ((List.range (n + 1)).map fun i => D.int (zW n W T i)) (n : Int) = some (.int (clW W T)) := by
    rw [at_vec (p := zW n W T) (n := n + 1) (by omega)]
    unfold zW zP
    rw [if_neg (by omega)]
  have l1 : ((List.range (n + 1)).map fun i => D.int (zW n W T i)).length ≤ sizeLine := by rw [sizeLine_eq]; simp; omega
  have sv : ((List.replicate n [D.int 0]).flatten).set ax (.int st) = (List.range n).map fun i => D.int (s i) := by
    rw [hs]
    apply List.ext_getElem
    · simp
    · intro i h1 h2
      have hi : i < n := by simpa using h2
      rw [List.getElem_set]
      simp only [List.getElem_map, List.getElem_range]
      by_cases c : ax = i
      · rw [if_pos c, if_pos c.symm]
      · rw [if_neg c, if_neg (fun z => c z.symm)]
        have e : (List.replicate n [D.int 0]).flatten = List.replicate n (D.int 0) := by simp
        simp only [e, List.getElem_replicate]
  have zl : ((List.replicate n [D.int 0]).flatten).length = n := by simp
  have fat' : ∀ h, F__law_at [wayD n W, .int (mo + la * u)] h = .ok (.lst ((List.range (n + 1)).map fun i => D.int (zW n W T i))) h := fun h => by rw [← hT]; exact fat h
  have fv' : ∀ h, F__law_value [kdD n (adK n s K), .lst ((List.range n).map fun i => D.int (plW W T i)), .int (clW W T)] h = .ok (.tup [.int l0, .int h0]) h := fv
  have mu : CMulE la u := mul64 (by omega) (by omega)
  have mv : CMulE ne v := mul64 (by omega) (by omega)
  have n0 : (0 : Int) < n := by omega
  have lgn : Nat.log2 ((n : Int)).natAbs < 9000 := lg (by omega)
  have n1000 : n ≤ 1000 := by omega
  have a0 : ax < ((List.replicate n [D.int 0]).flatten).length := by rw [zl]; exact ha
  have nsz : n ≤ sizeLine := by rw [sizeLine_eq]; omega
  obtain ⟨Z, hZ⟩ : ∃ Z, Z = (List.replicate n [D.int 0]).flatten := ⟨_, rfl⟩
  rw [← hZ] at zl sv
  have rep : fRepL true (.lst [.int 0]) (.int (n : Int)) h = .ok (.ref h.length) (h ++ [.lst Z]) := by
    have zl' : Z.length ≤ sizeLine := by omega
    simp only [fRepL, repLO, asLx, Int.toNat_natCast, ← hZ]
    rw [if_pos (by simp; omega)]
    unfold Ev.newL
    rw [if_pos zl', if_pos rfl]
  have hi1 : (h ++ [O.lst Z])[h.length]? = some (.lst Z) := by simp
  have hs1 : (h ++ [O.lst Z]).set h.length (.lst (Z.set ax (.int st))) = h ++ [.lst ((List.range n).map fun i => D.int (s i))] := by rw [sv]; simp [List.set_append]
  have set1 : Ev.setD (.int st) (.ref h.length) (.int (ax : Int)) (h ++ [.lst Z]) = .ok () (h ++ [.lst ((List.range n).map fun i => D.int (s i))]) := by
    have ix : ixN Z.length (ax : Int) = some ax := by simp [ixN, zl, ha]
    simp only [Ev.setD, hi1, setL, ix, setJ, hs1]
  have fm : F__law_moved [kdD n K, .ref h.length] (h ++ [.lst ((List.range n).map fun i => D.int (s i))]) = .ok (kdD n (adK n s K)) (h ++ [.lst ((List.range n).map fun i => D.int (s i))]) := fm
  have pj' : kFnP h (.rt (rdD n ⟨name, mo, K, lo, hi, la, ne⟩) (h ++ [.lst ((List.range n).map fun i => D.int (s i))])) = .ok (rdD n ⟨name, mo, K, lo, hi, la, ne⟩) h := pj
  refine Eq.trans (congrArg (kFnP h) ?_) pj'
  show (sSeq (sAsg (mFn 2 F__law_kind (aCons (mVar 1) (aCons (mBin fDiv (mVar 3) (mCst (.int 3125))) aNil))) (gNm 5)) _) [some (wayD n W), some (.int (n : Int)), some (.str name), some (.int row), some (.bl lies), none, none, none, none, none, none, none, none, none] h = _
  have mk : mkR (h ++ [.lst ((List.range n).map fun i => D.int (s i))]) (F_Reading__init__ [.ref (h ++ [O.lst ((List.range n).map fun i => D.int (s i))]).length, .str name, .int mo, kdD n K, .int lo, .int hi, .int la, .int ne] ((h ++ [.lst ((List.range n).map fun i => D.int (s i))]) ++ [.ins 1 []])) = .ok (rdD n ⟨name, mo, K, lo, hi, la, ne⟩) (h ++ [.lst ((List.range n).map fun i => D.int (s i))]) := mk
  clear fat vle lb hb lh pj pj' fv hi1 hs1 sv hZ a0 n1000 hK zl nsz o
  generalize rdD n ⟨name, mo, K, lo, hi, la, ne⟩ = rr at *
  generalize h ++ [O.lst ((List.range n).map fun i => D.int (s i))] = H2 at *
  generalize h ++ [O.lst Z] = H1 at *
  generalize (List.range (n + 1)).map (fun i => D.int (zW n W T i)) = zs at *
  generalize (List.range n).map (fun i => D.int (plW W T i)) = ps at *
  generalize clW W T = cw at *
  generalize kdD n (adK n s K) = km at *
  generalize kdD n K = kd at *
  generalize wayD n W = wd at *
  generalize h.length = hn_ at *
  rw [seq_nx (e' := [some wd, some (.int (n : Int)), some (.str name), some (.int row), some (.bl lies), some kd, none, none, none, none, none, none, none, none]) (h' := h) (by simp [lg, fk])]
  rw [seq_nx (e' := [some wd, some (.int (n : Int)), some (.str name), some (.int row), some (.bl lies), some kd, some (.int mo), none, none, none, none, none, none, none]) (h' := h) (by simp [lg, ← hmo])]
  rw [seq_nx (e' := [some wd, some (.int (n : Int)), some (.str name), some (.int row), some (.bl lies), some kd, some (.int mo), some (.int la), none, none, none, none, none, none]) (h' := h) (by simp [lg, ← hla])]
  rw [seq_nx (e' := [some wd, some (.int (n : Int)), some (.str name), some (.int row), some (.bl lies), some kd, some (.int mo), some (.int la), some (.int (mo + la * u)), none, none, none, none, none]) (h' := h) (by simp [lg, ← hu, mu])]
  rw [seq_nx (e' := [some wd, some (.int (n : Int)), some (.str name), some (.int row), some (.bl lies), some kd, some (.int mo), some (.int la), some (.int (mo + la * u)), some (.int ne), none, none, none, none]) (h' := h) (by simp [lg, ← hne])]
  rw [seq_nx (e' := [some wd, some (.int (n : Int)), some (.str name), some (.int row), some (.bl lies), some kd, some (.int mo), some (.int la), some (.int (mo + la * u)), some (.int ne), some (.ref hn_), none, none, none]) (h' := H1) (by simp [-fRepL, rep])]
  rw [seq_nx (e' := [some wd, some (.int (n : Int)), some (.str name), some (.int row), some (.bl lies), some kd, some (.int mo), some (.int la), some (.int (mo + la * u)), some (.int ne), some (.ref hn_), none, none, none]) (h' := H2) (by simp [lg, ← hv, mv, ← hst, show 0 < n by omega, lgn, hax, -Ev.setD, set1])]
  rw [seq_nx (e' := [some wd, some (.int (n : Int)), some (.str name), some (.int row), some (.bl lies), some kd, some (.int mo), some (.int la), some (.int (mo + la * u)), some (.int ne), some (.ref hn_), some (.lst zs), none, none]) (h' := H2) (by simp [fat'])]
  rw [seq_nx (e' := [some wd, some (.int (n : Int)), some (.str name), some (.int row), some (.bl lies), some kd, some (.int mo), some (.int la), some (.int (mo + la * u)), some (.int ne), some (.ref hn_), some (.lst zs), some (.int l0), some (.int h0)]) (h' := H2) (by simp [fm, l1, cut1, at1, fv'])]
  have fin : ∀ A B : Int, A = (if lies = true then l0 + row / 7 % 61 - 30 else l0) → B = (if lies = true then l0 + row / 7 % 61 - 30 + row / 11 % 5 else h0) → True := fun _ _ _ _ => trivial
  cases lies
  · simp only [Bool.false_eq_true, if_false] at hlo hhi
    simp [lg, ← hlo, ← hhi, mk]
  · simp only [if_true] at hlo hhi
    simp [lg, ← hlo, ← hhi, mk]
end
end LibW
namespace LibW
open PySem PySem.Spec PyProof.Rows L2 Ev Lib
section
variable {n : Nat}
theorem mem_strV (x : Str) (ns : List Str) : (ns.map D.str).any (fun d => eqD d (.str x)) = decide (x ∈ ns) := by
  induction ns with
  | nil => rfl
  | cons n ns ih =>
    rw [List.map_cons, List.any_cons, ih]
    have e : eqD (.str n) (.str x) = decide (x = n) := by
      by_cases c : x = n
      · subst c; simp [eqD]
      · have : ¬ n = x := fun z => c z.symm
        simp [eqD, c, this]
    rw [e]
    by_cases c : x = n <;> simp [c]
theorem flat_strV (ns : List Str) : (ns.map D.str).all flatD = true := by
  rw [List.all_map]
  simp [List.all_eq_true]
theorem in_lstW (neg : Bool) (x : Str) (ns : List Str) (h : HP) : fIn neg (.str x) (.lst (ns.map D.str)) h = .ok (.bl (if neg = true then !decide (x ∈ ns) else decide (x ∈ ns))) h := by
  have e := mem_strV x ns
  have f := flat_strV ns
  generalize ns.map D.str = us at *
  simp [f, e]
def prW (n : Nat) (r : Int × RdV) : D := .tup [.int r.1, rdD n r.2]
theorem clean_prW (n : Nat) (r : Int × RdV) : clean (prW n r) := clean_tup (by simp [clean_int, clean_rd])
/-- the law's readings -/
def RsW (n : Nat) (W : WayV) (liars : List Str) (rs : List (Int × RdV)) (m : Nat) : Prop := rs.map (·.1) = (List.range m).map (fun k : Nat => (k : Int) * 3 + 2) ∧ ∀ r ∈ rs, RdW n W r.2.src (decide (r.2.src ∈ liars)) r.2
theorem rs_turn {S : SetV} (h2 : 2 ≤ n) (hn : n ≤ 3) {W : WayV} (o : WayOk S n W) {rws : List Int} {names liars : List Str} (n0 : 0 < names.length) (nl : names.length ≤ 1000) (no : ∀ x ∈ names, x.length ≤ 1000 ∧ isn x = true) {i : Nat} (hi : i < rws.length) (hr : rws.length ≤ 1000) {rs : List (Int × RdV)} (v : RsW n W liars rs i) (hs : ∀ r ∈ rs, r.2.src ∈ names) (z3 z8 : Option D) (h : HP) :
    ∃ (rs' : List (Int × RdV)) (y8 : Option D), RsW n W liars rs' (i + 1) ∧ (∀ r ∈ rs', r.2.src ∈ names) ∧ B__law_readings_1 [some (wayD n W), some (.int (n : Int)), some (.lst (rws.map D.int)), z3, some (.lst (names.map D.str)), some (.lst (liars.map D.str)), some (.ref h.length), some (.int (i : Int)), z8] (h ++ [.lst (rs.map (prW n))]) =
      .nx [some (wayD n W), some (.int (n : Int)), some (.lst (rws.map D.int)), z3, some (.lst (names.map D.str)), some (.lst (liars.map D.str)), some (.ref h.length), some (.int (i : Int)), y8] (h ++ [.lst (rs'.map (prW n))]) := by
  have ar : atI (rws.map D.int) (i : Int) = some (.int rws[i]) := at_map D.int hi
  generalize rws[i] = row at *
  have e1 := Int.emod_nonneg (row / 13) (show ((names.length : Nat) : Int) ≠ 0 by omega)
  have e2 := Int.emod_lt_of_pos (row / 13) (show (0 : Int) < ((names.length : Nat) : Int) by omega)
  obtain ⟨j, hj, hj2⟩ : ∃ j : Nat, row / 13 % ((names.length : Nat) : Int) = j ∧ j < names.length := ⟨(row / 13 % ((names.length : Nat) : Int)).toNat, by omega, by omega⟩
  have an : atI (names.map D.str) (j : Int) = some (.str names[j]) := at_map D.str hj2
  have nm := List.getElem_mem hj2
  generalize names[j] = x at *
  obtain ⟨R, fr, hR⟩ := F_lreading h2 hn o (no x nm).1 (no x nm).2 row (decide (x ∈ liars)) (h ++ [.lst (rs.map (prW n))])
  have lrs : rs.length = i := by have := congrArg List.length v.1; simpa using this
  refine ⟨rs ++ [((i : Int) * 3 + 2, R)], some (.str x), ⟨?_, fun r hr => ?_⟩, fun r hr => ?_, ?_⟩
  · rw [List.map_append, v.1, List.range_succ, List.map_append]
    rfl
  · rcases List.mem_append.mp hr with q | q
    · exact v.2 r q
    · rw [List.mem_singleton.mp q]
      simp only
      rw [hR.src]
      exact hR
  · rcases List.mem_append.mp hr with q | q
    · exact hs r q
    · rw [List.mem_singleton.mp q]
      simp only
      rw [hR.src]
      exact nm
  · have il := in_lstW false x liars
    simp only [Bool.false_eq_true, if_false] at il
    have e3 : (rs ++ [((i : Int) * 3 + 2, R)]).map (prW n) = rs.map (prW n) ++ [.tup [.int ((i : Int) * 3 + 2), rdD n R]] := by simp [prW]
    have ap := fun y => appL_last (y := y) (ds := rs.map (prW n)) h (by rw [sizeLine_eq]; simp; omega)
    have m3 : CMulE (i : Int) 3 := mul64 (by omega) (by omega)
    have lz : (names.map D.str).length = names.length := by simp
    have ls : names.length ≤ sizeLine := by rw [sizeLine_eq]; omega
    have n0' : (0 : Int) < ((names.length : Nat) : Int) := by omega
    have lgn : Nat.log2 (((names.length : Nat) : Int)).natAbs < 9000 := lg (by omega)
    rw [e3]
    clear e3 v hs
    generalize rdD n R = rr at *
    generalize rs.map (prW n) = ds at *
    generalize wayD n W = wd at *
    generalize rws.map D.int = rl at *
    generalize names.map D.str = nl at *
    generalize liars.map D.str = ll at *
    simp [lg, ar, lz, ls, n0', n0, lgn, hj, an, -fIn, il, fr, m3, ap]
theorem F_lreadings {S : SetV} (h2 : 2 ≤ n) (hn : n ≤ 3) {W : WayV} (o : WayOk S n W) {rws : List Int} {names liars : List Str} (n0 : 0 < names.length) (nl : names.length ≤ 1000) (no : ∀ x ∈ names, x.length ≤ 1000 ∧ isn x = true) {m : Nat} (hm : m ≤ rws.length) (hr : rws.length ≤ 1000) (h : HP) :
    ∃ rs : List (Int × RdV), F__law_readings [wayD n W, .int (n : Int), .lst (rws.map D.int), .int (m : Int), .lst (names.map D.str), .lst (liars.map D.str)] h = .ok (.lst (rs.map (prW n))) h ∧ RsW n W liars rs m ∧ (∀ r ∈ rs, r.2.src ∈ names) := by
  obtain ⟨_, _, e, y7, y8, rs, rfl, rfl, v, hs⟩ := for_rng (asg := gNm 7) (body := B__law_readings_1) (n := m)
    (fun i env h' => ∃ (z7 z8 : Option D) (rs : List (Int × RdV)), env = [some (wayD n W), some (.int (n : Int)), some (.lst (rws.map D.int)), some (.int (m : Int)), some (.lst (names.map D.str)), some (.lst (liars.map D.str)), some (.ref h.length), z7, z8] ∧ h' = h ++ [.lst (rs.map (prW n))] ∧ RsW n W liars rs i ∧ ∀ r ∈ rs, r.2.src ∈ names)
    (fun i env h' hi hI => by
      obtain ⟨z7, z8, rs, rfl, rfl, v, hs⟩ := hI
      obtain ⟨rs', y8, v', hs', e⟩ := rs_turn h2 hn o n0 nl no (i := i) (by omega) hr v hs (some (.int (m : Int))) z8 h
      exact ⟨_, rfl, _, _, .inl e, _, _, _, rfl, rfl, v', hs'⟩)
    (env := [some (wayD n W), some (.int (n : Int)), some (.lst (rws.map D.int)), some (.int (m : Int)), some (.lst (names.map D.str)), some (.lst (liars.map D.str)), some (.ref h.length), none, none]) (h := h ++ [.lst []]) ⟨none, none, [], rfl, rfl, ⟨rfl, by simp⟩, by simp⟩
  refine ⟨rs, ?_, v, hs⟩
  have rg : Rg (m : Int) := rg_nat (by omega)
  have pr := pure_list h (ds := rs.map (prW n)) (fun d hd => by obtain ⟨x, _, rfl⟩ := List.mem_map.mp hd; exact clean_prW n x)
  generalize rs.map (prW n) = ds at *
  generalize wayD n W = wd at *
  generalize rws.map D.int = rl at *
  generalize names.map D.str = nl at *
  generalize liars.map D.str = ll at *
  simp [F__law_readings, rg, e, pr]
structure QV where
  mo : Int
  ro : List (Int × Int)
  li : Int
  sh : Int
  ea : Int
  la : Int
def qF (Q : QV) : List (Str × D) := [("moment", .int Q.mo), ("root", boxD Q.ro), ("liars", .int Q.li), ("share", .int Q.sh), ("earliest", .int Q.ea), ("latest", .int Q.la)]
def qD (Q : QV) : D := .ins 2 (qF Q)
@[simp] theorem asI_q (Q : QV) (h : HP) : asI h (qD Q) = some (2, qF Q) := rfl
theorem q1_ (Q : QV) : (qF Q).lookup ("moment" : Str) = some (.int Q.mo) := by simp [qF, List.lookup]
theorem q2_ (Q : QV) : (qF Q).lookup ("root" : Str) = some (boxD Q.ro) := by simp [qF, List.lookup]
theorem q3_ (Q : QV) : (qF Q).lookup ("earliest" : Str) = some (.int Q.ea) := by simp [qF, List.lookup]
theorem q4_ (Q : QV) : (qF Q).lookup ("latest" : Str) = some (.int Q.la) := by simp [qF, List.lookup]
theorem q6_ (Q : QV) : (qF Q).lookup ("share" : Str) = some (.int Q.sh) := by simp [qF, List.lookup]
theorem clean_q (Q : QV) : clean (qD Q) := clean_ins (by simp [qF, clean_int, clean_box])
structure QOk (Q : QV) : Prop where
  mo : -1000000000000 ≤ Q.mo ∧ Q.mo ≤ 1000000000000
  ro : ∀ s ∈ Q.ro, SideOk s
  rl : Q.ro.length ≤ 10
  li : 0 ≤ Q.li ∧ Q.li ≤ 3
  sh : 1 ≤ Q.sh ∧ Q.sh ≤ 1000000000000
  ea : -1000000000000 ≤ Q.ea ∧ Q.ea ≤ 1000000000000
  la : -1000000000000 ≤ Q.la ∧ Q.la ≤ 1000000000000
  el : Q.ea ≤ Q.la
theorem mk_qW {Q : QV} (k : QOk Q) (h : HP) : mkR h (F_Question__init__ [.ref h.length, .int Q.mo, boxD Q.ro, .int Q.li, .int Q.sh, .int Q.ea, .int Q.la] (h ++ [.ins 2 []])) = .ok (qD Q) h := by
  obtain ⟨k1, k2, k3, k4, k5, k6, k7, k8⟩ := k
  have a1 : ∀ h, Lib.F_all_within [.tup [.int Q.mo, .int Q.ea, .int Q.la], .int (-1000000000000), .int 1000000000000] h = .ok (.bl true) h := fun h => F_allwT (xs := [Q.mo, Q.ea, Q.la]) (by simp) (by simp; omega) h
  have a2 : ∀ h, Lib.F_sides_within [boxD Q.ro, .int 1000000000000] h = .ok (.bl true) h := fun h => F_sides_within' (b := Q.ro) (by omega) k2 h
  have h3 : ¬ Q.la < Q.ea := by omega
  have e : F_Question__init__ [.ref h.length, .int Q.mo, boxD Q.ro, .int Q.li, .int Q.sh, .int Q.ea, .int Q.la] (h ++ [.ins 2 []]) = .ok .non (h ++ [.ins 2 (qF Q)]) := by
    unfold qF
    generalize boxD Q.ro = rb at *
    simp [Lib.F_Question__init__, a1, a2, h3, k4, k5]
  rw [e]
  exact pure_ins (by simp [qF, clean_int, clean_box])
structure QuW (n : Nat) (W : WayV) (li : Int) (Q : QV) : Prop where
  mo : -10 ≤ Q.mo ∧ Q.mo ≤ 10
  len : Q.ro.length = n + 1
  at_ : ∀ i < n + 1, (sd Q.ro i).1 ≤ zW n W Q.mo i ∧ zW n W Q.mo i ≤ (sd Q.ro i).2 ∧ zW n W Q.mo i - 12 ≤ (sd Q.ro i).1 ∧ (sd Q.ro i).2 ≤ zW n W Q.mo i + 10
  li : Q.li = li
  sh : 1 ≤ Q.sh ∧ Q.sh ≤ 6
  ea : -15 ≤ Q.ea ∧ Q.ea ≤ 0
  la : Q.ea ≤ Q.la ∧ Q.la ≤ Q.ea + 27
theorem zW_bd {S : SetV} {W : WayV} (o : WayOk S n W) {t : Int} (ht : -14 ≤ t ∧ t ≤ 14) {i : Nat} : i < n + 1 → -1000 ≤ zW n W t i ∧ zW n W t i ≤ 1000 := fun hi => by
  obtain ⟨a, b⟩ := pl_bd (n := n) o ht
  unfold zW zP
  split
  · rename_i c
    have := a i c
    omega
  · exact b
theorem F_lquestion {S : SetV} (hn : n ≤ 3) {W : WayV} (o : WayOk S n W) (row : Int) {li : Int} (hli : 0 ≤ li ∧ li ≤ 3) (h : HP) : ∃ Q : QV, F__law_question [wayD n W, .int (n : Int), .int row, .int li] h = .ok (qD Q) h ∧ QuW n W li Q ∧ QOk Q := by
  obtain ⟨mo, hmo⟩ : ∃ mo, mo = row % 21 - 10 := ⟨_, rfl⟩
  have fat := F_lat (S := S) hn o (t := mo) (by omega) h
  obtain ⟨b1, fb, hb⟩ := F_digits (base := 13) (by omega) (by omega) (n := n + 1) (by omega) (row / 21) h
  obtain ⟨a1, fa, ha⟩ := F_digits (base := 11) (by omega) (by omega) (n := n + 1) (by omega) (row / 33) h
  obtain ⟨ro, hro⟩ : ∃ ro, ro = (List.range (n + 1)).map fun i => (zW n W mo i - b1 i, zW n W mo i + a1 i) := ⟨_, rfl⟩
  obtain ⟨sh, hsh⟩ : ∃ sh, sh = 1 + row / 7 % 6 := ⟨_, rfl⟩
  obtain ⟨ea, hea⟩ : ∃ ea, ea = 0 - row / 3 % 16 := ⟨_, rfl⟩
  obtain ⟨la, hla⟩ : ∃ la, la = ea + row / 5 % 28 := ⟨_, rfl⟩
  have zb := fun i hi => zW_bd (n := n) o (t := mo) (by omega) (i := i) hi
  have qo : QOk ⟨mo, ro, li, sh, ea, la⟩ := ⟨by simp only; omega, fun s hs => by
    rw [hro] at hs
    obtain ⟨i, hi, rfl⟩ := List.mem_map.mp hs
    have := zb i (List.mem_range.mp hi)
    have := hb i
    have := ha i
    unfold SideOk
    simp only
    omega, by rw [hro]; simp; omega, hli, by simp only; omega, by simp only; omega, by simp only; omega, by simp only; omega⟩
  refine ⟨⟨mo, ro, li, sh, ea, la⟩, ?_, ⟨by simp only; omega, by rw [hro]; simp, fun i hi => ?_, rfl, by simp only; omega, by simp only; omega, by simp only; omega⟩, qo⟩
  · have rg : Rg ((n : Int) + 1) := rg_nat (n := n + 1) (by omega)
    have er : ((n : Int) + 1).toNat = n + 1 := by omega
    have lc : C__law_question_1 false [some (wayD n W), some (.int (n : Int)), some (.int row), some (.int li), some (.int mo), some (lvec (n + 1) (zW n W mo)), some (lvec (n + 1) b1), some (lvec (n + 1) a1), none, none, none, none, none] h = .ok (.lst (ro.map sideD)) h := by
      rw [hro, List.map_map]
      exact mLc_ty (h1 := h) (List.range (n + 1)) (fun i => .int (i : Nat)) (fun i => sideD (zW n W mo i - b1 i, zW n W mo i + a1 i)) (by simp [rg, er, rngD_eq]) (by simp; omega)
        (fun i hi h' => ⟨[some (wayD n W), some (.int (n : Int)), some (.int row), some (.int li), some (.int mo), some (lvec (n + 1) (zW n W mo)), some (lvec (n + 1) b1), some (lvec (n + 1) a1), none, none, none, none, some (.int (i : Nat))], by simp, by
          have hi' := List.mem_range.mp hi
          have x1 := at_vec (p := zW n W mo) hi'
          have x2 := at_vec (p := b1) hi'
          have x3 := at_vec (p := a1) hi'
          unfold lvec
          simp [x1, x2, x3, sideD]⟩) fun i _ => clean_side _
    have mk := mk_qW qo h
    have pr := pure_clean h (clean_q ⟨mo, ro, li, sh, ea, la⟩)
    have l1 : (ro.map sideD).length ≤ sizeLine := by rw [sizeLine_eq, hro]; simp; omega
    have l2 : (ro.map sideD).length ≤ 16000000 := by rw [hro]; simp; omega
    have e0 : boxD ro = .tup (ro.map sideD) := rfl
    have fb' : F__law_digits [.int (row / 21), .int 13, .int ((n : Int) + 1)] h = .ok (lvec (n + 1) b1) h := fb
    have fa' : F__law_digits [.int (row / 33), .int 11, .int ((n : Int) + 1)] h = .ok (lvec (n + 1) a1) h := fa
    simp only at mk
    rw [e0] at mk
    clear hro fb fa
    generalize qD ⟨mo, ro, li, sh, ea, la⟩ = qd at *
    generalize ro.map sideD = rs at *
    generalize wayD n W = wd at *
    generalize lvec (n + 1) (zW n W mo) = zs at *
    generalize lvec (n + 1) b1 = bs at *
    generalize lvec (n + 1) a1 = as at *
    have z0 : -(row / 3 % 16) = ea := by omega
    simp [F__law_question, lg, ← hmo, fat, fb', fa', lc, ← hsh, z0, ← hla, l1, l2, mk, pr]
  · simp only
    have e : sd ro i = (zW n W mo i - b1 i, zW n W mo i + a1 i) := by
      rw [hro, sd, List.getD_eq_getElem?_getD, List.getElem?_map, List.getElem?_range hi]
      rfl
    rw [e]
    have := hb i
    have := ha i
    simp only
    omega
end
end LibW
namespace LibV
open PySem PySem.Spec PyProof.Rows L2 Ev Lib
theorem sh_S {z : Str} (h : PyData.strOk z = true) : SeqAt.shaped (.str z) = true := by simp [SeqAt.shaped, PyData.canLay0, PyData.depth, h]
theorem eqv_S (x y : Str) : PyData.eqv (.str x) (.str y) = decide (x = y) := by
  by_cases h : x = y
  · subst h
    simp [PyData.eqv]
  · simp [PyData.eqv, h]
end LibV
namespace LibW
open PySem PySem.Spec PyProof.Rows L2 Ev Lib LibV EvS
section
variable {n : Nat}
def spdV (n : Nat) (K : Kd) (sh : Int) : Int := rateK n K * (2 * crd n sh + 2) + clockK K * sh
def marV (S : SetV) (n : Nat) (Q : QV) (R : RdV) : Int := movedK R.kd * R.ne + (rateK n R.kd * rchS S R.la + clockK R.kd * slpS S R.la) + spdV n R.kd Q.sh
theorem crd_nn {share : Int} (h : 1 ≤ share) : 0 ≤ crd n share := by
  obtain ⟨h0, _⟩ := hl_pos h
  exact (ru_spec (n := (n : Int) * hlf share * hlf share) (Int.mul_nonneg (Int.mul_nonneg (by omega) h0) h0)).1
theorem clk_bd (K : Kd) : 0 ≤ clockK K ∧ clockK K ≤ 1 := by unfold clockK; split <;> decide
theorem mvd_bd (K : Kd) : 0 ≤ movedK K ∧ movedK K ≤ 2 := by unfold movedK; split <;> decide
theorem F_spreadW {S : SetV} (hd : S.d = n) (hn : n ≤ 3) {K : Kd} (hK : KdS n K) {sh : Int} (h1 : 1 ≤ sh) (h2 : sh ≤ 2000000) (h : HP) : F_spread [setD S, .int sh, kdD n K] h = .ok (.int (spdV n K sh)) h := by
  have fr := fun h => F_rateS hn hK h
  have fc := fun h => F_clock_rate' n K h
  have fl := fun h => F_cell hd hn h1 h2 h
  obtain ⟨r0, r1⟩ := rate_bd hn hK
  obtain ⟨_, c1, _⟩ := cr_bd hn h1 h2
  have c0 := crd_nn (n := n) h1
  obtain ⟨k0, k1⟩ := clk_bd K
  have pr : ∀ z : Int, pure_ h (.int z) h = .ok (.int z) h := fun z => pure_clean h (clean_int z)
  have m1 : CMulE 2 (crd n sh) := mul64 (by omega) (by omega)
  have m2 : CMulE (rateK n K) (2 * crd n sh + 2) := mul64 (by omega) (by omega)
  have m3 : CMulE (clockK K) sh := mul64 (by omega) (by omega)
  unfold spdV
  generalize rateK n K = rr at *
  generalize clockK K = cc at *
  generalize crd n sh = cr at *
  generalize kdD n K = kd at *
  simp [F_spread, fr, fc, fl, m1, m2, m3, pr]
theorem rch_lo {S : SetV} (k : S.ok) {t : Int} (h0 : 0 ≤ t) (h1 : t ≤ 1000) : 0 ≤ rchS S t ∧ rchS S t ≤ 1000000000000000 ∧ 0 ≤ slpS S t ∧ slpS S t ≤ 1000000000000000 := by
  obtain ⟨k1, k2, k3, k4, k5, k6, k7, k8⟩ := k
  have g : ∀ {a : Int}, 0 ≤ a → a ≤ 1000000000000 → 0 ≤ qup (a * t) S.p ∧ qup (a * t) S.p ≤ 1000000000000000 := fun {a} a0 a1 => by
    have m0 : 0 ≤ a * t := Int.mul_nonneg a0 h0
    have m1 : a * t ≤ 1000000000000 * 1000 := Int.mul_le_mul a1 h1 h0 (by omega)
    have p1 := qup_ge (n := a * t) (show 0 < S.p by omega)
    have p2 := qup_lt (n := a * t) (show 0 < S.p by omega)
    refine ⟨?_, ?_⟩
    · by_cases c : 0 ≤ qup (a * t) S.p
      · exact c
      · have : S.p * qup (a * t) S.p ≤ S.p * (-1) := Int.mul_le_mul_of_nonneg_left (by omega) (by omega)
        omega
    · by_cases c : qup (a * t) S.p ≤ 1000000000000000
      · exact c
      · have : (qup (a * t) S.p - 1) * 1 ≤ S.p * (qup (a * t) S.p - 1) := by
          rw [Int.mul_comm S.p]
          exact Int.mul_le_mul_of_nonneg_left (by omega) (by omega)
        omega
  exact ⟨(g k3 k4).1, (g k3 k4).2, (g k5 k6).1, (g k5 k6).2⟩
theorem lk_ (n : Nat) (R : RdV) : (rdF n R).lookup ("kind" : Str) = some (kdD n R.kd) ∧ (rdF n R).lookup ("late" : Str) = some (.int R.la) ∧ (rdF n R).lookup ("near" : Str) = some (.int R.ne) ∧ (rdF n R).lookup ("moment" : Str) = some (.int R.mo) ∧ (rdF n R).lookup ("source" : Str) = some (.str R.src) ∧ (rdF n R).lookup ("low" : Str) = some (.int R.lo) ∧ (rdF n R).lookup ("high" : Str) = some (.int R.hi) := by
  simp [List.lookup]
theorem F_marginW {S : SetV} (k : S.ok) (hd : S.d = n) (hn : n ≤ 3) {Q : QV} (s1 : 1 ≤ Q.sh) (s2 : Q.sh ≤ 2000000) {R : RdV} (hK : KdS n R.kd) (la : 0 ≤ R.la ∧ R.la ≤ 1000) (ne : 0 ≤ R.ne ∧ R.ne ≤ 1000) (h : HP) : F_margin [setD S, qD Q, rdD n R] h = .ok (.int (marV S n Q R)) h := by
  have fr := fun h => F_rateS hn hK h
  have fc := fun h => F_clock_rate' n R.kd h
  have fm := fun h => F_moved' n R.kd h
  have f1 := fun h => F_reach' k (t := R.la) (by omega) h
  have f2 := fun h => F_slip' k (t := R.la) (by omega) h
  have fs := fun h => F_spreadW (S := S) hd hn hK s1 s2 h
  obtain ⟨l1, l2, l3, -⟩ := lk_ n R
  have q6 := q6_ Q
  have aq := asI_q Q
  have ar := asI_rd n R
  obtain ⟨r0, r1⟩ := rate_bd hn hK
  obtain ⟨k0, k1⟩ := clk_bd R.kd
  obtain ⟨v0, v1⟩ := mvd_bd R.kd
  obtain ⟨x0, x1, x2, x3⟩ := rch_lo k la.1 la.2
  have pr : ∀ z : Int, pure_ h (.int z) h = .ok (.int z) h := fun z => pure_clean h (clean_int z)
  have m1 : CMulE (rateK n R.kd) (rchS S R.la) := mul64 (by omega) (by omega)
  have m2 : CMulE (clockK R.kd) (slpS S R.la) := mul64 (by omega) (by omega)
  have m3 : CMulE (movedK R.kd) R.ne := mul64 (by omega) (by omega)
  unfold marV
  generalize spdV n R.kd Q.sh = sp at *
  generalize rateK n R.kd = rr at *
  generalize clockK R.kd = cc at *
  generalize movedK R.kd = vv at *
  generalize rchS S R.la = rc at *
  generalize slpS S R.la = sl at *
  generalize kdD n R.kd = kd at *
  generalize rdF n R = rf at *
  generalize rdD n R = rd at *
  generalize qF Q = qf at *
  generalize qD Q = qd at *
  simp [F_margin, ar, l1, l2, l3, aq, q6, fr, fc, fm, f1, f2, fs, m1, m2, m3, pr]
def inQW (Q : QV) (r : Int × RdV) : Bool := decide (Q.ea ≤ r.2.mo) && decide (r.2.mo ≤ Q.la)
theorem F_askW (Q : QV) (rs : List (Int × RdV)) (hl : rs.length ≤ 100) (h : HP) : F_asked [qD Q, .lst (rs.map (prW n))] h = .ok (.lst ((rs.filter (inQW Q)).map (prW n))) h := by
  have q3 := q3_ Q
  have q4 := q4_ Q
  have lc : Lib.C_asked_1 false [some (qD Q), some (.lst (rs.map (prW n))), none, none] h = .ok (.lst ((rs.filter (inQW Q)).map (prW n))) h := by
    unfold Lib.C_asked_1 mLc
    have it' : iAny (mVar 1) [some (qD Q), some (.lst (rs.map (prW n))), none, none] h = .ok (rs.map (prW n), []) h := by
      generalize rs.map (prW n) = ks at *
      simp
    rw [it']
    simp only [R.bind]
    rw [lcE_tyG _ _ _ _ h _ (fun x => by simp [Gd]) (prW n) (prW n) (inQW Q) rs [] (by have := sizeLine_eq; simp only [List.length_nil]; omega) (fun r hr y => by
      have a2 := asI_rd n r.2 (h ++ y)
      have a1 := asI_q Q (h ++ y)
      have rm := (lk_ n r.2).2.2.2.1
      have e0 : prW n r = .tup [.int r.1, rdD n r.2] := rfl
      refine ⟨[some (qD Q), some (.lst (rs.map (prW n))), some (.int r.1), some (rdD n r.2)], by rw [e0]; simp, ?_, fun _ => by rw [e0]; simp⟩
      unfold inQW
      generalize rs.map (prW n) = ks at *
      generalize rdF n r.2 = rf at *
      generalize rdD n r.2 = rd at *
      generalize qF Q = qf at *
      generalize qD Q = qd at *
      by_cases c1 : Q.ea ≤ r.2.mo
      · by_cases c2 : r.2.mo ≤ Q.la <;> simp [a1, a2, rm, q3, q4, c1, c2]
      · simp [a1, a2, rm, q3, q4, c1])]
    simp only [List.nil_append, outL, if_neg Bool.false_ne_true]
    exact pure_list h fun d hd => by
      obtain ⟨x, _, rfl⟩ := List.mem_map.mp hd
      exact clean_prW n x
  have pr := pure_clean h (d := .lst ((rs.filter (inQW Q)).map (prW n))) (clean_lst fun d hd => by obtain ⟨x, _, rfl⟩ := List.mem_map.mp hd; exact clean_prW n x)
  generalize (rs.filter (inQW Q)).map (prW n) = ys at *
  generalize rs.map (prW n) = xs at *
  generalize qD Q = qd at *
  simp [Lib.F_asked, lc, pr]
def momV (Q : QV) (rs : List (Int × RdV)) : List Int := Q.mo :: (rs.filter (inQW Q)).map (·.2.mo)
def strV (n : Nat) (Q : QV) (rs : List (Int × RdV)) : Int := 2 * crd n Q.sh * ((srt (momV Q rs)).length : Int)
theorem intsD_map : ∀ xs : List Int, intsD (xs.map D.int) = some xs
  | [] => rfl
  | x :: xs => by simp [intsD, intsD_map xs]
theorem F_stretchW {S : SetV} (hd : S.d = n) (hn : n ≤ 3) {Q : QV} (s1 : 1 ≤ Q.sh) (s2 : Q.sh ≤ 2000000) {rs : List (Int × RdV)} (hl : rs.length ≤ 100) (h : HP) : F_stretch [setD S, qD Q, .lst (rs.map (prW n))] h = .ok (.int (strV n Q rs)) h := by
  have fa := fun h => F_askW (n := n) Q rs hl h
  have q1 := q1_ Q
  have q6 := q6_ Q
  have aq := asI_q Q
  have fl := fun h => F_cell hd hn s1 s2 h
  have c0 := crd_nn (n := n) s1
  obtain ⟨_, c1, _⟩ := cr_bd hn s1 s2
  have pr : ∀ z : Int, pure_ h (.int z) h = .ok (.int z) h := fun z => pure_clean h (clean_int z)
  have lf : (rs.filter (inQW Q)).length ≤ 100 := Nat.le_trans (List.length_filter_le _ _) hl
  have lc : C_stretch_1 false [some (setD S), some (qD Q), some (.lst (rs.map (prW n))), none, none, none] h = .ok (.lst ((rs.filter (inQW Q)).map fun r => D.int r.2.mo)) h :=
    mLc_ty (h1 := h) (rs.filter (inQW Q)) (prW n) (fun r => .int r.2.mo) (by
        generalize (rs.filter (inQW Q)).map (prW n) = ys at *
        generalize rs.map (prW n) = xs at *
        generalize qD Q = qd at *
        simp [fa]) (by omega)
      (fun r hr h' => ⟨[some (setD S), some (qD Q), some (.lst (rs.map (prW n))), none, some (.int r.1), some (rdD n r.2)], by simp [prW], by
        have ar := asI_rd n r.2
        have rm := (lk_ n r.2).2.2.2.1
        generalize rdF n r.2 = rf at *
        generalize rdD n r.2 = rd at *
        simp [ar, rm]⟩) fun r _ => clean_int _
  have em : ((rs.filter (inQW Q)).map (·.2.mo)).map D.int = (rs.filter (inQW Q)).map fun r => D.int r.2.mo := by simp
  have im := intsD_map ((rs.filter (inQW Q)).map (·.2.mo))
  rw [em] at im
  have emv : momV Q rs = Q.mo :: (rs.filter (inQW Q)).map (·.2.mo) := rfl
  have lm : (momV Q rs).length ≤ 1000 := by simp [momV]; omega
  have ls : (srt (momV Q rs)).length ≤ 1000 := Nat.le_trans (nodup_le ((srt_pw (xs := momV Q rs)).imp fun {a b} h => by omega) fun j hj => mem_srt.mp hj) lm
  have m1 : CMulE 2 (crd n Q.sh) := mul64 (by omega) (by omega)
  have m2 : CMulE (2 * crd n Q.sh) ((srt (momV Q rs)).length : Int) := mul64 (by omega) (by omega)
  have l1 : ((rs.filter (inQW Q)).map fun r => D.int r.2.mo).length ≤ sizeLine := by rw [sizeLine_eq]; simp; omega
  have l2 : 1 + ((rs.filter (inQW Q)).map fun r => D.int r.2.mo).length ≤ sizeLine := by rw [sizeLine_eq]; simp; omega
  have l3 : ((rs.filter (inQW Q)).map fun r => D.int r.2.mo).length + 1 ≤ sizeLine := by omega
  unfold strV
  rw [emv] at lm ls m2 ⊢
  clear em emv
  generalize ((rs.filter (inQW Q)).map fun r => D.int r.2.mo) = ms at *
  generalize (rs.filter (inQW Q)).map (·.2.mo) = mv at *
  simp only [List.length_cons] at lm
  generalize crd n Q.sh = cr at *
  generalize rs.map (prW n) = xs at *
  generalize qF Q = qf at *
  generalize qD Q = qd at *
  simp [F_stretch, lc, aq, q1, q6, fl, l1, l2, l3, im, lm, m1, m2, pr]
end
end LibW
namespace Pg
open PySem PySem.Spec PyProof.Rows L2 Ev
def topS (i : Nat) : Stmt := PySem.Challenge.pw_sureplace_k51_how_bounds_are_widened.main.body.getD i (.Pass ⟨0, 0, 0, 0⟩)
theorem bt_abs : bootBuiltins "abs" = some (.builtin "abs") := by decide +kernel
theorem bt_all : bootBuiltins "all" = some (.builtin "all") := by decide +kernel
theorem bt_any : bootBuiltins "any" = some (.builtin "any") := by decide +kernel
theorem bt_int : bootBuiltins "int" = some (.type "int") := by decide +kernel
theorem bt_len : bootBuiltins "len" = some (.builtin "len") := by decide +kernel
theorem bt_list : bootBuiltins "list" = some (.type "list") := by decide +kernel
theorem bt_max : bootBuiltins "max" = some (.builtin "max") := by decide +kernel
theorem bt_sum : bootBuiltins "sum" = some (.builtin "sum") := by decide +kernel
theorem bt_tuple : bootBuiltins "tuple" = some (.type "tuple") := by decide +kernel
abbrev s__law_rows : Stmt := topS 49
theorem sc__law_rows : FnScope ["script", "count", "rows", "k", "cell"] ["script", "count"] (defScope s__law_rows) := ⟨rfl, rfl, rfl, by decide +kernel, rfl, by decide +kernel, by decide +kernel⟩
noncomputable abbrev F__law_rows : FA := Lib.F__law_rows
abbrev s_all_within : Stmt := topS 8
theorem sc_all_within : FnScope ["numbers", "low", "high", "number"] ["numbers", "low", "high"] (defScope s_all_within) := ⟨rfl, rfl, rfl, by decide +kernel, rfl, by decide +kernel, by decide +kernel⟩
noncomputable abbrev F_all_within : FA := Lib.F_all_within
abbrev s_Setting__init__ : Stmt := inClass (topS 47) 0
theorem sc_Setting__init__ : FnScope ["self", "dims", "speed", "drift", "per"] ["self", "dims", "speed", "drift", "per"] (defScope s_Setting__init__) := ⟨rfl, rfl, rfl, by decide +kernel, rfl, by decide +kernel, by decide +kernel⟩
noncomputable abbrev F_Setting__init__ : FA := Lib.F_Setting__init__
abbrev s__law_setting : Stmt := topS 53
theorem sc__law_setting : FnScope ["row", "dims"] ["row"] (defScope s__law_setting) := ⟨rfl, rfl, rfl, by decide +kernel, rfl, by decide +kernel, by decide +kernel⟩
noncomputable abbrev F__law_setting : FA := LibW.F__law_setting
abbrev s__law_digits : Stmt := topS 52
theorem sc__law_digits : FnScope ["row", "base", "count", "digits", "_law_turn"] ["row", "base", "count"] (defScope s__law_digits) := ⟨rfl, rfl, rfl, by decide +kernel, rfl, by decide +kernel, by decide +kernel⟩
noncomputable abbrev F__law_digits : FA := Lib.F__law_digits
abbrev s__law_velocity : Stmt := topS 54
theorem sc__law_velocity : FnScope ["setting", "row", "velocity", "_law_turn", "square", "digit", "number"] ["setting", "row"] (defScope s__law_velocity) := ⟨rfl, rfl, rfl, by decide +kernel, rfl, by decide +kernel, by decide +kernel⟩
noncomputable abbrev F__law_velocity : FA := Lib.F__law_velocity
abbrev s__law_way : Stmt := topS 56
theorem sc__law_way : FnScope ["setting", "rows", "place", "slow", "early", "late", "first", "second", "digit"] ["setting", "rows"] (defScope s__law_way) := ⟨rfl, rfl, rfl, by decide +kernel, rfl, by decide +kernel, by decide +kernel⟩
noncomputable abbrev F__law_way : FA := Lib.F__law_way
abbrev s__law_at : Stmt := topS 55
theorem sc__law_at : FnScope ["way", "moment", "place", "clock", "turn", "first", "second", "early", "late", "ticks", "going", "drifting", "there", "k"] ["way", "moment"] (defScope s__law_at) := ⟨rfl, rfl, rfl, by decide +kernel, rfl, by decide +kernel, by decide +kernel⟩
noncomputable abbrev F__law_at : FA := LibW.F__law_at
abbrev s_sides_within : Stmt := topS 9
theorem sc_sides_within : FnScope ["sides", "limit", "low", "high"] ["sides", "limit"] (defScope s_sides_within) := ⟨rfl, rfl, rfl, by decide +kernel, rfl, by decide +kernel, by decide +kernel⟩
noncomputable abbrev F_sides_within : FA := Lib.F_sides_within
abbrev s_Question__init__ : Stmt := inClass (topS 12) 0
theorem sc_Question__init__ : FnScope ["self", "moment", "root", "liars", "share", "earliest", "latest"] ["self", "moment", "root", "liars", "share", "earliest", "latest"] (defScope s_Question__init__) := ⟨rfl, rfl, rfl, by decide +kernel, rfl, by decide +kernel, by decide +kernel⟩
noncomputable abbrev F_Question__init__ : FA := Lib.F_Question__init__
abbrev s__law_question : Stmt := topS 66
theorem sc__law_question : FnScope ["way", "dims", "row", "liars", "moment", "there", "below", "above", "root", "share", "earliest", "latest", "k"] ["way", "dims", "row", "liars"] (defScope s__law_question) := ⟨rfl, rfl, rfl, by decide +kernel, rfl, by decide +kernel, by decide +kernel⟩
noncomputable abbrev F__law_question : FA := LibW.F__law_question
abbrev s__law_point : Stmt := topS 61
theorem sc__law_point : FnScope ["dims", "row", "digit"] ["dims", "row"] (defScope s__law_point) := ⟨rfl, rfl, rfl, by decide +kernel, rfl, by decide +kernel, by decide +kernel⟩
noncomputable abbrev F__law_point : FA := LibW.F__law_point
abbrev s__law_kind : Stmt := topS 62
theorem sc__law_kind : FnScope ["dims", "row", "names", "name", "rest", "direction", "boxes", "j", "corner", "digit", "number"] ["dims", "row"] (defScope s__law_kind) := ⟨rfl, rfl, rfl, by decide +kernel, rfl, by decide +kernel, by decide +kernel⟩
noncomputable abbrev F__law_kind : FA := LibW.F__law_kind
abbrev s__law_square : Stmt := topS 57
theorem sc__law_square : FnScope ["one", "two", "k"] ["one", "two"] (defScope s__law_square) := ⟨rfl, rfl, rfl, by decide +kernel, rfl, by decide +kernel, by decide +kernel⟩
noncomputable abbrev F__law_square : FA := Lib.F__law_square
abbrev s__law_piece : Stmt := topS 58
theorem sc__law_piece : FnScope ["place", "at", "to", "along", "way", "whole", "reached", "square", "k", "number"] ["place", "at", "to"] (defScope s__law_piece) := ⟨rfl, rfl, rfl, by decide +kernel, rfl, by decide +kernel, by decide +kernel⟩
noncomputable abbrev F__law_piece : FA := Lib.F__law_piece
abbrev s__law_root : Stmt := topS 50
theorem sc__law_root : FnScope ["number", "low", "high", "_law_turn", "half"] ["number"] (defScope s__law_root) := ⟨rfl, rfl, rfl, by decide +kernel, rfl, by decide +kernel, by decide +kernel⟩
noncomputable abbrev F__law_root : FA := LibW.F__law_root
abbrev s__law_up : Stmt := topS 51
theorem sc__law_up : FnScope ["number", "root"] ["number"] (defScope s__law_up) := ⟨rfl, rfl, rfl, by decide +kernel, rfl, by decide +kernel, by decide +kernel⟩
noncomputable abbrev F__law_up : FA := LibW.F__law_up
abbrev s__law_boxes : Stmt := topS 59
theorem sc__law_boxes : FnScope ["place", "boxes", "best", "box", "square", "k", "gap"] ["place", "boxes"] (defScope s__law_boxes) := ⟨rfl, rfl, rfl, by decide +kernel, rfl, by decide +kernel, by decide +kernel⟩
noncomputable abbrev F__law_boxes : FA := LibW.F__law_boxes
abbrev s__law_value : Stmt := topS 60
theorem sc__law_value : FnScope ["kind", "place", "clock", "value", "low", "high", "square", "other", "more", "k"] ["kind", "place", "clock"] (defScope s__law_value) := ⟨rfl, rfl, rfl, by decide +kernel, rfl, by decide +kernel, by decide +kernel⟩
noncomputable abbrev F__law_value : FA := LibW.F__law_value
abbrev s__law_moved : Stmt := topS 63
theorem sc__law_moved : FnScope ["kind", "shift", "boxes", "box", "points", "k", "point"] ["kind", "shift"] (defScope s__law_moved) := ⟨rfl, rfl, rfl, by decide +kernel, rfl, by decide +kernel, by decide +kernel⟩
noncomputable abbrev F__law_moved : FA := Lib.F__law_moved
abbrev s_is_name : Stmt := topS 37
theorem sc_is_name : FnScope ["text", "sign"] ["text"] (defScope s_is_name) := ⟨rfl, rfl, rfl, by decide +kernel, rfl, by decide +kernel, by decide +kernel⟩
noncomputable abbrev F_is_name : FA := Lib.F_is_name
abbrev s__direction_holds : Stmt := topS 42
theorem sc__direction_holds : FnScope ["direction", "number"] ["direction"] (defScope s__direction_holds) := ⟨rfl, rfl, rfl, by decide +kernel, rfl, by decide +kernel, by decide +kernel⟩
noncomputable abbrev F__direction_holds : FA := Lib.F__direction_holds
abbrev s__boxes_hold : Stmt := topS 43
theorem sc__boxes_hold : FnScope ["boxes", "box"] ["boxes"] (defScope s__boxes_hold) := ⟨rfl, rfl, rfl, by decide +kernel, rfl, by decide +kernel, by decide +kernel⟩
noncomputable abbrev F__boxes_hold : FA := Lib.F__boxes_hold
abbrev s__kind_holds : Stmt := topS 44
theorem sc__kind_holds : FnScope ["kind", "point"] ["kind"] (defScope s__kind_holds) := ⟨rfl, rfl, rfl, by decide +kernel, rfl, by decide +kernel, by decide +kernel⟩
noncomputable abbrev F__kind_holds : FA := Lib.F__kind_holds
abbrev s_Reading__init__ : Stmt := inClass (topS 45) 0
theorem sc_Reading__init__ : FnScope ["self", "source", "moment", "kind", "low", "high", "late", "near"] ["self", "source", "moment", "kind", "low", "high", "late", "near"] (defScope s_Reading__init__) := ⟨rfl, rfl, rfl, by decide +kernel, rfl, by decide +kernel, by decide +kernel⟩
noncomputable abbrev F_Reading__init__ : FA := Lib.F_Reading__init__
abbrev s__law_reading : Stmt := topS 64
theorem sc__law_reading : FnScope ["way", "dims", "name", "row", "lies", "kind", "moment", "late", "taken", "near", "shift", "there", "low", "high"] ["way", "dims", "name", "row", "lies"] (defScope s__law_reading) := ⟨rfl, rfl, rfl, by decide +kernel, rfl, by decide +kernel, by decide +kernel⟩
noncomputable abbrev F__law_reading : FA := LibW.F__law_reading
abbrev s__law_readings : Stmt := topS 65
theorem sc__law_readings : FnScope ["way", "dims", "rows", "many", "names", "liars", "found", "k", "name"] ["way", "dims", "rows", "many", "names", "liars"] (defScope s__law_readings) := ⟨rfl, rfl, rfl, by decide +kernel, rfl, by decide +kernel, by decide +kernel⟩
noncomputable abbrev F__law_readings : FA := LibW.F__law_readings
abbrev s_half_side : Stmt := topS 17
theorem sc_half_side : FnScope ["side", "low", "high"] ["side"] (defScope s_half_side) := ⟨rfl, rfl, rfl, by decide +kernel, rfl, by decide +kernel, by decide +kernel⟩
noncomputable abbrev F_half_side : FA := Lib.F_half_side
abbrev s_root_up : Stmt := topS 15
theorem sc_root_up : FnScope ["number", "root"] ["number"] (defScope s_root_up) := ⟨rfl, rfl, rfl, by decide +kernel, rfl, by decide +kernel, by decide +kernel⟩
noncomputable abbrev F_root_up : FA := Lib.F_root_up
abbrev s_cell_radius : Stmt := topS 30
theorem sc_cell_radius : FnScope ["setting", "share", "half"] ["setting", "share"] (defScope s_cell_radius) := ⟨rfl, rfl, rfl, by decide +kernel, rfl, by decide +kernel, by decide +kernel⟩
noncomputable abbrev F_cell_radius : FA := Lib.F_cell_radius
abbrev s_moved : Stmt := topS 28
theorem sc_moved : FnScope ["kind"] ["kind"] (defScope s_moved) := ⟨rfl, rfl, rfl, by decide +kernel, rfl, by decide +kernel, by decide +kernel⟩
noncomputable abbrev F_moved : FA := Lib.F_moved
abbrev s_dot : Stmt := topS 21
theorem sc_dot : FnScope ["one", "two", "number", "other"] ["one", "two"] (defScope s_dot) := ⟨rfl, rfl, rfl, by decide +kernel, rfl, by decide +kernel, by decide +kernel⟩
noncomputable abbrev F_dot : FA := Lib.F_dot
abbrev s_rate : Stmt := topS 26
theorem sc_rate : FnScope ["kind"] ["kind"] (defScope s_rate) := ⟨rfl, rfl, rfl, by decide +kernel, rfl, by decide +kernel, by decide +kernel⟩
noncomputable abbrev F_rate : FA := Lib.F_rate
abbrev s_quotient_up : Stmt := topS 19
theorem sc_quotient_up : FnScope ["number", "by"] ["number", "by"] (defScope s_quotient_up) := ⟨rfl, rfl, rfl, by decide +kernel, rfl, by decide +kernel, by decide +kernel⟩
noncomputable abbrev F_quotient_up : FA := Lib.F_quotient_up
abbrev s_reach : Stmt := topS 23
theorem sc_reach : FnScope ["setting", "ticks"] ["setting", "ticks"] (defScope s_reach) := ⟨rfl, rfl, rfl, by decide +kernel, rfl, by decide +kernel, by decide +kernel⟩
noncomputable abbrev F_reach : FA := Lib.F_reach
abbrev s_clock_rate : Stmt := topS 27
theorem sc_clock_rate : FnScope ["kind"] ["kind"] (defScope s_clock_rate) := ⟨rfl, rfl, rfl, by decide +kernel, rfl, by decide +kernel, by decide +kernel⟩
noncomputable abbrev F_clock_rate : FA := Lib.F_clock_rate
abbrev s_slip : Stmt := topS 24
theorem sc_slip : FnScope ["setting", "ticks"] ["setting", "ticks"] (defScope s_slip) := ⟨rfl, rfl, rfl, by decide +kernel, rfl, by decide +kernel, by decide +kernel⟩
noncomputable abbrev F_slip : FA := Lib.F_slip
abbrev s_spread : Stmt := topS 32
theorem sc_spread : FnScope ["setting", "share", "kind"] ["setting", "share", "kind"] (defScope s_spread) := ⟨rfl, rfl, rfl, by decide +kernel, rfl, by decide +kernel, by decide +kernel⟩
noncomputable abbrev F_spread : FA := Lib.F_spread
abbrev s_margin : Stmt := topS 33
theorem sc_margin : FnScope ["setting", "question", "reading", "kind", "late"] ["setting", "question", "reading"] (defScope s_margin) := ⟨rfl, rfl, rfl, by decide +kernel, rfl, by decide +kernel, by decide +kernel⟩
noncomputable abbrev F_margin : FA := Lib.F_margin
abbrev s_asked : Stmt := topS 13
theorem sc_asked : FnScope ["question", "readings", "number", "reading"] ["question", "readings"] (defScope s_asked) := ⟨rfl, rfl, rfl, by decide +kernel, rfl, by decide +kernel, by decide +kernel⟩
noncomputable abbrev F_asked : FA := Lib.F_asked
abbrev s_stretch : Stmt := topS 31
theorem sc_stretch : FnScope ["setting", "question", "readings", "moments", "number", "reading"] ["setting", "question", "readings"] (defScope s_stretch) := ⟨rfl, rfl, rfl, by decide +kernel, rfl, by decide +kernel, by decide +kernel⟩
noncomputable abbrev F_stretch : FA := LibW.F_stretch
abbrev s_Reading__eq__ : Stmt := inClass (topS 45) 1
theorem sc_Reading__eq__ : FnScope ["self", "other"] ["self", "other"] (defScope s_Reading__eq__) := ⟨rfl, rfl, rfl, by decide +kernel, rfl, by decide +kernel, by decide +kernel⟩
noncomputable def F_Reading__eq__ : FA := fnP 2 (sRet (mAnd (mIsC 1 (mVar 1)) (mAnd (mBin fEq (mFld "source" (mVar 0)) (mFld "source" (mVar 1))) (mAnd (mBin fEq (mFld "moment" (mVar 0)) (mFld "moment" (mVar 1))) (mAnd (mBin fEq (mFld "kind" (mVar 0)) (mFld "kind" (mVar 1))) (mAnd (mBin fEq (mFld "low" (mVar 0)) (mFld "low" (mVar 1))) (mAnd (mBin fEq (mFld "high" (mVar 0)) (mFld "high" (mVar 1))) (mAnd (mBin fEq (mFld "late" (mVar 0)) (mFld "late" (mVar 1))) (mBin fEq (mFld "near" (mVar 0)) (mFld "near" (mVar 1)))))))))))
abbrev s_law : Stmt := topS 67
theorem sc_law : FnScope ["script", "rows", "setting", "way", "dims", "question", "readings", "half", "radius", "moments", "number", "reading", "kind", "due", "inside", "kept"] ["script"] (defScope s_law) := ⟨rfl, rfl, rfl, by decide +kernel, rfl, by decide +kernel, by decide +kernel⟩
noncomputable abbrev B_law_1 : SM := (sSeq (sAsg (mFld "kind" (mVar 11)) (gNm 12))
  (sSeq (sAsg (mBin fAdd (mBin fMul (mFn 1 F_moved (aCons (mVar 12) aNil)) (mFld "near" (mVar 11))) (mBin fMul (mFn 1 F_rate (aCons (mVar 12) aNil)) (mFn 2 F_reach (aCons (mVar 2) (aCons (mFld "late" (mVar 11)) aNil))))) (gNm 13))
  (sSeq (sAsg (mBin fAdd (mBin fAdd (mVar 13) (mBin fMul (mFn 1 F_clock_rate (aCons (mVar 12) aNil)) (mFn 2 F_slip (aCons (mVar 2) (aCons (mFld "late" (mVar 11)) aNil))))) (mBin fMul (mFn 1 F_rate (aCons (mVar 12) aNil)) (mBin fAdd (mBin fMul (mCst (.int 2)) (mVar 8)) (mCst (.int 2))))) (gNm 13))
  (sSeq (sIf (mB (mBin fNe (mFn 3 F_margin (aCons (mVar 2) (aCons (mVar 5) (aCons (mVar 11) aNil)))) (mBin fAdd (mVar 13) (mBin fMul (mFn 1 F_clock_rate (aCons (mVar 12) aNil)) (mFld "share" (mVar 5)))))) (sRet (mCst (.bl false))) sNil)
  (sSeq (sAsg (mCh2 fLe fLe (mFld "earliest" (mVar 5)) (mFld "moment" (mVar 11)) (mFld "latest" (mVar 5))) (gNm 14))
  (sIf (tmAnd (mTru (mVar 14)) (mB (mBin (fIn true) (mFld "moment" (mVar 11)) (mVar 9)))) (sExp (mBm tyL lAppend (mVar 9) (aCons (mFld "moment" (mVar 11)) aNil))) sNil))))))
noncomputable def T_law_10 : SM := (sRet (mAnd (mBin fEq (mFn 3 F_stretch (aCons (mVar 2) (aCons (mVar 5) (aCons (mVar 6) aNil)))) (mBin fMul (mBin fMul (mCst (.int 2)) (mCall bLen (aCons (mVar 9) aNil))) (mVar 8))) (mBin (sameL (own1 1 F_Reading__eq__) true) (mVar 6) (mVar 15))))
noncomputable def T_law_9 : SM := (sSeq (sAsg (mCall (bList false) (aCons (mVar 6) aNil)) (gNm 15))
  T_law_10)
noncomputable def T_law_8 : SM := (sSeq (sAsg (mLst true (aCons (mFld "moment" (mVar 5)) aNil)) (gNm 9))
  (sSeq (sFor (iAny (mVar 6)) (gTp 2 (gsCons (gNm 10) (gsCons (gNm 11) gsNil))) B_law_1)
  T_law_9))
noncomputable def T_law_7 : SM := (sSeq (sIf (mB (mBin fNe (mFn 2 F_cell_radius (aCons (mVar 2) (aCons (mFld "share" (mVar 5)) aNil))) (mVar 8))) (sRet (mCst (.bl false))) sNil)
  T_law_8)
noncomputable def T_law_6 : SM := (sSeq (sAsg (mFn 1 F__law_up (aCons (mBin fMul (mBin fMul (mVar 4) (mVar 7)) (mVar 7)) aNil)) (gNm 8))
  T_law_7)
noncomputable def T_law_5 : SM := (sSeq (sAsg (mBin fDiv (mBin fAdd (mFld "share" (mVar 5)) (mCst (.int 1))) (mCst (.int 2))) (gNm 7))
  T_law_6)
noncomputable def T_law_4 : SM := (sSeq (sAsg (mFn 6 F__law_readings (aCons (mVar 3) (aCons (mVar 4) (aCons (mSl (mVar 1) (pYes (mCst (.int 6))) (pYes (mCst (.int 12)))) (aCons (mBin fMod (mCall bInt (aCons (mBin fDiv (mBin fIx (mVar 1) (mCst (.int 5))) (mCst (.int 3))) aNil)) (mCst (.int 7))) (aCons (mLst false (aCons (mCst (.str "a")) (aCons (mCst (.str "b")) (aCons (mCst (.str "c-1")) aNil)))) (aCons (mLst false (aCons (mCst (.str "b")) aNil)) aNil))))))) (gNm 6))
  T_law_5)
noncomputable def T_law_3 : SM := (sSeq (sIf (mB (mBin fEq (mBin fMod (mBin fDiv (mBin fIx (mVar 1) (mCst (.int 0))) (mCst (.int 7))) (mCst (.int 3))) (mCst (.int 1)))) (sAsg (mMkN 2 2 4 gApp F_Question__init__ (aCons (mFld "moment" (mVar 5)) (aCons (mFld "root" (mVar 5)) aNil)) (aCons (mCst (.int 1)) (aCons (mBin fAdd (mCst (.int 1)) (mBin fMod (mCall bInt (aCons (mBin fIx (mVar 1) (mCst (.int 5))) aNil)) (mCst (.int 1000000)))) (aCons (mFld "earliest" (mVar 5)) (aCons (mFld "latest" (mVar 5)) aNil))))) (gNm 5)) sNil)
  T_law_4)
noncomputable def T_law_2 : SM := (sSeq (sAsg (mFn 4 F__law_question (aCons (mVar 3) (aCons (mVar 4) (aCons (mBin fIx (mVar 1) (mCst (.int 4))) (aCons (mBin fMod (mCall bInt (aCons (mBin fDiv (mBin fIx (mVar 1) (mCst (.int 0))) (mCst (.int 200))) aNil)) (mCst (.int 3))) aNil))))) (gNm 5))
  T_law_3)
noncomputable def T_law_1 : SM := (sSeq (sAsg (mFn 2 F__law_way (aCons (mVar 2) (aCons (mSl (mVar 1) (pYes (mCst (.int 1))) (pYes (mCst (.int 4)))) aNil))) (gNm 3))
  (sSeq (sAsg (mFld "dims" (mVar 2)) (gNm 4))
  T_law_2))
noncomputable def F_law : FA := fnP 16 (sSeq (sAsg (mFn 2 F__law_rows (aCons (mVar 0) (aCons (mCst (.int 12)) aNil))) (gNm 1))
  (sSeq (sAsg (mFn 1 F__law_setting (aCons (mBin fIx (mVar 1) (mCst (.int 0))) aNil)) (gNm 2))
  T_law_1))
noncomputable abbrev H_law_9 (T : SM) : SM := (sSeq (sAsg (mCall (bList false) (aCons (mVar 6) aNil)) (gNm 15))
  T)
theorem T_law_9_eq : T_law_9 = H_law_9 T_law_10 := rfl
noncomputable abbrev H_law_8 (T : SM) : SM := (sSeq (sAsg (mLst true (aCons (mFld "moment" (mVar 5)) aNil)) (gNm 9))
  (sSeq (sFor (iAny (mVar 6)) (gTp 2 (gsCons (gNm 10) (gsCons (gNm 11) gsNil))) B_law_1)
  T))
theorem T_law_8_eq : T_law_8 = H_law_8 T_law_9 := rfl
noncomputable abbrev H_law_7 (T : SM) : SM := (sSeq (sIf (mB (mBin fNe (mFn 2 F_cell_radius (aCons (mVar 2) (aCons (mFld "share" (mVar 5)) aNil))) (mVar 8))) (sRet (mCst (.bl false))) sNil)
  T)
theorem T_law_7_eq : T_law_7 = H_law_7 T_law_8 := rfl
noncomputable abbrev H_law_6 (T : SM) : SM := (sSeq (sAsg (mFn 1 F__law_up (aCons (mBin fMul (mBin fMul (mVar 4) (mVar 7)) (mVar 7)) aNil)) (gNm 8))
  T)
theorem T_law_6_eq : T_law_6 = H_law_6 T_law_7 := rfl
noncomputable abbrev H_law_5 (T : SM) : SM := (sSeq (sAsg (mBin fDiv (mBin fAdd (mFld "share" (mVar 5)) (mCst (.int 1))) (mCst (.int 2))) (gNm 7))
  T)
theorem T_law_5_eq : T_law_5 = H_law_5 T_law_6 := rfl
noncomputable abbrev H_law_4 (T : SM) : SM := (sSeq (sAsg (mFn 6 F__law_readings (aCons (mVar 3) (aCons (mVar 4) (aCons (mSl (mVar 1) (pYes (mCst (.int 6))) (pYes (mCst (.int 12)))) (aCons (mBin fMod (mCall bInt (aCons (mBin fDiv (mBin fIx (mVar 1) (mCst (.int 5))) (mCst (.int 3))) aNil)) (mCst (.int 7))) (aCons (mLst false (aCons (mCst (.str "a")) (aCons (mCst (.str "b")) (aCons (mCst (.str "c-1")) aNil)))) (aCons (mLst false (aCons (mCst (.str "b")) aNil)) aNil))))))) (gNm 6))
  T)
theorem T_law_4_eq : T_law_4 = H_law_4 T_law_5 := rfl
noncomputable abbrev H_law_3 (T : SM) : SM := (sSeq (sIf (mB (mBin fEq (mBin fMod (mBin fDiv (mBin fIx (mVar 1) (mCst (.int 0))) (mCst (.int 7))) (mCst (.int 3))) (mCst (.int 1)))) (sAsg (mMkN 2 2 4 gApp F_Question__init__ (aCons (mFld "moment" (mVar 5)) (aCons (mFld "root" (mVar 5)) aNil)) (aCons (mCst (.int 1)) (aCons (mBin fAdd (mCst (.int 1)) (mBin fMod (mCall bInt (aCons (mBin fIx (mVar 1) (mCst (.int 5))) aNil)) (mCst (.int 1000000)))) (aCons (mFld "earliest" (mVar 5)) (aCons (mFld "latest" (mVar 5)) aNil))))) (gNm 5)) sNil)
  T)
theorem T_law_3_eq : T_law_3 = H_law_3 T_law_4 := rfl
noncomputable abbrev H_law_2 (T : SM) : SM := (sSeq (sAsg (mFn 4 F__law_question (aCons (mVar 3) (aCons (mVar 4) (aCons (mBin fIx (mVar 1) (mCst (.int 4))) (aCons (mBin fMod (mCall bInt (aCons (mBin fDiv (mBin fIx (mVar 1) (mCst (.int 0))) (mCst (.int 200))) aNil)) (mCst (.int 3))) aNil))))) (gNm 5))
  T)
theorem T_law_2_eq : T_law_2 = H_law_2 T_law_3 := rfl
noncomputable abbrev H_law_1 (T : SM) : SM := (sSeq (sAsg (mFn 2 F__law_way (aCons (mVar 2) (aCons (mSl (mVar 1) (pYes (mCst (.int 1))) (pYes (mCst (.int 4)))) aNil))) (gNm 3))
  (sSeq (sAsg (mFld "dims" (mVar 2)) (gNm 4))
  T))
theorem T_law_1_eq : T_law_1 = H_law_1 T_law_2 := rfl
noncomputable abbrev H_law_0 (T : SM) : SM := (sSeq (sAsg (mFn 2 F__law_rows (aCons (mVar 0) (aCons (mCst (.int 12)) aNil))) (gNm 1))
  (sSeq (sAsg (mFn 1 F__law_setting (aCons (mBin fIx (mVar 1) (mCst (.int 0))) aNil)) (gNm 2))
  T))
theorem F_law_eq : F_law = fnP 16 (H_law_0 T_law_1) := rfl
section
variable {P : Program} {w : World} {K : PySem.W.Frag} {mg : Str → Option Value} {base : Heap} {cA : Nat → Addr}
theorem passE {X : Cx} {E : XK} : Passes CX0 X E := fun _ _ _ _ _ _ _ h => h.elim
abbrev gg (K : PySem.W.Frag) (cA : Nat → Addr) : G := ⟨K, cA, fun _ => 0⟩
set_option maxHeartbeats 4000000 in
theorem ok__law_rows {f : Addr} {fd : FuncData} (F : Fun K "_law_rows" "_law_rows" s__law_rows f fd) (z_int : mg "int" = none) (z_len : mg "len" = none) (z_range : mg "range" = none) : FnOk P w K mg base CX0 1 f fd ["script", "count"] (spF (gg K cA) 2 F__law_rows) := by
  refine Fn0 F sc__law_rows (fun hl h => fnP_ends (N := 5) hl h) fun cdv A outer s H E hr => ?_
  have nd := sc__law_rows.nd
  exact (.cons (.set (i := 2) (.lst true .nil) nd rfl (by first | exact Or.inl rfl | exact Or.inr rfl) rfl (Or.inl rfl))
  (.cons (.for_ PassesOwn.never rfl (.range1 z_range (.cons (.var (i := 1) rfl rfl (by first | exact Or.inl rfl | exact Or.inr (Or.inl rfl) | exact Or.inr (Or.inr rfl)) (by decide) (by decide)) .nil rfl) (by rfl) (by rfl)) (.name nd rfl (by first | exact Or.inl rfl | exact Or.inr rfl) (by first | exact Or.inl rfl | exact Or.inr rfl)) (.cons (.set (i := 4) .int nd rfl (by first | exact Or.inl rfl | exact Or.inr rfl) rfl (Or.inl rfl))
  (.cons (.if_ (.cmp ok_gt (.callB (cv_len rfl) z_len (.cons (.var (i := 0) rfl rfl (by first | exact Or.inl rfl | exact Or.inr (Or.inl rfl) | exact Or.inr (Or.inr rfl)) (by decide) (by decide)) .nil rfl) (by rfl) bt_len (by decide) (by decide) rfl rfl) .int rfl) (.one (.set (i := 4) (.callT cv_int z_int (.cons (.ix rfl (.var (i := 0) rfl rfl (by first | exact Or.inl rfl | exact Or.inr (Or.inl rfl) | exact Or.inr (Or.inr rfl)) (by decide) (by decide)) (.bin ok_mod (.callT cv_int z_int (.cons (.var (i := 3) rfl rfl (by first | exact Or.inl rfl | exact Or.inr (Or.inl rfl) | exact Or.inr (Or.inr rfl)) (by decide) (by decide)) .nil rfl) (by rfl) bt_int (by decide) (by decide) rfl rfl) (.callB (cv_len rfl) z_len (.cons (.var (i := 0) rfl rfl (by first | exact Or.inl rfl | exact Or.inr (Or.inl rfl) | exact Or.inr (Or.inr rfl)) (by decide) (by decide)) .nil rfl) (by rfl) bt_len (by decide) (by decide) rfl rfl)) (fun _ _ => rfl)) .nil rfl) (by rfl) bt_int (by decide) (by decide) rfl rfl) nd rfl (by first | exact Or.inl rfl | exact Or.inr rfl) rfl (Or.inl rfl))) .nil)
  (.cons (.if_ (.cmp ok_lt (.var (i := 4) rfl rfl (by first | exact Or.inl rfl | exact Or.inr (Or.inl rfl) | exact Or.inr (Or.inr rfl)) (by decide) (by decide)) .int rfl) (.one (.set (i := 4) (.bin ok_sub .int (.bin ok_mul .int (.var (i := 4) rfl rfl (by first | exact Or.inl rfl | exact Or.inr (Or.inl rfl) | exact Or.inr (Or.inr rfl)) (by decide) (by decide)))) nd rfl (by first | exact Or.inl rfl | exact Or.inr rfl) rfl (Or.inl rfl))) .nil)
  (.cons (.if_ (WV.tv (.or_ (.cmp ok_ge (.var (i := 3) rfl rfl (by first | exact Or.inl rfl | exact Or.inr (Or.inl rfl) | exact Or.inr (Or.inr rfl)) (by decide) (by decide)) (.callB (cv_len rfl) z_len (.cons (.var (i := 0) rfl rfl (by first | exact Or.inl rfl | exact Or.inr (Or.inl rfl) | exact Or.inr (Or.inr rfl)) (by decide) (by decide)) .nil rfl) (by rfl) bt_len (by decide) (by decide) rfl rfl) rfl) (.or1 (.cmp ok_lt (.var (i := 4) rfl rfl (by first | exact Or.inl rfl | exact Or.inr (Or.inl rfl) | exact Or.inr (Or.inr rfl)) (by decide) (by decide)) .int rfl)))) (.cons (.set (i := 4) (.bin ok_mod (.callT cv_int z_int (.cons (.bin (ok_add rfl) (.bin ok_mul (.bin (ok_add rfl) (.bin (ok_add rfl) (.var (i := 4) rfl rfl (by first | exact Or.inl rfl | exact Or.inr (Or.inl rfl) | exact Or.inr (Or.inr rfl)) (by decide) (by decide)) (.bin ok_mul .int (.var (i := 3) rfl rfl (by first | exact Or.inl rfl | exact Or.inr (Or.inl rfl) | exact Or.inr (Or.inr rfl)) (by decide) (by decide)))) .int) .int) (.bin ok_mul (.bin ok_mul (.var (i := 3) rfl rfl (by first | exact Or.inl rfl | exact Or.inr (Or.inl rfl) | exact Or.inr (Or.inr rfl)) (by decide) (by decide)) (.var (i := 3) rfl rfl (by first | exact Or.inl rfl | exact Or.inr (Or.inl rfl) | exact Or.inr (Or.inr rfl)) (by decide) (by decide))) .int)) .nil rfl) (by rfl) bt_int (by decide) (by decide) rfl rfl) .int) nd rfl (by first | exact Or.inl rfl | exact Or.inr rfl) rfl (Or.inl rfl))
  (.one (.set (i := 4) (.bin ok_mod (.callT cv_int z_int (.cons (.bin ok_mul (.bin (ok_add rfl) (.bin (ok_add rfl) (.var (i := 4) rfl rfl (by first | exact Or.inl rfl | exact Or.inr (Or.inl rfl) | exact Or.inr (Or.inr rfl)) (by decide) (by decide)) (.bin ok_mul .int (.var (i := 3) rfl rfl (by first | exact Or.inl rfl | exact Or.inr (Or.inl rfl) | exact Or.inr (Or.inr rfl)) (by decide) (by decide)))) .int) .int) .nil rfl) (by rfl) bt_int (by decide) (by decide) rfl rfl) .int) nd rfl (by first | exact Or.inl rfl | exact Or.inr rfl) rfl (Or.inl rfl)))) .nil)
  (.one (.exp (.bm rfl PySem.F.plainAttrs_list PySem.F.slot_list_append PySem.F.type_list_append bm_append (.var (i := 2) rfl rfl (by first | exact Or.inl rfl | exact Or.inr (Or.inl rfl) | exact Or.inr (Or.inr rfl)) (by decide) (by decide)) (.cons (.var (i := 4) rfl rfl (by first | exact Or.inl rfl | exact Or.inr (Or.inl rfl) | exact Or.inr (Or.inr rfl)) (by decide) (by decide)) .nil rfl) rfl rfl rfl rfl rfl) rfl)))))) (fun _ => rfl))
  (.one (.ret (.var (i := 2) rfl rfl (by first | exact Or.inl rfl | exact Or.inr (Or.inl rfl) | exact Or.inr (Or.inr rfl)) (by decide) (by decide))))))
set_option maxHeartbeats 4000000 in
theorem ok_all_within {f : Addr} {fd : FuncData} (F : Fun K "all_within" "all_within" s_all_within f fd) (z_all : mg "all" = none) : FnOk P w K mg base CX0 1 f fd ["numbers", "low", "high"] (spF (gg K cA) 3 F_all_within) := by
  refine Fn0 F sc_all_within (fun hl h => fnP_ends (N := 4) hl h) fun cdv A outer s H E hr => ?_
  have nd := sc_all_within.nd
  exact (.one (.ret (.callB (cv_all rfl rfl) z_all (.cons (.lc false rfl nd (LCV.mk' (own := [("number", 3)]) (is := [3]) (by kernel_rfl) (.any rfl (.var (i := 0) rfl rfl (by first | exact Or.inl rfl | exact Or.inr (Or.inl rfl) | exact Or.inr (Or.inr rfl)) (by decide) (by decide))) (fun _ _ _ _ _ => (.name nd rfl (by first | exact Or.inl rfl | exact Or.inr rfl) (by first | exact Or.inl rfl | exact Or.inr rfl))) (fun _ _ _ _ _ => .nil) (fun _ _ _ _ _ => (.ch2 ok_le ok_le (.var (i := 1) rfl rfl (by first | exact Or.inl rfl | exact Or.inr (Or.inl rfl) | exact Or.inr (Or.inr rfl)) (by decide) (by decide)) (.var (i := 3) rfl rfl (by first | exact Or.inl rfl | exact Or.inr (Or.inl rfl) | exact Or.inr (Or.inr rfl)) (by decide) (by decide)) (.var (i := 2) rfl rfl (by first | exact Or.inl rfl | exact Or.inr (Or.inl rfl) | exact Or.inr (Or.inr rfl)) (by decide) (by decide)) rfl)) (by decide)) (fun _ => rfl)) .nil rfl) (by rfl) bt_all (by decide) (by decide) rfl rfl)))
set_option maxHeartbeats 4000000 in
theorem ok_Setting__init__ {f : Addr} {fd : FuncData} (F : Fun K "__init__" "Setting.__init__" s_Setting__init__ f fd) (T : ∀ c, ClsT K (cA c) ["dims", "root", "moment", "latest", "earliest", "share", "kind", "near", "late", "speed", "drift", "per", "liars", "source", "low", "high"]) {f_all_within : Addr} {fd_all_within : FuncData} (o_all_within : FnOk P w K mg base CX0 1 f_all_within fd_all_within ["numbers", "low", "high"] (spF (gg K cA) 3 F_all_within)) (b_all_within : Binds K fd_all_within ["numbers", "low", "high"] []) (m_all_within : mg "all_within" = some (.ref f_all_within)) (k_all_within : PySem.W.keepIn K (.ref f_all_within) = true) {t_LIMIT : Tok} (g_LIMIT : mg "LIMIT" = some (.int 1000000000000 t_LIMIT)) : FnOk P w K mg base CX0 2 f fd ["self", "dims", "speed", "drift", "per"] (spF (gg K cA) 5 F_Setting__init__) := by
  refine Fn0 F sc_Setting__init__ (fun hl h => fnR_ends (N := 5) h) fun cdv A outer s H E hr => ?_
  have nd := sc_Setting__init__.nd
  exact (.cons (.if_ (.not_ (.ch2 ok_le ok_le .int (.var (i := 1) rfl rfl (by first | exact Or.inl rfl | exact Or.inr (Or.inl rfl) | exact Or.inr (Or.inr rfl)) (by decide) (by decide)) .int rfl)) (.one .no) .nil)
  (.cons (.if_ (.not_ (.tru rfl (.call o_all_within (hr.mono (by decide)) m_all_within k_all_within b_all_within passE (.cons (.tup (.cons (.var (i := 2) rfl rfl (by first | exact Or.inl rfl | exact Or.inr (Or.inl rfl) | exact Or.inr (Or.inr rfl)) (by decide) (by decide)) (.cons (.var (i := 3) rfl rfl (by first | exact Or.inl rfl | exact Or.inr (Or.inl rfl) | exact Or.inr (Or.inr rfl)) (by decide) (by decide)) .nil rfl) rfl)) (.cons .int (.cons (.glb (d := (.int 1000000000000)) (v := (.int 1000000000000)) (fun _ _ => by simp [rep]) g_LIMIT ⟨_, rfl⟩ (by rfl) (by decide)) .nil rfl) rfl) rfl) (by rfl) (by decide) rfl rfl) (fun _ => rfl))) (.one .no) .nil)
  (.cons (.if_ (.not_ (.ch2 ok_le ok_le .int (.var (i := 4) rfl rfl (by first | exact Or.inl rfl | exact Or.inr (Or.inl rfl) | exact Or.inr (Or.inr rfl)) (by decide) (by decide)) (.glb (d := (.int 1000000000000)) (v := (.int 1000000000000)) (fun _ _ => by simp [rep]) g_LIMIT ⟨_, rfl⟩ (by rfl) (by decide)) rfl)) (.one .no) .nil)
  (.cons (.put rfl (.of T (by simp)) (.var (i := 1) rfl rfl (by first | exact Or.inl rfl | exact Or.inr (Or.inl rfl) | exact Or.inr (Or.inr rfl)) (by decide) (by decide)) (.var (i := 0) rfl rfl (by first | exact Or.inl rfl | exact Or.inr (Or.inl rfl) | exact Or.inr (Or.inr rfl)) (by decide) (by decide)) rfl)
  (.cons (.put rfl (.of T (by simp)) (.var (i := 2) rfl rfl (by first | exact Or.inl rfl | exact Or.inr (Or.inl rfl) | exact Or.inr (Or.inr rfl)) (by decide) (by decide)) (.var (i := 0) rfl rfl (by first | exact Or.inl rfl | exact Or.inr (Or.inl rfl) | exact Or.inr (Or.inr rfl)) (by decide) (by decide)) rfl)
  (.cons (.put rfl (.of T (by simp)) (.var (i := 3) rfl rfl (by first | exact Or.inl rfl | exact Or.inr (Or.inl rfl) | exact Or.inr (Or.inr rfl)) (by decide) (by decide)) (.var (i := 0) rfl rfl (by first | exact Or.inl rfl | exact Or.inr (Or.inl rfl) | exact Or.inr (Or.inr rfl)) (by decide) (by decide)) rfl)
  (.one (.put rfl (.of T (by simp)) (.var (i := 4) rfl rfl (by first | exact Or.inl rfl | exact Or.inr (Or.inl rfl) | exact Or.inr (Or.inr rfl)) (by decide) (by decide)) (.var (i := 0) rfl rfl (by first | exact Or.inl rfl | exact Or.inr (Or.inl rfl) | exact Or.inr (Or.inr rfl)) (by decide) (by decide)) rfl))))))))
set_option maxHeartbeats 4000000 in
theorem ok__law_setting {f : Addr} {fd : FuncData} (F : Fun K "_law_setting" "_law_setting" s__law_setting f fd) (T : ∀ c, ClsT K (cA c) ["dims", "root", "moment", "latest", "earliest", "share", "kind", "near", "late", "speed", "drift", "per", "liars", "source", "low", "high"]) {f_Setting__init__ : Addr} {fd_Setting__init__ : FuncData} (o_Setting__init__ : FnOk P w K mg base CX0 2 f_Setting__init__ fd_Setting__init__ ["self", "dims", "speed", "drift", "per"] (spF (gg K cA) 5 F_Setting__init__)) (M_Setting : Mk K (cA 0) f_Setting__init__) (mC_Setting : mg "Setting" = some (.ref (cA 0))) (kb_Setting__init___2_3 : KBn K fd_Setting__init__ ["self", "dims", "speed", "drift", "per"] 2 ["speed", "drift", "per"] (fun us ws => us ++ ws) (fun vs zs => vs ++ zs)) (z_int : mg "int" = none) : FnOk P w K mg base CX0 4 f fd ["row"] (spF (gg K cA) 1 F__law_setting) := by
  refine Fn0 F sc__law_setting (fun hl h => fnP_ends (N := 2) hl h) fun cdv A outer s H E hr => ?_
  have nd := sc__law_setting.nd
  exact (.cons (.set (i := 1) (.bin (ok_add rfl) .int (.bin ok_mod (.callT cv_int z_int (.cons (.var (i := 0) rfl rfl (by first | exact Or.inl rfl | exact Or.inr (Or.inl rfl) | exact Or.inr (Or.inr rfl)) (by decide) (by decide)) .nil rfl) (by rfl) bt_int (by decide) (by decide) rfl rfl) .int)) nd rfl (by first | exact Or.inl rfl | exact Or.inr rfl) rfl (Or.inl rfl))
  (.one (.ret (.mkN (c := 0) M_Setting o_Setting__init__ (hr.mono (by decide)) mC_Setting kb_Setting__init___2_3 .app (fun xs ys h1 h2 => by rw [show (gApp xs ys).length = xs.length + ys.length from List.length_append, h1, h2]; rfl) passE (.cons (.var (i := 1) rfl rfl (by first | exact Or.inl rfl | exact Or.inr (Or.inl rfl) | exact Or.inr (Or.inr rfl)) (by decide) (by decide)) .nil rfl) (.cons (.bin ok_mod (.callT cv_int z_int (.cons (.bin ok_div (.var (i := 0) rfl rfl (by first | exact Or.inl rfl | exact Or.inr (Or.inl rfl) | exact Or.inr (Or.inr rfl)) (by decide) (by decide)) .int) .nil rfl) (by rfl) bt_int (by decide) (by decide) rfl rfl) .int) (.cons (.bin ok_mod (.callT cv_int z_int (.cons (.bin ok_div (.var (i := 0) rfl rfl (by first | exact Or.inl rfl | exact Or.inr (Or.inl rfl) | exact Or.inr (Or.inr rfl)) (by decide) (by decide)) .int) .nil rfl) (by rfl) bt_int (by decide) (by decide) rfl rfl) .int) (.cons (.bin (ok_add rfl) .int (.bin ok_mod (.callT cv_int z_int (.cons (.bin ok_div (.var (i := 0) rfl rfl (by first | exact Or.inl rfl | exact Or.inr (Or.inl rfl) | exact Or.inr (Or.inr rfl)) (by decide) (by decide)) .int) .nil rfl) (by rfl) bt_int (by decide) (by decide) rfl rfl) .int)) .nil))) (by rfl) rfl rfl (by decide) rfl rfl))))
set_option maxHeartbeats 4000000 in
theorem ok__law_digits {f : Addr} {fd : FuncData} (F : Fun K "_law_digits" "_law_digits" s__law_digits f fd) (z_int : mg "int" = none) (z_range : mg "range" = none) : FnOk P w K mg base CX0 1 f fd ["row", "base", "count"] (spF (gg K cA) 3 F__law_digits) := by
  refine Fn0 F sc__law_digits (fun hl h => fnP_ends (N := 5) hl h) fun cdv A outer s H E hr => ?_
  have nd := sc__law_digits.nd
  exact (.cons (.set (i := 3) (.lst true .nil) nd rfl (by first | exact Or.inl rfl | exact Or.inr rfl) rfl (Or.inl rfl))
  (.cons (.for_ PassesOwn.never rfl (.range1 z_range (.cons (.var (i := 2) rfl rfl (by first | exact Or.inl rfl | exact Or.inr (Or.inl rfl) | exact Or.inr (Or.inr rfl)) (by decide) (by decide)) .nil rfl) (by rfl) (by rfl)) (.name nd rfl (by first | exact Or.inl rfl | exact Or.inr rfl) (by first | exact Or.inl rfl | exact Or.inr rfl)) (.cons (.exp (.bm rfl PySem.F.plainAttrs_list PySem.F.slot_list_append PySem.F.type_list_append bm_append (.var (i := 3) rfl rfl (by first | exact Or.inl rfl | exact Or.inr (Or.inl rfl) | exact Or.inr (Or.inr rfl)) (by decide) (by decide)) (.cons (.bin ok_mod (.callT cv_int z_int (.cons (.var (i := 0) rfl rfl (by first | exact Or.inl rfl | exact Or.inr (Or.inl rfl) | exact Or.inr (Or.inr rfl)) (by decide) (by decide)) .nil rfl) (by rfl) bt_int (by decide) (by decide) rfl rfl) (.var (i := 1) rfl rfl (by first | exact Or.inl rfl | exact Or.inr (Or.inl rfl) | exact Or.inr (Or.inr rfl)) (by decide) (by decide))) .nil rfl) rfl rfl rfl rfl rfl) rfl)
  (.one (.set (i := 0) (.bin ok_div (.var (i := 0) rfl rfl (by first | exact Or.inl rfl | exact Or.inr (Or.inl rfl) | exact Or.inr (Or.inr rfl)) (by decide) (by decide)) (.var (i := 1) rfl rfl (by first | exact Or.inl rfl | exact Or.inr (Or.inl rfl) | exact Or.inr (Or.inr rfl)) (by decide) (by decide))) nd rfl (by first | exact Or.inl rfl | exact Or.inr rfl) rfl (Or.inl rfl)))) (fun _ => rfl))
  (.one (.ret (.var (i := 3) rfl rfl (by first | exact Or.inl rfl | exact Or.inr (Or.inl rfl) | exact Or.inr (Or.inr rfl)) (by decide) (by decide))))))
set_option maxHeartbeats 4000000 in
theorem ok__law_velocity {f : Addr} {fd : FuncData} (F : Fun K "_law_velocity" "_law_velocity" s__law_velocity f fd) (T : ∀ c, ClsT K (cA c) ["dims", "root", "moment", "latest", "earliest", "share", "kind", "near", "late", "speed", "drift", "per", "liars", "source", "low", "high"]) {f__law_digits : Addr} {fd__law_digits : FuncData} (o__law_digits : FnOk P w K mg base CX0 1 f__law_digits fd__law_digits ["row", "base", "count"] (spF (gg K cA) 3 F__law_digits)) (b__law_digits : Binds K fd__law_digits ["row", "base", "count"] []) (m__law_digits : mg "_law_digits" = some (.ref f__law_digits)) (k__law_digits : PySem.W.keepIn K (.ref f__law_digits) = true) (z_abs : mg "abs" = none) (z_int : mg "int" = none) (z_range : mg "range" = none) (z_sum : mg "sum" = none) : FnOk P w K mg base CX0 2 f fd ["setting", "row"] (spF (gg K cA) 2 F__law_velocity) := by
  refine Fn0 F sc__law_velocity (fun hl h => fnP_ends (N := 7) hl h) fun cdv A outer s H E hr => ?_
  have nd := sc__law_velocity.nd
  exact (.cons (.setLc (i := 2) false rfl nd (LCV.mk' (own := [("digit", 5)]) (is := [5]) (by kernel_rfl) (.any rfl (.call o__law_digits (hr.mono (by decide)) m__law_digits k__law_digits b__law_digits passE (.cons (.var (i := 1) rfl rfl (by first | exact Or.inl rfl | exact Or.inr (Or.inl rfl) | exact Or.inr (Or.inr rfl)) (by decide) (by decide)) (.cons .int (.cons (.fld rfl (.of T (by simp)) (.var (i := 0) rfl rfl (by first | exact Or.inl rfl | exact Or.inr (Or.inl rfl) | exact Or.inr (Or.inr rfl)) (by decide) (by decide)) rfl) .nil rfl) rfl) rfl) (by rfl) (by decide) rfl rfl)) (fun _ _ _ _ _ => (.name nd rfl (by first | exact Or.inl rfl | exact Or.inr rfl) (by first | exact Or.inl rfl | exact Or.inr rfl))) (fun _ _ _ _ _ => .nil) (fun _ _ _ _ _ => (.bin ok_sub (.var (i := 5) rfl rfl (by first | exact Or.inl rfl | exact Or.inr (Or.inl rfl) | exact Or.inr (Or.inr rfl)) (by decide) (by decide)) .int)) (by decide)) rfl rfl (sw_true rfl rfl rfl rfl) (fun _ => rfl))
  (.cons (.for_ PassesOwn.never rfl (.range1 z_range (.cons .int .nil rfl) (by rfl) (by rfl)) (.name nd rfl (by first | exact Or.inl rfl | exact Or.inr rfl) (by first | exact Or.inl rfl | exact Or.inr rfl)) (.cons (.set (i := 4) (.callB (cv_sum rfl rfl) z_sum (.cons (.lc false rfl nd (LCV.mk' (own := [("number", 6)]) (is := [6]) (by kernel_rfl) (.any rfl (.var (i := 2) rfl rfl (by first | exact Or.inl rfl | exact Or.inr (Or.inl rfl) | exact Or.inr (Or.inr rfl)) (by decide) (by decide))) (fun _ _ _ _ _ => (.name nd rfl (by first | exact Or.inl rfl | exact Or.inr rfl) (by first | exact Or.inl rfl | exact Or.inr rfl))) (fun _ _ _ _ _ => .nil) (fun _ _ _ _ _ => (.bin ok_mul (.var (i := 6) rfl rfl (by first | exact Or.inl rfl | exact Or.inr (Or.inl rfl) | exact Or.inr (Or.inr rfl)) (by decide) (by decide)) (.var (i := 6) rfl rfl (by first | exact Or.inl rfl | exact Or.inr (Or.inl rfl) | exact Or.inr (Or.inr rfl)) (by decide) (by decide)))) (by decide)) (fun _ => rfl)) .nil rfl) (by rfl) bt_sum (by decide) (by decide) rfl rfl) nd rfl (by first | exact Or.inl rfl | exact Or.inr rfl) rfl (Or.inl rfl))
  (.cons (.if_ (.cmp ok_le (.bin ok_mul (.bin ok_mul (.fld rfl (.of T (by simp)) (.var (i := 0) rfl rfl (by first | exact Or.inl rfl | exact Or.inr (Or.inl rfl) | exact Or.inr (Or.inr rfl)) (by decide) (by decide)) rfl) (.fld rfl (.of T (by simp)) (.var (i := 0) rfl rfl (by first | exact Or.inl rfl | exact Or.inr (Or.inl rfl) | exact Or.inr (Or.inr rfl)) (by decide) (by decide)) rfl)) (.var (i := 4) rfl rfl (by first | exact Or.inl rfl | exact Or.inr (Or.inl rfl) | exact Or.inr (Or.inr rfl)) (by decide) (by decide))) (.bin ok_mul (.fld rfl (.of T (by simp)) (.var (i := 0) rfl rfl (by first | exact Or.inl rfl | exact Or.inr (Or.inl rfl) | exact Or.inr (Or.inr rfl)) (by decide) (by decide)) rfl) (.fld rfl (.of T (by simp)) (.var (i := 0) rfl rfl (by first | exact Or.inl rfl | exact Or.inr (Or.inl rfl) | exact Or.inr (Or.inr rfl)) (by decide) (by decide)) rfl)) rfl) (.one .brk) .nil)
  (.one (.setLc (i := 2) false rfl nd (LCV.mk' (own := [("number", 6)]) (is := [6]) (by kernel_rfl) (.any rfl (.var (i := 2) rfl rfl (by first | exact Or.inl rfl | exact Or.inr (Or.inl rfl) | exact Or.inr (Or.inr rfl)) (by decide) (by decide))) (fun _ _ _ _ _ => (.name nd rfl (by first | exact Or.inl rfl | exact Or.inr rfl) (by first | exact Or.inl rfl | exact Or.inr rfl))) (fun _ _ _ _ _ => .nil) (fun _ _ _ _ _ => (.bin ok_mul (.bin ok_div (.callB cv_abs z_abs (.cons (.var (i := 6) rfl rfl (by first | exact Or.inl rfl | exact Or.inr (Or.inl rfl) | exact Or.inr (Or.inr rfl)) (by decide) (by decide)) .nil rfl) (by rfl) bt_abs (by decide) (by decide) rfl rfl) .int) (.bin ok_sub .int (.bin ok_mul .int (.callT cv_int z_int (.cons (.cmp ok_lt (.var (i := 6) rfl rfl (by first | exact Or.inl rfl | exact Or.inr (Or.inl rfl) | exact Or.inr (Or.inr rfl)) (by decide) (by decide)) .int rfl) .nil rfl) (by rfl) bt_int (by decide) (by decide) rfl rfl))))) (by decide)) rfl rfl (sw_true rfl rfl rfl rfl) (fun _ => rfl))))) (fun _ => rfl))
  (.one (.ret (.var (i := 2) rfl rfl (by first | exact Or.inl rfl | exact Or.inr (Or.inl rfl) | exact Or.inr (Or.inr rfl)) (by decide) (by decide))))))
set_option maxHeartbeats 4000000 in
theorem ok__law_way {f : Addr} {fd : FuncData} (F : Fun K "_law_way" "_law_way" s__law_way f fd) (T : ∀ c, ClsT K (cA c) ["dims", "root", "moment", "latest", "earliest", "share", "kind", "near", "late", "speed", "drift", "per", "liars", "source", "low", "high"]) {f__law_digits : Addr} {fd__law_digits : FuncData} (o__law_digits : FnOk P w K mg base CX0 1 f__law_digits fd__law_digits ["row", "base", "count"] (spF (gg K cA) 3 F__law_digits)) (b__law_digits : Binds K fd__law_digits ["row", "base", "count"] []) (m__law_digits : mg "_law_digits" = some (.ref f__law_digits)) (k__law_digits : PySem.W.keepIn K (.ref f__law_digits) = true) {f__law_velocity : Addr} {fd__law_velocity : FuncData} (o__law_velocity : FnOk P w K mg base CX0 2 f__law_velocity fd__law_velocity ["setting", "row"] (spF (gg K cA) 2 F__law_velocity)) (b__law_velocity : Binds K fd__law_velocity ["setting", "row"] []) (m__law_velocity : mg "_law_velocity" = some (.ref f__law_velocity)) (k__law_velocity : PySem.W.keepIn K (.ref f__law_velocity) = true) (z_int : mg "int" = none) : FnOk P w K mg base CX0 3 f fd ["setting", "rows"] (spF (gg K cA) 2 F__law_way) := by
  refine Fn0 F sc__law_way (fun hl h => fnP_ends (N := 9) hl h) fun cdv A outer s H E hr => ?_
  have nd := sc__law_way.nd
  exact (.cons (.setLc (i := 2) false rfl nd (LCV.mk' (own := [("digit", 8)]) (is := [8]) (by kernel_rfl) (.any rfl (.call o__law_digits (hr.mono (by decide)) m__law_digits k__law_digits b__law_digits passE (.cons (.ix rfl (.var (i := 1) rfl rfl (by first | exact Or.inl rfl | exact Or.inr (Or.inl rfl) | exact Or.inr (Or.inr rfl)) (by decide) (by decide)) .int (fun _ _ => rfl)) (.cons .int (.cons (.fld rfl (.of T (by simp)) (.var (i := 0) rfl rfl (by first | exact Or.inl rfl | exact Or.inr (Or.inl rfl) | exact Or.inr (Or.inr rfl)) (by decide) (by decide)) rfl) .nil rfl) rfl) rfl) (by rfl) (by decide) rfl rfl)) (fun _ _ _ _ _ => (.name nd rfl (by first | exact Or.inl rfl | exact Or.inr rfl) (by first | exact Or.inl rfl | exact Or.inr rfl))) (fun _ _ _ _ _ => .nil) (fun _ _ _ _ _ => (.bin ok_sub (.var (i := 8) rfl rfl (by first | exact Or.inl rfl | exact Or.inr (Or.inl rfl) | exact Or.inr (Or.inr rfl)) (by decide) (by decide)) .int)) (by decide)) rfl rfl (sw_true rfl rfl rfl rfl) (fun _ => rfl))
  (.cons (.set (i := 3) (.bin ok_div (.fld rfl (.of T (by simp)) (.var (i := 0) rfl rfl (by first | exact Or.inl rfl | exact Or.inr (Or.inl rfl) | exact Or.inr (Or.inr rfl)) (by decide) (by decide)) rfl) (.fld rfl (.of T (by simp)) (.var (i := 0) rfl rfl (by first | exact Or.inl rfl | exact Or.inr (Or.inl rfl) | exact Or.inr (Or.inr rfl)) (by decide) (by decide)) rfl)) nd rfl (by first | exact Or.inl rfl | exact Or.inr rfl) rfl (Or.inl rfl))
  (.cons (.set (i := 4) (.bin ok_sub (.bin ok_mod (.callT cv_int z_int (.cons (.ix rfl (.var (i := 1) rfl rfl (by first | exact Or.inl rfl | exact Or.inr (Or.inl rfl) | exact Or.inr (Or.inr rfl)) (by decide) (by decide)) .int (fun _ _ => rfl)) .nil rfl) (by rfl) bt_int (by decide) (by decide) rfl rfl) (.bin (ok_add rfl) (.bin ok_mul .int (.var (i := 3) rfl rfl (by first | exact Or.inl rfl | exact Or.inr (Or.inl rfl) | exact Or.inr (Or.inr rfl)) (by decide) (by decide))) .int)) (.var (i := 3) rfl rfl (by first | exact Or.inl rfl | exact Or.inr (Or.inl rfl) | exact Or.inr (Or.inr rfl)) (by decide) (by decide))) nd rfl (by first | exact Or.inl rfl | exact Or.inr rfl) rfl (Or.inl rfl))
  (.cons (.set (i := 5) (.bin ok_sub (.bin ok_mod (.callT cv_int z_int (.cons (.bin ok_div (.ix rfl (.var (i := 1) rfl rfl (by first | exact Or.inl rfl | exact Or.inr (Or.inl rfl) | exact Or.inr (Or.inr rfl)) (by decide) (by decide)) .int (fun _ _ => rfl)) .int) .nil rfl) (by rfl) bt_int (by decide) (by decide) rfl rfl) (.bin (ok_add rfl) (.bin ok_mul .int (.var (i := 3) rfl rfl (by first | exact Or.inl rfl | exact Or.inr (Or.inl rfl) | exact Or.inr (Or.inr rfl)) (by decide) (by decide))) .int)) (.var (i := 3) rfl rfl (by first | exact Or.inl rfl | exact Or.inr (Or.inl rfl) | exact Or.inr (Or.inr rfl)) (by decide) (by decide))) nd rfl (by first | exact Or.inl rfl | exact Or.inr rfl) rfl (Or.inl rfl))
  (.cons (.set (i := 6) (.call o__law_velocity (hr.mono (by decide)) m__law_velocity k__law_velocity b__law_velocity passE (.cons (.var (i := 0) rfl rfl (by first | exact Or.inl rfl | exact Or.inr (Or.inl rfl) | exact Or.inr (Or.inr rfl)) (by decide) (by decide)) (.cons (.ix rfl (.var (i := 1) rfl rfl (by first | exact Or.inl rfl | exact Or.inr (Or.inl rfl) | exact Or.inr (Or.inr rfl)) (by decide) (by decide)) .int (fun _ _ => rfl)) .nil rfl) rfl) (by rfl) (by decide) rfl rfl) nd rfl (by first | exact Or.inl rfl | exact Or.inr rfl) rfl (Or.inl rfl))
  (.cons (.set (i := 7) (.call o__law_velocity (hr.mono (by decide)) m__law_velocity k__law_velocity b__law_velocity passE (.cons (.var (i := 0) rfl rfl (by first | exact Or.inl rfl | exact Or.inr (Or.inl rfl) | exact Or.inr (Or.inr rfl)) (by decide) (by decide)) (.cons (.bin ok_div (.ix rfl (.var (i := 1) rfl rfl (by first | exact Or.inl rfl | exact Or.inr (Or.inl rfl) | exact Or.inr (Or.inr rfl)) (by decide) (by decide)) .int (fun _ _ => rfl)) .int) .nil rfl) rfl) (by rfl) (by decide) rfl rfl) nd rfl (by first | exact Or.inl rfl | exact Or.inr rfl) rfl (Or.inl rfl))
  (.one (.ret (.tup (.cons (.var (i := 2) rfl rfl (by first | exact Or.inl rfl | exact Or.inr (Or.inl rfl) | exact Or.inr (Or.inr rfl)) (by decide) (by decide)) (.cons (.bin ok_sub (.bin ok_mod (.callT cv_int z_int (.cons (.bin ok_div (.ix rfl (.var (i := 1) rfl rfl (by first | exact Or.inl rfl | exact Or.inr (Or.inl rfl) | exact Or.inr (Or.inr rfl)) (by decide) (by decide)) .int (fun _ _ => rfl)) .int) .nil rfl) (by rfl) bt_int (by decide) (by decide) rfl rfl) .int) .int) (.cons (.bin ok_sub (.bin ok_mod (.callT cv_int z_int (.cons (.bin ok_div (.ix rfl (.var (i := 1) rfl rfl (by first | exact Or.inl rfl | exact Or.inr (Or.inl rfl) | exact Or.inr (Or.inr rfl)) (by decide) (by decide)) .int (fun _ _ => rfl)) .int) .nil rfl) (by rfl) bt_int (by decide) (by decide) rfl rfl) .int) .int) (.cons (.var (i := 6) rfl rfl (by first | exact Or.inl rfl | exact Or.inr (Or.inl rfl) | exact Or.inr (Or.inr rfl)) (by decide) (by decide)) (.cons (.var (i := 7) rfl rfl (by first | exact Or.inl rfl | exact Or.inr (Or.inl rfl) | exact Or.inr (Or.inr rfl)) (by decide) (by decide)) (.cons (.var (i := 4) rfl rfl (by first | exact Or.inl rfl | exact Or.inr (Or.inl rfl) | exact Or.inr (Or.inr rfl)) (by decide) (by decide)) (.cons (.var (i := 5) rfl rfl (by first | exact Or.inl rfl | exact Or.inr (Or.inl rfl) | exact Or.inr (Or.inr rfl)) (by decide) (by decide)) .nil rfl) rfl) rfl) rfl) rfl) rfl) rfl))))))))))
set_option maxHeartbeats 4000000 in
theorem ok__law_at {f : Addr} {fd : FuncData} (F : Fun K "_law_at" "_law_at" s__law_at f fd) (z_len : mg "len" = none) (z_range : mg "range" = none) : FnOk P w K mg base CX0 1 f fd ["way", "moment"] (spF (gg K cA) 2 F__law_at) := by
  refine Fn0 F sc__law_at (fun hl h => fnP_ends (N := 14) hl h) fun cdv A outer s H E hr => ?_
  have nd := sc__law_at.nd
  exact (.cons (.asg (.var (i := 0) rfl rfl (by first | exact Or.inl rfl | exact Or.inr (Or.inl rfl) | exact Or.inr (Or.inr rfl)) (by decide) (by decide)) (.tup (n := 7) rfl rfl (.cons (ks := [2, 3, 4, 5, 6, 7, 8]) (.name nd rfl (by first | exact Or.inl rfl | exact Or.inr rfl) (by first | exact Or.inl rfl | exact Or.inr rfl)) (.cons (ks := [2, 3, 4, 5, 6, 7, 8]) (.name nd rfl (by first | exact Or.inl rfl | exact Or.inr rfl) (by first | exact Or.inl rfl | exact Or.inr rfl)) (.cons (ks := [2, 3, 4, 5, 6, 7, 8]) (.name nd rfl (by first | exact Or.inl rfl | exact Or.inr rfl) (by first | exact Or.inl rfl | exact Or.inr rfl)) (.cons (ks := [2, 3, 4, 5, 6, 7, 8]) (.name nd rfl (by first | exact Or.inl rfl | exact Or.inr rfl) (by first | exact Or.inl rfl | exact Or.inr rfl)) (.cons (ks := [2, 3, 4, 5, 6, 7, 8]) (.name nd rfl (by first | exact Or.inl rfl | exact Or.inr rfl) (by first | exact Or.inl rfl | exact Or.inr rfl)) (.cons (ks := [2, 3, 4, 5, 6, 7, 8]) (.name nd rfl (by first | exact Or.inl rfl | exact Or.inr rfl) (by first | exact Or.inl rfl | exact Or.inr rfl)) (.cons (ks := [2, 3, 4, 5, 6, 7, 8]) (.name nd rfl (by first | exact Or.inl rfl | exact Or.inr rfl) (by first | exact Or.inl rfl | exact Or.inr rfl)) (.nil (is := [2, 3, 4, 5, 6, 7, 8])) (by decide) (by decide) rfl) (by decide) (by decide) rfl) (by decide) (by decide) rfl) (by decide) (by decide) rfl) (by decide) (by decide) rfl) (by decide) (by decide) rfl) (by decide) (by decide) rfl) rfl rfl) rfl rfl rfl)
  (.cons (.set (i := 9) (.bin ok_sub (.var (i := 1) rfl rfl (by first | exact Or.inl rfl | exact Or.inr (Or.inl rfl) | exact Or.inr (Or.inr rfl)) (by decide) (by decide)) (.var (i := 4) rfl rfl (by first | exact Or.inl rfl | exact Or.inr (Or.inl rfl) | exact Or.inr (Or.inr rfl)) (by decide) (by decide))) nd rfl (by first | exact Or.inl rfl | exact Or.inr rfl) rfl (Or.inl rfl))
  (.cons (.set (i := 10) (.var (i := 6) rfl rfl (by first | exact Or.inl rfl | exact Or.inr (Or.inl rfl) | exact Or.inr (Or.inr rfl)) (by decide) (by decide)) nd rfl (by first | exact Or.inl rfl | exact Or.inr rfl) rfl (Or.inl rfl))
  (.cons (.set (i := 11) (.var (i := 8) rfl rfl (by first | exact Or.inl rfl | exact Or.inr (Or.inl rfl) | exact Or.inr (Or.inr rfl)) (by decide) (by decide)) nd rfl (by first | exact Or.inl rfl | exact Or.inr rfl) rfl (Or.inl rfl))
  (.cons (.if_ (.cmp ok_lt (.var (i := 9) rfl rfl (by first | exact Or.inl rfl | exact Or.inr (Or.inl rfl) | exact Or.inr (Or.inr rfl)) (by decide) (by decide)) .int rfl) (.cons (.set (i := 10) (.var (i := 5) rfl rfl (by first | exact Or.inl rfl | exact Or.inr (Or.inl rfl) | exact Or.inr (Or.inr rfl)) (by decide) (by decide)) nd rfl (by first | exact Or.inl rfl | exact Or.inr rfl) rfl (Or.inl rfl))
  (.one (.set (i := 11) (.var (i := 7) rfl rfl (by first | exact Or.inl rfl | exact Or.inr (Or.inl rfl) | exact Or.inr (Or.inr rfl)) (by decide) (by decide)) nd rfl (by first | exact Or.inl rfl | exact Or.inr rfl) rfl (Or.inl rfl)))) .nil)
  (.cons (.setLc (i := 12) false rfl nd (LCV.mk' (own := [("k", 13)]) (is := [13]) (by kernel_rfl) (.range1 z_range (.cons (.callB (cv_len rfl) z_len (.cons (.var (i := 2) rfl rfl (by first | exact Or.inl rfl | exact Or.inr (Or.inl rfl) | exact Or.inr (Or.inr rfl)) (by decide) (by decide)) .nil rfl) (by rfl) bt_len (by decide) (by decide) rfl rfl) .nil rfl) (by rfl) (by rfl)) (fun _ _ _ _ _ => (.name nd rfl (by first | exact Or.inl rfl | exact Or.inr rfl) (by first | exact Or.inl rfl | exact Or.inr rfl))) (fun _ _ _ _ _ => .nil) (fun _ _ _ _ _ => (.bin (ok_add rfl) (.ix rfl (.var (i := 2) rfl rfl (by first | exact Or.inl rfl | exact Or.inr (Or.inl rfl) | exact Or.inr (Or.inr rfl)) (by decide) (by decide)) (.var (i := 13) rfl rfl (by first | exact Or.inl rfl | exact Or.inr (Or.inl rfl) | exact Or.inr (Or.inr rfl)) (by decide) (by decide)) (fun _ _ => rfl)) (.bin ok_mul (.ix rfl (.var (i := 10) rfl rfl (by first | exact Or.inl rfl | exact Or.inr (Or.inl rfl) | exact Or.inr (Or.inr rfl)) (by decide) (by decide)) (.var (i := 13) rfl rfl (by first | exact Or.inl rfl | exact Or.inr (Or.inl rfl) | exact Or.inr (Or.inr rfl)) (by decide) (by decide)) (fun _ _ => rfl)) (.var (i := 9) rfl rfl (by first | exact Or.inl rfl | exact Or.inr (Or.inl rfl) | exact Or.inr (Or.inr rfl)) (by decide) (by decide))))) (by decide)) rfl rfl (sw_true rfl rfl rfl rfl) (fun _ => rfl))
  (.one (.ret (.bin (ok_add rfl) (.var (i := 12) rfl rfl (by first | exact Or.inl rfl | exact Or.inr (Or.inl rfl) | exact Or.inr (Or.inr rfl)) (by decide) (by decide)) (.lst false (.cons (.bin (ok_add rfl) (.var (i := 3) rfl rfl (by first | exact Or.inl rfl | exact Or.inr (Or.inl rfl) | exact Or.inr (Or.inr rfl)) (by decide) (by decide)) (.bin ok_mul (.var (i := 11) rfl rfl (by first | exact Or.inl rfl | exact Or.inr (Or.inl rfl) | exact Or.inr (Or.inr rfl)) (by decide) (by decide)) (.var (i := 9) rfl rfl (by first | exact Or.inl rfl | exact Or.inr (Or.inl rfl) | exact Or.inr (Or.inr rfl)) (by decide) (by decide)))) .nil rfl)))))))))))
set_option maxHeartbeats 4000000 in
theorem ok_sides_within {f : Addr} {fd : FuncData} (F : Fun K "sides_within" "sides_within" s_sides_within f fd) (z_all : mg "all" = none) : FnOk P w K mg base CX0 1 f fd ["sides", "limit"] (spF (gg K cA) 2 F_sides_within) := by
  refine Fn0 F sc_sides_within (fun hl h => fnP_ends (N := 4) hl h) fun cdv A outer s H E hr => ?_
  have nd := sc_sides_within.nd
  exact (.one (.ret (.callB (cv_all rfl rfl) z_all (.cons (.lc false rfl nd (LCV.mk' (own := [("low", 2), ("high", 3)]) (is := [2, 3]) (by kernel_rfl) (.any rfl (.var (i := 0) rfl rfl (by first | exact Or.inl rfl | exact Or.inr (Or.inl rfl) | exact Or.inr (Or.inr rfl)) (by decide) (by decide))) (fun _ _ _ _ _ => (.tup (n := 2) rfl rfl (.cons (ks := [2, 3]) (.name nd rfl (by first | exact Or.inl rfl | exact Or.inr rfl) (by first | exact Or.inl rfl | exact Or.inr rfl)) (.cons (ks := [2, 3]) (.name nd rfl (by first | exact Or.inl rfl | exact Or.inr rfl) (by first | exact Or.inl rfl | exact Or.inr rfl)) (.nil (is := [2, 3])) (by decide) (by decide) rfl) (by decide) (by decide) rfl) rfl rfl)) (fun _ _ _ _ _ => .nil) (fun _ _ _ _ _ => (.ch3 ok_le ok_le ok_le (.neg (.var (i := 1) rfl rfl (by first | exact Or.inl rfl | exact Or.inr (Or.inl rfl) | exact Or.inr (Or.inr rfl)) (by decide) (by decide))) (.var (i := 2) rfl rfl (by first | exact Or.inl rfl | exact Or.inr (Or.inl rfl) | exact Or.inr (Or.inr rfl)) (by decide) (by decide)) (.var (i := 3) rfl rfl (by first | exact Or.inl rfl | exact Or.inr (Or.inl rfl) | exact Or.inr (Or.inr rfl)) (by decide) (by decide)) (.var (i := 1) rfl rfl (by first | exact Or.inl rfl | exact Or.inr (Or.inl rfl) | exact Or.inr (Or.inr rfl)) (by decide) (by decide)) rfl)) (by decide)) (fun _ => rfl)) .nil rfl) (by rfl) bt_all (by decide) (by decide) rfl rfl)))
set_option maxHeartbeats 4000000 in
theorem ok_Question__init__ {f : Addr} {fd : FuncData} (F : Fun K "__init__" "Question.__init__" s_Question__init__ f fd) (T : ∀ c, ClsT K (cA c) ["dims", "root", "moment", "latest", "earliest", "share", "kind", "near", "late", "speed", "drift", "per", "liars", "source", "low", "high"]) {f_all_within : Addr} {fd_all_within : FuncData} (o_all_within : FnOk P w K mg base CX0 1 f_all_within fd_all_within ["numbers", "low", "high"] (spF (gg K cA) 3 F_all_within)) (b_all_within : Binds K fd_all_within ["numbers", "low", "high"] []) (m_all_within : mg "all_within" = some (.ref f_all_within)) (k_all_within : PySem.W.keepIn K (.ref f_all_within) = true) {f_sides_within : Addr} {fd_sides_within : FuncData} (o_sides_within : FnOk P w K mg base CX0 1 f_sides_within fd_sides_within ["sides", "limit"] (spF (gg K cA) 2 F_sides_within)) (b_sides_within : Binds K fd_sides_within ["sides", "limit"] []) (m_sides_within : mg "sides_within" = some (.ref f_sides_within)) (k_sides_within : PySem.W.keepIn K (.ref f_sides_within) = true) {t_LIMIT : Tok} (g_LIMIT : mg "LIMIT" = some (.int 1000000000000 t_LIMIT)) {t_MOST_LIARS : Tok} (g_MOST_LIARS : mg "MOST_LIARS" = some (.int 3 t_MOST_LIARS)) : FnOk P w K mg base CX0 2 f fd ["self", "moment", "root", "liars", "share", "earliest", "latest"] (spF (gg K cA) 7 F_Question__init__) := by
  refine Fn0 F sc_Question__init__ (fun hl h => fnR_ends (N := 7) h) fun cdv A outer s H E hr => ?_
  have nd := sc_Question__init__.nd
  exact (.cons (.if_ (.not_ (.tru rfl (.call o_all_within (hr.mono (by decide)) m_all_within k_all_within b_all_within passE (.cons (.tup (.cons (.var (i := 1) rfl rfl (by first | exact Or.inl rfl | exact Or.inr (Or.inl rfl) | exact Or.inr (Or.inr rfl)) (by decide) (by decide)) (.cons (.var (i := 5) rfl rfl (by first | exact Or.inl rfl | exact Or.inr (Or.inl rfl) | exact Or.inr (Or.inr rfl)) (by decide) (by decide)) (.cons (.var (i := 6) rfl rfl (by first | exact Or.inl rfl | exact Or.inr (Or.inl rfl) | exact Or.inr (Or.inr rfl)) (by decide) (by decide)) .nil rfl) rfl) rfl)) (.cons (.neg (.glb (d := (.int 1000000000000)) (v := (.int 1000000000000)) (fun _ _ => by simp [rep]) g_LIMIT ⟨_, rfl⟩ (by rfl) (by decide))) (.cons (.glb (d := (.int 1000000000000)) (v := (.int 1000000000000)) (fun _ _ => by simp [rep]) g_LIMIT ⟨_, rfl⟩ (by rfl) (by decide)) .nil rfl) rfl) rfl) (by rfl) (by decide) rfl rfl) (fun _ => rfl))) (.one .no) .nil)
  (.cons (.if_ (.cmp ok_gt (.var (i := 5) rfl rfl (by first | exact Or.inl rfl | exact Or.inr (Or.inl rfl) | exact Or.inr (Or.inr rfl)) (by decide) (by decide)) (.var (i := 6) rfl rfl (by first | exact Or.inl rfl | exact Or.inr (Or.inl rfl) | exact Or.inr (Or.inr rfl)) (by decide) (by decide)) rfl) (.one .no) .nil)
  (.cons (.if_ (.not_ (.tru rfl (.call o_sides_within (hr.mono (by decide)) m_sides_within k_sides_within b_sides_within passE (.cons (.var (i := 2) rfl rfl (by first | exact Or.inl rfl | exact Or.inr (Or.inl rfl) | exact Or.inr (Or.inr rfl)) (by decide) (by decide)) (.cons (.glb (d := (.int 1000000000000)) (v := (.int 1000000000000)) (fun _ _ => by simp [rep]) g_LIMIT ⟨_, rfl⟩ (by rfl) (by decide)) .nil rfl) rfl) (by rfl) (by decide) rfl rfl) (fun _ => rfl))) (.one .no) .nil)
  (.cons (.if_ (.not_ (.ch2 ok_le ok_le .int (.var (i := 3) rfl rfl (by first | exact Or.inl rfl | exact Or.inr (Or.inl rfl) | exact Or.inr (Or.inr rfl)) (by decide) (by decide)) (.glb (d := (.int 3)) (v := (.int 3)) (fun _ _ => by simp [rep]) g_MOST_LIARS ⟨_, rfl⟩ (by rfl) (by decide)) rfl)) (.one .no) .nil)
  (.cons (.if_ (.not_ (.ch2 ok_le ok_le .int (.var (i := 4) rfl rfl (by first | exact Or.inl rfl | exact Or.inr (Or.inl rfl) | exact Or.inr (Or.inr rfl)) (by decide) (by decide)) (.glb (d := (.int 1000000000000)) (v := (.int 1000000000000)) (fun _ _ => by simp [rep]) g_LIMIT ⟨_, rfl⟩ (by rfl) (by decide)) rfl)) (.one .no) .nil)
  (.cons (.put rfl (.of T (by simp)) (.var (i := 1) rfl rfl (by first | exact Or.inl rfl | exact Or.inr (Or.inl rfl) | exact Or.inr (Or.inr rfl)) (by decide) (by decide)) (.var (i := 0) rfl rfl (by first | exact Or.inl rfl | exact Or.inr (Or.inl rfl) | exact Or.inr (Or.inr rfl)) (by decide) (by decide)) rfl)
  (.cons (.put rfl (.of T (by simp)) (.var (i := 2) rfl rfl (by first | exact Or.inl rfl | exact Or.inr (Or.inl rfl) | exact Or.inr (Or.inr rfl)) (by decide) (by decide)) (.var (i := 0) rfl rfl (by first | exact Or.inl rfl | exact Or.inr (Or.inl rfl) | exact Or.inr (Or.inr rfl)) (by decide) (by decide)) rfl)
  (.cons (.put rfl (.of T (by simp)) (.var (i := 3) rfl rfl (by first | exact Or.inl rfl | exact Or.inr (Or.inl rfl) | exact Or.inr (Or.inr rfl)) (by decide) (by decide)) (.var (i := 0) rfl rfl (by first | exact Or.inl rfl | exact Or.inr (Or.inl rfl) | exact Or.inr (Or.inr rfl)) (by decide) (by decide)) rfl)
  (.cons (.put rfl (.of T (by simp)) (.var (i := 4) rfl rfl (by first | exact Or.inl rfl | exact Or.inr (Or.inl rfl) | exact Or.inr (Or.inr rfl)) (by decide) (by decide)) (.var (i := 0) rfl rfl (by first | exact Or.inl rfl | exact Or.inr (Or.inl rfl) | exact Or.inr (Or.inr rfl)) (by decide) (by decide)) rfl)
  (.cons (.put rfl (.of T (by simp)) (.var (i := 5) rfl rfl (by first | exact Or.inl rfl | exact Or.inr (Or.inl rfl) | exact Or.inr (Or.inr rfl)) (by decide) (by decide)) (.var (i := 0) rfl rfl (by first | exact Or.inl rfl | exact Or.inr (Or.inl rfl) | exact Or.inr (Or.inr rfl)) (by decide) (by decide)) rfl)
  (.one (.put rfl (.of T (by simp)) (.var (i := 6) rfl rfl (by first | exact Or.inl rfl | exact Or.inr (Or.inl rfl) | exact Or.inr (Or.inr rfl)) (by decide) (by decide)) (.var (i := 0) rfl rfl (by first | exact Or.inl rfl | exact Or.inr (Or.inl rfl) | exact Or.inr (Or.inr rfl)) (by decide) (by decide)) rfl))))))))))))
set_option maxHeartbeats 4000000 in
theorem ok__law_question {f : Addr} {fd : FuncData} (F : Fun K "_law_question" "_law_question" s__law_question f fd) (T : ∀ c, ClsT K (cA c) ["dims", "root", "moment", "latest", "earliest", "share", "kind", "near", "late", "speed", "drift", "per", "liars", "source", "low", "high"]) {f__law_at : Addr} {fd__law_at : FuncData} (o__law_at : FnOk P w K mg base CX0 1 f__law_at fd__law_at ["way", "moment"] (spF (gg K cA) 2 F__law_at)) (b__law_at : Binds K fd__law_at ["way", "moment"] []) (m__law_at : mg "_law_at" = some (.ref f__law_at)) (k__law_at : PySem.W.keepIn K (.ref f__law_at) = true) {f__law_digits : Addr} {fd__law_digits : FuncData} (o__law_digits : FnOk P w K mg base CX0 1 f__law_digits fd__law_digits ["row", "base", "count"] (spF (gg K cA) 3 F__law_digits)) (b__law_digits : Binds K fd__law_digits ["row", "base", "count"] []) (m__law_digits : mg "_law_digits" = some (.ref f__law_digits)) (k__law_digits : PySem.W.keepIn K (.ref f__law_digits) = true) {f_Question__init__ : Addr} {fd_Question__init__ : FuncData} (o_Question__init__ : FnOk P w K mg base CX0 2 f_Question__init__ fd_Question__init__ ["self", "moment", "root", "liars", "share", "earliest", "latest"] (spF (gg K cA) 7 F_Question__init__)) (M_Question : Mk K (cA 2) f_Question__init__) (mC_Question : mg "Question" = some (.ref (cA 2))) (kb_Question__init___3_4 : KBn K fd_Question__init__ ["self", "moment", "root", "liars", "share", "earliest", "latest"] 3 ["liars", "share", "earliest", "latest"] (fun us ws => us ++ ws) (fun vs zs => vs ++ zs)) (z_int : mg "int" = none) (z_range : mg "range" = none) (z_tuple : mg "tuple" = none) : FnOk P w K mg base CX0 4 f fd ["way", "dims", "row", "liars"] (spF (gg K cA) 4 F__law_question) := by
  refine Fn0 F sc__law_question (fun hl h => fnP_ends (N := 13) hl h) fun cdv A outer s H E hr => ?_
  have nd := sc__law_question.nd
  exact (.cons (.set (i := 4) (.bin ok_sub (.bin ok_mod (.callT cv_int z_int (.cons (.var (i := 2) rfl rfl (by first | exact Or.inl rfl | exact Or.inr (Or.inl rfl) | exact Or.inr (Or.inr rfl)) (by decide) (by decide)) .nil rfl) (by rfl) bt_int (by decide) (by decide) rfl rfl) .int) .int) nd rfl (by first | exact Or.inl rfl | exact Or.inr rfl) rfl (Or.inl rfl))
  (.cons (.set (i := 5) (.call o__law_at (hr.mono (by decide)) m__law_at k__law_at b__law_at passE (.cons (.var (i := 0) rfl rfl (by first | exact Or.inl rfl | exact Or.inr (Or.inl rfl) | exact Or.inr (Or.inr rfl)) (by decide) (by decide)) (.cons (.var (i := 4) rfl rfl (by first | exact Or.inl rfl | exact Or.inr (Or.inl rfl) | exact Or.inr (Or.inr rfl)) (by decide) (by decide)) .nil rfl) rfl) (by rfl) (by decide) rfl rfl) nd rfl (by first | exact Or.inl rfl | exact Or.inr rfl) rfl (Or.inl rfl))
  (.cons (.set (i := 6) (.call o__law_digits (hr.mono (by decide)) m__law_digits k__law_digits b__law_digits passE (.cons (.bin ok_div (.var (i := 2) rfl rfl (by first | exact Or.inl rfl | exact Or.inr (Or.inl rfl) | exact Or.inr (Or.inr rfl)) (by decide) (by decide)) .int) (.cons .int (.cons (.bin (ok_add rfl) (.var (i := 1) rfl rfl (by first | exact Or.inl rfl | exact Or.inr (Or.inl rfl) | exact Or.inr (Or.inr rfl)) (by decide) (by decide)) .int) .nil rfl) rfl) rfl) (by rfl) (by decide) rfl rfl) nd rfl (by first | exact Or.inl rfl | exact Or.inr rfl) rfl (Or.inl rfl))
  (.cons (.set (i := 7) (.call o__law_digits (hr.mono (by decide)) m__law_digits k__law_digits b__law_digits passE (.cons (.bin ok_div (.var (i := 2) rfl rfl (by first | exact Or.inl rfl | exact Or.inr (Or.inl rfl) | exact Or.inr (Or.inr rfl)) (by decide) (by decide)) .int) (.cons .int (.cons (.bin (ok_add rfl) (.var (i := 1) rfl rfl (by first | exact Or.inl rfl | exact Or.inr (Or.inl rfl) | exact Or.inr (Or.inr rfl)) (by decide) (by decide)) .int) .nil rfl) rfl) rfl) (by rfl) (by decide) rfl rfl) nd rfl (by first | exact Or.inl rfl | exact Or.inr rfl) rfl (Or.inl rfl))
  (.cons (.setLc (i := 8) false rfl nd (LCV.mk' (own := [("k", 12)]) (is := [12]) (by kernel_rfl) (.range1 z_range (.cons (.bin (ok_add rfl) (.var (i := 1) rfl rfl (by first | exact Or.inl rfl | exact Or.inr (Or.inl rfl) | exact Or.inr (Or.inr rfl)) (by decide) (by decide)) .int) .nil rfl) (by rfl) (by rfl)) (fun _ _ _ _ _ => (.name nd rfl (by first | exact Or.inl rfl | exact Or.inr rfl) (by first | exact Or.inl rfl | exact Or.inr rfl))) (fun _ _ _ _ _ => .nil) (fun _ _ _ _ _ => (.tup (.cons (.bin ok_sub (.ix rfl (.var (i := 5) rfl rfl (by first | exact Or.inl rfl | exact Or.inr (Or.inl rfl) | exact Or.inr (Or.inr rfl)) (by decide) (by decide)) (.var (i := 12) rfl rfl (by first | exact Or.inl rfl | exact Or.inr (Or.inl rfl) | exact Or.inr (Or.inr rfl)) (by decide) (by decide)) (fun _ _ => rfl)) (.ix rfl (.var (i := 6) rfl rfl (by first | exact Or.inl rfl | exact Or.inr (Or.inl rfl) | exact Or.inr (Or.inr rfl)) (by decide) (by decide)) (.var (i := 12) rfl rfl (by first | exact Or.inl rfl | exact Or.inr (Or.inl rfl) | exact Or.inr (Or.inr rfl)) (by decide) (by decide)) (fun _ _ => rfl))) (.cons (.bin (ok_add rfl) (.ix rfl (.var (i := 5) rfl rfl (by first | exact Or.inl rfl | exact Or.inr (Or.inl rfl) | exact Or.inr (Or.inr rfl)) (by decide) (by decide)) (.var (i := 12) rfl rfl (by first | exact Or.inl rfl | exact Or.inr (Or.inl rfl) | exact Or.inr (Or.inr rfl)) (by decide) (by decide)) (fun _ _ => rfl)) (.ix rfl (.var (i := 7) rfl rfl (by first | exact Or.inl rfl | exact Or.inr (Or.inl rfl) | exact Or.inr (Or.inr rfl)) (by decide) (by decide)) (.var (i := 12) rfl rfl (by first | exact Or.inl rfl | exact Or.inr (Or.inl rfl) | exact Or.inr (Or.inr rfl)) (by decide) (by decide)) (fun _ _ => rfl))) .nil rfl) rfl))) (by decide)) rfl rfl (sw_true rfl rfl rfl rfl) (fun _ => rfl))
  (.cons (.set (i := 9) (.bin (ok_add rfl) .int (.bin ok_mod (.callT cv_int z_int (.cons (.bin ok_div (.var (i := 2) rfl rfl (by first | exact Or.inl rfl | exact Or.inr (Or.inl rfl) | exact Or.inr (Or.inr rfl)) (by decide) (by decide)) .int) .nil rfl) (by rfl) bt_int (by decide) (by decide) rfl rfl) .int)) nd rfl (by first | exact Or.inl rfl | exact Or.inr rfl) rfl (Or.inl rfl))
  (.cons (.set (i := 10) (.bin ok_sub .int (.bin ok_mod (.callT cv_int z_int (.cons (.bin ok_div (.var (i := 2) rfl rfl (by first | exact Or.inl rfl | exact Or.inr (Or.inl rfl) | exact Or.inr (Or.inr rfl)) (by decide) (by decide)) .int) .nil rfl) (by rfl) bt_int (by decide) (by decide) rfl rfl) .int)) nd rfl (by first | exact Or.inl rfl | exact Or.inr rfl) rfl (Or.inl rfl))
  (.cons (.set (i := 11) (.bin (ok_add rfl) (.var (i := 10) rfl rfl (by first | exact Or.inl rfl | exact Or.inr (Or.inl rfl) | exact Or.inr (Or.inr rfl)) (by decide) (by decide)) (.bin ok_mod (.callT cv_int z_int (.cons (.bin ok_div (.var (i := 2) rfl rfl (by first | exact Or.inl rfl | exact Or.inr (Or.inl rfl) | exact Or.inr (Or.inr rfl)) (by decide) (by decide)) .int) .nil rfl) (by rfl) bt_int (by decide) (by decide) rfl rfl) .int)) nd rfl (by first | exact Or.inl rfl | exact Or.inr rfl) rfl (Or.inl rfl))
  (.one (.ret (.mkN (c := 2) M_Question o_Question__init__ (hr.mono (by decide)) mC_Question kb_Question__init___3_4 .app (fun xs ys h1 h2 => by rw [show (gApp xs ys).length = xs.length + ys.length from List.length_append, h1, h2]; rfl) passE (.cons (.var (i := 4) rfl rfl (by first | exact Or.inl rfl | exact Or.inr (Or.inl rfl) | exact Or.inr (Or.inr rfl)) (by decide) (by decide)) (.cons (.callT (cv_tuple rfl) z_tuple (.cons (.var (i := 8) rfl rfl (by first | exact Or.inl rfl | exact Or.inr (Or.inl rfl) | exact Or.inr (Or.inr rfl)) (by decide) (by decide)) .nil rfl) (by rfl) bt_tuple (by decide) (by decide) rfl rfl) .nil rfl) rfl) (.cons (.var (i := 3) rfl rfl (by first | exact Or.inl rfl | exact Or.inr (Or.inl rfl) | exact Or.inr (Or.inr rfl)) (by decide) (by decide)) (.cons (.var (i := 9) rfl rfl (by first | exact Or.inl rfl | exact Or.inr (Or.inl rfl) | exact Or.inr (Or.inr rfl)) (by decide) (by decide)) (.cons (.var (i := 10) rfl rfl (by first | exact Or.inl rfl | exact Or.inr (Or.inl rfl) | exact Or.inr (Or.inr rfl)) (by decide) (by decide)) (.cons (.var (i := 11) rfl rfl (by first | exact Or.inl rfl | exact Or.inr (Or.inl rfl) | exact Or.inr (Or.inr rfl)) (by decide) (by decide)) .nil)))) (by rfl) rfl rfl (by decide) rfl rfl)))))))))))
set_option maxHeartbeats 4000000 in
theorem ok__law_point {f : Addr} {fd : FuncData} (F : Fun K "_law_point" "_law_point" s__law_point f fd) {f__law_digits : Addr} {fd__law_digits : FuncData} (o__law_digits : FnOk P w K mg base CX0 1 f__law_digits fd__law_digits ["row", "base", "count"] (spF (gg K cA) 3 F__law_digits)) (b__law_digits : Binds K fd__law_digits ["row", "base", "count"] []) (m__law_digits : mg "_law_digits" = some (.ref f__law_digits)) (k__law_digits : PySem.W.keepIn K (.ref f__law_digits) = true) (z_tuple : mg "tuple" = none) : FnOk P w K mg base CX0 2 f fd ["dims", "row"] (spF (gg K cA) 2 F__law_point) := by
  refine Fn0 F sc__law_point (fun hl h => fnP_ends (N := 3) hl h) fun cdv A outer s H E hr => ?_
  have nd := sc__law_point.nd
  exact (.one (.ret (.callT (cv_tuple rfl) z_tuple (.cons (.lc false rfl nd (LCV.mk' (own := [("digit", 2)]) (is := [2]) (by kernel_rfl) (.any rfl (.call o__law_digits (hr.mono (by decide)) m__law_digits k__law_digits b__law_digits passE (.cons (.var (i := 1) rfl rfl (by first | exact Or.inl rfl | exact Or.inr (Or.inl rfl) | exact Or.inr (Or.inr rfl)) (by decide) (by decide)) (.cons .int (.cons (.var (i := 0) rfl rfl (by first | exact Or.inl rfl | exact Or.inr (Or.inl rfl) | exact Or.inr (Or.inr rfl)) (by decide) (by decide)) .nil rfl) rfl) rfl) (by rfl) (by decide) rfl rfl)) (fun _ _ _ _ _ => (.name nd rfl (by first | exact Or.inl rfl | exact Or.inr rfl) (by first | exact Or.inl rfl | exact Or.inr rfl))) (fun _ _ _ _ _ => .nil) (fun _ _ _ _ _ => (.bin ok_sub (.var (i := 2) rfl rfl (by first | exact Or.inl rfl | exact Or.inr (Or.inl rfl) | exact Or.inr (Or.inr rfl)) (by decide) (by decide)) .int)) (by decide)) (fun _ => rfl)) .nil rfl) (by rfl) bt_tuple (by decide) (by decide) rfl rfl)))
set_option maxHeartbeats 4000000 in
theorem ok__law_kind {f : Addr} {fd : FuncData} (F : Fun K "_law_kind" "_law_kind" s__law_kind f fd) {f__law_digits : Addr} {fd__law_digits : FuncData} (o__law_digits : FnOk P w K mg base CX0 1 f__law_digits fd__law_digits ["row", "base", "count"] (spF (gg K cA) 3 F__law_digits)) (b__law_digits : Binds K fd__law_digits ["row", "base", "count"] []) (m__law_digits : mg "_law_digits" = some (.ref f__law_digits)) (k__law_digits : PySem.W.keepIn K (.ref f__law_digits) = true) {f__law_point : Addr} {fd__law_point : FuncData} (o__law_point : FnOk P w K mg base CX0 2 f__law_point fd__law_point ["dims", "row"] (spF (gg K cA) 2 F__law_point)) (b__law_point : Binds K fd__law_point ["dims", "row"] []) (m__law_point : mg "_law_point" = some (.ref f__law_point)) (k__law_point : PySem.W.keepIn K (.ref f__law_point) = true) (z_abs : mg "abs" = none) (z_int : mg "int" = none) (z_range : mg "range" = none) (z_sum : mg "sum" = none) (z_tuple : mg "tuple" = none) : FnOk P w K mg base CX0 3 f fd ["dims", "row"] (spF (gg K cA) 2 F__law_kind) := by
  refine Fn0 F sc__law_kind (fun hl h => fnP_ends (N := 11) hl h) fun cdv A outer s H E hr => ?_
  have nd := sc__law_kind.nd
  exact (.cons (.set (i := 2) (.lst false (.cons .str (.cons .str (.cons .str (.cons .str (.cons .str (.cons .str .nil rfl) rfl) rfl) rfl) rfl) rfl)) nd rfl (by first | exact Or.inl rfl | exact Or.inr rfl) rfl (Or.inl rfl))
  (.cons (.set (i := 3) (.ix rfl (.var (i := 2) rfl rfl (by first | exact Or.inl rfl | exact Or.inr (Or.inl rfl) | exact Or.inr (Or.inr rfl)) (by decide) (by decide)) (.bin ok_mod (.callT cv_int z_int (.cons (.var (i := 1) rfl rfl (by first | exact Or.inl rfl | exact Or.inr (Or.inl rfl) | exact Or.inr (Or.inr rfl)) (by decide) (by decide)) .nil rfl) (by rfl) bt_int (by decide) (by decide) rfl rfl) .int) (fun _ _ => rfl)) nd rfl (by first | exact Or.inl rfl | exact Or.inr rfl) rfl (Or.inl rfl))
  (.cons (.set (i := 4) (.bin ok_div (.var (i := 1) rfl rfl (by first | exact Or.inl rfl | exact Or.inr (Or.inl rfl) | exact Or.inr (Or.inr rfl)) (by decide) (by decide)) .int) nd rfl (by first | exact Or.inl rfl | exact Or.inr rfl) rfl (Or.inl rfl))
  (.cons (.if_ (.cmp (ok_eq rfl hr.units) (.var (i := 3) rfl rfl (by first | exact Or.inl rfl | exact Or.inr (Or.inl rfl) | exact Or.inr (Or.inr rfl)) (by decide) (by decide)) .str rfl) (.cons (.setLc (i := 5) true rfl nd (LCV.mk' (own := [("digit", 9)]) (is := [9]) (by kernel_rfl) (.any rfl (.call o__law_digits (hr.mono (by decide)) m__law_digits k__law_digits b__law_digits passE (.cons (.var (i := 4) rfl rfl (by first | exact Or.inl rfl | exact Or.inr (Or.inl rfl) | exact Or.inr (Or.inr rfl)) (by decide) (by decide)) (.cons .int (.cons (.var (i := 0) rfl rfl (by first | exact Or.inl rfl | exact Or.inr (Or.inl rfl) | exact Or.inr (Or.inr rfl)) (by decide) (by decide)) .nil rfl) rfl) rfl) (by rfl) (by decide) rfl rfl)) (fun _ _ _ _ _ => (.name nd rfl (by first | exact Or.inl rfl | exact Or.inr rfl) (by first | exact Or.inl rfl | exact Or.inr rfl))) (fun _ _ _ _ _ => .nil) (fun _ _ _ _ _ => (.bin ok_sub (.var (i := 9) rfl rfl (by first | exact Or.inl rfl | exact Or.inr (Or.inl rfl) | exact Or.inr (Or.inr rfl)) (by decide) (by decide)) .int)) (by decide)) rfl rfl (sw_true rfl rfl rfl rfl) (fun _ => rfl))
  (.cons (.if_ (.cmp (ok_eq rfl hr.units) (.callB (cv_sum rfl rfl) z_sum (.cons (.lc false rfl nd (LCV.mk' (own := [("number", 10)]) (is := [10]) (by kernel_rfl) (.any rfl (.var (i := 5) rfl rfl (by first | exact Or.inl rfl | exact Or.inr (Or.inl rfl) | exact Or.inr (Or.inr rfl)) (by decide) (by decide))) (fun _ _ _ _ _ => (.name nd rfl (by first | exact Or.inl rfl | exact Or.inr rfl) (by first | exact Or.inl rfl | exact Or.inr rfl))) (fun _ _ _ _ _ => .nil) (fun _ _ _ _ _ => (.callB cv_abs z_abs (.cons (.var (i := 10) rfl rfl (by first | exact Or.inl rfl | exact Or.inr (Or.inl rfl) | exact Or.inr (Or.inr rfl)) (by decide) (by decide)) .nil rfl) (by rfl) bt_abs (by decide) (by decide) rfl rfl)) (by decide)) (fun _ => rfl)) .nil rfl) (by rfl) bt_sum (by decide) (by decide) rfl rfl) .int rfl) (.one (.setIx .int (.var (i := 5) rfl rfl (by first | exact Or.inl rfl | exact Or.inr (Or.inl rfl) | exact Or.inr (Or.inr rfl)) (by decide) (by decide)) .int (fun _ => rfl) rfl rfl rfl)) .nil)
  (.one (.ret (.tup (.cons (.var (i := 3) rfl rfl (by first | exact Or.inl rfl | exact Or.inr (Or.inl rfl) | exact Or.inr (Or.inr rfl)) (by decide) (by decide)) (.cons (.callT (cv_tuple rfl) z_tuple (.cons (.var (i := 5) rfl rfl (by first | exact Or.inl rfl | exact Or.inr (Or.inl rfl) | exact Or.inr (Or.inr rfl)) (by decide) (by decide)) .nil rfl) (by rfl) bt_tuple (by decide) (by decide) rfl rfl) .nil rfl) rfl)))))) .nil)
  (.cons (.if_ (.cmp (ok_eq rfl hr.units) (.var (i := 3) rfl rfl (by first | exact Or.inl rfl | exact Or.inr (Or.inl rfl) | exact Or.inr (Or.inr rfl)) (by decide) (by decide)) .str rfl) (.cons (.set (i := 6) (.lst true .nil) nd rfl (by first | exact Or.inl rfl | exact Or.inr rfl) rfl (Or.inl rfl))
  (.cons (.for_ PassesOwn.never rfl (.range1 z_range (.cons (.bin (ok_add rfl) .int (.bin ok_mod (.callT cv_int z_int (.cons (.var (i := 4) rfl rfl (by first | exact Or.inl rfl | exact Or.inr (Or.inl rfl) | exact Or.inr (Or.inr rfl)) (by decide) (by decide)) .nil rfl) (by rfl) bt_int (by decide) (by decide) rfl rfl) .int)) .nil rfl) (by rfl) (by rfl)) (.name nd rfl (by first | exact Or.inl rfl | exact Or.inr rfl) (by first | exact Or.inl rfl | exact Or.inr rfl)) (.cons (.set (i := 8) (.call o__law_point (hr.mono (by decide)) m__law_point k__law_point b__law_point passE (.cons (.var (i := 0) rfl rfl (by first | exact Or.inl rfl | exact Or.inr (Or.inl rfl) | exact Or.inr (Or.inr rfl)) (by decide) (by decide)) (.cons (.bin (ok_add rfl) (.bin ok_div (.var (i := 4) rfl rfl (by first | exact Or.inl rfl | exact Or.inr (Or.inl rfl) | exact Or.inr (Or.inr rfl)) (by decide) (by decide)) .int) (.bin ok_mul .int (.var (i := 7) rfl rfl (by first | exact Or.inl rfl | exact Or.inr (Or.inl rfl) | exact Or.inr (Or.inr rfl)) (by decide) (by decide)))) .nil rfl) rfl) (by rfl) (by decide) rfl rfl) nd rfl (by first | exact Or.inl rfl | exact Or.inr rfl) rfl (Or.inl rfl))
  (.one (.exp (.bm rfl PySem.F.plainAttrs_list PySem.F.slot_list_append PySem.F.type_list_append bm_append (.var (i := 6) rfl rfl (by first | exact Or.inl rfl | exact Or.inr (Or.inl rfl) | exact Or.inr (Or.inr rfl)) (by decide) (by decide)) (.cons (.callT (cv_tuple rfl) z_tuple (.cons (.lc false rfl nd (LCV.mk' (own := [("number", 10)]) (is := [10]) (by kernel_rfl) (.any rfl (.var (i := 8) rfl rfl (by first | exact Or.inl rfl | exact Or.inr (Or.inl rfl) | exact Or.inr (Or.inr rfl)) (by decide) (by decide))) (fun _ _ _ _ _ => (.name nd rfl (by first | exact Or.inl rfl | exact Or.inr rfl) (by first | exact Or.inl rfl | exact Or.inr rfl))) (fun _ _ _ _ _ => .nil) (fun _ _ _ _ _ => (.tup (.cons (.var (i := 10) rfl rfl (by first | exact Or.inl rfl | exact Or.inr (Or.inl rfl) | exact Or.inr (Or.inr rfl)) (by decide) (by decide)) (.cons (.bin (ok_add rfl) (.var (i := 10) rfl rfl (by first | exact Or.inl rfl | exact Or.inr (Or.inl rfl) | exact Or.inr (Or.inr rfl)) (by decide) (by decide)) (.bin ok_mod (.callT cv_int z_int (.cons (.bin ok_div (.var (i := 4) rfl rfl (by first | exact Or.inl rfl | exact Or.inr (Or.inl rfl) | exact Or.inr (Or.inr rfl)) (by decide) (by decide)) .int) .nil rfl) (by rfl) bt_int (by decide) (by decide) rfl rfl) .int)) .nil rfl) rfl))) (by decide)) (fun _ => rfl)) .nil rfl) (by rfl) bt_tuple (by decide) (by decide) rfl rfl) .nil rfl) rfl rfl rfl rfl rfl) rfl))) (fun _ => rfl))
  (.one (.ret (.tup (.cons (.var (i := 3) rfl rfl (by first | exact Or.inl rfl | exact Or.inr (Or.inl rfl) | exact Or.inr (Or.inr rfl)) (by decide) (by decide)) (.cons (.callT (cv_tuple rfl) z_tuple (.cons (.var (i := 6) rfl rfl (by first | exact Or.inl rfl | exact Or.inr (Or.inl rfl) | exact Or.inr (Or.inr rfl)) (by decide) (by decide)) .nil rfl) (by rfl) bt_tuple (by decide) (by decide) rfl rfl) .nil rfl) rfl)))))) .nil)
  (.cons (.if_ (WV.tv (.or_ (.cmp (ok_eq rfl hr.units) (.var (i := 3) rfl rfl (by first | exact Or.inl rfl | exact Or.inr (Or.inl rfl) | exact Or.inr (Or.inr rfl)) (by decide) (by decide)) .str rfl) (.or1 (.cmp (ok_eq rfl hr.units) (.var (i := 3) rfl rfl (by first | exact Or.inl rfl | exact Or.inr (Or.inl rfl) | exact Or.inr (Or.inr rfl)) (by decide) (by decide)) .str rfl)))) (.one (.ret (.tup (.cons (.var (i := 3) rfl rfl (by first | exact Or.inl rfl | exact Or.inr (Or.inl rfl) | exact Or.inr (Or.inr rfl)) (by decide) (by decide)) (.cons (.call o__law_point (hr.mono (by decide)) m__law_point k__law_point b__law_point passE (.cons (.var (i := 0) rfl rfl (by first | exact Or.inl rfl | exact Or.inr (Or.inl rfl) | exact Or.inr (Or.inr rfl)) (by decide) (by decide)) (.cons (.var (i := 4) rfl rfl (by first | exact Or.inl rfl | exact Or.inr (Or.inl rfl) | exact Or.inr (Or.inr rfl)) (by decide) (by decide)) .nil rfl) rfl) (by rfl) (by decide) rfl rfl) (.cons (.call o__law_point (hr.mono (by decide)) m__law_point k__law_point b__law_point passE (.cons (.var (i := 0) rfl rfl (by first | exact Or.inl rfl | exact Or.inr (Or.inl rfl) | exact Or.inr (Or.inr rfl)) (by decide) (by decide)) (.cons (.bin ok_div (.var (i := 4) rfl rfl (by first | exact Or.inl rfl | exact Or.inr (Or.inl rfl) | exact Or.inr (Or.inr rfl)) (by decide) (by decide)) .int) .nil rfl) rfl) (by rfl) (by decide) rfl rfl) .nil rfl) rfl) rfl)))) .nil)
  (.one (.ret (.tup (.cons (.var (i := 3) rfl rfl (by first | exact Or.inl rfl | exact Or.inr (Or.inl rfl) | exact Or.inr (Or.inr rfl)) (by decide) (by decide)) (.cons (.call o__law_point (hr.mono (by decide)) m__law_point k__law_point b__law_point passE (.cons (.var (i := 0) rfl rfl (by first | exact Or.inl rfl | exact Or.inr (Or.inl rfl) | exact Or.inr (Or.inr rfl)) (by decide) (by decide)) (.cons (.var (i := 4) rfl rfl (by first | exact Or.inl rfl | exact Or.inr (Or.inl rfl) | exact Or.inr (Or.inr rfl)) (by decide) (by decide)) .nil rfl) rfl) (by rfl) (by decide) rfl rfl) .nil rfl) rfl))))))))))
set_option maxHeartbeats 4000000 in
theorem ok__law_square {f : Addr} {fd : FuncData} (F : Fun K "_law_square" "_law_square" s__law_square f fd) (z_len : mg "len" = none) (z_range : mg "range" = none) (z_sum : mg "sum" = none) : FnOk P w K mg base CX0 1 f fd ["one", "two"] (spF (gg K cA) 2 F__law_square) := by
  refine Fn0 F sc__law_square (fun hl h => fnP_ends (N := 3) hl h) fun cdv A outer s H E hr => ?_
  have nd := sc__law_square.nd
  exact (.one (.ret (.callB (cv_sum rfl rfl) z_sum (.cons (.lc false rfl nd (LCV.mk' (own := [("k", 2)]) (is := [2]) (by kernel_rfl) (.range1 z_range (.cons (.callB (cv_len rfl) z_len (.cons (.var (i := 0) rfl rfl (by first | exact Or.inl rfl | exact Or.inr (Or.inl rfl) | exact Or.inr (Or.inr rfl)) (by decide) (by decide)) .nil rfl) (by rfl) bt_len (by decide) (by decide) rfl rfl) .nil rfl) (by rfl) (by rfl)) (fun _ _ _ _ _ => (.name nd rfl (by first | exact Or.inl rfl | exact Or.inr rfl) (by first | exact Or.inl rfl | exact Or.inr rfl))) (fun _ _ _ _ _ => .nil) (fun _ _ _ _ _ => (.bin ok_mul (.bin ok_sub (.ix rfl (.var (i := 0) rfl rfl (by first | exact Or.inl rfl | exact Or.inr (Or.inl rfl) | exact Or.inr (Or.inr rfl)) (by decide) (by decide)) (.var (i := 2) rfl rfl (by first | exact Or.inl rfl | exact Or.inr (Or.inl rfl) | exact Or.inr (Or.inr rfl)) (by decide) (by decide)) (fun _ _ => rfl)) (.ix rfl (.var (i := 1) rfl rfl (by first | exact Or.inl rfl | exact Or.inr (Or.inl rfl) | exact Or.inr (Or.inr rfl)) (by decide) (by decide)) (.var (i := 2) rfl rfl (by first | exact Or.inl rfl | exact Or.inr (Or.inl rfl) | exact Or.inr (Or.inr rfl)) (by decide) (by decide)) (fun _ _ => rfl))) (.bin ok_sub (.ix rfl (.var (i := 0) rfl rfl (by first | exact Or.inl rfl | exact Or.inr (Or.inl rfl) | exact Or.inr (Or.inr rfl)) (by decide) (by decide)) (.var (i := 2) rfl rfl (by first | exact Or.inl rfl | exact Or.inr (Or.inl rfl) | exact Or.inr (Or.inr rfl)) (by decide) (by decide)) (fun _ _ => rfl)) (.ix rfl (.var (i := 1) rfl rfl (by first | exact Or.inl rfl | exact Or.inr (Or.inl rfl) | exact Or.inr (Or.inr rfl)) (by decide) (by decide)) (.var (i := 2) rfl rfl (by first | exact Or.inl rfl | exact Or.inr (Or.inl rfl) | exact Or.inr (Or.inr rfl)) (by decide) (by decide)) (fun _ _ => rfl))))) (by decide)) (fun _ => rfl)) .nil rfl) (by rfl) bt_sum (by decide) (by decide) rfl rfl)))
set_option maxHeartbeats 4000000 in
theorem ok__law_piece {f : Addr} {fd : FuncData} (F : Fun K "_law_piece" "_law_piece" s__law_piece f fd) {f__law_square : Addr} {fd__law_square : FuncData} (o__law_square : FnOk P w K mg base CX0 1 f__law_square fd__law_square ["one", "two"] (spF (gg K cA) 2 F__law_square)) (b__law_square : Binds K fd__law_square ["one", "two"] []) (m__law_square : mg "_law_square" = some (.ref f__law_square)) (k__law_square : PySem.W.keepIn K (.ref f__law_square) = true) (z_len : mg "len" = none) (z_range : mg "range" = none) (z_sum : mg "sum" = none) : FnOk P w K mg base CX0 2 f fd ["place", "at", "to"] (spF (gg K cA) 3 F__law_piece) := by
  refine Fn0 F sc__law_piece (fun hl h => fnP_ends (N := 10) hl h) fun cdv A outer s H E hr => ?_
  have nd := sc__law_piece.nd
  exact (.cons (.set (i := 3) (.lc false rfl nd (LCV.mk' (own := [("k", 8)]) (is := [8]) (by kernel_rfl) (.range1 z_range (.cons (.callB (cv_len rfl) z_len (.cons (.var (i := 1) rfl rfl (by first | exact Or.inl rfl | exact Or.inr (Or.inl rfl) | exact Or.inr (Or.inr rfl)) (by decide) (by decide)) .nil rfl) (by rfl) bt_len (by decide) (by decide) rfl rfl) .nil rfl) (by rfl) (by rfl)) (fun _ _ _ _ _ => (.name nd rfl (by first | exact Or.inl rfl | exact Or.inr rfl) (by first | exact Or.inl rfl | exact Or.inr rfl))) (fun _ _ _ _ _ => .nil) (fun _ _ _ _ _ => (.bin ok_sub (.ix rfl (.var (i := 2) rfl rfl (by first | exact Or.inl rfl | exact Or.inr (Or.inl rfl) | exact Or.inr (Or.inr rfl)) (by decide) (by decide)) (.var (i := 8) rfl rfl (by first | exact Or.inl rfl | exact Or.inr (Or.inl rfl) | exact Or.inr (Or.inr rfl)) (by decide) (by decide)) (fun _ _ => rfl)) (.ix rfl (.var (i := 1) rfl rfl (by first | exact Or.inl rfl | exact Or.inr (Or.inl rfl) | exact Or.inr (Or.inr rfl)) (by decide) (by decide)) (.var (i := 8) rfl rfl (by first | exact Or.inl rfl | exact Or.inr (Or.inl rfl) | exact Or.inr (Or.inr rfl)) (by decide) (by decide)) (fun _ _ => rfl)))) (by decide)) (fun _ => rfl)) nd rfl (by first | exact Or.inl rfl | exact Or.inr rfl) rfl (Or.inl rfl))
  (.cons (.set (i := 4) (.lc false rfl nd (LCV.mk' (own := [("k", 8)]) (is := [8]) (by kernel_rfl) (.range1 z_range (.cons (.callB (cv_len rfl) z_len (.cons (.var (i := 1) rfl rfl (by first | exact Or.inl rfl | exact Or.inr (Or.inl rfl) | exact Or.inr (Or.inr rfl)) (by decide) (by decide)) .nil rfl) (by rfl) bt_len (by decide) (by decide) rfl rfl) .nil rfl) (by rfl) (by rfl)) (fun _ _ _ _ _ => (.name nd rfl (by first | exact Or.inl rfl | exact Or.inr rfl) (by first | exact Or.inl rfl | exact Or.inr rfl))) (fun _ _ _ _ _ => .nil) (fun _ _ _ _ _ => (.bin ok_sub (.ix rfl (.var (i := 0) rfl rfl (by first | exact Or.inl rfl | exact Or.inr (Or.inl rfl) | exact Or.inr (Or.inr rfl)) (by decide) (by decide)) (.var (i := 8) rfl rfl (by first | exact Or.inl rfl | exact Or.inr (Or.inl rfl) | exact Or.inr (Or.inr rfl)) (by decide) (by decide)) (fun _ _ => rfl)) (.ix rfl (.var (i := 1) rfl rfl (by first | exact Or.inl rfl | exact Or.inr (Or.inl rfl) | exact Or.inr (Or.inr rfl)) (by decide) (by decide)) (.var (i := 8) rfl rfl (by first | exact Or.inl rfl | exact Or.inr (Or.inl rfl) | exact Or.inr (Or.inr rfl)) (by decide) (by decide)) (fun _ _ => rfl)))) (by decide)) (fun _ => rfl)) nd rfl (by first | exact Or.inl rfl | exact Or.inr rfl) rfl (Or.inl rfl))
  (.cons (.set (i := 5) (.callB (cv_sum rfl rfl) z_sum (.cons (.lc false rfl nd (LCV.mk' (own := [("number", 9)]) (is := [9]) (by kernel_rfl) (.any rfl (.var (i := 3) rfl rfl (by first | exact Or.inl rfl | exact Or.inr (Or.inl rfl) | exact Or.inr (Or.inr rfl)) (by decide) (by decide))) (fun _ _ _ _ _ => (.name nd rfl (by first | exact Or.inl rfl | exact Or.inr rfl) (by first | exact Or.inl rfl | exact Or.inr rfl))) (fun _ _ _ _ _ => .nil) (fun _ _ _ _ _ => (.bin ok_mul (.var (i := 9) rfl rfl (by first | exact Or.inl rfl | exact Or.inr (Or.inl rfl) | exact Or.inr (Or.inr rfl)) (by decide) (by decide)) (.var (i := 9) rfl rfl (by first | exact Or.inl rfl | exact Or.inr (Or.inl rfl) | exact Or.inr (Or.inr rfl)) (by decide) (by decide)))) (by decide)) (fun _ => rfl)) .nil rfl) (by rfl) bt_sum (by decide) (by decide) rfl rfl) nd rfl (by first | exact Or.inl rfl | exact Or.inr rfl) rfl (Or.inl rfl))
  (.cons (.set (i := 6) (.callB (cv_sum rfl rfl) z_sum (.cons (.lc false rfl nd (LCV.mk' (own := [("k", 8)]) (is := [8]) (by kernel_rfl) (.range1 z_range (.cons (.callB (cv_len rfl) z_len (.cons (.var (i := 1) rfl rfl (by first | exact Or.inl rfl | exact Or.inr (Or.inl rfl) | exact Or.inr (Or.inr rfl)) (by decide) (by decide)) .nil rfl) (by rfl) bt_len (by decide) (by decide) rfl rfl) .nil rfl) (by rfl) (by rfl)) (fun _ _ _ _ _ => (.name nd rfl (by first | exact Or.inl rfl | exact Or.inr rfl) (by first | exact Or.inl rfl | exact Or.inr rfl))) (fun _ _ _ _ _ => .nil) (fun _ _ _ _ _ => (.bin ok_mul (.ix rfl (.var (i := 4) rfl rfl (by first | exact Or.inl rfl | exact Or.inr (Or.inl rfl) | exact Or.inr (Or.inr rfl)) (by decide) (by decide)) (.var (i := 8) rfl rfl (by first | exact Or.inl rfl | exact Or.inr (Or.inl rfl) | exact Or.inr (Or.inr rfl)) (by decide) (by decide)) (fun _ _ => rfl)) (.ix rfl (.var (i := 3) rfl rfl (by first | exact Or.inl rfl | exact Or.inr (Or.inl rfl) | exact Or.inr (Or.inr rfl)) (by decide) (by decide)) (.var (i := 8) rfl rfl (by first | exact Or.inl rfl | exact Or.inr (Or.inl rfl) | exact Or.inr (Or.inr rfl)) (by decide) (by decide)) (fun _ _ => rfl)))) (by decide)) (fun _ => rfl)) .nil rfl) (by rfl) bt_sum (by decide) (by decide) rfl rfl) nd rfl (by first | exact Or.inl rfl | exact Or.inr rfl) rfl (Or.inl rfl))
  (.cons (.if_ (.cmp ok_le (.var (i := 6) rfl rfl (by first | exact Or.inl rfl | exact Or.inr (Or.inl rfl) | exact Or.inr (Or.inr rfl)) (by decide) (by decide)) .int rfl) (.one (.ret (.tup (.cons (.call o__law_square (hr.mono (by decide)) m__law_square k__law_square b__law_square passE (.cons (.var (i := 0) rfl rfl (by first | exact Or.inl rfl | exact Or.inr (Or.inl rfl) | exact Or.inr (Or.inr rfl)) (by decide) (by decide)) (.cons (.var (i := 1) rfl rfl (by first | exact Or.inl rfl | exact Or.inr (Or.inl rfl) | exact Or.inr (Or.inr rfl)) (by decide) (by decide)) .nil rfl) rfl) (by rfl) (by decide) rfl rfl) (.cons (.call o__law_square (hr.mono (by decide)) m__law_square k__law_square b__law_square passE (.cons (.var (i := 0) rfl rfl (by first | exact Or.inl rfl | exact Or.inr (Or.inl rfl) | exact Or.inr (Or.inr rfl)) (by decide) (by decide)) (.cons (.var (i := 1) rfl rfl (by first | exact Or.inl rfl | exact Or.inr (Or.inl rfl) | exact Or.inr (Or.inr rfl)) (by decide) (by decide)) .nil rfl) rfl) (by rfl) (by decide) rfl rfl) .nil rfl) rfl)))) .nil)
  (.cons (.if_ (.cmp ok_ge (.var (i := 6) rfl rfl (by first | exact Or.inl rfl | exact Or.inr (Or.inl rfl) | exact Or.inr (Or.inr rfl)) (by decide) (by decide)) (.var (i := 5) rfl rfl (by first | exact Or.inl rfl | exact Or.inr (Or.inl rfl) | exact Or.inr (Or.inr rfl)) (by decide) (by decide)) rfl) (.one (.ret (.tup (.cons (.call o__law_square (hr.mono (by decide)) m__law_square k__law_square b__law_square passE (.cons (.var (i := 0) rfl rfl (by first | exact Or.inl rfl | exact Or.inr (Or.inl rfl) | exact Or.inr (Or.inr rfl)) (by decide) (by decide)) (.cons (.var (i := 2) rfl rfl (by first | exact Or.inl rfl | exact Or.inr (Or.inl rfl) | exact Or.inr (Or.inr rfl)) (by decide) (by decide)) .nil rfl) rfl) (by rfl) (by decide) rfl rfl) (.cons (.call o__law_square (hr.mono (by decide)) m__law_square k__law_square b__law_square passE (.cons (.var (i := 0) rfl rfl (by first | exact Or.inl rfl | exact Or.inr (Or.inl rfl) | exact Or.inr (Or.inr rfl)) (by decide) (by decide)) (.cons (.var (i := 2) rfl rfl (by first | exact Or.inl rfl | exact Or.inr (Or.inl rfl) | exact Or.inr (Or.inr rfl)) (by decide) (by decide)) .nil rfl) rfl) (by rfl) (by decide) rfl rfl) .nil rfl) rfl)))) .nil)
  (.cons (.set (i := 7) (.bin ok_sub (.bin ok_mul (.callB (cv_sum rfl rfl) z_sum (.cons (.lc false rfl nd (LCV.mk' (own := [("number", 9)]) (is := [9]) (by kernel_rfl) (.any rfl (.var (i := 4) rfl rfl (by first | exact Or.inl rfl | exact Or.inr (Or.inl rfl) | exact Or.inr (Or.inr rfl)) (by decide) (by decide))) (fun _ _ _ _ _ => (.name nd rfl (by first | exact Or.inl rfl | exact Or.inr rfl) (by first | exact Or.inl rfl | exact Or.inr rfl))) (fun _ _ _ _ _ => .nil) (fun _ _ _ _ _ => (.bin ok_mul (.var (i := 9) rfl rfl (by first | exact Or.inl rfl | exact Or.inr (Or.inl rfl) | exact Or.inr (Or.inr rfl)) (by decide) (by decide)) (.var (i := 9) rfl rfl (by first | exact Or.inl rfl | exact Or.inr (Or.inl rfl) | exact Or.inr (Or.inr rfl)) (by decide) (by decide)))) (by decide)) (fun _ => rfl)) .nil rfl) (by rfl) bt_sum (by decide) (by decide) rfl rfl) (.var (i := 5) rfl rfl (by first | exact Or.inl rfl | exact Or.inr (Or.inl rfl) | exact Or.inr (Or.inr rfl)) (by decide) (by decide))) (.bin ok_mul (.var (i := 6) rfl rfl (by first | exact Or.inl rfl | exact Or.inr (Or.inl rfl) | exact Or.inr (Or.inr rfl)) (by decide) (by decide)) (.var (i := 6) rfl rfl (by first | exact Or.inl rfl | exact Or.inr (Or.inl rfl) | exact Or.inr (Or.inr rfl)) (by decide) (by decide)))) nd rfl (by first | exact Or.inl rfl | exact Or.inr rfl) rfl (Or.inl rfl))
  (.one (.ret (.tup (.cons (.bin ok_div (.var (i := 7) rfl rfl (by first | exact Or.inl rfl | exact Or.inr (Or.inl rfl) | exact Or.inr (Or.inr rfl)) (by decide) (by decide)) (.var (i := 5) rfl rfl (by first | exact Or.inl rfl | exact Or.inr (Or.inl rfl) | exact Or.inr (Or.inr rfl)) (by decide) (by decide))) (.cons (.bin ok_sub .int (.bin ok_div (.bin ok_sub .int (.var (i := 7) rfl rfl (by first | exact Or.inl rfl | exact Or.inr (Or.inl rfl) | exact Or.inr (Or.inr rfl)) (by decide) (by decide))) (.var (i := 5) rfl rfl (by first | exact Or.inl rfl | exact Or.inr (Or.inl rfl) | exact Or.inr (Or.inr rfl)) (by decide) (by decide)))) .nil rfl) rfl)))))))))))
set_option maxHeartbeats 4000000 in
theorem ok__law_root {f : Addr} {fd : FuncData} (F : Fun K "_law_root" "_law_root" s__law_root f fd) (z_range : mg "range" = none) : FnOk P w K mg base CX0 1 f fd ["number"] (spF (gg K cA) 1 F__law_root) := by
  refine Fn0 F sc__law_root (fun hl h => fnP_ends (N := 5) hl h) fun cdv A outer s H E hr => ?_
  have nd := sc__law_root.nd
  exact (.cons (.set (i := 1) .int nd rfl (by first | exact Or.inl rfl | exact Or.inr rfl) rfl (Or.inl rfl))
  (.cons (.set (i := 2) .int nd rfl (by first | exact Or.inl rfl | exact Or.inr rfl) rfl (Or.inl rfl))
  (.cons (.for_ PassesOwn.never rfl (.range1 z_range (.cons .int .nil rfl) (by rfl) (by rfl)) (.name nd rfl (by first | exact Or.inl rfl | exact Or.inr rfl) (by first | exact Or.inl rfl | exact Or.inr rfl)) (.cons (.if_ (.cmp ok_gt (.bin ok_mul (.var (i := 2) rfl rfl (by first | exact Or.inl rfl | exact Or.inr (Or.inl rfl) | exact Or.inr (Or.inr rfl)) (by decide) (by decide)) (.var (i := 2) rfl rfl (by first | exact Or.inl rfl | exact Or.inr (Or.inl rfl) | exact Or.inr (Or.inr rfl)) (by decide) (by decide))) (.var (i := 0) rfl rfl (by first | exact Or.inl rfl | exact Or.inr (Or.inl rfl) | exact Or.inr (Or.inr rfl)) (by decide) (by decide)) rfl) (.one .brk) .nil)
  (.one (.set (i := 2) (.bin ok_mul (.var (i := 2) rfl rfl (by first | exact Or.inl rfl | exact Or.inr (Or.inl rfl) | exact Or.inr (Or.inr rfl)) (by decide) (by decide)) .int) nd rfl (by first | exact Or.inl rfl | exact Or.inr rfl) rfl (Or.inl rfl)))) (fun _ => rfl))
  (.cons (.for_ PassesOwn.never rfl (.range1 z_range (.cons .int .nil rfl) (by rfl) (by rfl)) (.name nd rfl (by first | exact Or.inl rfl | exact Or.inr rfl) (by first | exact Or.inl rfl | exact Or.inr rfl)) (.cons (.if_ (.cmp ok_le (.bin ok_sub (.var (i := 2) rfl rfl (by first | exact Or.inl rfl | exact Or.inr (Or.inl rfl) | exact Or.inr (Or.inr rfl)) (by decide) (by decide)) (.var (i := 1) rfl rfl (by first | exact Or.inl rfl | exact Or.inr (Or.inl rfl) | exact Or.inr (Or.inr rfl)) (by decide) (by decide))) .int rfl) (.one .brk) .nil)
  (.cons (.set (i := 4) (.bin ok_div (.bin (ok_add rfl) (.var (i := 1) rfl rfl (by first | exact Or.inl rfl | exact Or.inr (Or.inl rfl) | exact Or.inr (Or.inr rfl)) (by decide) (by decide)) (.var (i := 2) rfl rfl (by first | exact Or.inl rfl | exact Or.inr (Or.inl rfl) | exact Or.inr (Or.inr rfl)) (by decide) (by decide))) .int) nd rfl (by first | exact Or.inl rfl | exact Or.inr rfl) rfl (Or.inl rfl))
  (.one (.if_ (.cmp ok_le (.bin ok_mul (.var (i := 4) rfl rfl (by first | exact Or.inl rfl | exact Or.inr (Or.inl rfl) | exact Or.inr (Or.inr rfl)) (by decide) (by decide)) (.var (i := 4) rfl rfl (by first | exact Or.inl rfl | exact Or.inr (Or.inl rfl) | exact Or.inr (Or.inr rfl)) (by decide) (by decide))) (.var (i := 0) rfl rfl (by first | exact Or.inl rfl | exact Or.inr (Or.inl rfl) | exact Or.inr (Or.inr rfl)) (by decide) (by decide)) rfl) (.one (.set (i := 1) (.var (i := 4) rfl rfl (by first | exact Or.inl rfl | exact Or.inr (Or.inl rfl) | exact Or.inr (Or.inr rfl)) (by decide) (by decide)) nd rfl (by first | exact Or.inl rfl | exact Or.inr rfl) rfl (Or.inl rfl))) (.one (.set (i := 2) (.var (i := 4) rfl rfl (by first | exact Or.inl rfl | exact Or.inr (Or.inl rfl) | exact Or.inr (Or.inr rfl)) (by decide) (by decide)) nd rfl (by first | exact Or.inl rfl | exact Or.inr rfl) rfl (Or.inl rfl))))))) (fun _ => rfl))
  (.one (.ret (.var (i := 1) rfl rfl (by first | exact Or.inl rfl | exact Or.inr (Or.inl rfl) | exact Or.inr (Or.inr rfl)) (by decide) (by decide))))))))
set_option maxHeartbeats 4000000 in
theorem ok__law_up {f : Addr} {fd : FuncData} (F : Fun K "_law_up" "_law_up" s__law_up f fd) {f__law_root : Addr} {fd__law_root : FuncData} (o__law_root : FnOk P w K mg base CX0 1 f__law_root fd__law_root ["number"] (spF (gg K cA) 1 F__law_root)) (b__law_root : Binds K fd__law_root ["number"] []) (m__law_root : mg "_law_root" = some (.ref f__law_root)) (k__law_root : PySem.W.keepIn K (.ref f__law_root) = true) (z_int : mg "int" = none) : FnOk P w K mg base CX0 2 f fd ["number"] (spF (gg K cA) 1 F__law_up) := by
  refine Fn0 F sc__law_up (fun hl h => fnP_ends (N := 2) hl h) fun cdv A outer s H E hr => ?_
  have nd := sc__law_up.nd
  exact (.cons (.set (i := 1) (.call o__law_root (hr.mono (by decide)) m__law_root k__law_root b__law_root passE (.cons (.var (i := 0) rfl rfl (by first | exact Or.inl rfl | exact Or.inr (Or.inl rfl) | exact Or.inr (Or.inr rfl)) (by decide) (by decide)) .nil rfl) (by rfl) (by decide) rfl rfl) nd rfl (by first | exact Or.inl rfl | exact Or.inr rfl) rfl (Or.inl rfl))
  (.one (.ret (.bin (ok_add rfl) (.var (i := 1) rfl rfl (by first | exact Or.inl rfl | exact Or.inr (Or.inl rfl) | exact Or.inr (Or.inr rfl)) (by decide) (by decide)) (.callT cv_int z_int (.cons (.cmp ok_lt (.bin ok_mul (.var (i := 1) rfl rfl (by first | exact Or.inl rfl | exact Or.inr (Or.inl rfl) | exact Or.inr (Or.inr rfl)) (by decide) (by decide)) (.var (i := 1) rfl rfl (by first | exact Or.inl rfl | exact Or.inr (Or.inl rfl) | exact Or.inr (Or.inr rfl)) (by decide) (by decide))) (.var (i := 0) rfl rfl (by first | exact Or.inl rfl | exact Or.inr (Or.inl rfl) | exact Or.inr (Or.inr rfl)) (by decide) (by decide)) rfl) .nil rfl) (by rfl) bt_int (by decide) (by decide) rfl rfl)))))
set_option maxHeartbeats 4000000 in
theorem ok__law_boxes {f : Addr} {fd : FuncData} (F : Fun K "_law_boxes" "_law_boxes" s__law_boxes f fd) (z_len : mg "len" = none) (z_max : mg "max" = none) (z_range : mg "range" = none) : FnOk P w K mg base CX0 1 f fd ["place", "boxes"] (spF (gg K cA) 2 F__law_boxes) := by
  refine Fn0 F sc__law_boxes (fun hl h => fnP_ends (N := 7) hl h) fun cdv A outer s H E hr => ?_
  have nd := sc__law_boxes.nd
  exact (.cons (.set (i := 2) (.neg .int) nd rfl (by first | exact Or.inl rfl | exact Or.inr rfl) rfl (Or.inl rfl))
  (.cons (.for_ PassesOwn.never rfl (.any rfl (.var (i := 1) rfl rfl (by first | exact Or.inl rfl | exact Or.inr (Or.inl rfl) | exact Or.inr (Or.inr rfl)) (by decide) (by decide))) (.name nd rfl (by first | exact Or.inl rfl | exact Or.inr rfl) (by first | exact Or.inl rfl | exact Or.inr rfl)) (.cons (.set (i := 4) .int nd rfl (by first | exact Or.inl rfl | exact Or.inr rfl) rfl (Or.inl rfl))
  (.cons (.for_ PassesOwn.never rfl (.range1 z_range (.cons (.callB (cv_len rfl) z_len (.cons (.var (i := 0) rfl rfl (by first | exact Or.inl rfl | exact Or.inr (Or.inl rfl) | exact Or.inr (Or.inr rfl)) (by decide) (by decide)) .nil rfl) (by rfl) bt_len (by decide) (by decide) rfl rfl) .nil rfl) (by rfl) (by rfl)) (.name nd rfl (by first | exact Or.inl rfl | exact Or.inr rfl) (by first | exact Or.inl rfl | exact Or.inr rfl)) (.cons (.set (i := 6) (.callB (cv_max rfl rfl) z_max (.cons (.bin ok_sub (.ix rfl (.ix rfl (.var (i := 3) rfl rfl (by first | exact Or.inl rfl | exact Or.inr (Or.inl rfl) | exact Or.inr (Or.inr rfl)) (by decide) (by decide)) (.var (i := 5) rfl rfl (by first | exact Or.inl rfl | exact Or.inr (Or.inl rfl) | exact Or.inr (Or.inr rfl)) (by decide) (by decide)) (fun _ _ => rfl)) .int (fun _ _ => rfl)) (.ix rfl (.var (i := 0) rfl rfl (by first | exact Or.inl rfl | exact Or.inr (Or.inl rfl) | exact Or.inr (Or.inr rfl)) (by decide) (by decide)) (.var (i := 5) rfl rfl (by first | exact Or.inl rfl | exact Or.inr (Or.inl rfl) | exact Or.inr (Or.inr rfl)) (by decide) (by decide)) (fun _ _ => rfl))) (.cons (.bin ok_sub (.ix rfl (.var (i := 0) rfl rfl (by first | exact Or.inl rfl | exact Or.inr (Or.inl rfl) | exact Or.inr (Or.inr rfl)) (by decide) (by decide)) (.var (i := 5) rfl rfl (by first | exact Or.inl rfl | exact Or.inr (Or.inl rfl) | exact Or.inr (Or.inr rfl)) (by decide) (by decide)) (fun _ _ => rfl)) (.ix rfl (.ix rfl (.var (i := 3) rfl rfl (by first | exact Or.inl rfl | exact Or.inr (Or.inl rfl) | exact Or.inr (Or.inr rfl)) (by decide) (by decide)) (.var (i := 5) rfl rfl (by first | exact Or.inl rfl | exact Or.inr (Or.inl rfl) | exact Or.inr (Or.inr rfl)) (by decide) (by decide)) (fun _ _ => rfl)) .int (fun _ _ => rfl))) (.cons .int .nil rfl) rfl) rfl) (by rfl) bt_max (by decide) (by decide) rfl rfl) nd rfl (by first | exact Or.inl rfl | exact Or.inr rfl) rfl (Or.inl rfl))
  (.one (.set (i := 4) (.bin (ok_add rfl) (.var (i := 4) rfl rfl (by first | exact Or.inl rfl | exact Or.inr (Or.inl rfl) | exact Or.inr (Or.inr rfl)) (by decide) (by decide)) (.bin ok_mul (.var (i := 6) rfl rfl (by first | exact Or.inl rfl | exact Or.inr (Or.inl rfl) | exact Or.inr (Or.inr rfl)) (by decide) (by decide)) (.var (i := 6) rfl rfl (by first | exact Or.inl rfl | exact Or.inr (Or.inl rfl) | exact Or.inr (Or.inr rfl)) (by decide) (by decide)))) nd rfl (by first | exact Or.inl rfl | exact Or.inr rfl) rfl (Or.inl rfl)))) (fun _ => rfl))
  (.one (.if_ (WV.tv (.or_ (.cmp ok_lt (.var (i := 2) rfl rfl (by first | exact Or.inl rfl | exact Or.inr (Or.inl rfl) | exact Or.inr (Or.inr rfl)) (by decide) (by decide)) .int rfl) (.or1 (.cmp ok_lt (.var (i := 4) rfl rfl (by first | exact Or.inl rfl | exact Or.inr (Or.inl rfl) | exact Or.inr (Or.inr rfl)) (by decide) (by decide)) (.var (i := 2) rfl rfl (by first | exact Or.inl rfl | exact Or.inr (Or.inl rfl) | exact Or.inr (Or.inr rfl)) (by decide) (by decide)) rfl)))) (.one (.set (i := 2) (.var (i := 4) rfl rfl (by first | exact Or.inl rfl | exact Or.inr (Or.inl rfl) | exact Or.inr (Or.inr rfl)) (by decide) (by decide)) nd rfl (by first | exact Or.inl rfl | exact Or.inr rfl) rfl (Or.inl rfl))) .nil)))) (fun _ => rfl))
  (.one (.ret (.var (i := 2) rfl rfl (by first | exact Or.inl rfl | exact Or.inr (Or.inl rfl) | exact Or.inr (Or.inr rfl)) (by decide) (by decide))))))
set_option maxHeartbeats 4000000 in
theorem ok__law_value {f : Addr} {fd : FuncData} (F : Fun K "_law_value" "_law_value" s__law_value f fd) {f__law_piece : Addr} {fd__law_piece : FuncData} (o__law_piece : FnOk P w K mg base CX0 2 f__law_piece fd__law_piece ["place", "at", "to"] (spF (gg K cA) 3 F__law_piece)) (b__law_piece : Binds K fd__law_piece ["place", "at", "to"] []) (m__law_piece : mg "_law_piece" = some (.ref f__law_piece)) (k__law_piece : PySem.W.keepIn K (.ref f__law_piece) = true) {f__law_up : Addr} {fd__law_up : FuncData} (o__law_up : FnOk P w K mg base CX0 2 f__law_up fd__law_up ["number"] (spF (gg K cA) 1 F__law_up)) (b__law_up : Binds K fd__law_up ["number"] []) (m__law_up : mg "_law_up" = some (.ref f__law_up)) (k__law_up : PySem.W.keepIn K (.ref f__law_up) = true) {f__law_root : Addr} {fd__law_root : FuncData} (o__law_root : FnOk P w K mg base CX0 1 f__law_root fd__law_root ["number"] (spF (gg K cA) 1 F__law_root)) (b__law_root : Binds K fd__law_root ["number"] []) (m__law_root : mg "_law_root" = some (.ref f__law_root)) (k__law_root : PySem.W.keepIn K (.ref f__law_root) = true) {f__law_boxes : Addr} {fd__law_boxes : FuncData} (o__law_boxes : FnOk P w K mg base CX0 1 f__law_boxes fd__law_boxes ["place", "boxes"] (spF (gg K cA) 2 F__law_boxes)) (b__law_boxes : Binds K fd__law_boxes ["place", "boxes"] []) (m__law_boxes : mg "_law_boxes" = some (.ref f__law_boxes)) (k__law_boxes : PySem.W.keepIn K (.ref f__law_boxes) = true) {f__law_square : Addr} {fd__law_square : FuncData} (o__law_square : FnOk P w K mg base CX0 1 f__law_square fd__law_square ["one", "two"] (spF (gg K cA) 2 F__law_square)) (b__law_square : Binds K fd__law_square ["one", "two"] []) (m__law_square : mg "_law_square" = some (.ref f__law_square)) (k__law_square : PySem.W.keepIn K (.ref f__law_square) = true) (z_int : mg "int" = none) (z_len : mg "len" = none) (z_range : mg "range" = none) (z_sum : mg "sum" = none) : FnOk P w K mg base CX0 3 f fd ["kind", "place", "clock"] (spF (gg K cA) 3 F__law_value) := by
  refine Fn0 F sc__law_value (fun hl h => fnP_ends (N := 10) hl h) fun cdv A outer s H E hr => ?_
  have nd := sc__law_value.nd
  exact (.cons (.if_ (.cmp (ok_eq rfl hr.units) (.ix rfl (.var (i := 0) rfl rfl (by first | exact Or.inl rfl | exact Or.inr (Or.inl rfl) | exact Or.inr (Or.inr rfl)) (by decide) (by decide)) .int (fun _ _ => rfl)) .str rfl) (.cons (.set (i := 3) (.callB (cv_sum rfl rfl) z_sum (.cons (.lc false rfl nd (LCV.mk' (own := [("k", 9)]) (is := [9]) (by kernel_rfl) (.range1 z_range (.cons (.callB (cv_len rfl) z_len (.cons (.var (i := 1) rfl rfl (by first | exact Or.inl rfl | exact Or.inr (Or.inl rfl) | exact Or.inr (Or.inr rfl)) (by decide) (by decide)) .nil rfl) (by rfl) bt_len (by decide) (by decide) rfl rfl) .nil rfl) (by rfl) (by rfl)) (fun _ _ _ _ _ => (.name nd rfl (by first | exact Or.inl rfl | exact Or.inr rfl) (by first | exact Or.inl rfl | exact Or.inr rfl))) (fun _ _ _ _ _ => .nil) (fun _ _ _ _ _ => (.bin ok_mul (.ix rfl (.ix rfl (.var (i := 0) rfl rfl (by first | exact Or.inl rfl | exact Or.inr (Or.inl rfl) | exact Or.inr (Or.inr rfl)) (by decide) (by decide)) .int (fun _ _ => rfl)) (.var (i := 9) rfl rfl (by first | exact Or.inl rfl | exact Or.inr (Or.inl rfl) | exact Or.inr (Or.inr rfl)) (by decide) (by decide)) (fun _ _ => rfl)) (.ix rfl (.var (i := 1) rfl rfl (by first | exact Or.inl rfl | exact Or.inr (Or.inl rfl) | exact Or.inr (Or.inr rfl)) (by decide) (by decide)) (.var (i := 9) rfl rfl (by first | exact Or.inl rfl | exact Or.inr (Or.inl rfl) | exact Or.inr (Or.inr rfl)) (by decide) (by decide)) (fun _ _ => rfl)))) (by decide)) (fun _ => rfl)) .nil rfl) (by rfl) bt_sum (by decide) (by decide) rfl rfl) nd rfl (by first | exact Or.inl rfl | exact Or.inr rfl) rfl (Or.inl rfl))
  (.one (.ret (.tup (.cons (.var (i := 3) rfl rfl (by first | exact Or.inl rfl | exact Or.inr (Or.inl rfl) | exact Or.inr (Or.inr rfl)) (by decide) (by decide)) (.cons (.var (i := 3) rfl rfl (by first | exact Or.inl rfl | exact Or.inr (Or.inl rfl) | exact Or.inr (Or.inr rfl)) (by decide) (by decide)) .nil rfl) rfl))))) .nil)
  (.cons (.if_ (.cmp (ok_eq rfl hr.units) (.ix rfl (.var (i := 0) rfl rfl (by first | exact Or.inl rfl | exact Or.inr (Or.inl rfl) | exact Or.inr (Or.inr rfl)) (by decide) (by decide)) .int (fun _ _ => rfl)) .str rfl) (.cons (.asg (.call o__law_piece (hr.mono (by decide)) m__law_piece k__law_piece b__law_piece passE (.cons (.var (i := 1) rfl rfl (by first | exact Or.inl rfl | exact Or.inr (Or.inl rfl) | exact Or.inr (Or.inr rfl)) (by decide) (by decide)) (.cons (.ix rfl (.var (i := 0) rfl rfl (by first | exact Or.inl rfl | exact Or.inr (Or.inl rfl) | exact Or.inr (Or.inr rfl)) (by decide) (by decide)) .int (fun _ _ => rfl)) (.cons (.ix rfl (.var (i := 0) rfl rfl (by first | exact Or.inl rfl | exact Or.inr (Or.inl rfl) | exact Or.inr (Or.inr rfl)) (by decide) (by decide)) .int (fun _ _ => rfl)) .nil rfl) rfl) rfl) (by rfl) (by decide) rfl rfl) (.tup (n := 2) rfl rfl (.cons (ks := [4, 5]) (.name nd rfl (by first | exact Or.inl rfl | exact Or.inr rfl) (by first | exact Or.inl rfl | exact Or.inr rfl)) (.cons (ks := [4, 5]) (.name nd rfl (by first | exact Or.inl rfl | exact Or.inr rfl) (by first | exact Or.inl rfl | exact Or.inr rfl)) (.nil (is := [4, 5])) (by decide) (by decide) rfl) (by decide) (by decide) rfl) rfl rfl) rfl rfl rfl)
  (.one (.ret (.tup (.cons (.call o__law_root (hr.mono (by decide)) m__law_root k__law_root b__law_root passE (.cons (.var (i := 4) rfl rfl (by first | exact Or.inl rfl | exact Or.inr (Or.inl rfl) | exact Or.inr (Or.inr rfl)) (by decide) (by decide)) .nil rfl) (by rfl) (by decide) rfl rfl) (.cons (.call o__law_up (hr.mono (by decide)) m__law_up k__law_up b__law_up passE (.cons (.var (i := 5) rfl rfl (by first | exact Or.inl rfl | exact Or.inr (Or.inl rfl) | exact Or.inr (Or.inr rfl)) (by decide) (by decide)) .nil rfl) (by rfl) (by decide) rfl rfl) .nil rfl) rfl))))) .nil)
  (.cons (.if_ (.cmp (ok_eq rfl hr.units) (.ix rfl (.var (i := 0) rfl rfl (by first | exact Or.inl rfl | exact Or.inr (Or.inl rfl) | exact Or.inr (Or.inr rfl)) (by decide) (by decide)) .int (fun _ _ => rfl)) .str rfl) (.cons (.set (i := 6) (.call o__law_boxes (hr.mono (by decide)) m__law_boxes k__law_boxes b__law_boxes passE (.cons (.var (i := 1) rfl rfl (by first | exact Or.inl rfl | exact Or.inr (Or.inl rfl) | exact Or.inr (Or.inr rfl)) (by decide) (by decide)) (.cons (.ix rfl (.var (i := 0) rfl rfl (by first | exact Or.inl rfl | exact Or.inr (Or.inl rfl) | exact Or.inr (Or.inr rfl)) (by decide) (by decide)) .int (fun _ _ => rfl)) .nil rfl) rfl) (by rfl) (by decide) rfl rfl) nd rfl (by first | exact Or.inl rfl | exact Or.inr rfl) rfl (Or.inl rfl))
  (.one (.ret (.tup (.cons (.call o__law_root (hr.mono (by decide)) m__law_root k__law_root b__law_root passE (.cons (.var (i := 6) rfl rfl (by first | exact Or.inl rfl | exact Or.inr (Or.inl rfl) | exact Or.inr (Or.inr rfl)) (by decide) (by decide)) .nil rfl) (by rfl) (by decide) rfl rfl) (.cons (.call o__law_up (hr.mono (by decide)) m__law_up k__law_up b__law_up passE (.cons (.var (i := 6) rfl rfl (by first | exact Or.inl rfl | exact Or.inr (Or.inl rfl) | exact Or.inr (Or.inr rfl)) (by decide) (by decide)) .nil rfl) (by rfl) (by decide) rfl rfl) .nil rfl) rfl))))) .nil)
  (.cons (.set (i := 6) (.call o__law_square (hr.mono (by decide)) m__law_square k__law_square b__law_square passE (.cons (.var (i := 1) rfl rfl (by first | exact Or.inl rfl | exact Or.inr (Or.inl rfl) | exact Or.inr (Or.inr rfl)) (by decide) (by decide)) (.cons (.ix rfl (.var (i := 0) rfl rfl (by first | exact Or.inl rfl | exact Or.inr (Or.inl rfl) | exact Or.inr (Or.inr rfl)) (by decide) (by decide)) .int (fun _ _ => rfl)) .nil rfl) rfl) (by rfl) (by decide) rfl rfl) nd rfl (by first | exact Or.inl rfl | exact Or.inr rfl) rfl (Or.inl rfl))
  (.cons (.if_ (.cmp (ok_eq rfl hr.units) (.ix rfl (.var (i := 0) rfl rfl (by first | exact Or.inl rfl | exact Or.inr (Or.inl rfl) | exact Or.inr (Or.inr rfl)) (by decide) (by decide)) .int (fun _ _ => rfl)) .str rfl) (.cons (.set (i := 7) (.call o__law_square (hr.mono (by decide)) m__law_square k__law_square b__law_square passE (.cons (.var (i := 1) rfl rfl (by first | exact Or.inl rfl | exact Or.inr (Or.inl rfl) | exact Or.inr (Or.inr rfl)) (by decide) (by decide)) (.cons (.ix rfl (.var (i := 0) rfl rfl (by first | exact Or.inl rfl | exact Or.inr (Or.inl rfl) | exact Or.inr (Or.inr rfl)) (by decide) (by decide)) .int (fun _ _ => rfl)) .nil rfl) rfl) (by rfl) (by decide) rfl rfl) nd rfl (by first | exact Or.inl rfl | exact Or.inr rfl) rfl (Or.inl rfl))
  (.one (.ret (.tup (.cons (.bin ok_sub (.call o__law_root (hr.mono (by decide)) m__law_root k__law_root b__law_root passE (.cons (.var (i := 6) rfl rfl (by first | exact Or.inl rfl | exact Or.inr (Or.inl rfl) | exact Or.inr (Or.inr rfl)) (by decide) (by decide)) .nil rfl) (by rfl) (by decide) rfl rfl) (.call o__law_up (hr.mono (by decide)) m__law_up k__law_up b__law_up passE (.cons (.var (i := 7) rfl rfl (by first | exact Or.inl rfl | exact Or.inr (Or.inl rfl) | exact Or.inr (Or.inr rfl)) (by decide) (by decide)) .nil rfl) (by rfl) (by decide) rfl rfl)) (.cons (.bin ok_sub (.call o__law_up (hr.mono (by decide)) m__law_up k__law_up b__law_up passE (.cons (.var (i := 6) rfl rfl (by first | exact Or.inl rfl | exact Or.inr (Or.inl rfl) | exact Or.inr (Or.inr rfl)) (by decide) (by decide)) .nil rfl) (by rfl) (by decide) rfl rfl) (.call o__law_root (hr.mono (by decide)) m__law_root k__law_root b__law_root passE (.cons (.var (i := 7) rfl rfl (by first | exact Or.inl rfl | exact Or.inr (Or.inl rfl) | exact Or.inr (Or.inr rfl)) (by decide) (by decide)) .nil rfl) (by rfl) (by decide) rfl rfl)) .nil rfl) rfl))))) .nil)
  (.cons (.set (i := 8) (.bin ok_mul (.var (i := 2) rfl rfl (by first | exact Or.inl rfl | exact Or.inr (Or.inl rfl) | exact Or.inr (Or.inr rfl)) (by decide) (by decide)) (.callT cv_int z_int (.cons (.cmp (ok_eq rfl hr.units) (.ix rfl (.var (i := 0) rfl rfl (by first | exact Or.inl rfl | exact Or.inr (Or.inl rfl) | exact Or.inr (Or.inr rfl)) (by decide) (by decide)) .int (fun _ _ => rfl)) .str rfl) .nil rfl) (by rfl) bt_int (by decide) (by decide) rfl rfl)) nd rfl (by first | exact Or.inl rfl | exact Or.inr rfl) rfl (Or.inl rfl))
  (.one (.ret (.tup (.cons (.bin (ok_add rfl) (.call o__law_root (hr.mono (by decide)) m__law_root k__law_root b__law_root passE (.cons (.var (i := 6) rfl rfl (by first | exact Or.inl rfl | exact Or.inr (Or.inl rfl) | exact Or.inr (Or.inr rfl)) (by decide) (by decide)) .nil rfl) (by rfl) (by decide) rfl rfl) (.var (i := 8) rfl rfl (by first | exact Or.inl rfl | exact Or.inr (Or.inl rfl) | exact Or.inr (Or.inr rfl)) (by decide) (by decide))) (.cons (.bin (ok_add rfl) (.call o__law_up (hr.mono (by decide)) m__law_up k__law_up b__law_up passE (.cons (.var (i := 6) rfl rfl (by first | exact Or.inl rfl | exact Or.inr (Or.inl rfl) | exact Or.inr (Or.inr rfl)) (by decide) (by decide)) .nil rfl) (by rfl) (by decide) rfl rfl) (.var (i := 8) rfl rfl (by first | exact Or.inl rfl | exact Or.inr (Or.inl rfl) | exact Or.inr (Or.inr rfl)) (by decide) (by decide))) .nil rfl) rfl))))))))))
set_option maxHeartbeats 4000000 in
theorem ok__law_moved {f : Addr} {fd : FuncData} (F : Fun K "_law_moved" "_law_moved" s__law_moved f fd) (z_len : mg "len" = none) (z_range : mg "range" = none) (z_tuple : mg "tuple" = none) : FnOk P w K mg base CX0 1 f fd ["kind", "shift"] (spF (gg K cA) 2 F__law_moved) := by
  refine Fn0 F sc__law_moved (fun hl h => fnP_ends (N := 7) hl h) fun cdv A outer s H E hr => ?_
  have nd := sc__law_moved.nd
  exact (.cons (.if_ (.cmp (ok_eq rfl hr.units) (.ix rfl (.var (i := 0) rfl rfl (by first | exact Or.inl rfl | exact Or.inr (Or.inl rfl) | exact Or.inr (Or.inr rfl)) (by decide) (by decide)) .int (fun _ _ => rfl)) .str rfl) (.one (.ret (.var (i := 0) rfl rfl (by first | exact Or.inl rfl | exact Or.inr (Or.inl rfl) | exact Or.inr (Or.inr rfl)) (by decide) (by decide)))) .nil)
  (.cons (.if_ (.cmp (ok_eq rfl hr.units) (.ix rfl (.var (i := 0) rfl rfl (by first | exact Or.inl rfl | exact Or.inr (Or.inl rfl) | exact Or.inr (Or.inr rfl)) (by decide) (by decide)) .int (fun _ _ => rfl)) .str rfl) (.cons (.set (i := 2) (.lst true .nil) nd rfl (by first | exact Or.inl rfl | exact Or.inr rfl) rfl (Or.inl rfl))
  (.cons (.for_ PassesOwn.never rfl (.any rfl (.ix rfl (.var (i := 0) rfl rfl (by first | exact Or.inl rfl | exact Or.inr (Or.inl rfl) | exact Or.inr (Or.inr rfl)) (by decide) (by decide)) .int (fun _ _ => rfl))) (.name nd rfl (by first | exact Or.inl rfl | exact Or.inr rfl) (by first | exact Or.inl rfl | exact Or.inr rfl)) (.one (.exp (.bm rfl PySem.F.plainAttrs_list PySem.F.slot_list_append PySem.F.type_list_append bm_append (.var (i := 2) rfl rfl (by first | exact Or.inl rfl | exact Or.inr (Or.inl rfl) | exact Or.inr (Or.inr rfl)) (by decide) (by decide)) (.cons (.callT (cv_tuple rfl) z_tuple (.cons (.lc false rfl nd (LCV.mk' (own := [("k", 5)]) (is := [5]) (by kernel_rfl) (.range1 z_range (.cons (.callB (cv_len rfl) z_len (.cons (.var (i := 3) rfl rfl (by first | exact Or.inl rfl | exact Or.inr (Or.inl rfl) | exact Or.inr (Or.inr rfl)) (by decide) (by decide)) .nil rfl) (by rfl) bt_len (by decide) (by decide) rfl rfl) .nil rfl) (by rfl) (by rfl)) (fun _ _ _ _ _ => (.name nd rfl (by first | exact Or.inl rfl | exact Or.inr rfl) (by first | exact Or.inl rfl | exact Or.inr rfl))) (fun _ _ _ _ _ => .nil) (fun _ _ _ _ _ => (.tup (.cons (.bin (ok_add rfl) (.ix rfl (.ix rfl (.var (i := 3) rfl rfl (by first | exact Or.inl rfl | exact Or.inr (Or.inl rfl) | exact Or.inr (Or.inr rfl)) (by decide) (by decide)) (.var (i := 5) rfl rfl (by first | exact Or.inl rfl | exact Or.inr (Or.inl rfl) | exact Or.inr (Or.inr rfl)) (by decide) (by decide)) (fun _ _ => rfl)) .int (fun _ _ => rfl)) (.ix rfl (.var (i := 1) rfl rfl (by first | exact Or.inl rfl | exact Or.inr (Or.inl rfl) | exact Or.inr (Or.inr rfl)) (by decide) (by decide)) (.var (i := 5) rfl rfl (by first | exact Or.inl rfl | exact Or.inr (Or.inl rfl) | exact Or.inr (Or.inr rfl)) (by decide) (by decide)) (fun _ _ => rfl))) (.cons (.bin (ok_add rfl) (.ix rfl (.ix rfl (.var (i := 3) rfl rfl (by first | exact Or.inl rfl | exact Or.inr (Or.inl rfl) | exact Or.inr (Or.inr rfl)) (by decide) (by decide)) (.var (i := 5) rfl rfl (by first | exact Or.inl rfl | exact Or.inr (Or.inl rfl) | exact Or.inr (Or.inr rfl)) (by decide) (by decide)) (fun _ _ => rfl)) .int (fun _ _ => rfl)) (.ix rfl (.var (i := 1) rfl rfl (by first | exact Or.inl rfl | exact Or.inr (Or.inl rfl) | exact Or.inr (Or.inr rfl)) (by decide) (by decide)) (.var (i := 5) rfl rfl (by first | exact Or.inl rfl | exact Or.inr (Or.inl rfl) | exact Or.inr (Or.inr rfl)) (by decide) (by decide)) (fun _ _ => rfl))) .nil rfl) rfl))) (by decide)) (fun _ => rfl)) .nil rfl) (by rfl) bt_tuple (by decide) (by decide) rfl rfl) .nil rfl) rfl rfl rfl rfl rfl) rfl)) (fun _ => rfl))
  (.one (.ret (.tup (.cons (.ix rfl (.var (i := 0) rfl rfl (by first | exact Or.inl rfl | exact Or.inr (Or.inl rfl) | exact Or.inr (Or.inr rfl)) (by decide) (by decide)) .int (fun _ _ => rfl)) (.cons (.callT (cv_tuple rfl) z_tuple (.cons (.var (i := 2) rfl rfl (by first | exact Or.inl rfl | exact Or.inr (Or.inl rfl) | exact Or.inr (Or.inr rfl)) (by decide) (by decide)) .nil rfl) (by rfl) bt_tuple (by decide) (by decide) rfl rfl) .nil rfl) rfl)))))) .nil)
  (.cons (.setLc (i := 4) false rfl nd (LCV.mk' (own := [("point", 6)]) (is := [6]) (by kernel_rfl) (.any rfl (.sl rfl (.var (i := 0) rfl rfl (by first | exact Or.inl rfl | exact Or.inr (Or.inl rfl) | exact Or.inr (Or.inr rfl)) (by decide) (by decide)) (.yes .int) .no)) (fun _ _ _ _ _ => (.name nd rfl (by first | exact Or.inl rfl | exact Or.inr rfl) (by first | exact Or.inl rfl | exact Or.inr rfl))) (fun _ _ _ _ _ => .nil) (fun _ _ _ _ _ => (.callT (cv_tuple rfl) z_tuple (.cons (.lc false rfl nd (LCV.mk' (own := [("k", 5)]) (is := [5]) (by kernel_rfl) (.range1 z_range (.cons (.callB (cv_len rfl) z_len (.cons (.var (i := 6) rfl rfl (by first | exact Or.inl rfl | exact Or.inr (Or.inl rfl) | exact Or.inr (Or.inr rfl)) (by decide) (by decide)) .nil rfl) (by rfl) bt_len (by decide) (by decide) rfl rfl) .nil rfl) (by rfl) (by rfl)) (fun _ _ _ _ _ => (.name nd rfl (by first | exact Or.inl rfl | exact Or.inr rfl) (by first | exact Or.inl rfl | exact Or.inr rfl))) (fun _ _ _ _ _ => .nil) (fun _ _ _ _ _ => (.bin (ok_add rfl) (.ix rfl (.var (i := 6) rfl rfl (by first | exact Or.inl rfl | exact Or.inr (Or.inl rfl) | exact Or.inr (Or.inr rfl)) (by decide) (by decide)) (.var (i := 5) rfl rfl (by first | exact Or.inl rfl | exact Or.inr (Or.inl rfl) | exact Or.inr (Or.inr rfl)) (by decide) (by decide)) (fun _ _ => rfl)) (.ix rfl (.var (i := 1) rfl rfl (by first | exact Or.inl rfl | exact Or.inr (Or.inl rfl) | exact Or.inr (Or.inr rfl)) (by decide) (by decide)) (.var (i := 5) rfl rfl (by first | exact Or.inl rfl | exact Or.inr (Or.inl rfl) | exact Or.inr (Or.inr rfl)) (by decide) (by decide)) (fun _ _ => rfl)))) (by decide)) (fun _ => rfl)) .nil rfl) (by rfl) bt_tuple (by decide) (by decide) rfl rfl)) (by decide)) rfl rfl (sw_true rfl rfl rfl rfl) (fun _ => rfl))
  (.one (.ret (.callT (cv_tuple rfl) z_tuple (.cons (.bin (ok_add rfl) (.lst false (.cons (.ix rfl (.var (i := 0) rfl rfl (by first | exact Or.inl rfl | exact Or.inr (Or.inl rfl) | exact Or.inr (Or.inr rfl)) (by decide) (by decide)) .int (fun _ _ => rfl)) .nil rfl)) (.var (i := 4) rfl rfl (by first | exact Or.inl rfl | exact Or.inr (Or.inl rfl) | exact Or.inr (Or.inr rfl)) (by decide) (by decide))) .nil rfl) (by rfl) bt_tuple (by decide) (by decide) rfl rfl))))))
set_option maxHeartbeats 4000000 in
theorem ok_is_name {f : Addr} {fd : FuncData} (F : Fun K "is_name" "is_name" s_is_name f fd) (z_all : mg "all" = none) (z_len : mg "len" = none) {t_LONGEST : Tok} (g_LONGEST : mg "LONGEST" = some (.int 64 t_LONGEST)) {t_SIGNS : Tok} (g_SIGNS : mg "SIGNS" = some (.str "abcdefghijklmnopqrstuvwxyz0123456789_-" t_SIGNS)) : FnOk P w K mg base CX0 1 f fd ["text"] (spF (gg K cA) 1 F_is_name) := by
  refine Fn0 F sc_is_name (fun hl h => fnP_ends (N := 2) hl h) fun cdv A outer s H E hr => ?_
  have nd := sc_is_name.nd
  exact (.one (.ret (.and_ (.ch2 ok_le ok_le .int (.callB (cv_len rfl) z_len (.cons (.var (i := 0) rfl rfl (by first | exact Or.inl rfl | exact Or.inr (Or.inl rfl) | exact Or.inr (Or.inr rfl)) (by decide) (by decide)) .nil rfl) (by rfl) bt_len (by decide) (by decide) rfl rfl) (.glb (d := (.int 64)) (v := (.int 64)) (fun _ _ => by simp [rep]) g_LONGEST ⟨_, rfl⟩ (by rfl) (by decide)) rfl) (.one (.callB (cv_all rfl rfl) z_all (.cons (.lc false rfl nd (LCV.mk' (own := [("sign", 1)]) (is := [1]) (by kernel_rfl) (.any rfl (.var (i := 0) rfl rfl (by first | exact Or.inl rfl | exact Or.inr (Or.inl rfl) | exact Or.inr (Or.inr rfl)) (by decide) (by decide))) (fun _ _ _ _ _ => (.name nd rfl (by first | exact Or.inl rfl | exact Or.inr rfl) (by first | exact Or.inl rfl | exact Or.inr rfl))) (fun _ _ _ _ _ => .nil) (fun _ _ _ _ _ => (.cmp (ok_in rfl) (.var (i := 1) rfl rfl (by first | exact Or.inl rfl | exact Or.inr (Or.inl rfl) | exact Or.inr (Or.inr rfl)) (by decide) (by decide)) (.glb (d := (.str "abcdefghijklmnopqrstuvwxyz0123456789_-")) (v := (.str "abcdefghijklmnopqrstuvwxyz0123456789_-")) (fun _ _ => by simp [rep]) g_SIGNS ⟨_, rfl⟩ (by rfl) (by decide)) rfl)) (by decide)) (fun _ => rfl)) .nil rfl) (by rfl) bt_all (by decide) (by decide) rfl rfl)))))
set_option maxHeartbeats 4000000 in
theorem ok__direction_holds {f : Addr} {fd : FuncData} (F : Fun K "_direction_holds" "_direction_holds" s__direction_holds f fd) {f_all_within : Addr} {fd_all_within : FuncData} (o_all_within : FnOk P w K mg base CX0 1 f_all_within fd_all_within ["numbers", "low", "high"] (spF (gg K cA) 3 F_all_within)) (b_all_within : Binds K fd_all_within ["numbers", "low", "high"] []) (m_all_within : mg "all_within" = some (.ref f_all_within)) (k_all_within : PySem.W.keepIn K (.ref f_all_within) = true) (z_any : mg "any" = none) {t_STEEPEST : Tok} (g_STEEPEST : mg "STEEPEST" = some (.int 1000 t_STEEPEST)) : FnOk P w K mg base CX0 2 f fd ["direction"] (spF (gg K cA) 1 F__direction_holds) := by
  refine Fn0 F sc__direction_holds (fun hl h => fnP_ends (N := 2) hl h) fun cdv A outer s H E hr => ?_
  have nd := sc__direction_holds.nd
  exact (.one (.ret (.and_ (.call o_all_within (hr.mono (by decide)) m_all_within k_all_within b_all_within passE (.cons (.var (i := 0) rfl rfl (by first | exact Or.inl rfl | exact Or.inr (Or.inl rfl) | exact Or.inr (Or.inr rfl)) (by decide) (by decide)) (.cons (.neg (.glb (d := (.int 1000)) (v := (.int 1000)) (fun _ _ => by simp [rep]) g_STEEPEST ⟨_, rfl⟩ (by rfl) (by decide))) (.cons (.glb (d := (.int 1000)) (v := (.int 1000)) (fun _ _ => by simp [rep]) g_STEEPEST ⟨_, rfl⟩ (by rfl) (by decide)) .nil rfl) rfl) rfl) (by rfl) (by decide) rfl rfl) (.one (.callB (cv_any rfl rfl) z_any (.cons (.lc false rfl nd (LCV.mk' (own := [("number", 1)]) (is := [1]) (by kernel_rfl) (.any rfl (.var (i := 0) rfl rfl (by first | exact Or.inl rfl | exact Or.inr (Or.inl rfl) | exact Or.inr (Or.inr rfl)) (by decide) (by decide))) (fun _ _ _ _ _ => (.name nd rfl (by first | exact Or.inl rfl | exact Or.inr rfl) (by first | exact Or.inl rfl | exact Or.inr rfl))) (fun _ _ _ _ _ => .nil) (fun _ _ _ _ _ => (.cmp (ok_ne rfl hr.units) (.var (i := 1) rfl rfl (by first | exact Or.inl rfl | exact Or.inr (Or.inl rfl) | exact Or.inr (Or.inr rfl)) (by decide) (by decide)) .int rfl)) (by decide)) (fun _ => rfl)) .nil rfl) (by rfl) bt_any (by decide) (by decide) rfl rfl)))))
set_option maxHeartbeats 4000000 in
theorem ok__boxes_hold {f : Addr} {fd : FuncData} (F : Fun K "_boxes_hold" "_boxes_hold" s__boxes_hold f fd) {f_sides_within : Addr} {fd_sides_within : FuncData} (o_sides_within : FnOk P w K mg base CX0 1 f_sides_within fd_sides_within ["sides", "limit"] (spF (gg K cA) 2 F_sides_within)) (b_sides_within : Binds K fd_sides_within ["sides", "limit"] []) (m_sides_within : mg "sides_within" = some (.ref f_sides_within)) (k_sides_within : PySem.W.keepIn K (.ref f_sides_within) = true) (z_all : mg "all" = none) (z_len : mg "len" = none) {t_LIMIT : Tok} (g_LIMIT : mg "LIMIT" = some (.int 1000000000000 t_LIMIT)) {t_MOST_BOXES : Tok} (g_MOST_BOXES : mg "MOST_BOXES" = some (.int 16 t_MOST_BOXES)) : FnOk P w K mg base CX0 2 f fd ["boxes"] (spF (gg K cA) 1 F__boxes_hold) := by
  refine Fn0 F sc__boxes_hold (fun hl h => fnP_ends (N := 2) hl h) fun cdv A outer s H E hr => ?_
  have nd := sc__boxes_hold.nd
  exact (.one (.ret (.and_ (.ch2 ok_le ok_le .int (.callB (cv_len rfl) z_len (.cons (.var (i := 0) rfl rfl (by first | exact Or.inl rfl | exact Or.inr (Or.inl rfl) | exact Or.inr (Or.inr rfl)) (by decide) (by decide)) .nil rfl) (by rfl) bt_len (by decide) (by decide) rfl rfl) (.glb (d := (.int 16)) (v := (.int 16)) (fun _ _ => by simp [rep]) g_MOST_BOXES ⟨_, rfl⟩ (by rfl) (by decide)) rfl) (.one (.callB (cv_all rfl rfl) z_all (.cons (.lc false rfl nd (LCV.mk' (own := [("box", 1)]) (is := [1]) (by kernel_rfl) (.any rfl (.var (i := 0) rfl rfl (by first | exact Or.inl rfl | exact Or.inr (Or.inl rfl) | exact Or.inr (Or.inr rfl)) (by decide) (by decide))) (fun _ _ _ _ _ => (.name nd rfl (by first | exact Or.inl rfl | exact Or.inr rfl) (by first | exact Or.inl rfl | exact Or.inr rfl))) (fun _ _ _ _ _ => .nil) (fun _ _ _ _ _ => (.call o_sides_within (hr.mono (by decide)) m_sides_within k_sides_within b_sides_within passE (.cons (.var (i := 1) rfl rfl (by first | exact Or.inl rfl | exact Or.inr (Or.inl rfl) | exact Or.inr (Or.inr rfl)) (by decide) (by decide)) (.cons (.glb (d := (.int 1000000000000)) (v := (.int 1000000000000)) (fun _ _ => by simp [rep]) g_LIMIT ⟨_, rfl⟩ (by rfl) (by decide)) .nil rfl) rfl) (by rfl) (by decide) rfl rfl)) (by decide)) (fun _ => rfl)) .nil rfl) (by rfl) bt_all (by decide) (by decide) rfl rfl)))))
set_option maxHeartbeats 4000000 in
theorem ok__kind_holds {f : Addr} {fd : FuncData} (F : Fun K "_kind_holds" "_kind_holds" s__kind_holds f fd) {f_all_within : Addr} {fd_all_within : FuncData} (o_all_within : FnOk P w K mg base CX0 1 f_all_within fd_all_within ["numbers", "low", "high"] (spF (gg K cA) 3 F_all_within)) (b_all_within : Binds K fd_all_within ["numbers", "low", "high"] []) (m_all_within : mg "all_within" = some (.ref f_all_within)) (k_all_within : PySem.W.keepIn K (.ref f_all_within) = true) {f__direction_holds : Addr} {fd__direction_holds : FuncData} (o__direction_holds : FnOk P w K mg base CX0 2 f__direction_holds fd__direction_holds ["direction"] (spF (gg K cA) 1 F__direction_holds)) (b__direction_holds : Binds K fd__direction_holds ["direction"] []) (m__direction_holds : mg "_direction_holds" = some (.ref f__direction_holds)) (k__direction_holds : PySem.W.keepIn K (.ref f__direction_holds) = true) {f__boxes_hold : Addr} {fd__boxes_hold : FuncData} (o__boxes_hold : FnOk P w K mg base CX0 2 f__boxes_hold fd__boxes_hold ["boxes"] (spF (gg K cA) 1 F__boxes_hold)) (b__boxes_hold : Binds K fd__boxes_hold ["boxes"] []) (m__boxes_hold : mg "_boxes_hold" = some (.ref f__boxes_hold)) (k__boxes_hold : PySem.W.keepIn K (.ref f__boxes_hold) = true) (z_all : mg "all" = none) {t_LIMIT : Tok} (g_LIMIT : mg "LIMIT" = some (.int 1000000000000 t_LIMIT)) : FnOk P w K mg base CX0 3 f fd ["kind"] (spF (gg K cA) 1 F__kind_holds) := by
  refine Fn0 F sc__kind_holds (fun hl h => fnP_ends (N := 2) hl h) fun cdv A outer s H E hr => ?_
  have nd := sc__kind_holds.nd
  exact (.cons (.if_ (.cmp (ok_in rfl) (.ix rfl (.var (i := 0) rfl rfl (by first | exact Or.inl rfl | exact Or.inr (Or.inl rfl) | exact Or.inr (Or.inr rfl)) (by decide) (by decide)) .int (fun _ _ => rfl)) (.tup (.cons .str (.cons .str (.cons .str (.cons .str .nil rfl) rfl) rfl) rfl)) rfl) (.one (.ret (.callB (cv_all rfl rfl) z_all (.cons (.lc false rfl nd (LCV.mk' (own := [("point", 1)]) (is := [1]) (by kernel_rfl) (.any rfl (.sl rfl (.var (i := 0) rfl rfl (by first | exact Or.inl rfl | exact Or.inr (Or.inl rfl) | exact Or.inr (Or.inr rfl)) (by decide) (by decide)) (.yes .int) .no)) (fun _ _ _ _ _ => (.name nd rfl (by first | exact Or.inl rfl | exact Or.inr rfl) (by first | exact Or.inl rfl | exact Or.inr rfl))) (fun _ _ _ _ _ => .nil) (fun _ _ _ _ _ => (.call o_all_within (hr.mono (by decide)) m_all_within k_all_within b_all_within passE (.cons (.var (i := 1) rfl rfl (by first | exact Or.inl rfl | exact Or.inr (Or.inl rfl) | exact Or.inr (Or.inr rfl)) (by decide) (by decide)) (.cons (.neg (.glb (d := (.int 1000000000000)) (v := (.int 1000000000000)) (fun _ _ => by simp [rep]) g_LIMIT ⟨_, rfl⟩ (by rfl) (by decide))) (.cons (.glb (d := (.int 1000000000000)) (v := (.int 1000000000000)) (fun _ _ => by simp [rep]) g_LIMIT ⟨_, rfl⟩ (by rfl) (by decide)) .nil rfl) rfl) rfl) (by rfl) (by decide) rfl rfl)) (by decide)) (fun _ => rfl)) .nil rfl) (by rfl) bt_all (by decide) (by decide) rfl rfl))) .nil)
  (.cons (.if_ (.cmp (ok_eq rfl hr.units) (.ix rfl (.var (i := 0) rfl rfl (by first | exact Or.inl rfl | exact Or.inr (Or.inl rfl) | exact Or.inr (Or.inr rfl)) (by decide) (by decide)) .int (fun _ _ => rfl)) .str rfl) (.one (.ret (.call o__direction_holds (hr.mono (by decide)) m__direction_holds k__direction_holds b__direction_holds passE (.cons (.ix rfl (.var (i := 0) rfl rfl (by first | exact Or.inl rfl | exact Or.inr (Or.inl rfl) | exact Or.inr (Or.inr rfl)) (by decide) (by decide)) .int (fun _ _ => rfl)) .nil rfl) (by rfl) (by decide) rfl rfl))) .nil)
  (.one (.ret (.and_ (.cmp (ok_eq rfl hr.units) (.ix rfl (.var (i := 0) rfl rfl (by first | exact Or.inl rfl | exact Or.inr (Or.inl rfl) | exact Or.inr (Or.inr rfl)) (by decide) (by decide)) .int (fun _ _ => rfl)) .str rfl) (.one (.call o__boxes_hold (hr.mono (by decide)) m__boxes_hold k__boxes_hold b__boxes_hold passE (.cons (.ix rfl (.var (i := 0) rfl rfl (by first | exact Or.inl rfl | exact Or.inr (Or.inl rfl) | exact Or.inr (Or.inr rfl)) (by decide) (by decide)) .int (fun _ _ => rfl)) .nil rfl) (by rfl) (by decide) rfl rfl)))))))
set_option maxHeartbeats 4000000 in
theorem ok_Reading__init__ {f : Addr} {fd : FuncData} (F : Fun K "__init__" "Reading.__init__" s_Reading__init__ f fd) (T : ∀ c, ClsT K (cA c) ["dims", "root", "moment", "latest", "earliest", "share", "kind", "near", "late", "speed", "drift", "per", "liars", "source", "low", "high"]) {f_is_name : Addr} {fd_is_name : FuncData} (o_is_name : FnOk P w K mg base CX0 1 f_is_name fd_is_name ["text"] (spF (gg K cA) 1 F_is_name)) (b_is_name : Binds K fd_is_name ["text"] []) (m_is_name : mg "is_name" = some (.ref f_is_name)) (k_is_name : PySem.W.keepIn K (.ref f_is_name) = true) {f__kind_holds : Addr} {fd__kind_holds : FuncData} (o__kind_holds : FnOk P w K mg base CX0 3 f__kind_holds fd__kind_holds ["kind"] (spF (gg K cA) 1 F__kind_holds)) (b__kind_holds : Binds K fd__kind_holds ["kind"] []) (m__kind_holds : mg "_kind_holds" = some (.ref f__kind_holds)) (k__kind_holds : PySem.W.keepIn K (.ref f__kind_holds) = true) {f_all_within : Addr} {fd_all_within : FuncData} (o_all_within : FnOk P w K mg base CX0 1 f_all_within fd_all_within ["numbers", "low", "high"] (spF (gg K cA) 3 F_all_within)) (b_all_within : Binds K fd_all_within ["numbers", "low", "high"] []) (m_all_within : mg "all_within" = some (.ref f_all_within)) (k_all_within : PySem.W.keepIn K (.ref f_all_within) = true) {t_FAR : Tok} (g_FAR : mg "FAR" = some (.int 1000000000000000 t_FAR)) {t_LIMIT : Tok} (g_LIMIT : mg "LIMIT" = some (.int 1000000000000 t_LIMIT)) : FnOk P w K mg base CX0 4 f fd ["self", "source", "moment", "kind", "low", "high", "late", "near"] (spF (gg K cA) 8 F_Reading__init__) := by
  refine Fn0 F sc_Reading__init__ (fun hl h => fnR_ends (N := 8) h) fun cdv A outer s H E hr => ?_
  have nd := sc_Reading__init__.nd
  exact (.cons (.if_ (.not_ (.tru rfl (.call o_is_name (hr.mono (by decide)) m_is_name k_is_name b_is_name passE (.cons (.var (i := 1) rfl rfl (by first | exact Or.inl rfl | exact Or.inr (Or.inl rfl) | exact Or.inr (Or.inr rfl)) (by decide) (by decide)) .nil rfl) (by rfl) (by decide) rfl rfl) (fun _ => rfl))) (.one .no) .nil)
  (.cons (.if_ (.not_ (.ch2 ok_le ok_le (.neg (.glb (d := (.int 1000000000000)) (v := (.int 1000000000000)) (fun _ _ => by simp [rep]) g_LIMIT ⟨_, rfl⟩ (by rfl) (by decide))) (.var (i := 2) rfl rfl (by first | exact Or.inl rfl | exact Or.inr (Or.inl rfl) | exact Or.inr (Or.inr rfl)) (by decide) (by decide)) (.glb (d := (.int 1000000000000)) (v := (.int 1000000000000)) (fun _ _ => by simp [rep]) g_LIMIT ⟨_, rfl⟩ (by rfl) (by decide)) rfl)) (.one .no) .nil)
  (.cons (.if_ (.not_ (.tru rfl (.call o__kind_holds (hr.mono (by decide)) m__kind_holds k__kind_holds b__kind_holds passE (.cons (.var (i := 3) rfl rfl (by first | exact Or.inl rfl | exact Or.inr (Or.inl rfl) | exact Or.inr (Or.inr rfl)) (by decide) (by decide)) .nil rfl) (by rfl) (by decide) rfl rfl) (fun _ => rfl))) (.one .no) .nil)
  (.cons (.if_ (.not_ (.ch3 ok_le ok_le ok_le (.neg (.glb (d := (.int 1000000000000000)) (v := (.int 1000000000000000)) (fun _ _ => by simp [rep]) g_FAR ⟨_, rfl⟩ (by rfl) (by decide))) (.var (i := 4) rfl rfl (by first | exact Or.inl rfl | exact Or.inr (Or.inl rfl) | exact Or.inr (Or.inr rfl)) (by decide) (by decide)) (.var (i := 5) rfl rfl (by first | exact Or.inl rfl | exact Or.inr (Or.inl rfl) | exact Or.inr (Or.inr rfl)) (by decide) (by decide)) (.glb (d := (.int 1000000000000000)) (v := (.int 1000000000000000)) (fun _ _ => by simp [rep]) g_FAR ⟨_, rfl⟩ (by rfl) (by decide)) rfl)) (.one .no) .nil)
  (.cons (.if_ (.not_ (.tru rfl (.call o_all_within (hr.mono (by decide)) m_all_within k_all_within b_all_within passE (.cons (.tup (.cons (.var (i := 6) rfl rfl (by first | exact Or.inl rfl | exact Or.inr (Or.inl rfl) | exact Or.inr (Or.inr rfl)) (by decide) (by decide)) (.cons (.var (i := 7) rfl rfl (by first | exact Or.inl rfl | exact Or.inr (Or.inl rfl) | exact Or.inr (Or.inr rfl)) (by decide) (by decide)) .nil rfl) rfl)) (.cons .int (.cons (.glb (d := (.int 1000000000000)) (v := (.int 1000000000000)) (fun _ _ => by simp [rep]) g_LIMIT ⟨_, rfl⟩ (by rfl) (by decide)) .nil rfl) rfl) rfl) (by rfl) (by decide) rfl rfl) (fun _ => rfl))) (.one .no) .nil)
  (.cons (.put rfl (.of T (by simp)) (.var (i := 1) rfl rfl (by first | exact Or.inl rfl | exact Or.inr (Or.inl rfl) | exact Or.inr (Or.inr rfl)) (by decide) (by decide)) (.var (i := 0) rfl rfl (by first | exact Or.inl rfl | exact Or.inr (Or.inl rfl) | exact Or.inr (Or.inr rfl)) (by decide) (by decide)) rfl)
  (.cons (.put rfl (.of T (by simp)) (.var (i := 2) rfl rfl (by first | exact Or.inl rfl | exact Or.inr (Or.inl rfl) | exact Or.inr (Or.inr rfl)) (by decide) (by decide)) (.var (i := 0) rfl rfl (by first | exact Or.inl rfl | exact Or.inr (Or.inl rfl) | exact Or.inr (Or.inr rfl)) (by decide) (by decide)) rfl)
  (.cons (.put rfl (.of T (by simp)) (.var (i := 3) rfl rfl (by first | exact Or.inl rfl | exact Or.inr (Or.inl rfl) | exact Or.inr (Or.inr rfl)) (by decide) (by decide)) (.var (i := 0) rfl rfl (by first | exact Or.inl rfl | exact Or.inr (Or.inl rfl) | exact Or.inr (Or.inr rfl)) (by decide) (by decide)) rfl)
  (.cons (.put rfl (.of T (by simp)) (.var (i := 4) rfl rfl (by first | exact Or.inl rfl | exact Or.inr (Or.inl rfl) | exact Or.inr (Or.inr rfl)) (by decide) (by decide)) (.var (i := 0) rfl rfl (by first | exact Or.inl rfl | exact Or.inr (Or.inl rfl) | exact Or.inr (Or.inr rfl)) (by decide) (by decide)) rfl)
  (.cons (.put rfl (.of T (by simp)) (.var (i := 5) rfl rfl (by first | exact Or.inl rfl | exact Or.inr (Or.inl rfl) | exact Or.inr (Or.inr rfl)) (by decide) (by decide)) (.var (i := 0) rfl rfl (by first | exact Or.inl rfl | exact Or.inr (Or.inl rfl) | exact Or.inr (Or.inr rfl)) (by decide) (by decide)) rfl)
  (.cons (.put rfl (.of T (by simp)) (.var (i := 6) rfl rfl (by first | exact Or.inl rfl | exact Or.inr (Or.inl rfl) | exact Or.inr (Or.inr rfl)) (by decide) (by decide)) (.var (i := 0) rfl rfl (by first | exact Or.inl rfl | exact Or.inr (Or.inl rfl) | exact Or.inr (Or.inr rfl)) (by decide) (by decide)) rfl)
  (.one (.put rfl (.of T (by simp)) (.var (i := 7) rfl rfl (by first | exact Or.inl rfl | exact Or.inr (Or.inl rfl) | exact Or.inr (Or.inr rfl)) (by decide) (by decide)) (.var (i := 0) rfl rfl (by first | exact Or.inl rfl | exact Or.inr (Or.inl rfl) | exact Or.inr (Or.inr rfl)) (by decide) (by decide)) rfl)))))))))))))
set_option maxHeartbeats 4000000 in
theorem ok__law_reading {f : Addr} {fd : FuncData} (F : Fun K "_law_reading" "_law_reading" s__law_reading f fd) (T : ∀ c, ClsT K (cA c) ["dims", "root", "moment", "latest", "earliest", "share", "kind", "near", "late", "speed", "drift", "per", "liars", "source", "low", "high"]) {f__law_kind : Addr} {fd__law_kind : FuncData} (o__law_kind : FnOk P w K mg base CX0 3 f__law_kind fd__law_kind ["dims", "row"] (spF (gg K cA) 2 F__law_kind)) (b__law_kind : Binds K fd__law_kind ["dims", "row"] []) (m__law_kind : mg "_law_kind" = some (.ref f__law_kind)) (k__law_kind : PySem.W.keepIn K (.ref f__law_kind) = true) {f__law_at : Addr} {fd__law_at : FuncData} (o__law_at : FnOk P w K mg base CX0 1 f__law_at fd__law_at ["way", "moment"] (spF (gg K cA) 2 F__law_at)) (b__law_at : Binds K fd__law_at ["way", "moment"] []) (m__law_at : mg "_law_at" = some (.ref f__law_at)) (k__law_at : PySem.W.keepIn K (.ref f__law_at) = true) {f__law_value : Addr} {fd__law_value : FuncData} (o__law_value : FnOk P w K mg base CX0 3 f__law_value fd__law_value ["kind", "place", "clock"] (spF (gg K cA) 3 F__law_value)) (b__law_value : Binds K fd__law_value ["kind", "place", "clock"] []) (m__law_value : mg "_law_value" = some (.ref f__law_value)) (k__law_value : PySem.W.keepIn K (.ref f__law_value) = true) {f__law_moved : Addr} {fd__law_moved : FuncData} (o__law_moved : FnOk P w K mg base CX0 1 f__law_moved fd__law_moved ["kind", "shift"] (spF (gg K cA) 2 F__law_moved)) (b__law_moved : Binds K fd__law_moved ["kind", "shift"] []) (m__law_moved : mg "_law_moved" = some (.ref f__law_moved)) (k__law_moved : PySem.W.keepIn K (.ref f__law_moved) = true) {f_Reading__init__ : Addr} {fd_Reading__init__ : FuncData} (o_Reading__init__ : FnOk P w K mg base CX0 4 f_Reading__init__ fd_Reading__init__ ["self", "source", "moment", "kind", "low", "high", "late", "near"] (spF (gg K cA) 8 F_Reading__init__)) (M_Reading : Mk K (cA 1) f_Reading__init__) (mC_Reading : mg "Reading" = some (.ref (cA 1))) (kb_Reading__init___4_4 : KBn K fd_Reading__init__ ["self", "source", "moment", "kind", "low", "high", "late", "near"] 4 ["low", "high", "late", "near"] (fun us ws => us ++ ws) (fun vs zs => vs ++ zs)) (z_int : mg "int" = none) : FnOk P w K mg base CX0 6 f fd ["way", "dims", "name", "row", "lies"] (spF (gg K cA) 5 F__law_reading) := by
  refine Fn0 F sc__law_reading (fun hl h => fnP_ends (N := 14) hl h) fun cdv A outer s H E hr => ?_
  have nd := sc__law_reading.nd
  exact (.cons (.set (i := 5) (.call o__law_kind (hr.mono (by decide)) m__law_kind k__law_kind b__law_kind passE (.cons (.var (i := 1) rfl rfl (by first | exact Or.inl rfl | exact Or.inr (Or.inl rfl) | exact Or.inr (Or.inr rfl)) (by decide) (by decide)) (.cons (.bin ok_div (.var (i := 3) rfl rfl (by first | exact Or.inl rfl | exact Or.inr (Or.inl rfl) | exact Or.inr (Or.inr rfl)) (by decide) (by decide)) .int) .nil rfl) rfl) (by rfl) (by decide) rfl rfl) nd rfl (by first | exact Or.inl rfl | exact Or.inr rfl) rfl (Or.inl rfl))
  (.cons (.set (i := 6) (.bin ok_sub (.bin ok_mod (.callT cv_int z_int (.cons (.var (i := 3) rfl rfl (by first | exact Or.inl rfl | exact Or.inr (Or.inl rfl) | exact Or.inr (Or.inr rfl)) (by decide) (by decide)) .nil rfl) (by rfl) bt_int (by decide) (by decide) rfl rfl) .int) .int) nd rfl (by first | exact Or.inl rfl | exact Or.inr rfl) rfl (Or.inl rfl))
  (.cons (.set (i := 7) (.bin ok_div (.bin ok_mod (.callT cv_int z_int (.cons (.bin ok_div (.var (i := 3) rfl rfl (by first | exact Or.inl rfl | exact Or.inr (Or.inl rfl) | exact Or.inr (Or.inr rfl)) (by decide) (by decide)) .int) .nil rfl) (by rfl) bt_int (by decide) (by decide) rfl rfl) .int) .int) nd rfl (by first | exact Or.inl rfl | exact Or.inr rfl) rfl (Or.inl rfl))
  (.cons (.set (i := 8) (.bin (ok_add rfl) (.var (i := 6) rfl rfl (by first | exact Or.inl rfl | exact Or.inr (Or.inl rfl) | exact Or.inr (Or.inr rfl)) (by decide) (by decide)) (.bin ok_mul (.var (i := 7) rfl rfl (by first | exact Or.inl rfl | exact Or.inr (Or.inl rfl) | exact Or.inr (Or.inr rfl)) (by decide) (by decide)) (.bin ok_sub (.bin ok_mod (.callT cv_int z_int (.cons (.bin ok_div (.var (i := 3) rfl rfl (by first | exact Or.inl rfl | exact Or.inr (Or.inl rfl) | exact Or.inr (Or.inr rfl)) (by decide) (by decide)) .int) .nil rfl) (by rfl) bt_int (by decide) (by decide) rfl rfl) .int) .int))) nd rfl (by first | exact Or.inl rfl | exact Or.inr rfl) rfl (Or.inl rfl))
  (.cons (.set (i := 9) (.bin ok_div (.bin ok_mod (.callT cv_int z_int (.cons (.bin ok_div (.var (i := 3) rfl rfl (by first | exact Or.inl rfl | exact Or.inr (Or.inl rfl) | exact Or.inr (Or.inr rfl)) (by decide) (by decide)) .int) .nil rfl) (by rfl) bt_int (by decide) (by decide) rfl rfl) .int) .int) nd rfl (by first | exact Or.inl rfl | exact Or.inr rfl) rfl (Or.inl rfl))
  (.cons (.set (i := 10) (.bin (ok_repL true) (.lst false (.cons .int .nil rfl)) (.var (i := 1) rfl rfl (by first | exact Or.inl rfl | exact Or.inr (Or.inl rfl) | exact Or.inr (Or.inr rfl)) (by decide) (by decide))) nd rfl (by first | exact Or.inl rfl | exact Or.inr rfl) rfl (Or.inl rfl))
  (.cons (.setIx (.bin ok_mul (.var (i := 9) rfl rfl (by first | exact Or.inl rfl | exact Or.inr (Or.inl rfl) | exact Or.inr (Or.inr rfl)) (by decide) (by decide)) (.bin ok_sub (.bin ok_mod (.callT cv_int z_int (.cons (.bin ok_div (.var (i := 3) rfl rfl (by first | exact Or.inl rfl | exact Or.inr (Or.inl rfl) | exact Or.inr (Or.inr rfl)) (by decide) (by decide)) .int) .nil rfl) (by rfl) bt_int (by decide) (by decide) rfl rfl) .int) .int)) (.var (i := 10) rfl rfl (by first | exact Or.inl rfl | exact Or.inr (Or.inl rfl) | exact Or.inr (Or.inr rfl)) (by decide) (by decide)) (.bin ok_mod (.callT cv_int z_int (.cons (.bin ok_div (.var (i := 3) rfl rfl (by first | exact Or.inl rfl | exact Or.inr (Or.inl rfl) | exact Or.inr (Or.inr rfl)) (by decide) (by decide)) .int) .nil rfl) (by rfl) bt_int (by decide) (by decide) rfl rfl) (.var (i := 1) rfl rfl (by first | exact Or.inl rfl | exact Or.inr (Or.inl rfl) | exact Or.inr (Or.inr rfl)) (by decide) (by decide))) (fun _ => rfl) rfl rfl rfl)
  (.cons (.set (i := 11) (.call o__law_at (hr.mono (by decide)) m__law_at k__law_at b__law_at passE (.cons (.var (i := 0) rfl rfl (by first | exact Or.inl rfl | exact Or.inr (Or.inl rfl) | exact Or.inr (Or.inr rfl)) (by decide) (by decide)) (.cons (.var (i := 8) rfl rfl (by first | exact Or.inl rfl | exact Or.inr (Or.inl rfl) | exact Or.inr (Or.inr rfl)) (by decide) (by decide)) .nil rfl) rfl) (by rfl) (by decide) rfl rfl) nd rfl (by first | exact Or.inl rfl | exact Or.inr rfl) rfl (Or.inl rfl))
  (.cons (.asg (.call o__law_value (hr.mono (by decide)) m__law_value k__law_value b__law_value passE (.cons (.call o__law_moved (hr.mono (by decide)) m__law_moved k__law_moved b__law_moved passE (.cons (.var (i := 5) rfl rfl (by first | exact Or.inl rfl | exact Or.inr (Or.inl rfl) | exact Or.inr (Or.inr rfl)) (by decide) (by decide)) (.cons (.var (i := 10) rfl rfl (by first | exact Or.inl rfl | exact Or.inr (Or.inl rfl) | exact Or.inr (Or.inr rfl)) (by decide) (by decide)) .nil rfl) rfl) (by rfl) (by decide) rfl rfl) (.cons (.sl rfl (.var (i := 11) rfl rfl (by first | exact Or.inl rfl | exact Or.inr (Or.inl rfl) | exact Or.inr (Or.inr rfl)) (by decide) (by decide)) .no (.yes (.var (i := 1) rfl rfl (by first | exact Or.inl rfl | exact Or.inr (Or.inl rfl) | exact Or.inr (Or.inr rfl)) (by decide) (by decide)))) (.cons (.ix rfl (.var (i := 11) rfl rfl (by first | exact Or.inl rfl | exact Or.inr (Or.inl rfl) | exact Or.inr (Or.inr rfl)) (by decide) (by decide)) (.var (i := 1) rfl rfl (by first | exact Or.inl rfl | exact Or.inr (Or.inl rfl) | exact Or.inr (Or.inr rfl)) (by decide) (by decide)) (fun _ _ => rfl)) .nil rfl) rfl) rfl) (by rfl) (by decide) rfl rfl) (.tup (n := 2) rfl rfl (.cons (ks := [12, 13]) (.name nd rfl (by first | exact Or.inl rfl | exact Or.inr rfl) (by first | exact Or.inl rfl | exact Or.inr rfl)) (.cons (ks := [12, 13]) (.name nd rfl (by first | exact Or.inl rfl | exact Or.inr rfl) (by first | exact Or.inl rfl | exact Or.inr rfl)) (.nil (is := [12, 13])) (by decide) (by decide) rfl) (by decide) (by decide) rfl) rfl rfl) rfl rfl rfl)
  (.cons (.if_ (.tru rfl (.var (i := 4) rfl rfl (by first | exact Or.inl rfl | exact Or.inr (Or.inl rfl) | exact Or.inr (Or.inr rfl)) (by decide) (by decide)) (fun _ => rfl)) (.cons (.set (i := 12) (.bin ok_sub (.bin (ok_add rfl) (.var (i := 12) rfl rfl (by first | exact Or.inl rfl | exact Or.inr (Or.inl rfl) | exact Or.inr (Or.inr rfl)) (by decide) (by decide)) (.bin ok_mod (.callT cv_int z_int (.cons (.bin ok_div (.var (i := 3) rfl rfl (by first | exact Or.inl rfl | exact Or.inr (Or.inl rfl) | exact Or.inr (Or.inr rfl)) (by decide) (by decide)) .int) .nil rfl) (by rfl) bt_int (by decide) (by decide) rfl rfl) .int)) .int) nd rfl (by first | exact Or.inl rfl | exact Or.inr rfl) rfl (Or.inl rfl))
  (.one (.set (i := 13) (.bin (ok_add rfl) (.var (i := 12) rfl rfl (by first | exact Or.inl rfl | exact Or.inr (Or.inl rfl) | exact Or.inr (Or.inr rfl)) (by decide) (by decide)) (.bin ok_mod (.callT cv_int z_int (.cons (.bin ok_div (.var (i := 3) rfl rfl (by first | exact Or.inl rfl | exact Or.inr (Or.inl rfl) | exact Or.inr (Or.inr rfl)) (by decide) (by decide)) .int) .nil rfl) (by rfl) bt_int (by decide) (by decide) rfl rfl) .int)) nd rfl (by first | exact Or.inl rfl | exact Or.inr rfl) rfl (Or.inl rfl)))) .nil)
  (.cons (.set (i := 12) (.bin ok_sub (.var (i := 12) rfl rfl (by first | exact Or.inl rfl | exact Or.inr (Or.inl rfl) | exact Or.inr (Or.inr rfl)) (by decide) (by decide)) (.bin ok_mod (.callT cv_int z_int (.cons (.bin ok_div (.var (i := 3) rfl rfl (by first | exact Or.inl rfl | exact Or.inr (Or.inl rfl) | exact Or.inr (Or.inr rfl)) (by decide) (by decide)) .int) .nil rfl) (by rfl) bt_int (by decide) (by decide) rfl rfl) .int)) nd rfl (by first | exact Or.inl rfl | exact Or.inr rfl) rfl (Or.inl rfl))
  (.cons (.set (i := 13) (.bin (ok_add rfl) (.var (i := 13) rfl rfl (by first | exact Or.inl rfl | exact Or.inr (Or.inl rfl) | exact Or.inr (Or.inr rfl)) (by decide) (by decide)) (.bin ok_mod (.callT cv_int z_int (.cons (.bin ok_div (.var (i := 3) rfl rfl (by first | exact Or.inl rfl | exact Or.inr (Or.inl rfl) | exact Or.inr (Or.inr rfl)) (by decide) (by decide)) .int) .nil rfl) (by rfl) bt_int (by decide) (by decide) rfl rfl) .int)) nd rfl (by first | exact Or.inl rfl | exact Or.inr rfl) rfl (Or.inl rfl))
  (.one (.ret (.mkN (c := 1) M_Reading o_Reading__init__ (hr.mono (by decide)) mC_Reading kb_Reading__init___4_4 .app (fun xs ys h1 h2 => by rw [show (gApp xs ys).length = xs.length + ys.length from List.length_append, h1, h2]; rfl) passE (.cons (.var (i := 2) rfl rfl (by first | exact Or.inl rfl | exact Or.inr (Or.inl rfl) | exact Or.inr (Or.inr rfl)) (by decide) (by decide)) (.cons (.var (i := 6) rfl rfl (by first | exact Or.inl rfl | exact Or.inr (Or.inl rfl) | exact Or.inr (Or.inr rfl)) (by decide) (by decide)) (.cons (.var (i := 5) rfl rfl (by first | exact Or.inl rfl | exact Or.inr (Or.inl rfl) | exact Or.inr (Or.inr rfl)) (by decide) (by decide)) .nil rfl) rfl) rfl) (.cons (.var (i := 12) rfl rfl (by first | exact Or.inl rfl | exact Or.inr (Or.inl rfl) | exact Or.inr (Or.inr rfl)) (by decide) (by decide)) (.cons (.var (i := 13) rfl rfl (by first | exact Or.inl rfl | exact Or.inr (Or.inl rfl) | exact Or.inr (Or.inr rfl)) (by decide) (by decide)) (.cons (.var (i := 7) rfl rfl (by first | exact Or.inl rfl | exact Or.inr (Or.inl rfl) | exact Or.inr (Or.inr rfl)) (by decide) (by decide)) (.cons (.var (i := 9) rfl rfl (by first | exact Or.inl rfl | exact Or.inr (Or.inl rfl) | exact Or.inr (Or.inr rfl)) (by decide) (by decide)) .nil)))) (by rfl) rfl rfl (by decide) rfl rfl)))))))))))))))
set_option maxHeartbeats 4000000 in
theorem ok__law_readings {f : Addr} {fd : FuncData} (F : Fun K "_law_readings" "_law_readings" s__law_readings f fd) {f__law_reading : Addr} {fd__law_reading : FuncData} (o__law_reading : FnOk P w K mg base CX0 6 f__law_reading fd__law_reading ["way", "dims", "name", "row", "lies"] (spF (gg K cA) 5 F__law_reading)) (b__law_reading : Binds K fd__law_reading ["way", "dims", "name", "row", "lies"] []) (m__law_reading : mg "_law_reading" = some (.ref f__law_reading)) (k__law_reading : PySem.W.keepIn K (.ref f__law_reading) = true) (z_int : mg "int" = none) (z_len : mg "len" = none) (z_range : mg "range" = none) : FnOk P w K mg base CX0 7 f fd ["way", "dims", "rows", "many", "names", "liars"] (spF (gg K cA) 6 F__law_readings) := by
  refine Fn0 F sc__law_readings (fun hl h => fnP_ends (N := 9) hl h) fun cdv A outer s H E hr => ?_
  have nd := sc__law_readings.nd
  exact (.cons (.set (i := 6) (.lst true .nil) nd rfl (by first | exact Or.inl rfl | exact Or.inr rfl) rfl (Or.inl rfl))
  (.cons (.for_ PassesOwn.never rfl (.range1 z_range (.cons (.var (i := 3) rfl rfl (by first | exact Or.inl rfl | exact Or.inr (Or.inl rfl) | exact Or.inr (Or.inr rfl)) (by decide) (by decide)) .nil rfl) (by rfl) (by rfl)) (.name nd rfl (by first | exact Or.inl rfl | exact Or.inr rfl) (by first | exact Or.inl rfl | exact Or.inr rfl)) (.cons (.set (i := 8) (.ix rfl (.var (i := 4) rfl rfl (by first | exact Or.inl rfl | exact Or.inr (Or.inl rfl) | exact Or.inr (Or.inr rfl)) (by decide) (by decide)) (.bin ok_mod (.callT cv_int z_int (.cons (.bin ok_div (.ix rfl (.var (i := 2) rfl rfl (by first | exact Or.inl rfl | exact Or.inr (Or.inl rfl) | exact Or.inr (Or.inr rfl)) (by decide) (by decide)) (.var (i := 7) rfl rfl (by first | exact Or.inl rfl | exact Or.inr (Or.inl rfl) | exact Or.inr (Or.inr rfl)) (by decide) (by decide)) (fun _ _ => rfl)) .int) .nil rfl) (by rfl) bt_int (by decide) (by decide) rfl rfl) (.callB (cv_len rfl) z_len (.cons (.var (i := 4) rfl rfl (by first | exact Or.inl rfl | exact Or.inr (Or.inl rfl) | exact Or.inr (Or.inr rfl)) (by decide) (by decide)) .nil rfl) (by rfl) bt_len (by decide) (by decide) rfl rfl)) (fun _ _ => rfl)) nd rfl (by first | exact Or.inl rfl | exact Or.inr rfl) rfl (Or.inl rfl))
  (.one (.exp (.bm rfl PySem.F.plainAttrs_list PySem.F.slot_list_append PySem.F.type_list_append bm_append (.var (i := 6) rfl rfl (by first | exact Or.inl rfl | exact Or.inr (Or.inl rfl) | exact Or.inr (Or.inr rfl)) (by decide) (by decide)) (.cons (.tup (.cons (.bin (ok_add rfl) (.bin ok_mul (.var (i := 7) rfl rfl (by first | exact Or.inl rfl | exact Or.inr (Or.inl rfl) | exact Or.inr (Or.inr rfl)) (by decide) (by decide)) .int) .int) (.cons (.call o__law_reading (hr.mono (by decide)) m__law_reading k__law_reading b__law_reading passE (.cons (.var (i := 0) rfl rfl (by first | exact Or.inl rfl | exact Or.inr (Or.inl rfl) | exact Or.inr (Or.inr rfl)) (by decide) (by decide)) (.cons (.var (i := 1) rfl rfl (by first | exact Or.inl rfl | exact Or.inr (Or.inl rfl) | exact Or.inr (Or.inr rfl)) (by decide) (by decide)) (.cons (.var (i := 8) rfl rfl (by first | exact Or.inl rfl | exact Or.inr (Or.inl rfl) | exact Or.inr (Or.inr rfl)) (by decide) (by decide)) (.cons (.ix rfl (.var (i := 2) rfl rfl (by first | exact Or.inl rfl | exact Or.inr (Or.inl rfl) | exact Or.inr (Or.inr rfl)) (by decide) (by decide)) (.var (i := 7) rfl rfl (by first | exact Or.inl rfl | exact Or.inr (Or.inl rfl) | exact Or.inr (Or.inr rfl)) (by decide) (by decide)) (fun _ _ => rfl)) (.cons (.cmp (ok_in rfl) (.var (i := 8) rfl rfl (by first | exact Or.inl rfl | exact Or.inr (Or.inl rfl) | exact Or.inr (Or.inr rfl)) (by decide) (by decide)) (.var (i := 5) rfl rfl (by first | exact Or.inl rfl | exact Or.inr (Or.inl rfl) | exact Or.inr (Or.inr rfl)) (by decide) (by decide)) rfl) .nil rfl) rfl) rfl) rfl) rfl) (by rfl) (by decide) rfl rfl) .nil rfl) rfl)) .nil rfl) rfl rfl rfl rfl rfl) rfl))) (fun _ => rfl))
  (.one (.ret (.var (i := 6) rfl rfl (by first | exact Or.inl rfl | exact Or.inr (Or.inl rfl) | exact Or.inr (Or.inr rfl)) (by decide) (by decide))))))
set_option maxHeartbeats 4000000 in
theorem ok_half_side {f : Addr} {fd : FuncData} (F : Fun K "half_side" "half_side" s_half_side f fd)  : FnOk P w K mg base CX0 1 f fd ["side"] (spF (gg K cA) 1 F_half_side) := by
  refine Fn0 F sc_half_side (fun hl h => fnP_ends (N := 3) hl h) fun cdv A outer s H E hr => ?_
  have nd := sc_half_side.nd
  exact (.cons (.asg (.var (i := 0) rfl rfl (by first | exact Or.inl rfl | exact Or.inr (Or.inl rfl) | exact Or.inr (Or.inr rfl)) (by decide) (by decide)) (.tup (n := 2) rfl rfl (.cons (ks := [1, 2]) (.name nd rfl (by first | exact Or.inl rfl | exact Or.inr rfl) (by first | exact Or.inl rfl | exact Or.inr rfl)) (.cons (ks := [1, 2]) (.name nd rfl (by first | exact Or.inl rfl | exact Or.inr rfl) (by first | exact Or.inl rfl | exact Or.inr rfl)) (.nil (is := [1, 2])) (by decide) (by decide) rfl) (by decide) (by decide) rfl) rfl rfl) rfl rfl rfl)
  (.one (.ret (.bin ok_div (.bin (ok_add rfl) (.bin ok_sub (.var (i := 2) rfl rfl (by first | exact Or.inl rfl | exact Or.inr (Or.inl rfl) | exact Or.inr (Or.inr rfl)) (by decide) (by decide)) (.var (i := 1) rfl rfl (by first | exact Or.inl rfl | exact Or.inr (Or.inl rfl) | exact Or.inr (Or.inr rfl)) (by decide) (by decide))) .int) .int))))
set_option maxHeartbeats 4000000 in
theorem ok_root_up {f : Addr} {fd : FuncData} (F : Fun K "root_up" "root_up" s_root_up f fd) (g_isqrt : mg "isqrt" = some (.builtin "math.isqrt")) : FnOk P w K mg base CX0 1 f fd ["number"] (spF (gg K cA) 1 F_root_up) := by
  refine Fn0 F sc_root_up (fun hl h => fnP_ends (N := 2) hl h) fun cdv A outer s H E hr => ?_
  have nd := sc_root_up.nd
  exact (.cons (.set (i := 1) (.callM cv_isqrt g_isqrt (.cons (.var (i := 0) rfl rfl (by first | exact Or.inl rfl | exact Or.inr (Or.inl rfl) | exact Or.inr (Or.inr rfl)) (by decide) (by decide)) .nil rfl) (by rfl) (by decide) rfl rfl) nd rfl (by first | exact Or.inl rfl | exact Or.inr rfl) rfl (Or.inl rfl))
  (.cons (.if_ (.cmp ok_lt (.bin ok_mul (.var (i := 1) rfl rfl (by first | exact Or.inl rfl | exact Or.inr (Or.inl rfl) | exact Or.inr (Or.inr rfl)) (by decide) (by decide)) (.var (i := 1) rfl rfl (by first | exact Or.inl rfl | exact Or.inr (Or.inl rfl) | exact Or.inr (Or.inr rfl)) (by decide) (by decide))) (.var (i := 0) rfl rfl (by first | exact Or.inl rfl | exact Or.inr (Or.inl rfl) | exact Or.inr (Or.inr rfl)) (by decide) (by decide)) rfl) (.one (.ret (.bin (ok_add rfl) (.var (i := 1) rfl rfl (by first | exact Or.inl rfl | exact Or.inr (Or.inl rfl) | exact Or.inr (Or.inr rfl)) (by decide) (by decide)) .int))) .nil)
  (.one (.ret (.var (i := 1) rfl rfl (by first | exact Or.inl rfl | exact Or.inr (Or.inl rfl) | exact Or.inr (Or.inr rfl)) (by decide) (by decide))))))
set_option maxHeartbeats 4000000 in
theorem ok_cell_radius {f : Addr} {fd : FuncData} (F : Fun K "cell_radius" "cell_radius" s_cell_radius f fd) (T : ∀ c, ClsT K (cA c) ["dims", "root", "moment", "latest", "earliest", "share", "kind", "near", "late", "speed", "drift", "per", "liars", "source", "low", "high"]) {f_half_side : Addr} {fd_half_side : FuncData} (o_half_side : FnOk P w K mg base CX0 1 f_half_side fd_half_side ["side"] (spF (gg K cA) 1 F_half_side)) (b_half_side : Binds K fd_half_side ["side"] []) (m_half_side : mg "half_side" = some (.ref f_half_side)) (k_half_side : PySem.W.keepIn K (.ref f_half_side) = true) {f_root_up : Addr} {fd_root_up : FuncData} (o_root_up : FnOk P w K mg base CX0 1 f_root_up fd_root_up ["number"] (spF (gg K cA) 1 F_root_up)) (b_root_up : Binds K fd_root_up ["number"] []) (m_root_up : mg "root_up" = some (.ref f_root_up)) (k_root_up : PySem.W.keepIn K (.ref f_root_up) = true) : FnOk P w K mg base CX0 2 f fd ["setting", "share"] (spF (gg K cA) 2 F_cell_radius) := by
  refine Fn0 F sc_cell_radius (fun hl h => fnP_ends (N := 3) hl h) fun cdv A outer s H E hr => ?_
  have nd := sc_cell_radius.nd
  exact (.cons (.set (i := 2) (.call o_half_side (hr.mono (by decide)) m_half_side k_half_side b_half_side passE (.cons (.tup (.cons .int (.cons (.var (i := 1) rfl rfl (by first | exact Or.inl rfl | exact Or.inr (Or.inl rfl) | exact Or.inr (Or.inr rfl)) (by decide) (by decide)) .nil rfl) rfl)) .nil rfl) (by rfl) (by decide) rfl rfl) nd rfl (by first | exact Or.inl rfl | exact Or.inr rfl) rfl (Or.inl rfl))
  (.one (.ret (.call o_root_up (hr.mono (by decide)) m_root_up k_root_up b_root_up passE (.cons (.bin ok_mul (.bin ok_mul (.fld rfl (.of T (by simp)) (.var (i := 0) rfl rfl (by first | exact Or.inl rfl | exact Or.inr (Or.inl rfl) | exact Or.inr (Or.inr rfl)) (by decide) (by decide)) rfl) (.var (i := 2) rfl rfl (by first | exact Or.inl rfl | exact Or.inr (Or.inl rfl) | exact Or.inr (Or.inr rfl)) (by decide) (by decide))) (.var (i := 2) rfl rfl (by first | exact Or.inl rfl | exact Or.inr (Or.inl rfl) | exact Or.inr (Or.inr rfl)) (by decide) (by decide))) .nil rfl) (by rfl) (by decide) rfl rfl))))
set_option maxHeartbeats 4000000 in
theorem ok_moved {f : Addr} {fd : FuncData} (F : Fun K "moved" "moved" s_moved f fd)  : FnOk P w K mg base CX0 1 f fd ["kind"] (spF (gg K cA) 1 F_moved) := by
  refine Fn0 F sc_moved (fun hl h => fnP_ends (N := 1) hl h) fun cdv A outer s H E hr => ?_
  have nd := sc_moved.nd
  exact (.cons (.if_ (.cmp (ok_eq rfl hr.units) (.ix rfl (.var (i := 0) rfl rfl (by first | exact Or.inl rfl | exact Or.inr (Or.inl rfl) | exact Or.inr (Or.inr rfl)) (by decide) (by decide)) .int (fun _ _ => rfl)) .str rfl) (.one (.ret .int)) .nil)
  (.one (.ret (.ite_ (.cmp (ok_eq rfl hr.units) (.ix rfl (.var (i := 0) rfl rfl (by first | exact Or.inl rfl | exact Or.inr (Or.inl rfl) | exact Or.inr (Or.inr rfl)) (by decide) (by decide)) .int (fun _ _ => rfl)) .str rfl) .int .int))))
set_option maxHeartbeats 4000000 in
theorem ok_dot {f : Addr} {fd : FuncData} (F : Fun K "dot" "dot" s_dot f fd) (z_sum : mg "sum" = none) (z_zip : mg "zip" = none) : FnOk P w K mg base CX0 1 f fd ["one", "two"] (spF (gg K cA) 2 F_dot) := by
  refine Fn0 F sc_dot (fun hl h => fnP_ends (N := 4) hl h) fun cdv A outer s H E hr => ?_
  have nd := sc_dot.nd
  exact (.one (.ret (.callB (cv_sum rfl rfl) z_sum (.cons (.lc false rfl nd (LCV.mk' (own := [("number", 2), ("other", 3)]) (is := [2, 3]) (by kernel_rfl) (.zip rfl z_zip (.cons (.var (i := 0) rfl rfl (by first | exact Or.inl rfl | exact Or.inr (Or.inl rfl) | exact Or.inr (Or.inr rfl)) (by decide) (by decide)) (.cons (.var (i := 1) rfl rfl (by first | exact Or.inl rfl | exact Or.inr (Or.inl rfl) | exact Or.inr (Or.inr rfl)) (by decide) (by decide)) .nil rfl) rfl) (by rfl) (by rfl) (by rfl)) (fun _ _ _ _ _ => (.tup (n := 2) rfl rfl (.cons (ks := [2, 3]) (.name nd rfl (by first | exact Or.inl rfl | exact Or.inr rfl) (by first | exact Or.inl rfl | exact Or.inr rfl)) (.cons (ks := [2, 3]) (.name nd rfl (by first | exact Or.inl rfl | exact Or.inr rfl) (by first | exact Or.inl rfl | exact Or.inr rfl)) (.nil (is := [2, 3])) (by decide) (by decide) rfl) (by decide) (by decide) rfl) rfl rfl)) (fun _ _ _ _ _ => .nil) (fun _ _ _ _ _ => (.bin ok_mul (.var (i := 2) rfl rfl (by first | exact Or.inl rfl | exact Or.inr (Or.inl rfl) | exact Or.inr (Or.inr rfl)) (by decide) (by decide)) (.var (i := 3) rfl rfl (by first | exact Or.inl rfl | exact Or.inr (Or.inl rfl) | exact Or.inr (Or.inr rfl)) (by decide) (by decide)))) (by decide)) (fun _ => rfl)) .nil rfl) (by rfl) bt_sum (by decide) (by decide) rfl rfl)))
set_option maxHeartbeats 4000000 in
theorem ok_rate {f : Addr} {fd : FuncData} (F : Fun K "rate" "rate" s_rate f fd) {f_root_up : Addr} {fd_root_up : FuncData} (o_root_up : FnOk P w K mg base CX0 1 f_root_up fd_root_up ["number"] (spF (gg K cA) 1 F_root_up)) (b_root_up : Binds K fd_root_up ["number"] []) (m_root_up : mg "root_up" = some (.ref f_root_up)) (k_root_up : PySem.W.keepIn K (.ref f_root_up) = true) {f_dot : Addr} {fd_dot : FuncData} (o_dot : FnOk P w K mg base CX0 1 f_dot fd_dot ["one", "two"] (spF (gg K cA) 2 F_dot)) (b_dot : Binds K fd_dot ["one", "two"] []) (m_dot : mg "dot" = some (.ref f_dot)) (k_dot : PySem.W.keepIn K (.ref f_dot) = true) : FnOk P w K mg base CX0 2 f fd ["kind"] (spF (gg K cA) 1 F_rate) := by
  refine Fn0 F sc_rate (fun hl h => fnP_ends (N := 1) hl h) fun cdv A outer s H E hr => ?_
  have nd := sc_rate.nd
  exact (.cons (.if_ (.cmp (ok_eq rfl hr.units) (.ix rfl (.var (i := 0) rfl rfl (by first | exact Or.inl rfl | exact Or.inr (Or.inl rfl) | exact Or.inr (Or.inr rfl)) (by decide) (by decide)) .int (fun _ _ => rfl)) .str rfl) (.one (.ret .int)) .nil)
  (.cons (.if_ (.cmp (ok_eq rfl hr.units) (.ix rfl (.var (i := 0) rfl rfl (by first | exact Or.inl rfl | exact Or.inr (Or.inl rfl) | exact Or.inr (Or.inr rfl)) (by decide) (by decide)) .int (fun _ _ => rfl)) .str rfl) (.one (.ret (.call o_root_up (hr.mono (by decide)) m_root_up k_root_up b_root_up passE (.cons (.call o_dot (hr.mono (by decide)) m_dot k_dot b_dot passE (.cons (.ix rfl (.var (i := 0) rfl rfl (by first | exact Or.inl rfl | exact Or.inr (Or.inl rfl) | exact Or.inr (Or.inr rfl)) (by decide) (by decide)) .int (fun _ _ => rfl)) (.cons (.ix rfl (.var (i := 0) rfl rfl (by first | exact Or.inl rfl | exact Or.inr (Or.inl rfl) | exact Or.inr (Or.inr rfl)) (by decide) (by decide)) .int (fun _ _ => rfl)) .nil rfl) rfl) (by rfl) (by decide) rfl rfl) .nil rfl) (by rfl) (by decide) rfl rfl))) .nil)
  (.one (.ret .int))))
set_option maxHeartbeats 4000000 in
theorem ok_quotient_up {f : Addr} {fd : FuncData} (F : Fun K "quotient_up" "quotient_up" s_quotient_up f fd)  : FnOk P w K mg base CX0 1 f fd ["number", "by"] (spF (gg K cA) 2 F_quotient_up) := by
  refine Fn0 F sc_quotient_up (fun hl h => fnP_ends (N := 2) hl h) fun cdv A outer s H E hr => ?_
  have nd := sc_quotient_up.nd
  exact (.one (.ret (.neg (.bin ok_div (.neg (.var (i := 0) rfl rfl (by first | exact Or.inl rfl | exact Or.inr (Or.inl rfl) | exact Or.inr (Or.inr rfl)) (by decide) (by decide))) (.var (i := 1) rfl rfl (by first | exact Or.inl rfl | exact Or.inr (Or.inl rfl) | exact Or.inr (Or.inr rfl)) (by decide) (by decide))))))
set_option maxHeartbeats 4000000 in
theorem ok_reach {f : Addr} {fd : FuncData} (F : Fun K "reach" "reach" s_reach f fd) (T : ∀ c, ClsT K (cA c) ["dims", "root", "moment", "latest", "earliest", "share", "kind", "near", "late", "speed", "drift", "per", "liars", "source", "low", "high"]) {f_quotient_up : Addr} {fd_quotient_up : FuncData} (o_quotient_up : FnOk P w K mg base CX0 1 f_quotient_up fd_quotient_up ["number", "by"] (spF (gg K cA) 2 F_quotient_up)) (b_quotient_up : Binds K fd_quotient_up ["number", "by"] []) (m_quotient_up : mg "quotient_up" = some (.ref f_quotient_up)) (k_quotient_up : PySem.W.keepIn K (.ref f_quotient_up) = true) : FnOk P w K mg base CX0 2 f fd ["setting", "ticks"] (spF (gg K cA) 2 F_reach) := by
  refine Fn0 F sc_reach (fun hl h => fnP_ends (N := 2) hl h) fun cdv A outer s H E hr => ?_
  have nd := sc_reach.nd
  exact (.one (.ret (.call o_quotient_up (hr.mono (by decide)) m_quotient_up k_quotient_up b_quotient_up passE (.cons (.bin ok_mul (.fld rfl (.of T (by simp)) (.var (i := 0) rfl rfl (by first | exact Or.inl rfl | exact Or.inr (Or.inl rfl) | exact Or.inr (Or.inr rfl)) (by decide) (by decide)) rfl) (.var (i := 1) rfl rfl (by first | exact Or.inl rfl | exact Or.inr (Or.inl rfl) | exact Or.inr (Or.inr rfl)) (by decide) (by decide))) (.cons (.fld rfl (.of T (by simp)) (.var (i := 0) rfl rfl (by first | exact Or.inl rfl | exact Or.inr (Or.inl rfl) | exact Or.inr (Or.inr rfl)) (by decide) (by decide)) rfl) .nil rfl) rfl) (by rfl) (by decide) rfl rfl)))
set_option maxHeartbeats 4000000 in
theorem ok_clock_rate {f : Addr} {fd : FuncData} (F : Fun K "clock_rate" "clock_rate" s_clock_rate f fd)  : FnOk P w K mg base CX0 1 f fd ["kind"] (spF (gg K cA) 1 F_clock_rate) := by
  refine Fn0 F sc_clock_rate (fun hl h => fnP_ends (N := 1) hl h) fun cdv A outer s H E hr => ?_
  have nd := sc_clock_rate.nd
  exact (.one (.ret (.ite_ (.cmp (ok_eq rfl hr.units) (.ix rfl (.var (i := 0) rfl rfl (by first | exact Or.inl rfl | exact Or.inr (Or.inl rfl) | exact Or.inr (Or.inr rfl)) (by decide) (by decide)) .int (fun _ _ => rfl)) .str rfl) .int .int)))
set_option maxHeartbeats 4000000 in
theorem ok_slip {f : Addr} {fd : FuncData} (F : Fun K "slip" "slip" s_slip f fd) (T : ∀ c, ClsT K (cA c) ["dims", "root", "moment", "latest", "earliest", "share", "kind", "near", "late", "speed", "drift", "per", "liars", "source", "low", "high"]) {f_quotient_up : Addr} {fd_quotient_up : FuncData} (o_quotient_up : FnOk P w K mg base CX0 1 f_quotient_up fd_quotient_up ["number", "by"] (spF (gg K cA) 2 F_quotient_up)) (b_quotient_up : Binds K fd_quotient_up ["number", "by"] []) (m_quotient_up : mg "quotient_up" = some (.ref f_quotient_up)) (k_quotient_up : PySem.W.keepIn K (.ref f_quotient_up) = true) : FnOk P w K mg base CX0 2 f fd ["setting", "ticks"] (spF (gg K cA) 2 F_slip) := by
  refine Fn0 F sc_slip (fun hl h => fnP_ends (N := 2) hl h) fun cdv A outer s H E hr => ?_
  have nd := sc_slip.nd
  exact (.one (.ret (.call o_quotient_up (hr.mono (by decide)) m_quotient_up k_quotient_up b_quotient_up passE (.cons (.bin ok_mul (.fld rfl (.of T (by simp)) (.var (i := 0) rfl rfl (by first | exact Or.inl rfl | exact Or.inr (Or.inl rfl) | exact Or.inr (Or.inr rfl)) (by decide) (by decide)) rfl) (.var (i := 1) rfl rfl (by first | exact Or.inl rfl | exact Or.inr (Or.inl rfl) | exact Or.inr (Or.inr rfl)) (by decide) (by decide))) (.cons (.fld rfl (.of T (by simp)) (.var (i := 0) rfl rfl (by first | exact Or.inl rfl | exact Or.inr (Or.inl rfl) | exact Or.inr (Or.inr rfl)) (by decide) (by decide)) rfl) .nil rfl) rfl) (by rfl) (by decide) rfl rfl)))
set_option maxHeartbeats 4000000 in
theorem ok_spread {f : Addr} {fd : FuncData} (F : Fun K "spread" "spread" s_spread f fd) {f_rate : Addr} {fd_rate : FuncData} (o_rate : FnOk P w K mg base CX0 2 f_rate fd_rate ["kind"] (spF (gg K cA) 1 F_rate)) (b_rate : Binds K fd_rate ["kind"] []) (m_rate : mg "rate" = some (.ref f_rate)) (k_rate : PySem.W.keepIn K (.ref f_rate) = true) {f_cell_radius : Addr} {fd_cell_radius : FuncData} (o_cell_radius : FnOk P w K mg base CX0 2 f_cell_radius fd_cell_radius ["setting", "share"] (spF (gg K cA) 2 F_cell_radius)) (b_cell_radius : Binds K fd_cell_radius ["setting", "share"] []) (m_cell_radius : mg "cell_radius" = some (.ref f_cell_radius)) (k_cell_radius : PySem.W.keepIn K (.ref f_cell_radius) = true) {f_clock_rate : Addr} {fd_clock_rate : FuncData} (o_clock_rate : FnOk P w K mg base CX0 1 f_clock_rate fd_clock_rate ["kind"] (spF (gg K cA) 1 F_clock_rate)) (b_clock_rate : Binds K fd_clock_rate ["kind"] []) (m_clock_rate : mg "clock_rate" = some (.ref f_clock_rate)) (k_clock_rate : PySem.W.keepIn K (.ref f_clock_rate) = true) : FnOk P w K mg base CX0 3 f fd ["setting", "share", "kind"] (spF (gg K cA) 3 F_spread) := by
  refine Fn0 F sc_spread (fun hl h => fnP_ends (N := 3) hl h) fun cdv A outer s H E hr => ?_
  have nd := sc_spread.nd
  exact (.one (.ret (.bin (ok_add rfl) (.bin ok_mul (.call o_rate (hr.mono (by decide)) m_rate k_rate b_rate passE (.cons (.var (i := 2) rfl rfl (by first | exact Or.inl rfl | exact Or.inr (Or.inl rfl) | exact Or.inr (Or.inr rfl)) (by decide) (by decide)) .nil rfl) (by rfl) (by decide) rfl rfl) (.bin (ok_add rfl) (.bin ok_mul .int (.call o_cell_radius (hr.mono (by decide)) m_cell_radius k_cell_radius b_cell_radius passE (.cons (.var (i := 0) rfl rfl (by first | exact Or.inl rfl | exact Or.inr (Or.inl rfl) | exact Or.inr (Or.inr rfl)) (by decide) (by decide)) (.cons (.var (i := 1) rfl rfl (by first | exact Or.inl rfl | exact Or.inr (Or.inl rfl) | exact Or.inr (Or.inr rfl)) (by decide) (by decide)) .nil rfl) rfl) (by rfl) (by decide) rfl rfl)) .int)) (.bin ok_mul (.call o_clock_rate (hr.mono (by decide)) m_clock_rate k_clock_rate b_clock_rate passE (.cons (.var (i := 2) rfl rfl (by first | exact Or.inl rfl | exact Or.inr (Or.inl rfl) | exact Or.inr (Or.inr rfl)) (by decide) (by decide)) .nil rfl) (by rfl) (by decide) rfl rfl) (.var (i := 1) rfl rfl (by first | exact Or.inl rfl | exact Or.inr (Or.inl rfl) | exact Or.inr (Or.inr rfl)) (by decide) (by decide))))))
set_option maxHeartbeats 4000000 in
theorem ok_margin {f : Addr} {fd : FuncData} (F : Fun K "margin" "margin" s_margin f fd) (T : ∀ c, ClsT K (cA c) ["dims", "root", "moment", "latest", "earliest", "share", "kind", "near", "late", "speed", "drift", "per", "liars", "source", "low", "high"]) {f_rate : Addr} {fd_rate : FuncData} (o_rate : FnOk P w K mg base CX0 2 f_rate fd_rate ["kind"] (spF (gg K cA) 1 F_rate)) (b_rate : Binds K fd_rate ["kind"] []) (m_rate : mg "rate" = some (.ref f_rate)) (k_rate : PySem.W.keepIn K (.ref f_rate) = true) {f_reach : Addr} {fd_reach : FuncData} (o_reach : FnOk P w K mg base CX0 2 f_reach fd_reach ["setting", "ticks"] (spF (gg K cA) 2 F_reach)) (b_reach : Binds K fd_reach ["setting", "ticks"] []) (m_reach : mg "reach" = some (.ref f_reach)) (k_reach : PySem.W.keepIn K (.ref f_reach) = true) {f_clock_rate : Addr} {fd_clock_rate : FuncData} (o_clock_rate : FnOk P w K mg base CX0 1 f_clock_rate fd_clock_rate ["kind"] (spF (gg K cA) 1 F_clock_rate)) (b_clock_rate : Binds K fd_clock_rate ["kind"] []) (m_clock_rate : mg "clock_rate" = some (.ref f_clock_rate)) (k_clock_rate : PySem.W.keepIn K (.ref f_clock_rate) = true) {f_slip : Addr} {fd_slip : FuncData} (o_slip : FnOk P w K mg base CX0 2 f_slip fd_slip ["setting", "ticks"] (spF (gg K cA) 2 F_slip)) (b_slip : Binds K fd_slip ["setting", "ticks"] []) (m_slip : mg "slip" = some (.ref f_slip)) (k_slip : PySem.W.keepIn K (.ref f_slip) = true) {f_moved : Addr} {fd_moved : FuncData} (o_moved : FnOk P w K mg base CX0 1 f_moved fd_moved ["kind"] (spF (gg K cA) 1 F_moved)) (b_moved : Binds K fd_moved ["kind"] []) (m_moved : mg "moved" = some (.ref f_moved)) (k_moved : PySem.W.keepIn K (.ref f_moved) = true) {f_spread : Addr} {fd_spread : FuncData} (o_spread : FnOk P w K mg base CX0 3 f_spread fd_spread ["setting", "share", "kind"] (spF (gg K cA) 3 F_spread)) (b_spread : Binds K fd_spread ["setting", "share", "kind"] []) (m_spread : mg "spread" = some (.ref f_spread)) (k_spread : PySem.W.keepIn K (.ref f_spread) = true) : FnOk P w K mg base CX0 4 f fd ["setting", "question", "reading"] (spF (gg K cA) 3 F_margin) := by
  refine Fn0 F sc_margin (fun hl h => fnP_ends (N := 5) hl h) fun cdv A outer s H E hr => ?_
  have nd := sc_margin.nd
  exact (.cons (.set (i := 3) (.fld rfl (.of T (by simp)) (.var (i := 2) rfl rfl (by first | exact Or.inl rfl | exact Or.inr (Or.inl rfl) | exact Or.inr (Or.inr rfl)) (by decide) (by decide)) rfl) nd rfl (by first | exact Or.inl rfl | exact Or.inr rfl) rfl (Or.inl rfl))
  (.cons (.set (i := 4) (.bin (ok_add rfl) (.bin ok_mul (.call o_rate (hr.mono (by decide)) m_rate k_rate b_rate passE (.cons (.var (i := 3) rfl rfl (by first | exact Or.inl rfl | exact Or.inr (Or.inl rfl) | exact Or.inr (Or.inr rfl)) (by decide) (by decide)) .nil rfl) (by rfl) (by decide) rfl rfl) (.call o_reach (hr.mono (by decide)) m_reach k_reach b_reach passE (.cons (.var (i := 0) rfl rfl (by first | exact Or.inl rfl | exact Or.inr (Or.inl rfl) | exact Or.inr (Or.inr rfl)) (by decide) (by decide)) (.cons (.fld rfl (.of T (by simp)) (.var (i := 2) rfl rfl (by first | exact Or.inl rfl | exact Or.inr (Or.inl rfl) | exact Or.inr (Or.inr rfl)) (by decide) (by decide)) rfl) .nil rfl) rfl) (by rfl) (by decide) rfl rfl)) (.bin ok_mul (.call o_clock_rate (hr.mono (by decide)) m_clock_rate k_clock_rate b_clock_rate passE (.cons (.var (i := 3) rfl rfl (by first | exact Or.inl rfl | exact Or.inr (Or.inl rfl) | exact Or.inr (Or.inr rfl)) (by decide) (by decide)) .nil rfl) (by rfl) (by decide) rfl rfl) (.call o_slip (hr.mono (by decide)) m_slip k_slip b_slip passE (.cons (.var (i := 0) rfl rfl (by first | exact Or.inl rfl | exact Or.inr (Or.inl rfl) | exact Or.inr (Or.inr rfl)) (by decide) (by decide)) (.cons (.fld rfl (.of T (by simp)) (.var (i := 2) rfl rfl (by first | exact Or.inl rfl | exact Or.inr (Or.inl rfl) | exact Or.inr (Or.inr rfl)) (by decide) (by decide)) rfl) .nil rfl) rfl) (by rfl) (by decide) rfl rfl))) nd rfl (by first | exact Or.inl rfl | exact Or.inr rfl) rfl (Or.inl rfl))
  (.one (.ret (.bin (ok_add rfl) (.bin (ok_add rfl) (.bin ok_mul (.call o_moved (hr.mono (by decide)) m_moved k_moved b_moved passE (.cons (.var (i := 3) rfl rfl (by first | exact Or.inl rfl | exact Or.inr (Or.inl rfl) | exact Or.inr (Or.inr rfl)) (by decide) (by decide)) .nil rfl) (by rfl) (by decide) rfl rfl) (.fld rfl (.of T (by simp)) (.var (i := 2) rfl rfl (by first | exact Or.inl rfl | exact Or.inr (Or.inl rfl) | exact Or.inr (Or.inr rfl)) (by decide) (by decide)) rfl)) (.var (i := 4) rfl rfl (by first | exact Or.inl rfl | exact Or.inr (Or.inl rfl) | exact Or.inr (Or.inr rfl)) (by decide) (by decide))) (.call o_spread (hr.mono (by decide)) m_spread k_spread b_spread passE (.cons (.var (i := 0) rfl rfl (by first | exact Or.inl rfl | exact Or.inr (Or.inl rfl) | exact Or.inr (Or.inr rfl)) (by decide) (by decide)) (.cons (.fld rfl (.of T (by simp)) (.var (i := 1) rfl rfl (by first | exact Or.inl rfl | exact Or.inr (Or.inl rfl) | exact Or.inr (Or.inr rfl)) (by decide) (by decide)) rfl) (.cons (.var (i := 3) rfl rfl (by first | exact Or.inl rfl | exact Or.inr (Or.inl rfl) | exact Or.inr (Or.inr rfl)) (by decide) (by decide)) .nil rfl) rfl) rfl) (by rfl) (by decide) rfl rfl))))))
set_option maxHeartbeats 4000000 in
theorem ok_asked {f : Addr} {fd : FuncData} (F : Fun K "asked" "asked" s_asked f fd) (T : ∀ c, ClsT K (cA c) ["dims", "root", "moment", "latest", "earliest", "share", "kind", "near", "late", "speed", "drift", "per", "liars", "source", "low", "high"]) : FnOk P w K mg base CX0 1 f fd ["question", "readings"] (spF (gg K cA) 2 F_asked) := by
  refine Fn0 F sc_asked (fun hl h => fnP_ends (N := 4) hl h) fun cdv A outer s H E hr => ?_
  have nd := sc_asked.nd
  exact (.one (.ret (.lc false rfl nd (LCV.mk' (own := [("number", 2), ("reading", 3)]) (is := [2, 3]) (by kernel_rfl) (.any rfl (.var (i := 1) rfl rfl (by first | exact Or.inl rfl | exact Or.inr (Or.inl rfl) | exact Or.inr (Or.inr rfl)) (by decide) (by decide))) (fun _ _ _ _ _ => (.tup (n := 2) rfl rfl (.cons (ks := [2, 3]) (.name nd rfl (by first | exact Or.inl rfl | exact Or.inr rfl) (by first | exact Or.inl rfl | exact Or.inr rfl)) (.cons (ks := [2, 3]) (.name nd rfl (by first | exact Or.inl rfl | exact Or.inr rfl) (by first | exact Or.inl rfl | exact Or.inr rfl)) (.nil (is := [2, 3])) (by decide) (by decide) rfl) (by decide) (by decide) rfl) rfl rfl)) (fun _ _ _ _ _ => (.one (.ch2 ok_le ok_le (.fld rfl (.of T (by simp)) (.var (i := 0) rfl rfl (by first | exact Or.inl rfl | exact Or.inr (Or.inl rfl) | exact Or.inr (Or.inr rfl)) (by decide) (by decide)) rfl) (.fld rfl (.of T (by simp)) (.var (i := 3) rfl rfl (by first | exact Or.inl rfl | exact Or.inr (Or.inl rfl) | exact Or.inr (Or.inr rfl)) (by decide) (by decide)) rfl) (.fld rfl (.of T (by simp)) (.var (i := 0) rfl rfl (by first | exact Or.inl rfl | exact Or.inr (Or.inl rfl) | exact Or.inr (Or.inr rfl)) (by decide) (by decide)) rfl) rfl))) (fun _ _ _ _ _ => (.tup (.cons (.var (i := 2) rfl rfl (by first | exact Or.inl rfl | exact Or.inr (Or.inl rfl) | exact Or.inr (Or.inr rfl)) (by decide) (by decide)) (.cons (.var (i := 3) rfl rfl (by first | exact Or.inl rfl | exact Or.inr (Or.inl rfl) | exact Or.inr (Or.inr rfl)) (by decide) (by decide)) .nil rfl) rfl))) (by decide)) (fun _ => rfl))))
set_option maxHeartbeats 4000000 in
theorem ok_stretch {f : Addr} {fd : FuncData} (F : Fun K "stretch" "stretch" s_stretch f fd) (T : ∀ c, ClsT K (cA c) ["dims", "root", "moment", "latest", "earliest", "share", "kind", "near", "late", "speed", "drift", "per", "liars", "source", "low", "high"]) {f_asked : Addr} {fd_asked : FuncData} (o_asked : FnOk P w K mg base CX0 1 f_asked fd_asked ["question", "readings"] (spF (gg K cA) 2 F_asked)) (b_asked : Binds K fd_asked ["question", "readings"] []) (m_asked : mg "asked" = some (.ref f_asked)) (k_asked : PySem.W.keepIn K (.ref f_asked) = true) {f_cell_radius : Addr} {fd_cell_radius : FuncData} (o_cell_radius : FnOk P w K mg base CX0 2 f_cell_radius fd_cell_radius ["setting", "share"] (spF (gg K cA) 2 F_cell_radius)) (b_cell_radius : Binds K fd_cell_radius ["setting", "share"] []) (m_cell_radius : mg "cell_radius" = some (.ref f_cell_radius)) (k_cell_radius : PySem.W.keepIn K (.ref f_cell_radius) = true) (z_len : mg "len" = none) (z_set : mg "set" = none) : FnOk P w K mg base CX0 3 f fd ["setting", "question", "readings"] (spF (gg K cA) 3 F_stretch) := by
  refine Fn0 F sc_stretch (fun hl h => fnP_ends (N := 6) hl h) fun cdv A outer s H E hr => ?_
  have nd := sc_stretch.nd
  exact (.cons (.setLc (i := 3) false rfl nd (LCV.mk' (own := [("number", 4), ("reading", 5)]) (is := [4, 5]) (by kernel_rfl) (.any rfl (.call o_asked (hr.mono (by decide)) m_asked k_asked b_asked passE (.cons (.var (i := 1) rfl rfl (by first | exact Or.inl rfl | exact Or.inr (Or.inl rfl) | exact Or.inr (Or.inr rfl)) (by decide) (by decide)) (.cons (.var (i := 2) rfl rfl (by first | exact Or.inl rfl | exact Or.inr (Or.inl rfl) | exact Or.inr (Or.inr rfl)) (by decide) (by decide)) .nil rfl) rfl) (by rfl) (by decide) rfl rfl)) (fun _ _ _ _ _ => (.tup (n := 2) rfl rfl (.cons (ks := [4, 5]) (.name nd rfl (by first | exact Or.inl rfl | exact Or.inr rfl) (by first | exact Or.inl rfl | exact Or.inr rfl)) (.cons (ks := [4, 5]) (.name nd rfl (by first | exact Or.inl rfl | exact Or.inr rfl) (by first | exact Or.inl rfl | exact Or.inr rfl)) (.nil (is := [4, 5])) (by decide) (by decide) rfl) (by decide) (by decide) rfl) rfl rfl)) (fun _ _ _ _ _ => .nil) (fun _ _ _ _ _ => (.fld rfl (.of T (by simp)) (.var (i := 5) rfl rfl (by first | exact Or.inl rfl | exact Or.inr (Or.inl rfl) | exact Or.inr (Or.inr rfl)) (by decide) (by decide)) rfl)) (by decide)) rfl rfl (sw_true rfl rfl rfl rfl) (fun _ => rfl))
  (.one (.ret (.bin ok_mul (.bin ok_mul .int (.call o_cell_radius (hr.mono (by decide)) m_cell_radius k_cell_radius b_cell_radius passE (.cons (.var (i := 0) rfl rfl (by first | exact Or.inl rfl | exact Or.inr (Or.inl rfl) | exact Or.inr (Or.inr rfl)) (by decide) (by decide)) (.cons (.fld rfl (.of T (by simp)) (.var (i := 1) rfl rfl (by first | exact Or.inl rfl | exact Or.inr (Or.inl rfl) | exact Or.inr (Or.inr rfl)) (by decide) (by decide)) rfl) .nil rfl) rfl) (by rfl) (by decide) rfl rfl)) (.lenSet rfl rfl z_len z_set (.bin (ok_add rfl) (.lst false (.cons (.fld rfl (.of T (by simp)) (.var (i := 1) rfl rfl (by first | exact Or.inl rfl | exact Or.inr (Or.inl rfl) | exact Or.inr (Or.inr rfl)) (by decide) (by decide)) rfl) .nil rfl)) (.var (i := 3) rfl rfl (by first | exact Or.inl rfl | exact Or.inr (Or.inl rfl) | exact Or.inr (Or.inr rfl)) (by decide) (by decide))) (by rfl) (by rfl) rfl rfl rfl rfl)))))
set_option maxHeartbeats 4000000 in
theorem ok_Reading__eq__ {f : Addr} {fd : FuncData} (F : Fun K "__eq__" "Reading.__eq__" s_Reading__eq__ f fd) (T : ∀ c, ClsT K (cA c) ["dims", "root", "moment", "latest", "earliest", "share", "kind", "near", "late", "speed", "drift", "per", "liars", "source", "low", "high"]) (mC_Reading : mg "Reading" = some (.ref (cA 1))) (U_Reading : Isi K (cA 1)) (z_isinstance : mg "isinstance" = none) : FnOk P w K mg base CX0 1 f fd ["self", "other"] (spF (gg K cA) 2 F_Reading__eq__) := by
  refine Fn0 F sc_Reading__eq__ (fun hl h => fnP_ends (N := 2) hl h) fun cdv A outer s H E hr => ?_
  have nd := sc_Reading__eq__.nd
  exact (.one (.ret (.and_ (.isC (c := 1) rfl rfl z_isinstance mC_Reading (T 1).cl U_Reading (.var (i := 1) rfl rfl (by first | exact Or.inl rfl | exact Or.inr (Or.inl rfl) | exact Or.inr (Or.inr rfl)) (by decide) (by decide)) (by rfl) (by rfl) (by decide) rfl) (.and_ (.cmp (ok_eq rfl hr.units) (.fld rfl (.of T (by simp)) (.var (i := 0) rfl rfl (by first | exact Or.inl rfl | exact Or.inr (Or.inl rfl) | exact Or.inr (Or.inr rfl)) (by decide) (by decide)) rfl) (.fld rfl (.of T (by simp)) (.var (i := 1) rfl rfl (by first | exact Or.inl rfl | exact Or.inr (Or.inl rfl) | exact Or.inr (Or.inr rfl)) (by decide) (by decide)) rfl) rfl) (.and_ (.cmp (ok_eq rfl hr.units) (.fld rfl (.of T (by simp)) (.var (i := 0) rfl rfl (by first | exact Or.inl rfl | exact Or.inr (Or.inl rfl) | exact Or.inr (Or.inr rfl)) (by decide) (by decide)) rfl) (.fld rfl (.of T (by simp)) (.var (i := 1) rfl rfl (by first | exact Or.inl rfl | exact Or.inr (Or.inl rfl) | exact Or.inr (Or.inr rfl)) (by decide) (by decide)) rfl) rfl) (.and_ (.cmp (ok_eq rfl hr.units) (.fld rfl (.of T (by simp)) (.var (i := 0) rfl rfl (by first | exact Or.inl rfl | exact Or.inr (Or.inl rfl) | exact Or.inr (Or.inr rfl)) (by decide) (by decide)) rfl) (.fld rfl (.of T (by simp)) (.var (i := 1) rfl rfl (by first | exact Or.inl rfl | exact Or.inr (Or.inl rfl) | exact Or.inr (Or.inr rfl)) (by decide) (by decide)) rfl) rfl) (.and_ (.cmp (ok_eq rfl hr.units) (.fld rfl (.of T (by simp)) (.var (i := 0) rfl rfl (by first | exact Or.inl rfl | exact Or.inr (Or.inl rfl) | exact Or.inr (Or.inr rfl)) (by decide) (by decide)) rfl) (.fld rfl (.of T (by simp)) (.var (i := 1) rfl rfl (by first | exact Or.inl rfl | exact Or.inr (Or.inl rfl) | exact Or.inr (Or.inr rfl)) (by decide) (by decide)) rfl) rfl) (.and_ (.cmp (ok_eq rfl hr.units) (.fld rfl (.of T (by simp)) (.var (i := 0) rfl rfl (by first | exact Or.inl rfl | exact Or.inr (Or.inl rfl) | exact Or.inr (Or.inr rfl)) (by decide) (by decide)) rfl) (.fld rfl (.of T (by simp)) (.var (i := 1) rfl rfl (by first | exact Or.inl rfl | exact Or.inr (Or.inl rfl) | exact Or.inr (Or.inr rfl)) (by decide) (by decide)) rfl) rfl) (.and_ (.cmp (ok_eq rfl hr.units) (.fld rfl (.of T (by simp)) (.var (i := 0) rfl rfl (by first | exact Or.inl rfl | exact Or.inr (Or.inl rfl) | exact Or.inr (Or.inr rfl)) (by decide) (by decide)) rfl) (.fld rfl (.of T (by simp)) (.var (i := 1) rfl rfl (by first | exact Or.inl rfl | exact Or.inr (Or.inl rfl) | exact Or.inr (Or.inr rfl)) (by decide) (by decide)) rfl) rfl) (.one (.cmp (ok_eq rfl hr.units) (.fld rfl (.of T (by simp)) (.var (i := 0) rfl rfl (by first | exact Or.inl rfl | exact Or.inr (Or.inl rfl) | exact Or.inr (Or.inr rfl)) (by decide) (by decide)) rfl) (.fld rfl (.of T (by simp)) (.var (i := 1) rfl rfl (by first | exact Or.inl rfl | exact Or.inr (Or.inl rfl) | exact Or.inr (Or.inr rfl)) (by decide) (by decide)) rfl) rfl)))))))))))
set_option maxHeartbeats 4000000 in
theorem ok_law {f : Addr} {fd : FuncData} (F : Fun K "law" "law" s_law f fd) (T : ∀ c, ClsT K (cA c) ["dims", "root", "moment", "latest", "earliest", "share", "kind", "near", "late", "speed", "drift", "per", "liars", "source", "low", "high"]) {f__law_rows : Addr} {fd__law_rows : FuncData} (o__law_rows : FnOk P w K mg base CX0 1 f__law_rows fd__law_rows ["script", "count"] (spF (gg K cA) 2 F__law_rows)) (b__law_rows : Binds K fd__law_rows ["script", "count"] []) (m__law_rows : mg "_law_rows" = some (.ref f__law_rows)) (k__law_rows : PySem.W.keepIn K (.ref f__law_rows) = true) {f__law_setting : Addr} {fd__law_setting : FuncData} (o__law_setting : FnOk P w K mg base CX0 4 f__law_setting fd__law_setting ["row"] (spF (gg K cA) 1 F__law_setting)) (b__law_setting : Binds K fd__law_setting ["row"] []) (m__law_setting : mg "_law_setting" = some (.ref f__law_setting)) (k__law_setting : PySem.W.keepIn K (.ref f__law_setting) = true) {f__law_way : Addr} {fd__law_way : FuncData} (o__law_way : FnOk P w K mg base CX0 3 f__law_way fd__law_way ["setting", "rows"] (spF (gg K cA) 2 F__law_way)) (b__law_way : Binds K fd__law_way ["setting", "rows"] []) (m__law_way : mg "_law_way" = some (.ref f__law_way)) (k__law_way : PySem.W.keepIn K (.ref f__law_way) = true) {f__law_question : Addr} {fd__law_question : FuncData} (o__law_question : FnOk P w K mg base CX0 4 f__law_question fd__law_question ["way", "dims", "row", "liars"] (spF (gg K cA) 4 F__law_question)) (b__law_question : Binds K fd__law_question ["way", "dims", "row", "liars"] []) (m__law_question : mg "_law_question" = some (.ref f__law_question)) (k__law_question : PySem.W.keepIn K (.ref f__law_question) = true) {f_Question__init__ : Addr} {fd_Question__init__ : FuncData} (o_Question__init__ : FnOk P w K mg base CX0 2 f_Question__init__ fd_Question__init__ ["self", "moment", "root", "liars", "share", "earliest", "latest"] (spF (gg K cA) 7 F_Question__init__)) (M_Question : Mk K (cA 2) f_Question__init__) (mC_Question : mg "Question" = some (.ref (cA 2))) {f__law_readings : Addr} {fd__law_readings : FuncData} (o__law_readings : FnOk P w K mg base CX0 7 f__law_readings fd__law_readings ["way", "dims", "rows", "many", "names", "liars"] (spF (gg K cA) 6 F__law_readings)) (b__law_readings : Binds K fd__law_readings ["way", "dims", "rows", "many", "names", "liars"] []) (m__law_readings : mg "_law_readings" = some (.ref f__law_readings)) (k__law_readings : PySem.W.keepIn K (.ref f__law_readings) = true) {f__law_up : Addr} {fd__law_up : FuncData} (o__law_up : FnOk P w K mg base CX0 2 f__law_up fd__law_up ["number"] (spF (gg K cA) 1 F__law_up)) (b__law_up : Binds K fd__law_up ["number"] []) (m__law_up : mg "_law_up" = some (.ref f__law_up)) (k__law_up : PySem.W.keepIn K (.ref f__law_up) = true) {f_cell_radius : Addr} {fd_cell_radius : FuncData} (o_cell_radius : FnOk P w K mg base CX0 2 f_cell_radius fd_cell_radius ["setting", "share"] (spF (gg K cA) 2 F_cell_radius)) (b_cell_radius : Binds K fd_cell_radius ["setting", "share"] []) (m_cell_radius : mg "cell_radius" = some (.ref f_cell_radius)) (k_cell_radius : PySem.W.keepIn K (.ref f_cell_radius) = true) {f_moved : Addr} {fd_moved : FuncData} (o_moved : FnOk P w K mg base CX0 1 f_moved fd_moved ["kind"] (spF (gg K cA) 1 F_moved)) (b_moved : Binds K fd_moved ["kind"] []) (m_moved : mg "moved" = some (.ref f_moved)) (k_moved : PySem.W.keepIn K (.ref f_moved) = true) {f_rate : Addr} {fd_rate : FuncData} (o_rate : FnOk P w K mg base CX0 2 f_rate fd_rate ["kind"] (spF (gg K cA) 1 F_rate)) (b_rate : Binds K fd_rate ["kind"] []) (m_rate : mg "rate" = some (.ref f_rate)) (k_rate : PySem.W.keepIn K (.ref f_rate) = true) {f_reach : Addr} {fd_reach : FuncData} (o_reach : FnOk P w K mg base CX0 2 f_reach fd_reach ["setting", "ticks"] (spF (gg K cA) 2 F_reach)) (b_reach : Binds K fd_reach ["setting", "ticks"] []) (m_reach : mg "reach" = some (.ref f_reach)) (k_reach : PySem.W.keepIn K (.ref f_reach) = true) {f_clock_rate : Addr} {fd_clock_rate : FuncData} (o_clock_rate : FnOk P w K mg base CX0 1 f_clock_rate fd_clock_rate ["kind"] (spF (gg K cA) 1 F_clock_rate)) (b_clock_rate : Binds K fd_clock_rate ["kind"] []) (m_clock_rate : mg "clock_rate" = some (.ref f_clock_rate)) (k_clock_rate : PySem.W.keepIn K (.ref f_clock_rate) = true) {f_slip : Addr} {fd_slip : FuncData} (o_slip : FnOk P w K mg base CX0 2 f_slip fd_slip ["setting", "ticks"] (spF (gg K cA) 2 F_slip)) (b_slip : Binds K fd_slip ["setting", "ticks"] []) (m_slip : mg "slip" = some (.ref f_slip)) (k_slip : PySem.W.keepIn K (.ref f_slip) = true) {f_margin : Addr} {fd_margin : FuncData} (o_margin : FnOk P w K mg base CX0 4 f_margin fd_margin ["setting", "question", "reading"] (spF (gg K cA) 3 F_margin)) (b_margin : Binds K fd_margin ["setting", "question", "reading"] []) (m_margin : mg "margin" = some (.ref f_margin)) (k_margin : PySem.W.keepIn K (.ref f_margin) = true) {f_stretch : Addr} {fd_stretch : FuncData} (o_stretch : FnOk P w K mg base CX0 3 f_stretch fd_stretch ["setting", "question", "readings"] (spF (gg K cA) 3 F_stretch)) (b_stretch : Binds K fd_stretch ["setting", "question", "readings"] []) (m_stretch : mg "stretch" = some (.ref f_stretch)) (k_stretch : PySem.W.keepIn K (.ref f_stretch) = true) {f_Reading__eq__ : Addr} {fd_Reading__eq__ : FuncData} (o_Reading__eq__ : FnOk P w K mg base CX0 1 f_Reading__eq__ fd_Reading__eq__ ["self", "other"] (spF (gg K cA) 2 F_Reading__eq__)) (b_Reading__eq__ : Binds K fd_Reading__eq__ ["self", "other"] []) (me_Reading__eq__ : Meth K (cA 1) "__eq__" f_Reading__eq__) (kb_Question__init___3_4 : KBn K fd_Question__init__ ["self", "moment", "root", "liars", "share", "earliest", "latest"] 3 ["liars", "share", "earliest", "latest"] (fun us ws => us ++ ws) (fun vs zs => vs ++ zs)) (z_int : mg "int" = none) (z_len : mg "len" = none) (z_list : mg "list" = none) : FnOk P w K mg base CX0 9 f fd ["script"] (spF (gg K cA) 1 F_law) := by
  refine Fn0 F sc_law (fun hl h => fnP_ends (N := 16) hl h) fun cdv A outer s H E hr => ?_
  have nd := sc_law.nd
  exact (.cons (.set (i := 1) (.call o__law_rows (hr.mono (by decide)) m__law_rows k__law_rows b__law_rows passE (.cons (.var (i := 0) rfl rfl (by first | exact Or.inl rfl | exact Or.inr (Or.inl rfl) | exact Or.inr (Or.inr rfl)) (by decide) (by decide)) (.cons .int .nil rfl) rfl) (by rfl) (by decide) rfl rfl) nd rfl (by first | exact Or.inl rfl | exact Or.inr rfl) rfl (Or.inl rfl))
  (.cons (.set (i := 2) (.call o__law_setting (hr.mono (by decide)) m__law_setting k__law_setting b__law_setting passE (.cons (.ix rfl (.var (i := 1) rfl rfl (by first | exact Or.inl rfl | exact Or.inr (Or.inl rfl) | exact Or.inr (Or.inr rfl)) (by decide) (by decide)) .int (fun _ _ => rfl)) .nil rfl) (by rfl) (by decide) rfl rfl) nd rfl (by first | exact Or.inl rfl | exact Or.inr rfl) rfl (Or.inl rfl))
  (.cons (.set (i := 3) (.call o__law_way (hr.mono (by decide)) m__law_way k__law_way b__law_way passE (.cons (.var (i := 2) rfl rfl (by first | exact Or.inl rfl | exact Or.inr (Or.inl rfl) | exact Or.inr (Or.inr rfl)) (by decide) (by decide)) (.cons (.sl rfl (.var (i := 1) rfl rfl (by first | exact Or.inl rfl | exact Or.inr (Or.inl rfl) | exact Or.inr (Or.inr rfl)) (by decide) (by decide)) (.yes .int) (.yes .int)) .nil rfl) rfl) (by rfl) (by decide) rfl rfl) nd rfl (by first | exact Or.inl rfl | exact Or.inr rfl) rfl (Or.inl rfl))
  (.cons (.set (i := 4) (.fld rfl (.of T (by simp)) (.var (i := 2) rfl rfl (by first | exact Or.inl rfl | exact Or.inr (Or.inl rfl) | exact Or.inr (Or.inr rfl)) (by decide) (by decide)) rfl) nd rfl (by first | exact Or.inl rfl | exact Or.inr rfl) rfl (Or.inl rfl))
  (.cons (.set (i := 5) (.call o__law_question (hr.mono (by decide)) m__law_question k__law_question b__law_question passE (.cons (.var (i := 3) rfl rfl (by first | exact Or.inl rfl | exact Or.inr (Or.inl rfl) | exact Or.inr (Or.inr rfl)) (by decide) (by decide)) (.cons (.var (i := 4) rfl rfl (by first | exact Or.inl rfl | exact Or.inr (Or.inl rfl) | exact Or.inr (Or.inr rfl)) (by decide) (by decide)) (.cons (.ix rfl (.var (i := 1) rfl rfl (by first | exact Or.inl rfl | exact Or.inr (Or.inl rfl) | exact Or.inr (Or.inr rfl)) (by decide) (by decide)) .int (fun _ _ => rfl)) (.cons (.bin ok_mod (.callT cv_int z_int (.cons (.bin ok_div (.ix rfl (.var (i := 1) rfl rfl (by first | exact Or.inl rfl | exact Or.inr (Or.inl rfl) | exact Or.inr (Or.inr rfl)) (by decide) (by decide)) .int (fun _ _ => rfl)) .int) .nil rfl) (by rfl) bt_int (by decide) (by decide) rfl rfl) .int) .nil rfl) rfl) rfl) rfl) (by rfl) (by decide) rfl rfl) nd rfl (by first | exact Or.inl rfl | exact Or.inr rfl) rfl (Or.inl rfl))
  (.cons (.if_ (.cmp (ok_eq rfl hr.units) (.bin ok_mod (.bin ok_div (.ix rfl (.var (i := 1) rfl rfl (by first | exact Or.inl rfl | exact Or.inr (Or.inl rfl) | exact Or.inr (Or.inr rfl)) (by decide) (by decide)) .int (fun _ _ => rfl)) .int) .int) .int rfl) (.one (.set (i := 5) (.mkN (c := 2) M_Question o_Question__init__ (hr.mono (by decide)) mC_Question kb_Question__init___3_4 .app (fun xs ys h1 h2 => by rw [show (gApp xs ys).length = xs.length + ys.length from List.length_append, h1, h2]; rfl) passE (.cons (.fld rfl (.of T (by simp)) (.var (i := 5) rfl rfl (by first | exact Or.inl rfl | exact Or.inr (Or.inl rfl) | exact Or.inr (Or.inr rfl)) (by decide) (by decide)) rfl) (.cons (.fld rfl (.of T (by simp)) (.var (i := 5) rfl rfl (by first | exact Or.inl rfl | exact Or.inr (Or.inl rfl) | exact Or.inr (Or.inr rfl)) (by decide) (by decide)) rfl) .nil rfl) rfl) (.cons .int (.cons (.bin (ok_add rfl) .int (.bin ok_mod (.callT cv_int z_int (.cons (.ix rfl (.var (i := 1) rfl rfl (by first | exact Or.inl rfl | exact Or.inr (Or.inl rfl) | exact Or.inr (Or.inr rfl)) (by decide) (by decide)) .int (fun _ _ => rfl)) .nil rfl) (by rfl) bt_int (by decide) (by decide) rfl rfl) .int)) (.cons (.fld rfl (.of T (by simp)) (.var (i := 5) rfl rfl (by first | exact Or.inl rfl | exact Or.inr (Or.inl rfl) | exact Or.inr (Or.inr rfl)) (by decide) (by decide)) rfl) (.cons (.fld rfl (.of T (by simp)) (.var (i := 5) rfl rfl (by first | exact Or.inl rfl | exact Or.inr (Or.inl rfl) | exact Or.inr (Or.inr rfl)) (by decide) (by decide)) rfl) .nil)))) (by rfl) rfl rfl (by decide) rfl rfl) nd rfl (by first | exact Or.inl rfl | exact Or.inr rfl) rfl (Or.inl rfl))) .nil)
  (.cons (.set (i := 6) (.call o__law_readings (hr.mono (by decide)) m__law_readings k__law_readings b__law_readings passE (.cons (.var (i := 3) rfl rfl (by first | exact Or.inl rfl | exact Or.inr (Or.inl rfl) | exact Or.inr (Or.inr rfl)) (by decide) (by decide)) (.cons (.var (i := 4) rfl rfl (by first | exact Or.inl rfl | exact Or.inr (Or.inl rfl) | exact Or.inr (Or.inr rfl)) (by decide) (by decide)) (.cons (.sl rfl (.var (i := 1) rfl rfl (by first | exact Or.inl rfl | exact Or.inr (Or.inl rfl) | exact Or.inr (Or.inr rfl)) (by decide) (by decide)) (.yes .int) (.yes .int)) (.cons (.bin ok_mod (.callT cv_int z_int (.cons (.bin ok_div (.ix rfl (.var (i := 1) rfl rfl (by first | exact Or.inl rfl | exact Or.inr (Or.inl rfl) | exact Or.inr (Or.inr rfl)) (by decide) (by decide)) .int (fun _ _ => rfl)) .int) .nil rfl) (by rfl) bt_int (by decide) (by decide) rfl rfl) .int) (.cons (.lst false (.cons .str (.cons .str (.cons .str .nil rfl) rfl) rfl)) (.cons (.lst false (.cons .str .nil rfl)) .nil rfl) rfl) rfl) rfl) rfl) rfl) (by rfl) (by decide) rfl rfl) nd rfl (by first | exact Or.inl rfl | exact Or.inr rfl) rfl (Or.inl rfl))
  (.cons (.set (i := 7) (.bin ok_div (.bin (ok_add rfl) (.fld rfl (.of T (by simp)) (.var (i := 5) rfl rfl (by first | exact Or.inl rfl | exact Or.inr (Or.inl rfl) | exact Or.inr (Or.inr rfl)) (by decide) (by decide)) rfl) .int) .int) nd rfl (by first | exact Or.inl rfl | exact Or.inr rfl) rfl (Or.inl rfl))
  (.cons (.set (i := 8) (.call o__law_up (hr.mono (by decide)) m__law_up k__law_up b__law_up passE (.cons (.bin ok_mul (.bin ok_mul (.var (i := 4) rfl rfl (by first | exact Or.inl rfl | exact Or.inr (Or.inl rfl) | exact Or.inr (Or.inr rfl)) (by decide) (by decide)) (.var (i := 7) rfl rfl (by first | exact Or.inl rfl | exact Or.inr (Or.inl rfl) | exact Or.inr (Or.inr rfl)) (by decide) (by decide))) (.var (i := 7) rfl rfl (by first | exact Or.inl rfl | exact Or.inr (Or.inl rfl) | exact Or.inr (Or.inr rfl)) (by decide) (by decide))) .nil rfl) (by rfl) (by decide) rfl rfl) nd rfl (by first | exact Or.inl rfl | exact Or.inr rfl) rfl (Or.inl rfl))
  (.cons (.if_ (.cmp (ok_ne rfl hr.units) (.call o_cell_radius (hr.mono (by decide)) m_cell_radius k_cell_radius b_cell_radius passE (.cons (.var (i := 2) rfl rfl (by first | exact Or.inl rfl | exact Or.inr (Or.inl rfl) | exact Or.inr (Or.inr rfl)) (by decide) (by decide)) (.cons (.fld rfl (.of T (by simp)) (.var (i := 5) rfl rfl (by first | exact Or.inl rfl | exact Or.inr (Or.inl rfl) | exact Or.inr (Or.inr rfl)) (by decide) (by decide)) rfl) .nil rfl) rfl) (by rfl) (by decide) rfl rfl) (.var (i := 8) rfl rfl (by first | exact Or.inl rfl | exact Or.inr (Or.inl rfl) | exact Or.inr (Or.inr rfl)) (by decide) (by decide)) rfl) (.one (.ret .bl)) .nil)
  (.cons (.set (i := 9) (.lst true (.cons (.fld rfl (.of T (by simp)) (.var (i := 5) rfl rfl (by first | exact Or.inl rfl | exact Or.inr (Or.inl rfl) | exact Or.inr (Or.inr rfl)) (by decide) (by decide)) rfl) .nil rfl)) nd rfl (by first | exact Or.inl rfl | exact Or.inr rfl) rfl (Or.inl rfl))
  (.cons (.for_ PassesOwn.never rfl (.any rfl (.var (i := 6) rfl rfl (by first | exact Or.inl rfl | exact Or.inr (Or.inl rfl) | exact Or.inr (Or.inr rfl)) (by decide) (by decide))) (.tup (n := 2) rfl rfl (.cons (ks := [10, 11]) (.name nd rfl (by first | exact Or.inl rfl | exact Or.inr rfl) (by first | exact Or.inl rfl | exact Or.inr rfl)) (.cons (ks := [10, 11]) (.name nd rfl (by first | exact Or.inl rfl | exact Or.inr rfl) (by first | exact Or.inl rfl | exact Or.inr rfl)) (.nil (is := [10, 11])) (by decide) (by decide) rfl) (by decide) (by decide) rfl) rfl rfl) (.cons (.set (i := 12) (.fld rfl (.of T (by simp)) (.var (i := 11) rfl rfl (by first | exact Or.inl rfl | exact Or.inr (Or.inl rfl) | exact Or.inr (Or.inr rfl)) (by decide) (by decide)) rfl) nd rfl (by first | exact Or.inl rfl | exact Or.inr rfl) rfl (Or.inl rfl))
  (.cons (.set (i := 13) (.bin (ok_add rfl) (.bin ok_mul (.call o_moved (hr.mono (by decide)) m_moved k_moved b_moved passE (.cons (.var (i := 12) rfl rfl (by first | exact Or.inl rfl | exact Or.inr (Or.inl rfl) | exact Or.inr (Or.inr rfl)) (by decide) (by decide)) .nil rfl) (by rfl) (by decide) rfl rfl) (.fld rfl (.of T (by simp)) (.var (i := 11) rfl rfl (by first | exact Or.inl rfl | exact Or.inr (Or.inl rfl) | exact Or.inr (Or.inr rfl)) (by decide) (by decide)) rfl)) (.bin ok_mul (.call o_rate (hr.mono (by decide)) m_rate k_rate b_rate passE (.cons (.var (i := 12) rfl rfl (by first | exact Or.inl rfl | exact Or.inr (Or.inl rfl) | exact Or.inr (Or.inr rfl)) (by decide) (by decide)) .nil rfl) (by rfl) (by decide) rfl rfl) (.call o_reach (hr.mono (by decide)) m_reach k_reach b_reach passE (.cons (.var (i := 2) rfl rfl (by first | exact Or.inl rfl | exact Or.inr (Or.inl rfl) | exact Or.inr (Or.inr rfl)) (by decide) (by decide)) (.cons (.fld rfl (.of T (by simp)) (.var (i := 11) rfl rfl (by first | exact Or.inl rfl | exact Or.inr (Or.inl rfl) | exact Or.inr (Or.inr rfl)) (by decide) (by decide)) rfl) .nil rfl) rfl) (by rfl) (by decide) rfl rfl))) nd rfl (by first | exact Or.inl rfl | exact Or.inr rfl) rfl (Or.inl rfl))
  (.cons (.set (i := 13) (.bin (ok_add rfl) (.bin (ok_add rfl) (.var (i := 13) rfl rfl (by first | exact Or.inl rfl | exact Or.inr (Or.inl rfl) | exact Or.inr (Or.inr rfl)) (by decide) (by decide)) (.bin ok_mul (.call o_clock_rate (hr.mono (by decide)) m_clock_rate k_clock_rate b_clock_rate passE (.cons (.var (i := 12) rfl rfl (by first | exact Or.inl rfl | exact Or.inr (Or.inl rfl) | exact Or.inr (Or.inr rfl)) (by decide) (by decide)) .nil rfl) (by rfl) (by decide) rfl rfl) (.call o_slip (hr.mono (by decide)) m_slip k_slip b_slip passE (.cons (.var (i := 2) rfl rfl (by first | exact Or.inl rfl | exact Or.inr (Or.inl rfl) | exact Or.inr (Or.inr rfl)) (by decide) (by decide)) (.cons (.fld rfl (.of T (by simp)) (.var (i := 11) rfl rfl (by first | exact Or.inl rfl | exact Or.inr (Or.inl rfl) | exact Or.inr (Or.inr rfl)) (by decide) (by decide)) rfl) .nil rfl) rfl) (by rfl) (by decide) rfl rfl))) (.bin ok_mul (.call o_rate (hr.mono (by decide)) m_rate k_rate b_rate passE (.cons (.var (i := 12) rfl rfl (by first | exact Or.inl rfl | exact Or.inr (Or.inl rfl) | exact Or.inr (Or.inr rfl)) (by decide) (by decide)) .nil rfl) (by rfl) (by decide) rfl rfl) (.bin (ok_add rfl) (.bin ok_mul .int (.var (i := 8) rfl rfl (by first | exact Or.inl rfl | exact Or.inr (Or.inl rfl) | exact Or.inr (Or.inr rfl)) (by decide) (by decide))) .int))) nd rfl (by first | exact Or.inl rfl | exact Or.inr rfl) rfl (Or.inl rfl))
  (.cons (.if_ (.cmp (ok_ne rfl hr.units) (.call o_margin (hr.mono (by decide)) m_margin k_margin b_margin passE (.cons (.var (i := 2) rfl rfl (by first | exact Or.inl rfl | exact Or.inr (Or.inl rfl) | exact Or.inr (Or.inr rfl)) (by decide) (by decide)) (.cons (.var (i := 5) rfl rfl (by first | exact Or.inl rfl | exact Or.inr (Or.inl rfl) | exact Or.inr (Or.inr rfl)) (by decide) (by decide)) (.cons (.var (i := 11) rfl rfl (by first | exact Or.inl rfl | exact Or.inr (Or.inl rfl) | exact Or.inr (Or.inr rfl)) (by decide) (by decide)) .nil rfl) rfl) rfl) (by rfl) (by decide) rfl rfl) (.bin (ok_add rfl) (.var (i := 13) rfl rfl (by first | exact Or.inl rfl | exact Or.inr (Or.inl rfl) | exact Or.inr (Or.inr rfl)) (by decide) (by decide)) (.bin ok_mul (.call o_clock_rate (hr.mono (by decide)) m_clock_rate k_clock_rate b_clock_rate passE (.cons (.var (i := 12) rfl rfl (by first | exact Or.inl rfl | exact Or.inr (Or.inl rfl) | exact Or.inr (Or.inr rfl)) (by decide) (by decide)) .nil rfl) (by rfl) (by decide) rfl rfl) (.fld rfl (.of T (by simp)) (.var (i := 5) rfl rfl (by first | exact Or.inl rfl | exact Or.inr (Or.inl rfl) | exact Or.inr (Or.inr rfl)) (by decide) (by decide)) rfl))) rfl) (.one (.ret .bl)) .nil)
  (.cons (.set (i := 14) (.ch2 ok_le ok_le (.fld rfl (.of T (by simp)) (.var (i := 5) rfl rfl (by first | exact Or.inl rfl | exact Or.inr (Or.inl rfl) | exact Or.inr (Or.inr rfl)) (by decide) (by decide)) rfl) (.fld rfl (.of T (by simp)) (.var (i := 11) rfl rfl (by first | exact Or.inl rfl | exact Or.inr (Or.inl rfl) | exact Or.inr (Or.inr rfl)) (by decide) (by decide)) rfl) (.fld rfl (.of T (by simp)) (.var (i := 5) rfl rfl (by first | exact Or.inl rfl | exact Or.inr (Or.inl rfl) | exact Or.inr (Or.inr rfl)) (by decide) (by decide)) rfl) rfl) nd rfl (by first | exact Or.inl rfl | exact Or.inr rfl) rfl (Or.inl rfl))
  (.one (.if_ (WV.tv (.and_ (.tru rfl (.var (i := 14) rfl rfl (by first | exact Or.inl rfl | exact Or.inr (Or.inl rfl) | exact Or.inr (Or.inr rfl)) (by decide) (by decide)) (fun _ => rfl)) (.and1 (.cmp (ok_notin rfl) (.fld rfl (.of T (by simp)) (.var (i := 11) rfl rfl (by first | exact Or.inl rfl | exact Or.inr (Or.inl rfl) | exact Or.inr (Or.inr rfl)) (by decide) (by decide)) rfl) (.var (i := 9) rfl rfl (by first | exact Or.inl rfl | exact Or.inr (Or.inl rfl) | exact Or.inr (Or.inr rfl)) (by decide) (by decide)) rfl)))) (.one (.exp (.bm rfl PySem.F.plainAttrs_list PySem.F.slot_list_append PySem.F.type_list_append bm_append (.var (i := 9) rfl rfl (by first | exact Or.inl rfl | exact Or.inr (Or.inl rfl) | exact Or.inr (Or.inr rfl)) (by decide) (by decide)) (.cons (.fld rfl (.of T (by simp)) (.var (i := 11) rfl rfl (by first | exact Or.inl rfl | exact Or.inr (Or.inl rfl) | exact Or.inr (Or.inr rfl)) (by decide) (by decide)) rfl) .nil rfl) rfl rfl rfl rfl rfl) rfl)) .nil))))))) (fun _ => rfl))
  (.cons (.set (i := 15) (.callT (cv_list false rfl) z_list (.cons (.var (i := 6) rfl rfl (by first | exact Or.inl rfl | exact Or.inr (Or.inl rfl) | exact Or.inr (Or.inr rfl)) (by decide) (by decide)) .nil rfl) (by rfl) bt_list (by decide) (by decide) rfl rfl) nd rfl (by first | exact Or.inl rfl | exact Or.inr rfl) rfl (Or.inl rfl))
  (.one (.ret (.and_ (.cmp (ok_eq rfl hr.units) (.call o_stretch (hr.mono (by decide)) m_stretch k_stretch b_stretch passE (.cons (.var (i := 2) rfl rfl (by first | exact Or.inl rfl | exact Or.inr (Or.inl rfl) | exact Or.inr (Or.inr rfl)) (by decide) (by decide)) (.cons (.var (i := 5) rfl rfl (by first | exact Or.inl rfl | exact Or.inr (Or.inl rfl) | exact Or.inr (Or.inr rfl)) (by decide) (by decide)) (.cons (.var (i := 6) rfl rfl (by first | exact Or.inl rfl | exact Or.inr (Or.inl rfl) | exact Or.inr (Or.inr rfl)) (by decide) (by decide)) .nil rfl) rfl) rfl) (by rfl) (by decide) rfl rfl) (.bin ok_mul (.bin ok_mul .int (.callB (cv_len rfl) z_len (.cons (.var (i := 9) rfl rfl (by first | exact Or.inl rfl | exact Or.inr (Or.inl rfl) | exact Or.inr (Or.inr rfl)) (by decide) (by decide)) .nil rfl) (by rfl) bt_len (by decide) (by decide) rfl rfl)) (.var (i := 8) rfl rfl (by first | exact Or.inl rfl | exact Or.inr (Or.inl rfl) | exact Or.inr (Or.inr rfl)) (by decide) (by decide))) rfl) (.one (.cmp (ok_eqO rfl (owns1 me_Reading__eq__ o_Reading__eq__ b_Reading__eq__) (hr.mono (by decide))) (.var (i := 6) rfl rfl (by first | exact Or.inl rfl | exact Or.inr (Or.inl rfl) | exact Or.inr (Or.inr rfl)) (by decide) (by decide)) (.var (i := 15) rfl rfl (by first | exact Or.inl rfl | exact Or.inr (Or.inl rfl) | exact Or.inr (Or.inr rfl)) (by decide) (by decide)) rfl))))))))))))))))))
end
set_option maxHeartbeats 4000000 in
theorem all_mk {l : PySem.W.OpenLaw} {w : World} {K : PySem.W.Frag} {h : Heap} {mg : Str → Option Value} {fa : Addr} (X : K.In h) (G : h.Ns mainGlobals mg) (hfa : mg "law" = some (.ref fa))
    {C_Question : Addr}
    {C_Reading : Addr}
    {C_Setting : Addr}
    {fa__law_rows : Addr} {od__law_rows an__law_rows : Option Addr} {sl__law_rows : Array (Option Value)} {oc__law_rows kV__law_rows dc__law_rows pm__law_rows cd__law_rows ct__law_rows : Value}
    {fa_all_within : Addr} {od_all_within an_all_within : Option Addr} {sl_all_within : Array (Option Value)} {oc_all_within kV_all_within dc_all_within pm_all_within cd_all_within ct_all_within : Value}
    {fa_Setting__init__ : Addr} {od_Setting__init__ an_Setting__init__ : Option Addr} {sl_Setting__init__ : Array (Option Value)} {oc_Setting__init__ kV_Setting__init__ dc_Setting__init__ pm_Setting__init__ cd_Setting__init__ ct_Setting__init__ : Value}
    {fa__law_setting : Addr} {od__law_setting an__law_setting : Option Addr} {sl__law_setting : Array (Option Value)} {oc__law_setting kV__law_setting dc__law_setting pm__law_setting cd__law_setting ct__law_setting : Value}
    {fa__law_digits : Addr} {od__law_digits an__law_digits : Option Addr} {sl__law_digits : Array (Option Value)} {oc__law_digits kV__law_digits dc__law_digits pm__law_digits cd__law_digits ct__law_digits : Value}
    {fa__law_velocity : Addr} {od__law_velocity an__law_velocity : Option Addr} {sl__law_velocity : Array (Option Value)} {oc__law_velocity kV__law_velocity dc__law_velocity pm__law_velocity cd__law_velocity ct__law_velocity : Value}
    {fa__law_way : Addr} {od__law_way an__law_way : Option Addr} {sl__law_way : Array (Option Value)} {oc__law_way kV__law_way dc__law_way pm__law_way cd__law_way ct__law_way : Value}
    {fa__law_at : Addr} {od__law_at an__law_at : Option Addr} {sl__law_at : Array (Option Value)} {oc__law_at kV__law_at dc__law_at pm__law_at cd__law_at ct__law_at : Value}
    {fa_sides_within : Addr} {od_sides_within an_sides_within : Option Addr} {sl_sides_within : Array (Option Value)} {oc_sides_within kV_sides_within dc_sides_within pm_sides_within cd_sides_within ct_sides_within : Value}
    {fa_Question__init__ : Addr} {od_Question__init__ an_Question__init__ : Option Addr} {sl_Question__init__ : Array (Option Value)} {oc_Question__init__ kV_Question__init__ dc_Question__init__ pm_Question__init__ cd_Question__init__ ct_Question__init__ : Value}
    {fa__law_question : Addr} {od__law_question an__law_question : Option Addr} {sl__law_question : Array (Option Value)} {oc__law_question kV__law_question dc__law_question pm__law_question cd__law_question ct__law_question : Value}
    {fa__law_point : Addr} {od__law_point an__law_point : Option Addr} {sl__law_point : Array (Option Value)} {oc__law_point kV__law_point dc__law_point pm__law_point cd__law_point ct__law_point : Value}
    {fa__law_kind : Addr} {od__law_kind an__law_kind : Option Addr} {sl__law_kind : Array (Option Value)} {oc__law_kind kV__law_kind dc__law_kind pm__law_kind cd__law_kind ct__law_kind : Value}
    {fa__law_square : Addr} {od__law_square an__law_square : Option Addr} {sl__law_square : Array (Option Value)} {oc__law_square kV__law_square dc__law_square pm__law_square cd__law_square ct__law_square : Value}
    {fa__law_piece : Addr} {od__law_piece an__law_piece : Option Addr} {sl__law_piece : Array (Option Value)} {oc__law_piece kV__law_piece dc__law_piece pm__law_piece cd__law_piece ct__law_piece : Value}
    {fa__law_root : Addr} {od__law_root an__law_root : Option Addr} {sl__law_root : Array (Option Value)} {oc__law_root kV__law_root dc__law_root pm__law_root cd__law_root ct__law_root : Value}
    {fa__law_up : Addr} {od__law_up an__law_up : Option Addr} {sl__law_up : Array (Option Value)} {oc__law_up kV__law_up dc__law_up pm__law_up cd__law_up ct__law_up : Value}
    {fa__law_boxes : Addr} {od__law_boxes an__law_boxes : Option Addr} {sl__law_boxes : Array (Option Value)} {oc__law_boxes kV__law_boxes dc__law_boxes pm__law_boxes cd__law_boxes ct__law_boxes : Value}
    {fa__law_value : Addr} {od__law_value an__law_value : Option Addr} {sl__law_value : Array (Option Value)} {oc__law_value kV__law_value dc__law_value pm__law_value cd__law_value ct__law_value : Value}
    {fa__law_moved : Addr} {od__law_moved an__law_moved : Option Addr} {sl__law_moved : Array (Option Value)} {oc__law_moved kV__law_moved dc__law_moved pm__law_moved cd__law_moved ct__law_moved : Value}
    {fa_is_name : Addr} {od_is_name an_is_name : Option Addr} {sl_is_name : Array (Option Value)} {oc_is_name kV_is_name dc_is_name pm_is_name cd_is_name ct_is_name : Value}
    {fa__direction_holds : Addr} {od__direction_holds an__direction_holds : Option Addr} {sl__direction_holds : Array (Option Value)} {oc__direction_holds kV__direction_holds dc__direction_holds pm__direction_holds cd__direction_holds ct__direction_holds : Value}
    {fa__boxes_hold : Addr} {od__boxes_hold an__boxes_hold : Option Addr} {sl__boxes_hold : Array (Option Value)} {oc__boxes_hold kV__boxes_hold dc__boxes_hold pm__boxes_hold cd__boxes_hold ct__boxes_hold : Value}
    {fa__kind_holds : Addr} {od__kind_holds an__kind_holds : Option Addr} {sl__kind_holds : Array (Option Value)} {oc__kind_holds kV__kind_holds dc__kind_holds pm__kind_holds cd__kind_holds ct__kind_holds : Value}
    {fa_Reading__init__ : Addr} {od_Reading__init__ an_Reading__init__ : Option Addr} {sl_Reading__init__ : Array (Option Value)} {oc_Reading__init__ kV_Reading__init__ dc_Reading__init__ pm_Reading__init__ cd_Reading__init__ ct_Reading__init__ : Value}
    {fa__law_reading : Addr} {od__law_reading an__law_reading : Option Addr} {sl__law_reading : Array (Option Value)} {oc__law_reading kV__law_reading dc__law_reading pm__law_reading cd__law_reading ct__law_reading : Value}
    {fa__law_readings : Addr} {od__law_readings an__law_readings : Option Addr} {sl__law_readings : Array (Option Value)} {oc__law_readings kV__law_readings dc__law_readings pm__law_readings cd__law_readings ct__law_readings : Value}
    {fa_half_side : Addr} {od_half_side an_half_side : Option Addr} {sl_half_side : Array (Option Value)} {oc_half_side kV_half_side dc_half_side pm_half_side cd_half_side ct_half_side : Value}
    {fa_root_up : Addr} {od_root_up an_root_up : Option Addr} {sl_root_up : Array (Option Value)} {oc_root_up kV_root_up dc_root_up pm_root_up cd_root_up ct_root_up : Value}
    {fa_cell_radius : Addr} {od_cell_radius an_cell_radius : Option Addr} {sl_cell_radius : Array (Option Value)} {oc_cell_radius kV_cell_radius dc_cell_radius pm_cell_radius cd_cell_radius ct_cell_radius : Value}
    {fa_moved : Addr} {od_moved an_moved : Option Addr} {sl_moved : Array (Option Value)} {oc_moved kV_moved dc_moved pm_moved cd_moved ct_moved : Value}
    {fa_dot : Addr} {od_dot an_dot : Option Addr} {sl_dot : Array (Option Value)} {oc_dot kV_dot dc_dot pm_dot cd_dot ct_dot : Value}
    {fa_rate : Addr} {od_rate an_rate : Option Addr} {sl_rate : Array (Option Value)} {oc_rate kV_rate dc_rate pm_rate cd_rate ct_rate : Value}
    {fa_quotient_up : Addr} {od_quotient_up an_quotient_up : Option Addr} {sl_quotient_up : Array (Option Value)} {oc_quotient_up kV_quotient_up dc_quotient_up pm_quotient_up cd_quotient_up ct_quotient_up : Value}
    {fa_reach : Addr} {od_reach an_reach : Option Addr} {sl_reach : Array (Option Value)} {oc_reach kV_reach dc_reach pm_reach cd_reach ct_reach : Value}
    {fa_clock_rate : Addr} {od_clock_rate an_clock_rate : Option Addr} {sl_clock_rate : Array (Option Value)} {oc_clock_rate kV_clock_rate dc_clock_rate pm_clock_rate cd_clock_rate ct_clock_rate : Value}
    {fa_slip : Addr} {od_slip an_slip : Option Addr} {sl_slip : Array (Option Value)} {oc_slip kV_slip dc_slip pm_slip cd_slip ct_slip : Value}
    {fa_spread : Addr} {od_spread an_spread : Option Addr} {sl_spread : Array (Option Value)} {oc_spread kV_spread dc_spread pm_spread cd_spread ct_spread : Value}
    {fa_margin : Addr} {od_margin an_margin : Option Addr} {sl_margin : Array (Option Value)} {oc_margin kV_margin dc_margin pm_margin cd_margin ct_margin : Value}
    {fa_asked : Addr} {od_asked an_asked : Option Addr} {sl_asked : Array (Option Value)} {oc_asked kV_asked dc_asked pm_asked cd_asked ct_asked : Value}
    {fa_stretch : Addr} {od_stretch an_stretch : Option Addr} {sl_stretch : Array (Option Value)} {oc_stretch kV_stretch dc_stretch pm_stretch cd_stretch ct_stretch : Value}
    {fa_Reading__eq__ : Addr} {od_Reading__eq__ an_Reading__eq__ : Option Addr} {sl_Reading__eq__ : Array (Option Value)} {oc_Reading__eq__ kV_Reading__eq__ dc_Reading__eq__ pm_Reading__eq__ cd_Reading__eq__ ct_Reading__eq__ : Value}
    {fa_law : Addr} {od_law an_law : Option Addr} {sl_law : Array (Option Value)} {oc_law kV_law dc_law pm_law cd_law ct_law : Value}
    {t_FAR : Tok}
    {t_LIMIT : Tok}
    {t_LONGEST : Tok}
    {t_MOST_BOXES : Tok}
    {t_MOST_LIARS : Tok}
    {t_SIGNS : Tok}
    {t_STEEPEST : Tok}
    (aC_Question : PySem.W.nsIn K mainGlobals "Question" = some (some (.ref C_Question)))
    (pg_Question : PySem.W.plainGet K C_Question Str.empty = true)
    (hd_Question : PySem.W.hasDictIn K C_Question = true)
    (po_Question : PySem.W.plainOver K C_Question = true)
    (sa_Question : PySem.W.findIn K (.ref C_Question) "__setattr__" = some (some (.builtin "object.__setattr__")))
    (mk_Question : PySem.W.makesIn K C_Question = true)
    (kc_Question : PySem.W.keepIn K (.ref C_Question) = true)
    (na_Question_dims : PySem.W.findIn K (.ref C_Question) "dims" = some none)
    (na_Question_root : PySem.W.findIn K (.ref C_Question) "root" = some none)
    (na_Question_moment : PySem.W.findIn K (.ref C_Question) "moment" = some none)
    (na_Question_latest : PySem.W.findIn K (.ref C_Question) "latest" = some none)
    (na_Question_earliest : PySem.W.findIn K (.ref C_Question) "earliest" = some none)
    (na_Question_share : PySem.W.findIn K (.ref C_Question) "share" = some none)
    (na_Question_kind : PySem.W.findIn K (.ref C_Question) "kind" = some none)
    (na_Question_near : PySem.W.findIn K (.ref C_Question) "near" = some none)
    (na_Question_late : PySem.W.findIn K (.ref C_Question) "late" = some none)
    (na_Question_speed : PySem.W.findIn K (.ref C_Question) "speed" = some none)
    (na_Question_drift : PySem.W.findIn K (.ref C_Question) "drift" = some none)
    (na_Question_per : PySem.W.findIn K (.ref C_Question) "per" = some none)
    (na_Question_liars : PySem.W.findIn K (.ref C_Question) "liars" = some none)
    (na_Question_source : PySem.W.findIn K (.ref C_Question) "source" = some none)
    (na_Question_low : PySem.W.findIn K (.ref C_Question) "low" = some none)
    (na_Question_high : PySem.W.findIn K (.ref C_Question) "high" = some none)
    (aC_Reading : PySem.W.nsIn K mainGlobals "Reading" = some (some (.ref C_Reading)))
    (pg_Reading : PySem.W.plainGet K C_Reading Str.empty = true)
    (hd_Reading : PySem.W.hasDictIn K C_Reading = true)
    (po_Reading : PySem.W.plainOver K C_Reading = true)
    (sa_Reading : PySem.W.findIn K (.ref C_Reading) "__setattr__" = some (some (.builtin "object.__setattr__")))
    (mk_Reading : PySem.W.makesIn K C_Reading = true)
    (kc_Reading : PySem.W.keepIn K (.ref C_Reading) = true)
    (ic_Reading : PySem.W.findIn K (.ref C_Reading) "__class__" = some (some (.builtin "object.__class__")))
    (io_Reading : PySem.W.mroIn K C_Reading (.type "object") = some true)
    (na_Reading_dims : PySem.W.findIn K (.ref C_Reading) "dims" = some none)
    (na_Reading_root : PySem.W.findIn K (.ref C_Reading) "root" = some none)
    (na_Reading_moment : PySem.W.findIn K (.ref C_Reading) "moment" = some none)
    (na_Reading_latest : PySem.W.findIn K (.ref C_Reading) "latest" = some none)
    (na_Reading_earliest : PySem.W.findIn K (.ref C_Reading) "earliest" = some none)
    (na_Reading_share : PySem.W.findIn K (.ref C_Reading) "share" = some none)
    (na_Reading_kind : PySem.W.findIn K (.ref C_Reading) "kind" = some none)
    (na_Reading_near : PySem.W.findIn K (.ref C_Reading) "near" = some none)
    (na_Reading_late : PySem.W.findIn K (.ref C_Reading) "late" = some none)
    (na_Reading_speed : PySem.W.findIn K (.ref C_Reading) "speed" = some none)
    (na_Reading_drift : PySem.W.findIn K (.ref C_Reading) "drift" = some none)
    (na_Reading_per : PySem.W.findIn K (.ref C_Reading) "per" = some none)
    (na_Reading_liars : PySem.W.findIn K (.ref C_Reading) "liars" = some none)
    (na_Reading_source : PySem.W.findIn K (.ref C_Reading) "source" = some none)
    (na_Reading_low : PySem.W.findIn K (.ref C_Reading) "low" = some none)
    (na_Reading_high : PySem.W.findIn K (.ref C_Reading) "high" = some none)
    (aC_Setting : PySem.W.nsIn K mainGlobals "Setting" = some (some (.ref C_Setting)))
    (pg_Setting : PySem.W.plainGet K C_Setting Str.empty = true)
    (hd_Setting : PySem.W.hasDictIn K C_Setting = true)
    (po_Setting : PySem.W.plainOver K C_Setting = true)
    (sa_Setting : PySem.W.findIn K (.ref C_Setting) "__setattr__" = some (some (.builtin "object.__setattr__")))
    (mk_Setting : PySem.W.makesIn K C_Setting = true)
    (kc_Setting : PySem.W.keepIn K (.ref C_Setting) = true)
    (na_Setting_dims : PySem.W.findIn K (.ref C_Setting) "dims" = some none)
    (na_Setting_root : PySem.W.findIn K (.ref C_Setting) "root" = some none)
    (na_Setting_moment : PySem.W.findIn K (.ref C_Setting) "moment" = some none)
    (na_Setting_latest : PySem.W.findIn K (.ref C_Setting) "latest" = some none)
    (na_Setting_earliest : PySem.W.findIn K (.ref C_Setting) "earliest" = some none)
    (na_Setting_share : PySem.W.findIn K (.ref C_Setting) "share" = some none)
    (na_Setting_kind : PySem.W.findIn K (.ref C_Setting) "kind" = some none)
    (na_Setting_near : PySem.W.findIn K (.ref C_Setting) "near" = some none)
    (na_Setting_late : PySem.W.findIn K (.ref C_Setting) "late" = some none)
    (na_Setting_speed : PySem.W.findIn K (.ref C_Setting) "speed" = some none)
    (na_Setting_drift : PySem.W.findIn K (.ref C_Setting) "drift" = some none)
    (na_Setting_per : PySem.W.findIn K (.ref C_Setting) "per" = some none)
    (na_Setting_liars : PySem.W.findIn K (.ref C_Setting) "liars" = some none)
    (na_Setting_source : PySem.W.findIn K (.ref C_Setting) "source" = some none)
    (na_Setting_low : PySem.W.findIn K (.ref C_Setting) "low" = some none)
    (na_Setting_high : PySem.W.findIn K (.ref C_Setting) "high" = some none)
    (a__law_rows : PySem.W.nsIn K mainGlobals "_law_rows" = some (some (.ref fa__law_rows)))
    (l__law_rows : K.lookup fa__law_rows = some ⟨oc__law_rows, od__law_rows, .func (PySem.W.fnOf "_law_rows" "_law_rows" (defArgs s__law_rows) (defBody s__law_rows) (defScope s__law_rows) .none kV__law_rows dc__law_rows pm__law_rows an__law_rows cd__law_rows ct__law_rows), sl__law_rows⟩)
    (c__law_rows : PySem.W.codeIn K cd__law_rows "_law_rows" = true)
    (k__law_rows : PySem.W.keepIn K (.ref fa__law_rows) = true)
    (a_all_within : PySem.W.nsIn K mainGlobals "all_within" = some (some (.ref fa_all_within)))
    (l_all_within : K.lookup fa_all_within = some ⟨oc_all_within, od_all_within, .func (PySem.W.fnOf "all_within" "all_within" (defArgs s_all_within) (defBody s_all_within) (defScope s_all_within) .none kV_all_within dc_all_within pm_all_within an_all_within cd_all_within ct_all_within), sl_all_within⟩)
    (c_all_within : PySem.W.codeIn K cd_all_within "all_within" = true)
    (k_all_within : PySem.W.keepIn K (.ref fa_all_within) = true)
    (a_Setting__init__ : PySem.W.findIn K (.ref C_Setting) "__init__" = some (some (.ref fa_Setting__init__)))
    (i_Setting__init__ : PySem.W.isFn K (.ref fa_Setting__init__) = true)
    (l_Setting__init__ : K.lookup fa_Setting__init__ = some ⟨oc_Setting__init__, od_Setting__init__, .func (PySem.W.fnOf "__init__" "Setting.__init__" (defArgs s_Setting__init__) (defBody s_Setting__init__) (defScope s_Setting__init__) .none kV_Setting__init__ dc_Setting__init__ pm_Setting__init__ an_Setting__init__ cd_Setting__init__ ct_Setting__init__), sl_Setting__init__⟩)
    (c_Setting__init__ : PySem.W.codeIn K cd_Setting__init__ "Setting.__init__" = true)
    (k_Setting__init__ : PySem.W.keepIn K (.ref fa_Setting__init__) = true)
    (a__law_setting : PySem.W.nsIn K mainGlobals "_law_setting" = some (some (.ref fa__law_setting)))
    (l__law_setting : K.lookup fa__law_setting = some ⟨oc__law_setting, od__law_setting, .func (PySem.W.fnOf "_law_setting" "_law_setting" (defArgs s__law_setting) (defBody s__law_setting) (defScope s__law_setting) .none kV__law_setting dc__law_setting pm__law_setting an__law_setting cd__law_setting ct__law_setting), sl__law_setting⟩)
    (c__law_setting : PySem.W.codeIn K cd__law_setting "_law_setting" = true)
    (k__law_setting : PySem.W.keepIn K (.ref fa__law_setting) = true)
    (a__law_digits : PySem.W.nsIn K mainGlobals "_law_digits" = some (some (.ref fa__law_digits)))
    (l__law_digits : K.lookup fa__law_digits = some ⟨oc__law_digits, od__law_digits, .func (PySem.W.fnOf "_law_digits" "_law_digits" (defArgs s__law_digits) (defBody s__law_digits) (defScope s__law_digits) .none kV__law_digits dc__law_digits pm__law_digits an__law_digits cd__law_digits ct__law_digits), sl__law_digits⟩)
    (c__law_digits : PySem.W.codeIn K cd__law_digits "_law_digits" = true)
    (k__law_digits : PySem.W.keepIn K (.ref fa__law_digits) = true)
    (a__law_velocity : PySem.W.nsIn K mainGlobals "_law_velocity" = some (some (.ref fa__law_velocity)))
    (l__law_velocity : K.lookup fa__law_velocity = some ⟨oc__law_velocity, od__law_velocity, .func (PySem.W.fnOf "_law_velocity" "_law_velocity" (defArgs s__law_velocity) (defBody s__law_velocity) (defScope s__law_velocity) .none kV__law_velocity dc__law_velocity pm__law_velocity an__law_velocity cd__law_velocity ct__law_velocity), sl__law_velocity⟩)
    (c__law_velocity : PySem.W.codeIn K cd__law_velocity "_law_velocity" = true)
    (k__law_velocity : PySem.W.keepIn K (.ref fa__law_velocity) = true)
    (a__law_way : PySem.W.nsIn K mainGlobals "_law_way" = some (some (.ref fa__law_way)))
    (l__law_way : K.lookup fa__law_way = some ⟨oc__law_way, od__law_way, .func (PySem.W.fnOf "_law_way" "_law_way" (defArgs s__law_way) (defBody s__law_way) (defScope s__law_way) .none kV__law_way dc__law_way pm__law_way an__law_way cd__law_way ct__law_way), sl__law_way⟩)
    (c__law_way : PySem.W.codeIn K cd__law_way "_law_way" = true)
    (k__law_way : PySem.W.keepIn K (.ref fa__law_way) = true)
    (a__law_at : PySem.W.nsIn K mainGlobals "_law_at" = some (some (.ref fa__law_at)))
    (l__law_at : K.lookup fa__law_at = some ⟨oc__law_at, od__law_at, .func (PySem.W.fnOf "_law_at" "_law_at" (defArgs s__law_at) (defBody s__law_at) (defScope s__law_at) .none kV__law_at dc__law_at pm__law_at an__law_at cd__law_at ct__law_at), sl__law_at⟩)
    (c__law_at : PySem.W.codeIn K cd__law_at "_law_at" = true)
    (k__law_at : PySem.W.keepIn K (.ref fa__law_at) = true)
    (a_sides_within : PySem.W.nsIn K mainGlobals "sides_within" = some (some (.ref fa_sides_within)))
    (l_sides_within : K.lookup fa_sides_within = some ⟨oc_sides_within, od_sides_within, .func (PySem.W.fnOf "sides_within" "sides_within" (defArgs s_sides_within) (defBody s_sides_within) (defScope s_sides_within) .none kV_sides_within dc_sides_within pm_sides_within an_sides_within cd_sides_within ct_sides_within), sl_sides_within⟩)
    (c_sides_within : PySem.W.codeIn K cd_sides_within "sides_within" = true)
    (k_sides_within : PySem.W.keepIn K (.ref fa_sides_within) = true)
    (a_Question__init__ : PySem.W.findIn K (.ref C_Question) "__init__" = some (some (.ref fa_Question__init__)))
    (i_Question__init__ : PySem.W.isFn K (.ref fa_Question__init__) = true)
    (l_Question__init__ : K.lookup fa_Question__init__ = some ⟨oc_Question__init__, od_Question__init__, .func (PySem.W.fnOf "__init__" "Question.__init__" (defArgs s_Question__init__) (defBody s_Question__init__) (defScope s_Question__init__) .none kV_Question__init__ dc_Question__init__ pm_Question__init__ an_Question__init__ cd_Question__init__ ct_Question__init__), sl_Question__init__⟩)
    (c_Question__init__ : PySem.W.codeIn K cd_Question__init__ "Question.__init__" = true)
    (k_Question__init__ : PySem.W.keepIn K (.ref fa_Question__init__) = true)
    (a__law_question : PySem.W.nsIn K mainGlobals "_law_question" = some (some (.ref fa__law_question)))
    (l__law_question : K.lookup fa__law_question = some ⟨oc__law_question, od__law_question, .func (PySem.W.fnOf "_law_question" "_law_question" (defArgs s__law_question) (defBody s__law_question) (defScope s__law_question) .none kV__law_question dc__law_question pm__law_question an__law_question cd__law_question ct__law_question), sl__law_question⟩)
    (c__law_question : PySem.W.codeIn K cd__law_question "_law_question" = true)
    (k__law_question : PySem.W.keepIn K (.ref fa__law_question) = true)
    (a__law_point : PySem.W.nsIn K mainGlobals "_law_point" = some (some (.ref fa__law_point)))
    (l__law_point : K.lookup fa__law_point = some ⟨oc__law_point, od__law_point, .func (PySem.W.fnOf "_law_point" "_law_point" (defArgs s__law_point) (defBody s__law_point) (defScope s__law_point) .none kV__law_point dc__law_point pm__law_point an__law_point cd__law_point ct__law_point), sl__law_point⟩)
    (c__law_point : PySem.W.codeIn K cd__law_point "_law_point" = true)
    (k__law_point : PySem.W.keepIn K (.ref fa__law_point) = true)
    (a__law_kind : PySem.W.nsIn K mainGlobals "_law_kind" = some (some (.ref fa__law_kind)))
    (l__law_kind : K.lookup fa__law_kind = some ⟨oc__law_kind, od__law_kind, .func (PySem.W.fnOf "_law_kind" "_law_kind" (defArgs s__law_kind) (defBody s__law_kind) (defScope s__law_kind) .none kV__law_kind dc__law_kind pm__law_kind an__law_kind cd__law_kind ct__law_kind), sl__law_kind⟩)
    (c__law_kind : PySem.W.codeIn K cd__law_kind "_law_kind" = true)
    (k__law_kind : PySem.W.keepIn K (.ref fa__law_kind) = true)
    (a__law_square : PySem.W.nsIn K mainGlobals "_law_square" = some (some (.ref fa__law_square)))
    (l__law_square : K.lookup fa__law_square = some ⟨oc__law_square, od__law_square, .func (PySem.W.fnOf "_law_square" "_law_square" (defArgs s__law_square) (defBody s__law_square) (defScope s__law_square) .none kV__law_square dc__law_square pm__law_square an__law_square cd__law_square ct__law_square), sl__law_square⟩)
    (c__law_square : PySem.W.codeIn K cd__law_square "_law_square" = true)
    (k__law_square : PySem.W.keepIn K (.ref fa__law_square) = true)
    (a__law_piece : PySem.W.nsIn K mainGlobals "_law_piece" = some (some (.ref fa__law_piece)))
    (l__law_piece : K.lookup fa__law_piece = some ⟨oc__law_piece, od__law_piece, .func (PySem.W.fnOf "_law_piece" "_law_piece" (defArgs s__law_piece) (defBody s__law_piece) (defScope s__law_piece) .none kV__law_piece dc__law_piece pm__law_piece an__law_piece cd__law_piece ct__law_piece), sl__law_piece⟩)
    (c__law_piece : PySem.W.codeIn K cd__law_piece "_law_piece" = true)
    (k__law_piece : PySem.W.keepIn K (.ref fa__law_piece) = true)
    (a__law_root : PySem.W.nsIn K mainGlobals "_law_root" = some (some (.ref fa__law_root)))
    (l__law_root : K.lookup fa__law_root = some ⟨oc__law_root, od__law_root, .func (PySem.W.fnOf "_law_root" "_law_root" (defArgs s__law_root) (defBody s__law_root) (defScope s__law_root) .none kV__law_root dc__law_root pm__law_root an__law_root cd__law_root ct__law_root), sl__law_root⟩)
    (c__law_root : PySem.W.codeIn K cd__law_root "_law_root" = true)
    (k__law_root : PySem.W.keepIn K (.ref fa__law_root) = true)
    (a__law_up : PySem.W.nsIn K mainGlobals "_law_up" = some (some (.ref fa__law_up)))
    (l__law_up : K.lookup fa__law_up = some ⟨oc__law_up, od__law_up, .func (PySem.W.fnOf "_law_up" "_law_up" (defArgs s__law_up) (defBody s__law_up) (defScope s__law_up) .none kV__law_up dc__law_up pm__law_up an__law_up cd__law_up ct__law_up), sl__law_up⟩)
    (c__law_up : PySem.W.codeIn K cd__law_up "_law_up" = true)
    (k__law_up : PySem.W.keepIn K (.ref fa__law_up) = true)
    (a__law_boxes : PySem.W.nsIn K mainGlobals "_law_boxes" = some (some (.ref fa__law_boxes)))
    (l__law_boxes : K.lookup fa__law_boxes = some ⟨oc__law_boxes, od__law_boxes, .func (PySem.W.fnOf "_law_boxes" "_law_boxes" (defArgs s__law_boxes) (defBody s__law_boxes) (defScope s__law_boxes) .none kV__law_boxes dc__law_boxes pm__law_boxes an__law_boxes cd__law_boxes ct__law_boxes), sl__law_boxes⟩)
    (c__law_boxes : PySem.W.codeIn K cd__law_boxes "_law_boxes" = true)
    (k__law_boxes : PySem.W.keepIn K (.ref fa__law_boxes) = true)
    (a__law_value : PySem.W.nsIn K mainGlobals "_law_value" = some (some (.ref fa__law_value)))
    (l__law_value : K.lookup fa__law_value = some ⟨oc__law_value, od__law_value, .func (PySem.W.fnOf "_law_value" "_law_value" (defArgs s__law_value) (defBody s__law_value) (defScope s__law_value) .none kV__law_value dc__law_value pm__law_value an__law_value cd__law_value ct__law_value), sl__law_value⟩)
    (c__law_value : PySem.W.codeIn K cd__law_value "_law_value" = true)
    (k__law_value : PySem.W.keepIn K (.ref fa__law_value) = true)
    (a__law_moved : PySem.W.nsIn K mainGlobals "_law_moved" = some (some (.ref fa__law_moved)))
    (l__law_moved : K.lookup fa__law_moved = some ⟨oc__law_moved, od__law_moved, .func (PySem.W.fnOf "_law_moved" "_law_moved" (defArgs s__law_moved) (defBody s__law_moved) (defScope s__law_moved) .none kV__law_moved dc__law_moved pm__law_moved an__law_moved cd__law_moved ct__law_moved), sl__law_moved⟩)
    (c__law_moved : PySem.W.codeIn K cd__law_moved "_law_moved" = true)
    (k__law_moved : PySem.W.keepIn K (.ref fa__law_moved) = true)
    (a_is_name : PySem.W.nsIn K mainGlobals "is_name" = some (some (.ref fa_is_name)))
    (l_is_name : K.lookup fa_is_name = some ⟨oc_is_name, od_is_name, .func (PySem.W.fnOf "is_name" "is_name" (defArgs s_is_name) (defBody s_is_name) (defScope s_is_name) .none kV_is_name dc_is_name pm_is_name an_is_name cd_is_name ct_is_name), sl_is_name⟩)
    (c_is_name : PySem.W.codeIn K cd_is_name "is_name" = true)
    (k_is_name : PySem.W.keepIn K (.ref fa_is_name) = true)
    (a__direction_holds : PySem.W.nsIn K mainGlobals "_direction_holds" = some (some (.ref fa__direction_holds)))
    (l__direction_holds : K.lookup fa__direction_holds = some ⟨oc__direction_holds, od__direction_holds, .func (PySem.W.fnOf "_direction_holds" "_direction_holds" (defArgs s__direction_holds) (defBody s__direction_holds) (defScope s__direction_holds) .none kV__direction_holds dc__direction_holds pm__direction_holds an__direction_holds cd__direction_holds ct__direction_holds), sl__direction_holds⟩)
    (c__direction_holds : PySem.W.codeIn K cd__direction_holds "_direction_holds" = true)
    (k__direction_holds : PySem.W.keepIn K (.ref fa__direction_holds) = true)
    (a__boxes_hold : PySem.W.nsIn K mainGlobals "_boxes_hold" = some (some (.ref fa__boxes_hold)))
    (l__boxes_hold : K.lookup fa__boxes_hold = some ⟨oc__boxes_hold, od__boxes_hold, .func (PySem.W.fnOf "_boxes_hold" "_boxes_hold" (defArgs s__boxes_hold) (defBody s__boxes_hold) (defScope s__boxes_hold) .none kV__boxes_hold dc__boxes_hold pm__boxes_hold an__boxes_hold cd__boxes_hold ct__boxes_hold), sl__boxes_hold⟩)
    (c__boxes_hold : PySem.W.codeIn K cd__boxes_hold "_boxes_hold" = true)
    (k__boxes_hold : PySem.W.keepIn K (.ref fa__boxes_hold) = true)
    (a__kind_holds : PySem.W.nsIn K mainGlobals "_kind_holds" = some (some (.ref fa__kind_holds)))
    (l__kind_holds : K.lookup fa__kind_holds = some ⟨oc__kind_holds, od__kind_holds, .func (PySem.W.fnOf "_kind_holds" "_kind_holds" (defArgs s__kind_holds) (defBody s__kind_holds) (defScope s__kind_holds) .none kV__kind_holds dc__kind_holds pm__kind_holds an__kind_holds cd__kind_holds ct__kind_holds), sl__kind_holds⟩)
    (c__kind_holds : PySem.W.codeIn K cd__kind_holds "_kind_holds" = true)
    (k__kind_holds : PySem.W.keepIn K (.ref fa__kind_holds) = true)
    (a_Reading__init__ : PySem.W.findIn K (.ref C_Reading) "__init__" = some (some (.ref fa_Reading__init__)))
    (i_Reading__init__ : PySem.W.isFn K (.ref fa_Reading__init__) = true)
    (l_Reading__init__ : K.lookup fa_Reading__init__ = some ⟨oc_Reading__init__, od_Reading__init__, .func (PySem.W.fnOf "__init__" "Reading.__init__" (defArgs s_Reading__init__) (defBody s_Reading__init__) (defScope s_Reading__init__) .none kV_Reading__init__ dc_Reading__init__ pm_Reading__init__ an_Reading__init__ cd_Reading__init__ ct_Reading__init__), sl_Reading__init__⟩)
    (c_Reading__init__ : PySem.W.codeIn K cd_Reading__init__ "Reading.__init__" = true)
    (k_Reading__init__ : PySem.W.keepIn K (.ref fa_Reading__init__) = true)
    (a__law_reading : PySem.W.nsIn K mainGlobals "_law_reading" = some (some (.ref fa__law_reading)))
    (l__law_reading : K.lookup fa__law_reading = some ⟨oc__law_reading, od__law_reading, .func (PySem.W.fnOf "_law_reading" "_law_reading" (defArgs s__law_reading) (defBody s__law_reading) (defScope s__law_reading) .none kV__law_reading dc__law_reading pm__law_reading an__law_reading cd__law_reading ct__law_reading), sl__law_reading⟩)
    (c__law_reading : PySem.W.codeIn K cd__law_reading "_law_reading" = true)
    (k__law_reading : PySem.W.keepIn K (.ref fa__law_reading) = true)
    (a__law_readings : PySem.W.nsIn K mainGlobals "_law_readings" = some (some (.ref fa__law_readings)))
    (l__law_readings : K.lookup fa__law_readings = some ⟨oc__law_readings, od__law_readings, .func (PySem.W.fnOf "_law_readings" "_law_readings" (defArgs s__law_readings) (defBody s__law_readings) (defScope s__law_readings) .none kV__law_readings dc__law_readings pm__law_readings an__law_readings cd__law_readings ct__law_readings), sl__law_readings⟩)
    (c__law_readings : PySem.W.codeIn K cd__law_readings "_law_readings" = true)
    (k__law_readings : PySem.W.keepIn K (.ref fa__law_readings) = true)
    (a_half_side : PySem.W.nsIn K mainGlobals "half_side" = some (some (.ref fa_half_side)))
    (l_half_side : K.lookup fa_half_side = some ⟨oc_half_side, od_half_side, .func (PySem.W.fnOf "half_side" "half_side" (defArgs s_half_side) (defBody s_half_side) (defScope s_half_side) .none kV_half_side dc_half_side pm_half_side an_half_side cd_half_side ct_half_side), sl_half_side⟩)
    (c_half_side : PySem.W.codeIn K cd_half_side "half_side" = true)
    (k_half_side : PySem.W.keepIn K (.ref fa_half_side) = true)
    (a_root_up : PySem.W.nsIn K mainGlobals "root_up" = some (some (.ref fa_root_up)))
    (l_root_up : K.lookup fa_root_up = some ⟨oc_root_up, od_root_up, .func (PySem.W.fnOf "root_up" "root_up" (defArgs s_root_up) (defBody s_root_up) (defScope s_root_up) .none kV_root_up dc_root_up pm_root_up an_root_up cd_root_up ct_root_up), sl_root_up⟩)
    (c_root_up : PySem.W.codeIn K cd_root_up "root_up" = true)
    (k_root_up : PySem.W.keepIn K (.ref fa_root_up) = true)
    (a_cell_radius : PySem.W.nsIn K mainGlobals "cell_radius" = some (some (.ref fa_cell_radius)))
    (l_cell_radius : K.lookup fa_cell_radius = some ⟨oc_cell_radius, od_cell_radius, .func (PySem.W.fnOf "cell_radius" "cell_radius" (defArgs s_cell_radius) (defBody s_cell_radius) (defScope s_cell_radius) .none kV_cell_radius dc_cell_radius pm_cell_radius an_cell_radius cd_cell_radius ct_cell_radius), sl_cell_radius⟩)
    (c_cell_radius : PySem.W.codeIn K cd_cell_radius "cell_radius" = true)
    (k_cell_radius : PySem.W.keepIn K (.ref fa_cell_radius) = true)
    (a_moved : PySem.W.nsIn K mainGlobals "moved" = some (some (.ref fa_moved)))
    (l_moved : K.lookup fa_moved = some ⟨oc_moved, od_moved, .func (PySem.W.fnOf "moved" "moved" (defArgs s_moved) (defBody s_moved) (defScope s_moved) .none kV_moved dc_moved pm_moved an_moved cd_moved ct_moved), sl_moved⟩)
    (c_moved : PySem.W.codeIn K cd_moved "moved" = true)
    (k_moved : PySem.W.keepIn K (.ref fa_moved) = true)
    (a_dot : PySem.W.nsIn K mainGlobals "dot" = some (some (.ref fa_dot)))
    (l_dot : K.lookup fa_dot = some ⟨oc_dot, od_dot, .func (PySem.W.fnOf "dot" "dot" (defArgs s_dot) (defBody s_dot) (defScope s_dot) .none kV_dot dc_dot pm_dot an_dot cd_dot ct_dot), sl_dot⟩)
    (c_dot : PySem.W.codeIn K cd_dot "dot" = true)
    (k_dot : PySem.W.keepIn K (.ref fa_dot) = true)
    (a_rate : PySem.W.nsIn K mainGlobals "rate" = some (some (.ref fa_rate)))
    (l_rate : K.lookup fa_rate = some ⟨oc_rate, od_rate, .func (PySem.W.fnOf "rate" "rate" (defArgs s_rate) (defBody s_rate) (defScope s_rate) .none kV_rate dc_rate pm_rate an_rate cd_rate ct_rate), sl_rate⟩)
    (c_rate : PySem.W.codeIn K cd_rate "rate" = true)
    (k_rate : PySem.W.keepIn K (.ref fa_rate) = true)
    (a_quotient_up : PySem.W.nsIn K mainGlobals "quotient_up" = some (some (.ref fa_quotient_up)))
    (l_quotient_up : K.lookup fa_quotient_up = some ⟨oc_quotient_up, od_quotient_up, .func (PySem.W.fnOf "quotient_up" "quotient_up" (defArgs s_quotient_up) (defBody s_quotient_up) (defScope s_quotient_up) .none kV_quotient_up dc_quotient_up pm_quotient_up an_quotient_up cd_quotient_up ct_quotient_up), sl_quotient_up⟩)
    (c_quotient_up : PySem.W.codeIn K cd_quotient_up "quotient_up" = true)
    (k_quotient_up : PySem.W.keepIn K (.ref fa_quotient_up) = true)
    (a_reach : PySem.W.nsIn K mainGlobals "reach" = some (some (.ref fa_reach)))
    (l_reach : K.lookup fa_reach = some ⟨oc_reach, od_reach, .func (PySem.W.fnOf "reach" "reach" (defArgs s_reach) (defBody s_reach) (defScope s_reach) .none kV_reach dc_reach pm_reach an_reach cd_reach ct_reach), sl_reach⟩)
    (c_reach : PySem.W.codeIn K cd_reach "reach" = true)
    (k_reach : PySem.W.keepIn K (.ref fa_reach) = true)
    (a_clock_rate : PySem.W.nsIn K mainGlobals "clock_rate" = some (some (.ref fa_clock_rate)))
    (l_clock_rate : K.lookup fa_clock_rate = some ⟨oc_clock_rate, od_clock_rate, .func (PySem.W.fnOf "clock_rate" "clock_rate" (defArgs s_clock_rate) (defBody s_clock_rate) (defScope s_clock_rate) .none kV_clock_rate dc_clock_rate pm_clock_rate an_clock_rate cd_clock_rate ct_clock_rate), sl_clock_rate⟩)
    (c_clock_rate : PySem.W.codeIn K cd_clock_rate "clock_rate" = true)
    (k_clock_rate : PySem.W.keepIn K (.ref fa_clock_rate) = true)
    (a_slip : PySem.W.nsIn K mainGlobals "slip" = some (some (.ref fa_slip)))
    (l_slip : K.lookup fa_slip = some ⟨oc_slip, od_slip, .func (PySem.W.fnOf "slip" "slip" (defArgs s_slip) (defBody s_slip) (defScope s_slip) .none kV_slip dc_slip pm_slip an_slip cd_slip ct_slip), sl_slip⟩)
    (c_slip : PySem.W.codeIn K cd_slip "slip" = true)
    (k_slip : PySem.W.keepIn K (.ref fa_slip) = true)
    (a_spread : PySem.W.nsIn K mainGlobals "spread" = some (some (.ref fa_spread)))
    (l_spread : K.lookup fa_spread = some ⟨oc_spread, od_spread, .func (PySem.W.fnOf "spread" "spread" (defArgs s_spread) (defBody s_spread) (defScope s_spread) .none kV_spread dc_spread pm_spread an_spread cd_spread ct_spread), sl_spread⟩)
    (c_spread : PySem.W.codeIn K cd_spread "spread" = true)
    (k_spread : PySem.W.keepIn K (.ref fa_spread) = true)
    (a_margin : PySem.W.nsIn K mainGlobals "margin" = some (some (.ref fa_margin)))
    (l_margin : K.lookup fa_margin = some ⟨oc_margin, od_margin, .func (PySem.W.fnOf "margin" "margin" (defArgs s_margin) (defBody s_margin) (defScope s_margin) .none kV_margin dc_margin pm_margin an_margin cd_margin ct_margin), sl_margin⟩)
    (c_margin : PySem.W.codeIn K cd_margin "margin" = true)
    (k_margin : PySem.W.keepIn K (.ref fa_margin) = true)
    (a_asked : PySem.W.nsIn K mainGlobals "asked" = some (some (.ref fa_asked)))
    (l_asked : K.lookup fa_asked = some ⟨oc_asked, od_asked, .func (PySem.W.fnOf "asked" "asked" (defArgs s_asked) (defBody s_asked) (defScope s_asked) .none kV_asked dc_asked pm_asked an_asked cd_asked ct_asked), sl_asked⟩)
    (c_asked : PySem.W.codeIn K cd_asked "asked" = true)
    (k_asked : PySem.W.keepIn K (.ref fa_asked) = true)
    (a_stretch : PySem.W.nsIn K mainGlobals "stretch" = some (some (.ref fa_stretch)))
    (l_stretch : K.lookup fa_stretch = some ⟨oc_stretch, od_stretch, .func (PySem.W.fnOf "stretch" "stretch" (defArgs s_stretch) (defBody s_stretch) (defScope s_stretch) .none kV_stretch dc_stretch pm_stretch an_stretch cd_stretch ct_stretch), sl_stretch⟩)
    (c_stretch : PySem.W.codeIn K cd_stretch "stretch" = true)
    (k_stretch : PySem.W.keepIn K (.ref fa_stretch) = true)
    (a_Reading__eq__ : PySem.W.findIn K (.ref C_Reading) "__eq__" = some (some (.ref fa_Reading__eq__)))
    (i_Reading__eq__ : PySem.W.isFn K (.ref fa_Reading__eq__) = true)
    (l_Reading__eq__ : K.lookup fa_Reading__eq__ = some ⟨oc_Reading__eq__, od_Reading__eq__, .func (PySem.W.fnOf "__eq__" "Reading.__eq__" (defArgs s_Reading__eq__) (defBody s_Reading__eq__) (defScope s_Reading__eq__) .none kV_Reading__eq__ dc_Reading__eq__ pm_Reading__eq__ an_Reading__eq__ cd_Reading__eq__ ct_Reading__eq__), sl_Reading__eq__⟩)
    (c_Reading__eq__ : PySem.W.codeIn K cd_Reading__eq__ "Reading.__eq__" = true)
    (k_Reading__eq__ : PySem.W.keepIn K (.ref fa_Reading__eq__) = true)
    (a_law : PySem.W.nsIn K mainGlobals "law" = some (some (.ref fa_law)))
    (l_law : K.lookup fa_law = some ⟨oc_law, od_law, .func (PySem.W.fnOf "law" "law" (defArgs s_law) (defBody s_law) (defScope s_law) .none kV_law dc_law pm_law an_law cd_law ct_law), sl_law⟩)
    (c_law : PySem.W.codeIn K cd_law "law" = true)
    (k_law : PySem.W.keepIn K (.ref fa_law) = true)
    (is_sp : PySem.W.specialIn K (.builtin "object.__class__") "__get__" = some (some (.builtin "getset_descriptor.__get__")))
    (is_tk : PySem.W.takesIn K (.builtin "object.__class__") = some true)
    (z_abs : PySem.W.nsIn K mainGlobals "abs" = some none)
    (z_all : PySem.W.nsIn K mainGlobals "all" = some none)
    (z_any : PySem.W.nsIn K mainGlobals "any" = some none)
    (z_int : PySem.W.nsIn K mainGlobals "int" = some none)
    (z_isinstance : PySem.W.nsIn K mainGlobals "isinstance" = some none)
    (z_len : PySem.W.nsIn K mainGlobals "len" = some none)
    (z_list : PySem.W.nsIn K mainGlobals "list" = some none)
    (z_max : PySem.W.nsIn K mainGlobals "max" = some none)
    (z_range : PySem.W.nsIn K mainGlobals "range" = some none)
    (z_set : PySem.W.nsIn K mainGlobals "set" = some none)
    (z_sum : PySem.W.nsIn K mainGlobals "sum" = some none)
    (z_tuple : PySem.W.nsIn K mainGlobals "tuple" = some none)
    (z_zip : PySem.W.nsIn K mainGlobals "zip" = some none)
    (g_FAR : PySem.W.nsIn K mainGlobals "FAR" = some (some (.int 1000000000000000 t_FAR)))
    (g_LIMIT : PySem.W.nsIn K mainGlobals "LIMIT" = some (some (.int 1000000000000 t_LIMIT)))
    (g_LONGEST : PySem.W.nsIn K mainGlobals "LONGEST" = some (some (.int 64 t_LONGEST)))
    (g_MOST_BOXES : PySem.W.nsIn K mainGlobals "MOST_BOXES" = some (some (.int 16 t_MOST_BOXES)))
    (g_MOST_LIARS : PySem.W.nsIn K mainGlobals "MOST_LIARS" = some (some (.int 3 t_MOST_LIARS)))
    (g_SIGNS : PySem.W.nsIn K mainGlobals "SIGNS" = some (some (.str "abcdefghijklmnopqrstuvwxyz0123456789_-" t_SIGNS)))
    (g_STEEPEST : PySem.W.nsIn K mainGlobals "STEEPEST" = some (some (.int 1000 t_STEEPEST)))
    (g_isqrt : PySem.W.nsIn K mainGlobals "isqrt" = some (some (.builtin "math.isqrt"))) :
    ∃ fd : FuncData, (∀ (s : Shared) (v : Value), BindsTo s fd ⟨[v], []⟩ [("script", v)]) ∧ ∀ base : Heap, K.In base → base.Ns mainGlobals mg → FnOk l.prog w K mg base CX0 9 fa fd ["script"] (spL K F_law) := by
  have e := hfa.symm.trans (PySem.W.mg_of X G a_law)
  cases e
  let cA : Nat → Addr := (fun n => match n with | 2 => C_Question | 1 => C_Reading | 0 => C_Setting | _ => C_Question)
  have T_Question : ClsT K C_Question ["dims", "root", "moment", "latest", "earliest", "share", "kind", "near", "late", "speed", "drift", "per", "liars", "source", "low", "high"] := ⟨⟨pg_Question, hd_Question, po_Question, sa_Question⟩, by simp only [List.forall_mem_cons, List.not_mem_nil, false_implies, implies_true, and_true]; exact ⟨na_Question_dims, na_Question_root, na_Question_moment, na_Question_latest, na_Question_earliest, na_Question_share, na_Question_kind, na_Question_near, na_Question_late, na_Question_speed, na_Question_drift, na_Question_per, na_Question_liars, na_Question_source, na_Question_low, na_Question_high⟩⟩
  have mC_Question : mg "Question" = some (.ref (cA 2)) := PySem.W.mg_of X G aC_Question
  have T_Reading : ClsT K C_Reading ["dims", "root", "moment", "latest", "earliest", "share", "kind", "near", "late", "speed", "drift", "per", "liars", "source", "low", "high"] := ⟨⟨pg_Reading, hd_Reading, po_Reading, sa_Reading⟩, by simp only [List.forall_mem_cons, List.not_mem_nil, false_implies, implies_true, and_true]; exact ⟨na_Reading_dims, na_Reading_root, na_Reading_moment, na_Reading_latest, na_Reading_earliest, na_Reading_share, na_Reading_kind, na_Reading_near, na_Reading_late, na_Reading_speed, na_Reading_drift, na_Reading_per, na_Reading_liars, na_Reading_source, na_Reading_low, na_Reading_high⟩⟩
  have mC_Reading : mg "Reading" = some (.ref (cA 1)) := PySem.W.mg_of X G aC_Reading
  have T_Setting : ClsT K C_Setting ["dims", "root", "moment", "latest", "earliest", "share", "kind", "near", "late", "speed", "drift", "per", "liars", "source", "low", "high"] := ⟨⟨pg_Setting, hd_Setting, po_Setting, sa_Setting⟩, by simp only [List.forall_mem_cons, List.not_mem_nil, false_implies, implies_true, and_true]; exact ⟨na_Setting_dims, na_Setting_root, na_Setting_moment, na_Setting_latest, na_Setting_earliest, na_Setting_share, na_Setting_kind, na_Setting_near, na_Setting_late, na_Setting_speed, na_Setting_drift, na_Setting_per, na_Setting_liars, na_Setting_source, na_Setting_low, na_Setting_high⟩⟩
  have mC_Setting : mg "Setting" = some (.ref (cA 0)) := PySem.W.mg_of X G aC_Setting
  have T : ∀ c, ClsT K ((fun n => match n with | 2 => C_Question | 1 => C_Reading | 0 => C_Setting | _ => C_Question) c) ["dims", "root", "moment", "latest", "earliest", "share", "kind", "near", "late", "speed", "drift", "per", "liars", "source", "low", "high"] := fun c => by dsimp only; split <;> first | exact T_Question | exact T_Reading | exact T_Setting
  have U_Reading : Isi K (cA 1) := ⟨ic_Reading, is_sp, is_tk, io_Reading⟩
  have fu__law_rows := fun_mk (st := s__law_rows) l__law_rows c__law_rows k__law_rows
  have b__law_rows := fu__law_rows.binds (ps := ["script", "count"]) fun _ _ _ _ _ _ us hl => match us, hl with | [_, _], _ => rfl
  have m__law_rows := PySem.W.mg_of X G a__law_rows
  have fu_all_within := fun_mk (st := s_all_within) l_all_within c_all_within k_all_within
  have b_all_within := fu_all_within.binds (ps := ["numbers", "low", "high"]) fun _ _ _ _ _ _ us hl => match us, hl with | [_, _, _], _ => rfl
  have m_all_within := PySem.W.mg_of X G a_all_within
  have fu_Setting__init__ := fun_mk (st := s_Setting__init__) l_Setting__init__ c_Setting__init__ k_Setting__init__
  have M_Setting : Mk K (cA 0) fa_Setting__init__ := ⟨mk_Setting, a_Setting__init__, i_Setting__init__, kc_Setting⟩
  have fu__law_setting := fun_mk (st := s__law_setting) l__law_setting c__law_setting k__law_setting
  have b__law_setting := fu__law_setting.binds (ps := ["row"]) fun _ _ _ _ _ _ us hl => match us, hl with | [_], _ => rfl
  have m__law_setting := PySem.W.mg_of X G a__law_setting
  have fu__law_digits := fun_mk (st := s__law_digits) l__law_digits c__law_digits k__law_digits
  have b__law_digits := fu__law_digits.binds (ps := ["row", "base", "count"]) fun _ _ _ _ _ _ us hl => match us, hl with | [_, _, _], _ => rfl
  have m__law_digits := PySem.W.mg_of X G a__law_digits
  have fu__law_velocity := fun_mk (st := s__law_velocity) l__law_velocity c__law_velocity k__law_velocity
  have b__law_velocity := fu__law_velocity.binds (ps := ["setting", "row"]) fun _ _ _ _ _ _ us hl => match us, hl with | [_, _], _ => rfl
  have m__law_velocity := PySem.W.mg_of X G a__law_velocity
  have fu__law_way := fun_mk (st := s__law_way) l__law_way c__law_way k__law_way
  have b__law_way := fu__law_way.binds (ps := ["setting", "rows"]) fun _ _ _ _ _ _ us hl => match us, hl with | [_, _], _ => rfl
  have m__law_way := PySem.W.mg_of X G a__law_way
  have fu__law_at := fun_mk (st := s__law_at) l__law_at c__law_at k__law_at
  have b__law_at := fu__law_at.binds (ps := ["way", "moment"]) fun _ _ _ _ _ _ us hl => match us, hl with | [_, _], _ => rfl
  have m__law_at := PySem.W.mg_of X G a__law_at
  have fu_sides_within := fun_mk (st := s_sides_within) l_sides_within c_sides_within k_sides_within
  have b_sides_within := fu_sides_within.binds (ps := ["sides", "limit"]) fun _ _ _ _ _ _ us hl => match us, hl with | [_, _], _ => rfl
  have m_sides_within := PySem.W.mg_of X G a_sides_within
  have fu_Question__init__ := fun_mk (st := s_Question__init__) l_Question__init__ c_Question__init__ k_Question__init__
  have M_Question : Mk K (cA 2) fa_Question__init__ := ⟨mk_Question, a_Question__init__, i_Question__init__, kc_Question⟩
  have fu__law_question := fun_mk (st := s__law_question) l__law_question c__law_question k__law_question
  have b__law_question := fu__law_question.binds (ps := ["way", "dims", "row", "liars"]) fun _ _ _ _ _ _ us hl => match us, hl with | [_, _, _, _], _ => rfl
  have m__law_question := PySem.W.mg_of X G a__law_question
  have fu__law_point := fun_mk (st := s__law_point) l__law_point c__law_point k__law_point
  have b__law_point := fu__law_point.binds (ps := ["dims", "row"]) fun _ _ _ _ _ _ us hl => match us, hl with | [_, _], _ => rfl
  have m__law_point := PySem.W.mg_of X G a__law_point
  have fu__law_kind := fun_mk (st := s__law_kind) l__law_kind c__law_kind k__law_kind
  have b__law_kind := fu__law_kind.binds (ps := ["dims", "row"]) fun _ _ _ _ _ _ us hl => match us, hl with | [_, _], _ => rfl
  have m__law_kind := PySem.W.mg_of X G a__law_kind
  have fu__law_square := fun_mk (st := s__law_square) l__law_square c__law_square k__law_square
  have b__law_square := fu__law_square.binds (ps := ["one", "two"]) fun _ _ _ _ _ _ us hl => match us, hl with | [_, _], _ => rfl
  have m__law_square := PySem.W.mg_of X G a__law_square
  have fu__law_piece := fun_mk (st := s__law_piece) l__law_piece c__law_piece k__law_piece
  have b__law_piece := fu__law_piece.binds (ps := ["place", "at", "to"]) fun _ _ _ _ _ _ us hl => match us, hl with | [_, _, _], _ => rfl
  have m__law_piece := PySem.W.mg_of X G a__law_piece
  have fu__law_root := fun_mk (st := s__law_root) l__law_root c__law_root k__law_root
  have b__law_root := fu__law_root.binds (ps := ["number"]) fun _ _ _ _ _ _ us hl => match us, hl with | [_], _ => rfl
  have m__law_root := PySem.W.mg_of X G a__law_root
  have fu__law_up := fun_mk (st := s__law_up) l__law_up c__law_up k__law_up
  have b__law_up := fu__law_up.binds (ps := ["number"]) fun _ _ _ _ _ _ us hl => match us, hl with | [_], _ => rfl
  have m__law_up := PySem.W.mg_of X G a__law_up
  have fu__law_boxes := fun_mk (st := s__law_boxes) l__law_boxes c__law_boxes k__law_boxes
  have b__law_boxes := fu__law_boxes.binds (ps := ["place", "boxes"]) fun _ _ _ _ _ _ us hl => match us, hl with | [_, _], _ => rfl
  have m__law_boxes := PySem.W.mg_of X G a__law_boxes
  have fu__law_value := fun_mk (st := s__law_value) l__law_value c__law_value k__law_value
  have b__law_value := fu__law_value.binds (ps := ["kind", "place", "clock"]) fun _ _ _ _ _ _ us hl => match us, hl with | [_, _, _], _ => rfl
  have m__law_value := PySem.W.mg_of X G a__law_value
  have fu__law_moved := fun_mk (st := s__law_moved) l__law_moved c__law_moved k__law_moved
  have b__law_moved := fu__law_moved.binds (ps := ["kind", "shift"]) fun _ _ _ _ _ _ us hl => match us, hl with | [_, _], _ => rfl
  have m__law_moved := PySem.W.mg_of X G a__law_moved
  have fu_is_name := fun_mk (st := s_is_name) l_is_name c_is_name k_is_name
  have b_is_name := fu_is_name.binds (ps := ["text"]) fun _ _ _ _ _ _ us hl => match us, hl with | [_], _ => rfl
  have m_is_name := PySem.W.mg_of X G a_is_name
  have fu__direction_holds := fun_mk (st := s__direction_holds) l__direction_holds c__direction_holds k__direction_holds
  have b__direction_holds := fu__direction_holds.binds (ps := ["direction"]) fun _ _ _ _ _ _ us hl => match us, hl with | [_], _ => rfl
  have m__direction_holds := PySem.W.mg_of X G a__direction_holds
  have fu__boxes_hold := fun_mk (st := s__boxes_hold) l__boxes_hold c__boxes_hold k__boxes_hold
  have b__boxes_hold := fu__boxes_hold.binds (ps := ["boxes"]) fun _ _ _ _ _ _ us hl => match us, hl with | [_], _ => rfl
  have m__boxes_hold := PySem.W.mg_of X G a__boxes_hold
  have fu__kind_holds := fun_mk (st := s__kind_holds) l__kind_holds c__kind_holds k__kind_holds
  have b__kind_holds := fu__kind_holds.binds (ps := ["kind"]) fun _ _ _ _ _ _ us hl => match us, hl with | [_], _ => rfl
  have m__kind_holds := PySem.W.mg_of X G a__kind_holds
  have fu_Reading__init__ := fun_mk (st := s_Reading__init__) l_Reading__init__ c_Reading__init__ k_Reading__init__
  have M_Reading : Mk K (cA 1) fa_Reading__init__ := ⟨mk_Reading, a_Reading__init__, i_Reading__init__, kc_Reading⟩
  have fu__law_reading := fun_mk (st := s__law_reading) l__law_reading c__law_reading k__law_reading
  have b__law_reading := fu__law_reading.binds (ps := ["way", "dims", "name", "row", "lies"]) fun _ _ _ _ _ _ us hl => match us, hl with | [_, _, _, _, _], _ => rfl
  have m__law_reading := PySem.W.mg_of X G a__law_reading
  have fu__law_readings := fun_mk (st := s__law_readings) l__law_readings c__law_readings k__law_readings
  have b__law_readings := fu__law_readings.binds (ps := ["way", "dims", "rows", "many", "names", "liars"]) fun _ _ _ _ _ _ us hl => match us, hl with | [_, _, _, _, _, _], _ => rfl
  have m__law_readings := PySem.W.mg_of X G a__law_readings
  have fu_half_side := fun_mk (st := s_half_side) l_half_side c_half_side k_half_side
  have b_half_side := fu_half_side.binds (ps := ["side"]) fun _ _ _ _ _ _ us hl => match us, hl with | [_], _ => rfl
  have m_half_side := PySem.W.mg_of X G a_half_side
  have fu_root_up := fun_mk (st := s_root_up) l_root_up c_root_up k_root_up
  have b_root_up := fu_root_up.binds (ps := ["number"]) fun _ _ _ _ _ _ us hl => match us, hl with | [_], _ => rfl
  have m_root_up := PySem.W.mg_of X G a_root_up
  have fu_cell_radius := fun_mk (st := s_cell_radius) l_cell_radius c_cell_radius k_cell_radius
  have b_cell_radius := fu_cell_radius.binds (ps := ["setting", "share"]) fun _ _ _ _ _ _ us hl => match us, hl with | [_, _], _ => rfl
  have m_cell_radius := PySem.W.mg_of X G a_cell_radius
  have fu_moved := fun_mk (st := s_moved) l_moved c_moved k_moved
  have b_moved := fu_moved.binds (ps := ["kind"]) fun _ _ _ _ _ _ us hl => match us, hl with | [_], _ => rfl
  have m_moved := PySem.W.mg_of X G a_moved
  have fu_dot := fun_mk (st := s_dot) l_dot c_dot k_dot
  have b_dot := fu_dot.binds (ps := ["one", "two"]) fun _ _ _ _ _ _ us hl => match us, hl with | [_, _], _ => rfl
  have m_dot := PySem.W.mg_of X G a_dot
  have fu_rate := fun_mk (st := s_rate) l_rate c_rate k_rate
  have b_rate := fu_rate.binds (ps := ["kind"]) fun _ _ _ _ _ _ us hl => match us, hl with | [_], _ => rfl
  have m_rate := PySem.W.mg_of X G a_rate
  have fu_quotient_up := fun_mk (st := s_quotient_up) l_quotient_up c_quotient_up k_quotient_up
  have b_quotient_up := fu_quotient_up.binds (ps := ["number", "by"]) fun _ _ _ _ _ _ us hl => match us, hl with | [_, _], _ => rfl
  have m_quotient_up := PySem.W.mg_of X G a_quotient_up
  have fu_reach := fun_mk (st := s_reach) l_reach c_reach k_reach
  have b_reach := fu_reach.binds (ps := ["setting", "ticks"]) fun _ _ _ _ _ _ us hl => match us, hl with | [_, _], _ => rfl
  have m_reach := PySem.W.mg_of X G a_reach
  have fu_clock_rate := fun_mk (st := s_clock_rate) l_clock_rate c_clock_rate k_clock_rate
  have b_clock_rate := fu_clock_rate.binds (ps := ["kind"]) fun _ _ _ _ _ _ us hl => match us, hl with | [_], _ => rfl
  have m_clock_rate := PySem.W.mg_of X G a_clock_rate
  have fu_slip := fun_mk (st := s_slip) l_slip c_slip k_slip
  have b_slip := fu_slip.binds (ps := ["setting", "ticks"]) fun _ _ _ _ _ _ us hl => match us, hl with | [_, _], _ => rfl
  have m_slip := PySem.W.mg_of X G a_slip
  have fu_spread := fun_mk (st := s_spread) l_spread c_spread k_spread
  have b_spread := fu_spread.binds (ps := ["setting", "share", "kind"]) fun _ _ _ _ _ _ us hl => match us, hl with | [_, _, _], _ => rfl
  have m_spread := PySem.W.mg_of X G a_spread
  have fu_margin := fun_mk (st := s_margin) l_margin c_margin k_margin
  have b_margin := fu_margin.binds (ps := ["setting", "question", "reading"]) fun _ _ _ _ _ _ us hl => match us, hl with | [_, _, _], _ => rfl
  have m_margin := PySem.W.mg_of X G a_margin
  have fu_asked := fun_mk (st := s_asked) l_asked c_asked k_asked
  have b_asked := fu_asked.binds (ps := ["question", "readings"]) fun _ _ _ _ _ _ us hl => match us, hl with | [_, _], _ => rfl
  have m_asked := PySem.W.mg_of X G a_asked
  have fu_stretch := fun_mk (st := s_stretch) l_stretch c_stretch k_stretch
  have b_stretch := fu_stretch.binds (ps := ["setting", "question", "readings"]) fun _ _ _ _ _ _ us hl => match us, hl with | [_, _, _], _ => rfl
  have m_stretch := PySem.W.mg_of X G a_stretch
  have fu_Reading__eq__ := fun_mk (st := s_Reading__eq__) l_Reading__eq__ c_Reading__eq__ k_Reading__eq__
  have b_Reading__eq__ := fu_Reading__eq__.binds (ps := ["self", "other"]) fun _ _ _ _ _ _ us hl => match us, hl with | [_, _], _ => rfl
  have me_Reading__eq__ : Meth K (cA 1) "__eq__" fa_Reading__eq__ := ⟨a_Reading__eq__, i_Reading__eq__, k_Reading__eq__⟩
  have fu_law := fun_mk (st := s_law) l_law c_law k_law
  have kb_Question__init___3_4 := kbA fu_Question__init__ (ps := ["self", "moment", "root", "liars", "share", "earliest", "latest"]) 3 ["liars", "share", "earliest", "latest"] fun _ _ _ _ _ _ us ws h1 h2 => match us, h1, ws, h2 with | [_, _, _], _, [_, _, _, _], _ => rfl
  have kb_Setting__init___2_3 := kbA fu_Setting__init__ (ps := ["self", "dims", "speed", "drift", "per"]) 2 ["speed", "drift", "per"] fun _ _ _ _ _ _ us ws h1 h2 => match us, h1, ws, h2 with | [_, _], _, [_, _, _], _ => rfl
  have kb_Reading__init___4_4 := kbA fu_Reading__init__ (ps := ["self", "source", "moment", "kind", "low", "high", "late", "near"]) 4 ["low", "high", "late", "near"] fun _ _ _ _ _ _ us ws h1 h2 => match us, h1, ws, h2 with | [_, _, _, _], _, [_, _, _, _], _ => rfl
  have mz_abs := PySem.W.mg_none_of X G z_abs
  have mz_all := PySem.W.mg_none_of X G z_all
  have mz_any := PySem.W.mg_none_of X G z_any
  have mz_int := PySem.W.mg_none_of X G z_int
  have mz_isinstance := PySem.W.mg_none_of X G z_isinstance
  have mz_len := PySem.W.mg_none_of X G z_len
  have mz_list := PySem.W.mg_none_of X G z_list
  have mz_max := PySem.W.mg_none_of X G z_max
  have mz_range := PySem.W.mg_none_of X G z_range
  have mz_set := PySem.W.mg_none_of X G z_set
  have mz_sum := PySem.W.mg_none_of X G z_sum
  have mz_tuple := PySem.W.mg_none_of X G z_tuple
  have mz_zip := PySem.W.mg_none_of X G z_zip
  have mg_FAR := PySem.W.mg_of X G g_FAR
  have mg_LIMIT := PySem.W.mg_of X G g_LIMIT
  have mg_LONGEST := PySem.W.mg_of X G g_LONGEST
  have mg_MOST_BOXES := PySem.W.mg_of X G g_MOST_BOXES
  have mg_MOST_LIARS := PySem.W.mg_of X G g_MOST_LIARS
  have mg_SIGNS := PySem.W.mg_of X G g_SIGNS
  have mg_STEEPEST := PySem.W.mg_of X G g_STEEPEST
  have mg_isqrt := PySem.W.mg_of X G g_isqrt
  refine ⟨PySem.W.fnOf "law" "law" (defArgs s_law) (defBody s_law) (defScope s_law) .none kV_law dc_law pm_law an_law cd_law ct_law, fun s v => .of_eq rfl, fun base _ _ => ?_⟩
  have o__law_rows := ok__law_rows (P := l.prog) (w := w) (mg := mg) (base := base) (cA := cA) fu__law_rows mz_int mz_len mz_range
  have o_all_within := ok_all_within (P := l.prog) (w := w) (mg := mg) (base := base) (cA := cA) fu_all_within mz_all
  have o_Setting__init__ := ok_Setting__init__ (P := l.prog) (w := w) (mg := mg) (base := base) (cA := cA) fu_Setting__init__ T o_all_within b_all_within m_all_within k_all_within mg_LIMIT
  have o__law_setting := ok__law_setting (P := l.prog) (w := w) (mg := mg) (base := base) (cA := cA) fu__law_setting T o_Setting__init__ M_Setting mC_Setting kb_Setting__init___2_3 mz_int
  have o__law_digits := ok__law_digits (P := l.prog) (w := w) (mg := mg) (base := base) (cA := cA) fu__law_digits mz_int mz_range
  have o__law_velocity := ok__law_velocity (P := l.prog) (w := w) (mg := mg) (base := base) (cA := cA) fu__law_velocity T o__law_digits b__law_digits m__law_digits k__law_digits mz_abs mz_int mz_range mz_sum
  have o__law_way := ok__law_way (P := l.prog) (w := w) (mg := mg) (base := base) (cA := cA) fu__law_way T o__law_digits b__law_digits m__law_digits k__law_digits o__law_velocity b__law_velocity m__law_velocity k__law_velocity mz_int
  have o__law_at := ok__law_at (P := l.prog) (w := w) (mg := mg) (base := base) (cA := cA) fu__law_at mz_len mz_range
  have o_sides_within := ok_sides_within (P := l.prog) (w := w) (mg := mg) (base := base) (cA := cA) fu_sides_within mz_all
  have o_Question__init__ := ok_Question__init__ (P := l.prog) (w := w) (mg := mg) (base := base) (cA := cA) fu_Question__init__ T o_all_within b_all_within m_all_within k_all_within o_sides_within b_sides_within m_sides_within k_sides_within mg_LIMIT mg_MOST_LIARS
  have o__law_question := ok__law_question (P := l.prog) (w := w) (mg := mg) (base := base) (cA := cA) fu__law_question T o__law_at b__law_at m__law_at k__law_at o__law_digits b__law_digits m__law_digits k__law_digits o_Question__init__ M_Question mC_Question kb_Question__init___3_4 mz_int mz_range mz_tuple
  have o__law_point := ok__law_point (P := l.prog) (w := w) (mg := mg) (base := base) (cA := cA) fu__law_point o__law_digits b__law_digits m__law_digits k__law_digits mz_tuple
  have o__law_kind := ok__law_kind (P := l.prog) (w := w) (mg := mg) (base := base) (cA := cA) fu__law_kind o__law_digits b__law_digits m__law_digits k__law_digits o__law_point b__law_point m__law_point k__law_point mz_abs mz_int mz_range mz_sum mz_tuple
  have o__law_square := ok__law_square (P := l.prog) (w := w) (mg := mg) (base := base) (cA := cA) fu__law_square mz_len mz_range mz_sum
  have o__law_piece := ok__law_piece (P := l.prog) (w := w) (mg := mg) (base := base) (cA := cA) fu__law_piece o__law_square b__law_square m__law_square k__law_square mz_len mz_range mz_sum
  have o__law_root := ok__law_root (P := l.prog) (w := w) (mg := mg) (base := base) (cA := cA) fu__law_root mz_range
  have o__law_up := ok__law_up (P := l.prog) (w := w) (mg := mg) (base := base) (cA := cA) fu__law_up o__law_root b__law_root m__law_root k__law_root mz_int
  have o__law_boxes := ok__law_boxes (P := l.prog) (w := w) (mg := mg) (base := base) (cA := cA) fu__law_boxes mz_len mz_max mz_range
  have o__law_value := ok__law_value (P := l.prog) (w := w) (mg := mg) (base := base) (cA := cA) fu__law_value o__law_piece b__law_piece m__law_piece k__law_piece o__law_up b__law_up m__law_up k__law_up o__law_root b__law_root m__law_root k__law_root o__law_boxes b__law_boxes m__law_boxes k__law_boxes o__law_square b__law_square m__law_square k__law_square mz_int mz_len mz_range mz_sum
  have o__law_moved := ok__law_moved (P := l.prog) (w := w) (mg := mg) (base := base) (cA := cA) fu__law_moved mz_len mz_range mz_tuple
  have o_is_name := ok_is_name (P := l.prog) (w := w) (mg := mg) (base := base) (cA := cA) fu_is_name mz_all mz_len mg_LONGEST mg_SIGNS
  have o__direction_holds := ok__direction_holds (P := l.prog) (w := w) (mg := mg) (base := base) (cA := cA) fu__direction_holds o_all_within b_all_within m_all_within k_all_within mz_any mg_STEEPEST
  have o__boxes_hold := ok__boxes_hold (P := l.prog) (w := w) (mg := mg) (base := base) (cA := cA) fu__boxes_hold o_sides_within b_sides_within m_sides_within k_sides_within mz_all mz_len mg_LIMIT mg_MOST_BOXES
  have o__kind_holds := ok__kind_holds (P := l.prog) (w := w) (mg := mg) (base := base) (cA := cA) fu__kind_holds o_all_within b_all_within m_all_within k_all_within o__direction_holds b__direction_holds m__direction_holds k__direction_holds o__boxes_hold b__boxes_hold m__boxes_hold k__boxes_hold mz_all mg_LIMIT
  have o_Reading__init__ := ok_Reading__init__ (P := l.prog) (w := w) (mg := mg) (base := base) (cA := cA) fu_Reading__init__ T o_is_name b_is_name m_is_name k_is_name o__kind_holds b__kind_holds m__kind_holds k__kind_holds o_all_within b_all_within m_all_within k_all_within mg_FAR mg_LIMIT
  have o__law_reading := ok__law_reading (P := l.prog) (w := w) (mg := mg) (base := base) (cA := cA) fu__law_reading T o__law_kind b__law_kind m__law_kind k__law_kind o__law_at b__law_at m__law_at k__law_at o__law_value b__law_value m__law_value k__law_value o__law_moved b__law_moved m__law_moved k__law_moved o_Reading__init__ M_Reading mC_Reading kb_Reading__init___4_4 mz_int
  have o__law_readings := ok__law_readings (P := l.prog) (w := w) (mg := mg) (base := base) (cA := cA) fu__law_readings o__law_reading b__law_reading m__law_reading k__law_reading mz_int mz_len mz_range
  have o_half_side := ok_half_side (P := l.prog) (w := w) (mg := mg) (base := base) (cA := cA) fu_half_side
  have o_root_up := ok_root_up (P := l.prog) (w := w) (mg := mg) (base := base) (cA := cA) fu_root_up mg_isqrt
  have o_cell_radius := ok_cell_radius (P := l.prog) (w := w) (mg := mg) (base := base) (cA := cA) fu_cell_radius T o_half_side b_half_side m_half_side k_half_side o_root_up b_root_up m_root_up k_root_up
  have o_moved := ok_moved (P := l.prog) (w := w) (mg := mg) (base := base) (cA := cA) fu_moved
  have o_dot := ok_dot (P := l.prog) (w := w) (mg := mg) (base := base) (cA := cA) fu_dot mz_sum mz_zip
  have o_rate := ok_rate (P := l.prog) (w := w) (mg := mg) (base := base) (cA := cA) fu_rate o_root_up b_root_up m_root_up k_root_up o_dot b_dot m_dot k_dot
  have o_quotient_up := ok_quotient_up (P := l.prog) (w := w) (mg := mg) (base := base) (cA := cA) fu_quotient_up
  have o_reach := ok_reach (P := l.prog) (w := w) (mg := mg) (base := base) (cA := cA) fu_reach T o_quotient_up b_quotient_up m_quotient_up k_quotient_up
  have o_clock_rate := ok_clock_rate (P := l.prog) (w := w) (mg := mg) (base := base) (cA := cA) fu_clock_rate
  have o_slip := ok_slip (P := l.prog) (w := w) (mg := mg) (base := base) (cA := cA) fu_slip T o_quotient_up b_quotient_up m_quotient_up k_quotient_up
  have o_spread := ok_spread (P := l.prog) (w := w) (mg := mg) (base := base) (cA := cA) fu_spread o_rate b_rate m_rate k_rate o_cell_radius b_cell_radius m_cell_radius k_cell_radius o_clock_rate b_clock_rate m_clock_rate k_clock_rate
  have o_margin := ok_margin (P := l.prog) (w := w) (mg := mg) (base := base) (cA := cA) fu_margin T o_rate b_rate m_rate k_rate o_reach b_reach m_reach k_reach o_clock_rate b_clock_rate m_clock_rate k_clock_rate o_slip b_slip m_slip k_slip o_moved b_moved m_moved k_moved o_spread b_spread m_spread k_spread
  have o_asked := ok_asked (P := l.prog) (w := w) (mg := mg) (base := base) (cA := cA) fu_asked T
  have o_stretch := ok_stretch (P := l.prog) (w := w) (mg := mg) (base := base) (cA := cA) fu_stretch T o_asked b_asked m_asked k_asked o_cell_radius b_cell_radius m_cell_radius k_cell_radius mz_len mz_set
  have o_Reading__eq__ := ok_Reading__eq__ (P := l.prog) (w := w) (mg := mg) (base := base) (cA := cA) fu_Reading__eq__ T mC_Reading U_Reading mz_isinstance
  exact (ok_law (cA := cA) fu_law T o__law_rows b__law_rows m__law_rows k__law_rows o__law_setting b__law_setting m__law_setting k__law_setting o__law_way b__law_way m__law_way k__law_way o__law_question b__law_question m__law_question k__law_question o_Question__init__ M_Question mC_Question o__law_readings b__law_readings m__law_readings k__law_readings o__law_up b__law_up m__law_up k__law_up o_cell_radius b_cell_radius m_cell_radius k_cell_radius o_moved b_moved m_moved k_moved o_rate b_rate m_rate k_rate o_reach b_reach m_reach k_reach o_clock_rate b_clock_rate m_clock_rate k_clock_rate o_slip b_slip m_slip k_slip o_margin b_margin m_margin k_margin o_stretch b_stretch m_stretch k_stretch o_Reading__eq__ b_Reading__eq__ me_Reading__eq__ kb_Question__init___3_4 mz_int mz_len mz_list).imp fun vs H Q E h => spL_imp (g := (gg K cA)) h
end Pg
noncomputable section
namespace Hd
open PySem PySem.W PySem.Calls PyProof.Rows L2
set_option maxHeartbeats 0
abbrev P : Program := PySem.Challenge.pw_sureplace_k51_how_bounds_are_widened
def runI (w : World) : Option SharedT := HeadRun.impF (HeadRun.stepQ (HeadRun.denQ HeadRun.tabQ) (opening P) w) 16204 (HeadRun.startT (opening P)) (start (opening P)).2
def g3_0 (W : Params) : List DictEntry := [⟨PyData.keyHash W "__name__", (.str "__name__" 165), (.str "law_sureplace_k51_how_bounds_are_widened" 788)⟩, ⟨PyData.keyHash W "__doc__", (.str "__doc__" 166), .none⟩, ⟨PyData.keyHash W "__package__", (.str "__package__" 167), .none⟩, ⟨PyData.keyHash W "__loader__", (.str "__loader__" 168), (.builtin "__main__.__loader__#opaque")⟩, ⟨PyData.keyHash W "__spec__", (.str "__spec__" 169), .none⟩, ⟨PyData.keyHash W "__annotations__", (.str "__annotations__" 170), (.ref 6)⟩, ⟨PyData.keyHash W "__builtins__", (.str "__builtins__" 171), (.ref 4)⟩, ⟨PyData.keyHash W "__file__", (.str "__file__" 173), (.str "/claim/cut.py" 172)⟩, ⟨PyData.keyHash W "__cached__", (.str "__cached__" 174), .none⟩, ⟨PyData.keyHash W "isqrt", (.str "isqrt" 369), (.builtin "math.isqrt")⟩, ⟨PyData.keyHash W "SurePlaceError", (.str "SurePlaceError" 406), (.ref 62)⟩, ⟨PyData.keyHash W "InvalidSetting", (.str "InvalidSetting" 422), (.ref 75)⟩, ⟨PyData.keyHash W "InvalidReading", (.str "InvalidReading" 438), (.ref 87)⟩, ⟨PyData.keyHash W "InvalidQuestion", (.str "InvalidQuestion" 454), (.ref 99)⟩, ⟨PyData.keyHash W "LIMIT", (.str "LIMIT" 460), (.int (1000000000000) 459)⟩, ⟨PyData.keyHash W "all_within", (.str "all_within" 466), (.ref 106)⟩, ⟨PyData.keyHash W "sides_within", (.str "sides_within" 472), (.ref 111)⟩, ⟨PyData.keyHash W "MOST_LIARS", (.str "MOST_LIARS" 476), (.int (3) 475)⟩, ⟨PyData.keyHash W "Question", (.str "Question" 524), (.ref 135)⟩, ⟨PyData.keyHash W "asked", (.str "asked" 530), (.ref 144)⟩, ⟨PyData.keyHash W "root_up", (.str "root_up" 540), (.ref 151)⟩, ⟨PyData.keyHash W "half_side", (.str "half_side" 551), (.ref 158)⟩, ⟨PyData.keyHash W "quotient_up", (.str "quotient_up" 561), (.ref 165)⟩, ⟨PyData.keyHash W "dot", (.str "dot" 569), (.ref 170)⟩, ⟨PyData.keyHash W "reach", (.str "reach" 579), (.ref 177)⟩, ⟨PyData.keyHash W "slip", (.str "slip" 587), (.ref 184)⟩, ⟨PyData.keyHash W "rate", (.str "rate" 596), (.ref 191)⟩, ⟨PyData.keyHash W "clock_rate", (.str "clock_rate" 603), (.ref 198)⟩, ⟨PyData.keyHash W "moved", (.str "moved" 610), (.ref 205)⟩, ⟨PyData.keyHash W "cell_radius", (.str "cell_radius" 621), (.ref 212)⟩, ⟨PyData.keyHash W "stretch", (.str "stretch" 627), (.ref 217)⟩, ⟨PyData.keyHash W "spread", (.str "spread" 636), (.ref 224)⟩, ⟨PyData.keyHash W "margin", (.str "margin" 647), (.ref 231)⟩, ⟨PyData.keyHash W "SIGNS", (.str "SIGNS" 651), (.str "abcdefghijklmnopqrstuvwxyz0123456789_-" 650)⟩, ⟨PyData.keyHash W "LONGEST", (.str "LONGEST" 653), (.int (64) 652)⟩, ⟨PyData.keyHash W "is_name", (.str "is_name" 659), (.ref 236)⟩, ⟨PyData.keyHash W "FAR", (.str "FAR" 665), (.int (1000000000000000) 664)⟩, ⟨PyData.keyHash W "STEEPEST", (.str "STEEPEST" 667), (.int (1000) 666)⟩, ⟨PyData.keyHash W "MOST_BOXES", (.str "MOST_BOXES" 669), (.int (16) 668)⟩, ⟨PyData.keyHash W "_direction_holds", (.str "_direction_holds" 675), (.ref 241)⟩]
def g3_1 (W : Params) : List DictEntry := [⟨PyData.keyHash W "_boxes_hold", (.str "_boxes_hold" 681), (.ref 246)⟩, ⟨PyData.keyHash W "_kind_holds", (.str "_kind_holds" 687), (.ref 251)⟩, ⟨PyData.keyHash W "Reading", (.str "Reading" 741), (.ref 276)⟩, ⟨PyData.keyHash W "Setting", (.str "Setting" 787), (.ref 304)⟩, ⟨PyData.keyHash W "_law_rows", (.str "_law_rows" 800), (.ref 315)⟩, ⟨PyData.keyHash W "_law_root", (.str "_law_root" 811), (.ref 322)⟩, ⟨PyData.keyHash W "_law_up", (.str "_law_up" 819), (.ref 329)⟩, ⟨PyData.keyHash W "_law_digits", (.str "_law_digits" 830), (.ref 336)⟩, ⟨PyData.keyHash W "_law_setting", (.str "_law_setting" 838), (.ref 343)⟩, ⟨PyData.keyHash W "_law_velocity", (.str "_law_velocity" 844), (.ref 348)⟩, ⟨PyData.keyHash W "_law_at", (.str "_law_at" 850), (.ref 353)⟩, ⟨PyData.keyHash W "_law_way", (.str "_law_way" 856), (.ref 358)⟩, ⟨PyData.keyHash W "_law_square", (.str "_law_square" 862), (.ref 363)⟩, ⟨PyData.keyHash W "_law_piece", (.str "_law_piece" 868), (.ref 368)⟩, ⟨PyData.keyHash W "_law_boxes", (.str "_law_boxes" 881), (.ref 375)⟩, ⟨PyData.keyHash W "_law_value", (.str "_law_value" 887), (.ref 380)⟩, ⟨PyData.keyHash W "_law_point", (.str "_law_point" 893), (.ref 385)⟩, ⟨PyData.keyHash W "_law_kind", (.str "_law_kind" 899), (.ref 390)⟩, ⟨PyData.keyHash W "_law_moved", (.str "_law_moved" 905), (.ref 395)⟩, ⟨PyData.keyHash W "_law_reading", (.str "_law_reading" 925), (.ref 402)⟩, ⟨PyData.keyHash W "_law_readings", (.str "_law_readings" 940), (.ref 409)⟩, ⟨PyData.keyHash W "_law_question", (.str "_law_question" 946), (.ref 414)⟩, ⟨PyData.keyHash W "law", (.str "law" 968), (.ref 421)⟩]
def g3 (W : Params) : List DictEntry := g3_0 W ++ g3_1 W
def g40_0 : List Value := [(.int (3) 0), (.int (0) 0), (.ref 49), (.int (7) 0), (.int (0) 0), (.ref 71), (.int (9) 0), (.int (0) 0), (.ref 83), (.int (11) 0), (.int (0) 0), (.ref 95), (.int (15) 0), (.int (0) 0), (.ref 105), (.int (17) 0), (.int (0) 0), (.ref 110), (.int (21) 0), (.int (0) 0), (.ref 117), (.int (43) 0), (.int (0) 0), (.ref 143), (.int (46) 0), (.int (0) 0), (.ref 150), (.int (52) 0), (.int (0) 0), (.ref 157), (.int (56) 0), (.int (0) 0), (.ref 164), (.int (59) 0), (.int (0) 0), (.ref 169), (.int (62) 0), (.int (0) 0), (.ref 176), (.int (64) 0)]
def g40_1 : List Value := [(.int (0) 0), (.ref 183), (.int (67) 0), (.int (0) 0), (.ref 190), (.int (73) 0), (.int (0) 0), (.ref 197), (.int (75) 0), (.int (0) 0), (.ref 204), (.int (80) 0), (.int (0) 0), (.ref 211), (.int (83) 0), (.int (0) 0), (.ref 216), (.int (86) 0), (.int (0) 0), (.ref 223), (.int (88) 0), (.int (0) 0), (.ref 230), (.int (95) 0), (.int (0) 0), (.ref 235), (.int (101) 0), (.int (0) 0), (.ref 240), (.int (103) 0), (.int (0) 0), (.ref 245), (.int (105) 0), (.int (0) 0), (.ref 250), (.int (111) 0), (.int (0) 0), (.ref 257), (.int (135) 0), (.int (0) 0)]
def g40_2 : List Value := [(.ref 286), (.int (152) 0), (.int (0) 0), (.ref 314), (.int (165) 0), (.int (0) 0), (.ref 321), (.int (181) 0), (.int (0) 0), (.ref 328), (.int (184) 0), (.int (0) 0), (.ref 335), (.int (190) 0), (.int (0) 0), (.ref 342), (.int (193) 0), (.int (0) 0), (.ref 347), (.int (201) 0), (.int (0) 0), (.ref 352), (.int (211) 0), (.int (0) 0), (.ref 357), (.int (219) 0), (.int (0) 0), (.ref 362), (.int (221) 0), (.int (0) 0), (.ref 367), (.int (232) 0), (.int (0) 0), (.ref 374), (.int (242) 0), (.int (0) 0), (.ref 379), (.int (258) 0), (.int (0) 0), (.ref 384)]
def g40_3 : List Value := [(.int (260) 0), (.int (0) 0), (.ref 389), (.int (278) 0), (.int (0) 0), (.ref 394), (.int (288) 0), (.int (0) 0), (.ref 401), (.int (304) 0), (.int (0) 0), (.ref 408), (.int (310) 0), (.int (0) 0), (.ref 413), (.int (320) 0), (.int (0) 0), (.ref 420)]
def g40 : List Value := g40_0 ++ g40_1 ++ g40_2 ++ g40_3
def o0 (W : Params) : Obj := ⟨(.type "dict"), none, (.dict #[⟨PyData.keyHash W "__name__", (.str "__name__" 1), (.str "builtins" 160)⟩, ⟨PyData.keyHash W "__doc__", (.str "__doc__" 2), (.builtin "builtins.__doc__:str#opaque")⟩, ⟨PyData.keyHash W "__package__", (.str "__package__" 3), (.builtin "builtins.__package__:str#opaque")⟩, ⟨PyData.keyHash W "__loader__", (.str "__loader__" 4), (.builtin "builtins.__loader__:shared#opaque")⟩, ⟨PyData.keyHash W "__spec__", (.str "__spec__" 5), (.builtin "builtins.__spec__#opaque")⟩, ⟨PyData.keyHash W "__build_class__", (.str "__build_class__" 6), (.builtin "__build_class__")⟩, ⟨PyData.keyHash W "__\x69mport__", (.str "__\x69mport__" 7), (.builtin "__\x69mport__")⟩, ⟨PyData.keyHash W "abs", (.str "abs" 8), (.builtin "abs")⟩, ⟨PyData.keyHash W "all", (.str "all" 9), (.builtin "all")⟩, ⟨PyData.keyHash W "any", (.str "any" 10), (.builtin "any")⟩, ⟨PyData.keyHash W "ascii", (.str "ascii" 11), (.builtin "ascii")⟩, ⟨PyData.keyHash W "bin", (.str "bin" 12), (.builtin "bin")⟩, ⟨PyData.keyHash W "breakpoint", (.str "breakpoint" 13), (.builtin "breakpoint")⟩, ⟨PyData.keyHash W "callable", (.str "callable" 14), (.builtin "callable")⟩, ⟨PyData.keyHash W "chr", (.str "chr" 15), (.builtin "chr")⟩, ⟨PyData.keyHash W "compile", (.str "compile" 16), (.builtin "compile")⟩, ⟨PyData.keyHash W "delattr", (.str "delattr" 17), (.builtin "delattr")⟩, ⟨PyData.keyHash W "dir", (.str "dir" 18), (.builtin "dir")⟩, ⟨PyData.keyHash W "divmod", (.str "divmod" 19), (.builtin "divmod")⟩, ⟨PyData.keyHash W "eval", (.str "eval" 20), (.builtin "eval")⟩, ⟨PyData.keyHash W "exec", (.str "exec" 21), (.builtin "exec")⟩, ⟨PyData.keyHash W "format", (.str "format" 22), (.builtin "format")⟩, ⟨PyData.keyHash W "getattr", (.str "getattr" 23), (.builtin "getattr")⟩, ⟨PyData.keyHash W "globals", (.str "globals" 24), (.builtin "globals")⟩, ⟨PyData.keyHash W "hasattr", (.str "hasattr" 25), (.builtin "hasattr")⟩, ⟨PyData.keyHash W "hash", (.str "hash" 26), (.builtin "hash")⟩, ⟨PyData.keyHash W "hex", (.str "hex" 27), (.builtin "hex")⟩, ⟨PyData.keyHash W "id", (.str "id" 28), (.builtin "id")⟩, ⟨PyData.keyHash W "input", (.str "input" 29), (.builtin "input")⟩, ⟨PyData.keyHash W "isinstance", (.str "isinstance" 30), (.builtin "isinstance")⟩, ⟨PyData.keyHash W "issubclass", (.str "issubclass" 31), (.builtin "issubclass")⟩, ⟨PyData.keyHash W "iter", (.str "iter" 32), (.builtin "iter")⟩, ⟨PyData.keyHash W "aiter", (.str "aiter" 33), (.builtin "aiter")⟩, ⟨PyData.keyHash W "len", (.str "len" 34), (.builtin "len")⟩, ⟨PyData.keyHash W "locals", (.str "locals" 35), (.builtin "locals")⟩, ⟨PyData.keyHash W "max", (.str "max" 36), (.builtin "max")⟩, ⟨PyData.keyHash W "min", (.str "min" 37), (.builtin "min")⟩, ⟨PyData.keyHash W "next", (.str "next" 38), (.builtin "next")⟩, ⟨PyData.keyHash W "anext", (.str "anext" 39), (.builtin "anext")⟩, ⟨PyData.keyHash W "oct", (.str "oct" 40), (.builtin "oct")⟩, ⟨PyData.keyHash W "ord", (.str "ord" 41), (.builtin "ord")⟩, ⟨PyData.keyHash W "pow", (.str "pow" 42), (.builtin "pow")⟩, ⟨PyData.keyHash W "print", (.str "print" 43), (.builtin "print")⟩, ⟨PyData.keyHash W "repr", (.str "repr" 44), (.builtin "repr")⟩, ⟨PyData.keyHash W "round", (.str "round" 45), (.builtin "round")⟩, ⟨PyData.keyHash W "setattr", (.str "setattr" 46), (.builtin "setattr")⟩, ⟨PyData.keyHash W "sorted", (.str "sorted" 47), (.builtin "sorted")⟩, ⟨PyData.keyHash W "sum", (.str "sum" 48), (.builtin "sum")⟩, ⟨PyData.keyHash W "vars", (.str "vars" 49), (.builtin "vars")⟩, ⟨PyData.keyHash W "None", (.str "None" 50), .none⟩, ⟨PyData.keyHash W "Ellipsis", (.str "Ellipsis" 51), .ellipsis⟩, ⟨PyData.keyHash W "NotImplemented", (.str "NotImplemented" 52), .notImplemented⟩, ⟨PyData.keyHash W "False", (.str "False" 53), (.bool false)⟩, ⟨PyData.keyHash W "True", (.str "True" 54), (.bool true)⟩, ⟨PyData.keyHash W "bool", (.str "bool" 55), (.type "bool")⟩, ⟨PyData.keyHash W "memoryview", (.str "memoryview" 56), (.type "memoryview")⟩, ⟨PyData.keyHash W "bytearray", (.str "bytearray" 57), (.type "bytearray")⟩, ⟨PyData.keyHash W "bytes", (.str "bytes" 58), (.type "bytes")⟩, ⟨PyData.keyHash W "classmethod", (.str "classmethod" 59), (.type "classmethod")⟩, ⟨PyData.keyHash W "complex", (.str "complex" 60), (.type "complex")⟩, ⟨PyData.keyHash W "dict", (.str "dict" 61), (.type "dict")⟩, ⟨PyData.keyHash W "enumerate", (.str "enumerate" 62), (.type "enumerate")⟩, ⟨PyData.keyHash W "filter", (.str "filter" 63), (.type "filter")⟩, ⟨PyData.keyHash W "float", (.str "float" 64), (.type "float")⟩, ⟨PyData.keyHash W "frozenset", (.str "frozenset" 65), (.type "frozenset")⟩, ⟨PyData.keyHash W "property", (.str "property" 66), (.type "property")⟩, ⟨PyData.keyHash W "int", (.str "int" 67), (.type "int")⟩, ⟨PyData.keyHash W "list", (.str "list" 68), (.type "list")⟩, ⟨PyData.keyHash W "map", (.str "map" 69), (.type "map")⟩, ⟨PyData.keyHash W "object", (.str "object" 70), (.type "object")⟩, ⟨PyData.keyHash W "range", (.str "range" 71), (.type "range")⟩, ⟨PyData.keyHash W "reversed", (.str "reversed" 72), (.type "reversed")⟩, ⟨PyData.keyHash W "set", (.str "set" 73), (.type "set")⟩, ⟨PyData.keyHash W "slice", (.str "slice" 74), (.type "slice")⟩, ⟨PyData.keyHash W "staticmethod", (.str "staticmethod" 75), (.type "staticmethod")⟩, ⟨PyData.keyHash W "str", (.str "str" 76), (.type "str")⟩, ⟨PyData.keyHash W "super", (.str "super" 77), (.type "super")⟩, ⟨PyData.keyHash W "tuple", (.str "tuple" 78), (.type "tuple")⟩, ⟨PyData.keyHash W "type", (.str "type" 79), (.type "type")⟩, ⟨PyData.keyHash W "zip", (.str "zip" 80), (.type "zip")⟩, ⟨PyData.keyHash W "__debug__", (.str "__debug__" 81), (.bool true)⟩, ⟨PyData.keyHash W "BaseException", (.str "BaseException" 82), (.type "BaseException")⟩, ⟨PyData.keyHash W "BaseExceptionGroup", (.str "BaseExceptionGroup" 83), (.type "BaseExceptionGroup")⟩, ⟨PyData.keyHash W "Exception", (.str "Exception" 84), (.type "Exception")⟩, ⟨PyData.keyHash W "GeneratorExit", (.str "GeneratorExit" 85), (.type "GeneratorExit")⟩, ⟨PyData.keyHash W "KeyboardInterrupt", (.str "KeyboardInterrupt" 86), (.type "KeyboardInterrupt")⟩, ⟨PyData.keyHash W "SystemExit", (.str "SystemExit" 87), (.type "SystemExit")⟩, ⟨PyData.keyHash W "ArithmeticError", (.str "ArithmeticError" 88), (.type "ArithmeticError")⟩, ⟨PyData.keyHash W "AssertionError", (.str "AssertionError" 89), (.type "AssertionError")⟩, ⟨PyData.keyHash W "AttributeError", (.str "AttributeError" 90), (.type "AttributeError")⟩, ⟨PyData.keyHash W "BufferError", (.str "BufferError" 91), (.type "BufferError")⟩, ⟨PyData.keyHash W "EOFError", (.str "EOFError" 92), (.type "EOFError")⟩, ⟨PyData.keyHash W "ImportError", (.str "ImportError" 93), (.type "ImportError")⟩, ⟨PyData.keyHash W "LookupError", (.str "LookupError" 94), (.type "LookupError")⟩, ⟨PyData.keyHash W "MemoryError", (.str "MemoryError" 95), (.type "MemoryError")⟩, ⟨PyData.keyHash W "NameError", (.str "NameError" 96), (.type "NameError")⟩, ⟨PyData.keyHash W "OSError", (.str "OSError" 97), (.type "OSError")⟩, ⟨PyData.keyHash W "ReferenceError", (.str "ReferenceError" 98), (.type "ReferenceError")⟩, ⟨PyData.keyHash W "RuntimeError", (.str "RuntimeError" 99), (.type "RuntimeError")⟩, ⟨PyData.keyHash W "StopAsyncIteration", (.str "StopAsyncIteration" 100), (.type "StopAsyncIteration")⟩, ⟨PyData.keyHash W "StopIteration", (.str "StopIteration" 101), (.type "StopIteration")⟩, ⟨PyData.keyHash W "SyntaxError", (.str "SyntaxError" 102), (.type "SyntaxError")⟩, ⟨PyData.keyHash W "SystemError", (.str "SystemError" 103), (.type "SystemError")⟩, ⟨PyData.keyHash W "TypeError", (.str "TypeError" 104), (.type "TypeError")⟩, ⟨PyData.keyHash W "ValueError", (.str "ValueError" 105), (.type "ValueError")⟩, ⟨PyData.keyHash W "Warning", (.str "Warning" 106), (.type "Warning")⟩, ⟨PyData.keyHash W "FloatingPointError", (.str "FloatingPointError" 107), (.type "FloatingPointError")⟩, ⟨PyData.keyHash W "OverflowError", (.str "OverflowError" 108), (.type "OverflowError")⟩, ⟨PyData.keyHash W "ZeroDivisionError", (.str "ZeroDivisionError" 109), (.type "ZeroDivisionError")⟩, ⟨PyData.keyHash W "BytesWarning", (.str "BytesWarning" 110), (.type "BytesWarning")⟩, ⟨PyData.keyHash W "DeprecationWarning", (.str "DeprecationWarning" 111), (.type "DeprecationWarning")⟩, ⟨PyData.keyHash W "EncodingWarning", (.str "EncodingWarning" 112), (.type "EncodingWarning")⟩, ⟨PyData.keyHash W "FutureWarning", (.str "FutureWarning" 113), (.type "FutureWarning")⟩, ⟨PyData.keyHash W "ImportWarning", (.str "ImportWarning" 114), (.type "ImportWarning")⟩, ⟨PyData.keyHash W "PendingDeprecationWarning", (.str "PendingDeprecationWarning" 115), (.type "PendingDeprecationWarning")⟩, ⟨PyData.keyHash W "ResourceWarning", (.str "ResourceWarning" 116), (.type "ResourceWarning")⟩, ⟨PyData.keyHash W "RuntimeWarning", (.str "RuntimeWarning" 117), (.type "RuntimeWarning")⟩, ⟨PyData.keyHash W "SyntaxWarning", (.str "SyntaxWarning" 118), (.type "SyntaxWarning")⟩, ⟨PyData.keyHash W "UnicodeWarning", (.str "UnicodeWarning" 119), (.type "UnicodeWarning")⟩, ⟨PyData.keyHash W "UserWarning", (.str "UserWarning" 120), (.type "UserWarning")⟩, ⟨PyData.keyHash W "BlockingIOError", (.str "BlockingIOError" 121), (.type "BlockingIOError")⟩, ⟨PyData.keyHash W "ChildProcessError", (.str "ChildProcessError" 122), (.type "ChildProcessError")⟩, ⟨PyData.keyHash W "ConnectionError", (.str "ConnectionError" 123), (.type "ConnectionError")⟩, ⟨PyData.keyHash W "FileExistsError", (.str "FileExistsError" 124), (.type "FileExistsError")⟩, ⟨PyData.keyHash W "FileNotFoundError", (.str "FileNotFoundError" 125), (.type "FileNotFoundError")⟩, ⟨PyData.keyHash W "InterruptedError", (.str "InterruptedError" 126), (.type "InterruptedError")⟩, ⟨PyData.keyHash W "IsADirectoryError", (.str "IsADirectoryError" 127), (.type "IsADirectoryError")⟩, ⟨PyData.keyHash W "NotADirectoryError", (.str "NotADirectoryError" 128), (.type "NotADirectoryError")⟩, ⟨PyData.keyHash W "PermissionError", (.str "PermissionError" 129), (.type "PermissionError")⟩, ⟨PyData.keyHash W "ProcessLookupError", (.str "ProcessLookupError" 130), (.type "ProcessLookupError")⟩, ⟨PyData.keyHash W "TimeoutError", (.str "TimeoutError" 131), (.type "TimeoutError")⟩, ⟨PyData.keyHash W "IndentationError", (.str "IndentationError" 132), (.type "IndentationError")⟩, ⟨PyData.keyHash W "_IncompleteInputError", (.str "_IncompleteInputError" 133), (.type "_IncompleteInputError")⟩, ⟨PyData.keyHash W "IndexError", (.str "IndexError" 134), (.type "IndexError")⟩, ⟨PyData.keyHash W "KeyError", (.str "KeyError" 135), (.type "KeyError")⟩, ⟨PyData.keyHash W "ModuleNotFoundError", (.str "ModuleNotFoundError" 136), (.type "ModuleNotFoundError")⟩, ⟨PyData.keyHash W "NotImplementedError", (.str "NotImplementedError" 137), (.type "NotImplementedError")⟩, ⟨PyData.keyHash W "PythonFinalizationError", (.str "PythonFinalizationError" 138), (.type "PythonFinalizationError")⟩, ⟨PyData.keyHash W "RecursionError", (.str "RecursionError" 139), (.type "RecursionError")⟩, ⟨PyData.keyHash W "UnboundLocalError", (.str "UnboundLocalError" 140), (.type "UnboundLocalError")⟩, ⟨PyData.keyHash W "UnicodeError", (.str "UnicodeError" 141), (.type "UnicodeError")⟩, ⟨PyData.keyHash W "BrokenPipeError", (.str "BrokenPipeError" 142), (.type "BrokenPipeError")⟩, ⟨PyData.keyHash W "ConnectionAbortedError", (.str "ConnectionAbortedError" 143), (.type "ConnectionAbortedError")⟩, ⟨PyData.keyHash W "ConnectionRefusedError", (.str "ConnectionRefusedError" 144), (.type "ConnectionRefusedError")⟩, ⟨PyData.keyHash W "ConnectionResetError", (.str "ConnectionResetError" 145), (.type "ConnectionResetError")⟩, ⟨PyData.keyHash W "TabError", (.str "TabError" 146), (.type "TabError")⟩, ⟨PyData.keyHash W "UnicodeDecodeError", (.str "UnicodeDecodeError" 147), (.type "UnicodeDecodeError")⟩, ⟨PyData.keyHash W "UnicodeEncodeError", (.str "UnicodeEncodeError" 148), (.type "UnicodeEncodeError")⟩, ⟨PyData.keyHash W "UnicodeTranslateError", (.str "UnicodeTranslateError" 149), (.type "UnicodeTranslateError")⟩, ⟨PyData.keyHash W "ExceptionGroup", (.str "ExceptionGroup" 150), (.type "ExceptionGroup")⟩, ⟨PyData.keyHash W "EnvironmentError", (.str "EnvironmentError" 151), (.type "OSError")⟩, ⟨PyData.keyHash W "IOError", (.str "IOError" 152), (.type "OSError")⟩, ⟨PyData.keyHash W "open", (.str "open" 153), (.builtin "open")⟩, ⟨PyData.keyHash W "quit", (.str "quit" 154), (.builtin "builtins.quit#opaque")⟩, ⟨PyData.keyHash W "exit", (.str "exit" 155), (.builtin "builtins.exit#opaque")⟩, ⟨PyData.keyHash W "copyright", (.str "copyright" 156), (.builtin "builtins.copyright#opaque")⟩, ⟨PyData.keyHash W "credits", (.str "credits" 157), (.builtin "builtins.credits#opaque")⟩, ⟨PyData.keyHash W "license", (.str "license" 158), (.builtin "builtins.license#opaque")⟩, ⟨PyData.keyHash W "help", (.str "help" 159), (.builtin "builtins.help#opaque")⟩] 159), #[]⟩
def o1 (W : Params) : Obj := ⟨(.type "dict"), none, (.dict #[⟨PyData.keyHash W "builtins", (.str "builtins" 162), (.ref 4)⟩, ⟨PyData.keyHash W "__main__", (.str "__main__" 163), (.ref 5)⟩, ⟨PyData.keyHash W "math", (.str "math" 284), (.ref 13)⟩] 3), #[]⟩
def o2 (W : Params) : Obj := ⟨.none, none, (.dict #[⟨PyData.keyHash W "\x69mport.loaded.math", (.str "\x69mport.loaded.math" 185), (.bool true)⟩, ⟨PyData.keyHash W "class._frozen_\x69mportlib_external._LoaderBasics", (.str "class._frozen_\x69mportlib_external._LoaderBasics" 190), (.ref 16)⟩, ⟨PyData.keyHash W "watched.\x69mport", (.str "watched.\x69mport" 206), (.ref 20)⟩, ⟨PyData.keyHash W "class._frozen_\x69mportlib_external.FileLoader", (.str "class._frozen_\x69mportlib_external.FileLoader" 207), (.ref 22)⟩, ⟨PyData.keyHash W "class._frozen_\x69mportlib_external.ExtensionFileLoader", (.str "class._frozen_\x69mportlib_external.ExtensionFileLoader" 228), (.ref 27)⟩, ⟨PyData.keyHash W "class._frozen_\x69mportlib.ModuleSpec", (.str "class._frozen_\x69mportlib.ModuleSpec" 256), (.ref 33)⟩, ⟨PyData.keyHash W "sys.modules.booked-epoch", (.str "sys.modules.booked-epoch" 285), (.int (3) 0)⟩, ⟨PyData.keyHash W "\x69mport.later-laid.math", (.str "\x69mport.later-laid.math" 361), (.bool true)⟩, ⟨PyData.keyHash W "watched.library", (.str "watched.library" 363), (.ref 38)⟩, ⟨PyData.keyHash W "watched.library-objects", (.str "watched.library-objects" 0), (.str "\x0d" 0)⟩] 10), #[]⟩
def o3 (W : Params) : Obj := ⟨(.type "dict"), none, (.dict (EvH.fixL (g3 W) 10 [(0, ⟨PyData.keyHash W "__name__", (.str "__name__" 165), (.str "__main__" 164)⟩)]) 10), #[]⟩
def o4 : Obj := ⟨(.type "module"), (some 0), .plain, #[]⟩
def o5 : Obj := ⟨(.type "module"), (some 3), .plain, #[]⟩
def o6 : Obj := ⟨(.type "dict"), none, (.dict #[] 0), #[]⟩
def o7 : Obj := ⟨(.type "tuple"), none, (.seq #[] 0), #[]⟩
def o8 : Obj := ⟨.none, none, (.fields #[]), #[]⟩
def o9 : Obj := ⟨(.type "code"), none, (.fields #[(.str "<module>" 176), (.str "<module>" 177), (.str "/claim/cut.py" 178), (.int (1) 0), (.int (0) 0), (.int (0) 0), (.int (0) 0), (.int (0) 0), (.ref 7), (.bool false), (.int (175) 0), (.ref 8), .none, .none, .none, .none, (.int (179) 0), (.int (1) 0), (.str "/claim/cut.py" 180)]), #[]⟩
def o10 : Obj := ⟨(.type "frame"), none, .plain, #[(some (.ref 9)), (some (.ref 3)), (some (.ref 3)), none, (some (.str "__main__" 164)), none, (some (.ref 0))]⟩
def o11 : Obj := ⟨(.type "tuple"), none, (.seq #[(.str "isqrt" 182)] 0), #[]⟩
def o12 (W : Params) : Obj := ⟨(.type "dict"), none, (.dict #[⟨PyData.keyHash W "__name__", (.str "__name__" 287), (.str "math" 286)⟩, ⟨PyData.keyHash W "__doc__", (.str "__doc__" 288), (.builtin "math.__doc__:str#opaque")⟩, ⟨PyData.keyHash W "__package__", (.str "__package__" 290), (.str "" 289)⟩, ⟨PyData.keyHash W "__loader__", (.str "__loader__" 291), (.ref 29)⟩, ⟨PyData.keyHash W "__spec__", (.str "__spec__" 292), (.ref 37)⟩, ⟨PyData.keyHash W "acos", (.str "acos" 293), (.builtin "math.acos")⟩, ⟨PyData.keyHash W "acosh", (.str "acosh" 294), (.builtin "math.acosh")⟩, ⟨PyData.keyHash W "asin", (.str "asin" 295), (.builtin "math.asin")⟩, ⟨PyData.keyHash W "asinh", (.str "asinh" 296), (.builtin "math.asinh")⟩, ⟨PyData.keyHash W "atan", (.str "atan" 297), (.builtin "math.atan")⟩, ⟨PyData.keyHash W "atan2", (.str "atan2" 298), (.builtin "math.atan2")⟩, ⟨PyData.keyHash W "atanh", (.str "atanh" 299), (.builtin "math.atanh")⟩, ⟨PyData.keyHash W "cbrt", (.str "cbrt" 300), (.builtin "math.cbrt")⟩, ⟨PyData.keyHash W "ceil", (.str "ceil" 301), (.builtin "math.ceil")⟩, ⟨PyData.keyHash W "copysign", (.str "copysign" 302), (.builtin "math.copysign")⟩, ⟨PyData.keyHash W "cos", (.str "cos" 303), (.builtin "math.cos")⟩, ⟨PyData.keyHash W "cosh", (.str "cosh" 304), (.builtin "math.cosh")⟩, ⟨PyData.keyHash W "degrees", (.str "degrees" 305), (.builtin "math.degrees")⟩, ⟨PyData.keyHash W "dist", (.str "dist" 306), (.builtin "math.dist")⟩, ⟨PyData.keyHash W "erf", (.str "erf" 307), (.builtin "math.erf")⟩, ⟨PyData.keyHash W "erfc", (.str "erfc" 308), (.builtin "math.erfc")⟩, ⟨PyData.keyHash W "exp", (.str "exp" 309), (.builtin "math.exp")⟩, ⟨PyData.keyHash W "exp2", (.str "exp2" 310), (.builtin "math.exp2")⟩, ⟨PyData.keyHash W "expm1", (.str "expm1" 311), (.builtin "math.expm1")⟩, ⟨PyData.keyHash W "fabs", (.str "fabs" 312), (.builtin "math.fabs")⟩, ⟨PyData.keyHash W "factorial", (.str "factorial" 313), (.builtin "math.factorial")⟩, ⟨PyData.keyHash W "floor", (.str "floor" 314), (.builtin "math.floor")⟩, ⟨PyData.keyHash W "fma", (.str "fma" 315), (.builtin "math.fma")⟩, ⟨PyData.keyHash W "fmod", (.str "fmod" 316), (.builtin "math.fmod")⟩, ⟨PyData.keyHash W "frexp", (.str "frexp" 317), (.builtin "math.frexp")⟩, ⟨PyData.keyHash W "fsum", (.str "fsum" 318), (.builtin "math.fsum")⟩, ⟨PyData.keyHash W "gamma", (.str "gamma" 319), (.builtin "math.gamma")⟩, ⟨PyData.keyHash W "gcd", (.str "gcd" 320), (.builtin "math.gcd")⟩, ⟨PyData.keyHash W "hypot", (.str "hypot" 321), (.builtin "math.hypot")⟩, ⟨PyData.keyHash W "isclose", (.str "isclose" 322), (.builtin "math.isclose")⟩, ⟨PyData.keyHash W "isfinite", (.str "isfinite" 323), (.builtin "math.isfinite")⟩, ⟨PyData.keyHash W "isinf", (.str "isinf" 324), (.builtin "math.isinf")⟩, ⟨PyData.keyHash W "isnan", (.str "isnan" 325), (.builtin "math.isnan")⟩, ⟨PyData.keyHash W "isqrt", (.str "isqrt" 326), (.builtin "math.isqrt")⟩, ⟨PyData.keyHash W "lcm", (.str "lcm" 327), (.builtin "math.lcm")⟩, ⟨PyData.keyHash W "ldexp", (.str "ldexp" 328), (.builtin "math.ldexp")⟩, ⟨PyData.keyHash W "lgamma", (.str "lgamma" 329), (.builtin "math.lgamma")⟩, ⟨PyData.keyHash W "log", (.str "log" 330), (.builtin "math.log")⟩, ⟨PyData.keyHash W "log1p", (.str "log1p" 331), (.builtin "math.log1p")⟩, ⟨PyData.keyHash W "log10", (.str "log10" 332), (.builtin "math.log10")⟩, ⟨PyData.keyHash W "log2", (.str "log2" 333), (.builtin "math.log2")⟩, ⟨PyData.keyHash W "modf", (.str "modf" 334), (.builtin "math.modf")⟩, ⟨PyData.keyHash W "pow", (.str "pow" 335), (.builtin "math.pow")⟩, ⟨PyData.keyHash W "radians", (.str "radians" 336), (.builtin "math.radians")⟩, ⟨PyData.keyHash W "remainder", (.str "remainder" 337), (.builtin "math.remainder")⟩, ⟨PyData.keyHash W "sin", (.str "sin" 338), (.builtin "math.sin")⟩, ⟨PyData.keyHash W "sinh", (.str "sinh" 339), (.builtin "math.sinh")⟩, ⟨PyData.keyHash W "sqrt", (.str "sqrt" 340), (.builtin "math.sqrt")⟩, ⟨PyData.keyHash W "tan", (.str "tan" 341), (.builtin "math.tan")⟩, ⟨PyData.keyHash W "tanh", (.str "tanh" 342), (.builtin "math.tanh")⟩, ⟨PyData.keyHash W "sumprod", (.str "sumprod" 343), (.builtin "math.sumprod")⟩, ⟨PyData.keyHash W "trunc", (.str "trunc" 344), (.builtin "math.trunc")⟩, ⟨PyData.keyHash W "prod", (.str "prod" 345), (.builtin "math.prod")⟩, ⟨PyData.keyHash W "perm", (.str "perm" 346), (.builtin "math.perm")⟩, ⟨PyData.keyHash W "comb", (.str "comb" 347), (.builtin "math.comb")⟩, ⟨PyData.keyHash W "nextafter", (.str "nextafter" 348), (.builtin "math.nextafter")⟩, ⟨PyData.keyHash W "ulp", (.str "ulp" 349), (.builtin "math.ulp")⟩, ⟨PyData.keyHash W "__file__", (.str "__file__" 350), (.str "/nix/store/wj1f56qky4pmjc7l0r6b6l7whnnw7hp6-python3-3.13.15/lib/python3.13/lib-dynload/math.cpython-313-x86_64-linux-gnu.so" 186)⟩, ⟨PyData.keyHash W "pi", (.str "pi" 352), (.float 4614256656552045848 351)⟩, ⟨PyData.keyHash W "e", (.str "e" 354), (.float 4613303445314885481 353)⟩, ⟨PyData.keyHash W "tau", (.str "tau" 356), (.float 4618760256179416344 355)⟩, ⟨PyData.keyHash W "inf", (.str "inf" 358), (.float 9218868437227405312 357)⟩, ⟨PyData.keyHash W "nan", (.str "nan" 360), (.float 9221120237041090560 359)⟩] 68), #[]⟩
def o13 : Obj := ⟨(.type "module"), (some 12), .plain, #[]⟩
def o14 (W : Params) : Obj := ⟨(.type "dict"), none, (.dict #[⟨PyData.keyHash W "name", (.str "name" 188), (.str "math" 187)⟩, ⟨PyData.keyHash W "path", (.str "path" 189), (.str "/nix/store/wj1f56qky4pmjc7l0r6b6l7whnnw7hp6-python3-3.13.15/lib/python3.13/lib-dynload/math.cpython-313-x86_64-linux-gnu.so" 186)⟩] 2), #[]⟩
def o15 (W : Params) : Obj := ⟨(.type "dict"), none, (.dict #[⟨PyData.keyHash W "__module__", (.str "__module__" 193), (.str "_frozen_\x69mportlib_external" 191)⟩, ⟨PyData.keyHash W "__firstlineno__", (.str "__firstlineno__" 194), (.int (1001) 192)⟩, ⟨PyData.keyHash W "__doc__", (.str "__doc__" 195), (.builtin "_frozen_\x69mportlib_external._LoaderBasics.__doc__:str#opaque")⟩, ⟨PyData.keyHash W "is_package", (.str "is_package" 196), (.builtin "_frozen_\x69mportlib_external._LoaderBasics.is_package#opaque")⟩, ⟨PyData.keyHash W "create_module", (.str "create_module" 197), (.builtin "_frozen_\x69mportlib_external._LoaderBasics.create_module#opaque")⟩, ⟨PyData.keyHash W "exec_module", (.str "exec_module" 198), (.builtin "_frozen_\x69mportlib_external._LoaderBasics.exec_module#opaque")⟩, ⟨PyData.keyHash W "load_module", (.str "load_module" 199), (.builtin "_frozen_\x69mportlib_external._LoaderBasics.load_module#opaque")⟩, ⟨PyData.keyHash W "__static_attributes__", (.str "__static_attributes__" 200), (.ref 17)⟩, ⟨PyData.keyHash W "__dict__", (.str "__dict__" 202), (.ref 18)⟩, ⟨PyData.keyHash W "__weakref__", (.str "__weakref__" 204), (.ref 19)⟩] 10), #[]⟩
def o16 : Obj := ⟨(.type "type"), none, (.cls ⟨"_LoaderBasics", [(.type "object")], [(.ref 16), (.type "object")], 15, "_LoaderBasics", true, [], [(.ref 27)], false, none, false⟩), #[]⟩
def o17 : Obj := ⟨(.type "tuple"), none, (.seq #[] 0), #[]⟩
def o18 : Obj := ⟨(.type "getset_descriptor"), none, (.fields #[(.str "__dict__" 201), (.ref 16), (.builtin "function.__dict__"), (.builtin "function.__dict__#set")]), #[]⟩
def o19 : Obj := ⟨(.type "getset_descriptor"), none, (.fields #[(.str "__weakref__" 203), (.ref 16), (.builtin "ExceptionGroup.__weakref__"), .none]), #[]⟩
def o20 (w : World) : Obj := ((runI w).bind fun s => s.tree.get 20).getD default
def o21 (W : Params) : Obj := ⟨(.type "dict"), none, (.dict #[⟨PyData.keyHash W "__module__", (.str "__module__" 212), (.str "_frozen_\x69mportlib_external" 208)⟩, ⟨PyData.keyHash W "__firstlineno__", (.str "__firstlineno__" 213), (.int (1176) 209)⟩, ⟨PyData.keyHash W "__doc__", (.str "__doc__" 214), (.builtin "_frozen_\x69mportlib_external.FileLoader.__doc__:str#opaque")⟩, ⟨PyData.keyHash W "__init__", (.str "__init__" 215), (.builtin "_frozen_\x69mportlib_external.FileLoader.__init__#opaque")⟩, ⟨PyData.keyHash W "__eq__", (.str "__eq__" 216), (.builtin "_frozen_\x69mportlib_external.FileLoader.__eq__#opaque")⟩, ⟨PyData.keyHash W "__hash__", (.str "__hash__" 217), (.builtin "_frozen_\x69mportlib_external.FileLoader.__hash__#opaque")⟩, ⟨PyData.keyHash W "load_module", (.str "load_module" 218), (.builtin "_frozen_\x69mportlib_external.FileLoader.load_module#opaque")⟩, ⟨PyData.keyHash W "get_filename", (.str "get_filename" 219), (.builtin "_frozen_\x69mportlib_external.FileLoader.get_filename#opaque")⟩, ⟨PyData.keyHash W "get_data", (.str "get_data" 220), (.builtin "_frozen_\x69mportlib_external.FileLoader.get_data#opaque")⟩, ⟨PyData.keyHash W "get_resource_reader", (.str "get_resource_reader" 221), (.builtin "_frozen_\x69mportlib_external.FileLoader.get_resource_reader#opaque")⟩, ⟨PyData.keyHash W "__static_attributes__", (.str "__static_attributes__" 222), (.ref 23)⟩, ⟨PyData.keyHash W "__dict__", (.str "__dict__" 224), (.ref 24)⟩, ⟨PyData.keyHash W "__weakref__", (.str "__weakref__" 226), (.ref 25)⟩] 13), #[]⟩
def o22 : Obj := ⟨(.type "type"), none, (.cls ⟨"FileLoader", [(.type "object")], [(.ref 22), (.type "object")], 21, "FileLoader", true, [], [(.ref 27)], false, none, false⟩), #[]⟩
def o23 : Obj := ⟨(.type "tuple"), none, (.seq #[(.str "name" 210), (.str "path" 211)] 0), #[]⟩
def o24 : Obj := ⟨(.type "getset_descriptor"), none, (.fields #[(.str "__dict__" 223), (.ref 22), (.builtin "function.__dict__"), (.builtin "function.__dict__#set")]), #[]⟩
def o25 : Obj := ⟨(.type "getset_descriptor"), none, (.fields #[(.str "__weakref__" 225), (.ref 22), (.builtin "ExceptionGroup.__weakref__"), .none]), #[]⟩
def o26 (W : Params) : Obj := ⟨(.type "dict"), none, (.dict #[⟨PyData.keyHash W "__module__", (.str "__module__" 233), (.str "_frozen_\x69mportlib_external" 229)⟩, ⟨PyData.keyHash W "__firstlineno__", (.str "__firstlineno__" 234), (.int (1296) 230)⟩, ⟨PyData.keyHash W "__doc__", (.str "__doc__" 235), (.builtin "_frozen_\x69mportlib_external.ExtensionFileLoader.__doc__:str#opaque")⟩, ⟨PyData.keyHash W "__init__", (.str "__init__" 236), (.builtin "_frozen_\x69mportlib_external.ExtensionFileLoader.__init__#opaque")⟩, ⟨PyData.keyHash W "__eq__", (.str "__eq__" 237), (.builtin "_frozen_\x69mportlib_external.ExtensionFileLoader.__eq__#opaque")⟩, ⟨PyData.keyHash W "__hash__", (.str "__hash__" 238), (.builtin "_frozen_\x69mportlib_external.ExtensionFileLoader.__hash__#opaque")⟩, ⟨PyData.keyHash W "create_module", (.str "create_module" 239), (.builtin "_frozen_\x69mportlib_external.ExtensionFileLoader.create_module#opaque")⟩, ⟨PyData.keyHash W "exec_module", (.str "exec_module" 240), (.builtin "_frozen_\x69mportlib_external.ExtensionFileLoader.exec_module#opaque")⟩, ⟨PyData.keyHash W "is_package", (.str "is_package" 241), (.builtin "_frozen_\x69mportlib_external.ExtensionFileLoader.is_package#opaque")⟩, ⟨PyData.keyHash W "get_code", (.str "get_code" 242), (.builtin "_frozen_\x69mportlib_external.ExtensionFileLoader.get_code#opaque")⟩, ⟨PyData.keyHash W "get_source", (.str "get_source" 243), (.builtin "_frozen_\x69mportlib_external.ExtensionFileLoader.get_source#opaque")⟩, ⟨PyData.keyHash W "get_filename", (.str "get_filename" 244), (.builtin "_frozen_\x69mportlib_external.ExtensionFileLoader.get_filename#opaque")⟩, ⟨PyData.keyHash W "__static_attributes__", (.str "__static_attributes__" 245), (.ref 28)⟩] 13), #[]⟩
def o27 : Obj := ⟨(.type "type"), none, (.cls ⟨"ExtensionFileLoader", [(.ref 22), (.ref 16)], [(.ref 27), (.ref 22), (.ref 16), (.type "object")], 26, "ExtensionFileLoader", true, [], [], false, none, false⟩), #[]⟩
def o28 : Obj := ⟨(.type "tuple"), none, (.seq #[(.str "name" 231), (.str "path" 232)] 0), #[]⟩
def o29 : Obj := ⟨(.ref 27), (some 14), .plain, #[]⟩
def o30 : Obj := ⟨(.type "list"), none, (.seq #[] 0), #[]⟩
def o31 (W : Params) : Obj := ⟨(.type "dict"), none, (.dict #[⟨PyData.keyHash W "name", (.str "name" 248), (.str "math" 247)⟩, ⟨PyData.keyHash W "loader", (.str "loader" 249), (.ref 29)⟩, ⟨PyData.keyHash W "origin", (.str "origin" 250), (.str "/nix/store/wj1f56qky4pmjc7l0r6b6l7whnnw7hp6-python3-3.13.15/lib/python3.13/lib-dynload/math.cpython-313-x86_64-linux-gnu.so" 186)⟩, ⟨PyData.keyHash W "loader_state", (.str "loader_state" 251), .none⟩, ⟨PyData.keyHash W "submodule_search_locations", (.str "submodule_search_locations" 252), .none⟩, ⟨PyData.keyHash W "_uninitialized_submodules", (.str "_uninitialized_submodules" 253), (.ref 30)⟩, ⟨PyData.keyHash W "_set_fileattr", (.str "_set_fileattr" 254), (.bool true)⟩, ⟨PyData.keyHash W "_cached", (.str "_cached" 255), .none⟩, ⟨PyData.keyHash W "_initializing", (.str "_initializing" 283), (.bool false)⟩] 9), #[]⟩
def o32 (W : Params) : Obj := ⟨(.type "dict"), none, (.dict #[⟨PyData.keyHash W "__module__", (.str "__module__" 267), (.str "_frozen_\x69mportlib" 257)⟩, ⟨PyData.keyHash W "__firstlineno__", (.str "__firstlineno__" 268), (.int (562) 258)⟩, ⟨PyData.keyHash W "__doc__", (.str "__doc__" 269), (.builtin "_frozen_\x69mportlib.ModuleSpec.__doc__:str#opaque")⟩, ⟨PyData.keyHash W "__init__", (.str "__init__" 270), (.builtin "_frozen_\x69mportlib.ModuleSpec.__init__#opaque")⟩, ⟨PyData.keyHash W "__repr__", (.str "__repr__" 271), (.builtin "_frozen_\x69mportlib.ModuleSpec.__repr__#opaque")⟩, ⟨PyData.keyHash W "__eq__", (.str "__eq__" 272), (.builtin "_frozen_\x69mportlib.ModuleSpec.__eq__#opaque")⟩, ⟨PyData.keyHash W "cached", (.str "cached" 273), (.builtin "_frozen_\x69mportlib.ModuleSpec.cached#opaque")⟩, ⟨PyData.keyHash W "parent", (.str "parent" 274), (.builtin "_frozen_\x69mportlib.ModuleSpec.parent#opaque")⟩, ⟨PyData.keyHash W "has_location", (.str "has_location" 275), (.builtin "_frozen_\x69mportlib.ModuleSpec.has_location#opaque")⟩, ⟨PyData.keyHash W "__static_attributes__", (.str "__static_attributes__" 276), (.ref 34)⟩, ⟨PyData.keyHash W "__dict__", (.str "__dict__" 278), (.ref 35)⟩, ⟨PyData.keyHash W "__weakref__", (.str "__weakref__" 280), (.ref 36)⟩, ⟨PyData.keyHash W "__hash__", (.str "__hash__" 281), .none⟩] 13), #[]⟩
def o33 : Obj := ⟨(.type "type"), none, (.cls ⟨"ModuleSpec", [(.type "object")], [(.ref 33), (.type "object")], 32, "ModuleSpec", true, [], [], false, none, false⟩), #[]⟩
def o34 : Obj := ⟨(.type "tuple"), none, (.seq #[(.str "_cached" 259), (.str "_set_fileattr" 260), (.str "_uninitialized_submodules" 261), (.str "loader" 262), (.str "loader_state" 263), (.str "name" 264), (.str "origin" 265), (.str "submodule_search_locations" 266)] 0), #[]⟩
def o35 : Obj := ⟨(.type "getset_descriptor"), none, (.fields #[(.str "__dict__" 277), (.ref 33), (.builtin "function.__dict__"), (.builtin "function.__dict__#set")]), #[]⟩
def o36 : Obj := ⟨(.type "getset_descriptor"), none, (.fields #[(.str "__weakref__" 279), (.ref 33), (.builtin "ExceptionGroup.__weakref__"), .none]), #[]⟩
def o37 : Obj := ⟨(.ref 33), (some 31), .plain, #[]⟩
def o38 (w : World) : Obj := ((runI w).bind fun s => s.tree.get 38).getD default
def Ti_0 (w : World) : BT := EvH.put BT.nil [(0, o0 w.params), (1, o1 w.params), (2, o2 w.params), (3, o3 w.params), (4, o4), (5, o5), (6, o6), (7, o7), (8, o8), (9, o9), (10, o10), (11, o11), (12, o12 w.params), (13, o13), (14, o14 w.params), (15, o15 w.params), (16, o16), (17, o17), (18, o18), (19, o19), (20, o20 w), (21, o21 w.params), (22, o22), (23, o23), (24, o24), (25, o25), (26, o26 w.params), (27, o27), (28, o28), (29, o29)]
def Ti (w : World) : BT := EvH.put (Ti_0 w) [(30, o30), (31, o31 w.params), (32, o32 w.params), (33, o33), (34, o34), (35, o35), (36, o36), (37, o37), (38, o38 w)]
def lifei : Life := { }
def dri : Drawn := { }
def xi (w : World) (os : OsState) : SharedT := ⟨Ti w, 39, lifei, #[], dri, 370, os⟩
def o12_0 (W : Params) : Obj := ⟨(.type "dict"), none, (.dict #[⟨PyData.keyHash W "__name__", (.str "__name__" 287), (.str "math" 286)⟩, ⟨PyData.keyHash W "__doc__", (.str "__doc__" 288), (.builtin "off-the-table:math.__doc__:shared#opaque")⟩, ⟨PyData.keyHash W "__package__", (.str "__package__" 290), (.str "" 289)⟩, ⟨PyData.keyHash W "__loader__", (.str "__loader__" 291), (.builtin "off-the-table:math.__loader__:shared#opaque")⟩, ⟨PyData.keyHash W "__spec__", (.str "__spec__" 292), (.builtin "off-the-table:math.__spec__:shared#opaque")⟩, ⟨PyData.keyHash W "acos", (.str "acos" 293), (.builtin "off-the-table:math.acos:shared#opaque")⟩, ⟨PyData.keyHash W "acosh", (.str "acosh" 294), (.builtin "off-the-table:math.acosh:shared#opaque")⟩, ⟨PyData.keyHash W "asin", (.str "asin" 295), (.builtin "off-the-table:math.asin:shared#opaque")⟩, ⟨PyData.keyHash W "asinh", (.str "asinh" 296), (.builtin "off-the-table:math.asinh:shared#opaque")⟩, ⟨PyData.keyHash W "atan", (.str "atan" 297), (.builtin "off-the-table:math.atan:shared#opaque")⟩, ⟨PyData.keyHash W "atan2", (.str "atan2" 298), (.builtin "off-the-table:math.atan2:shared#opaque")⟩, ⟨PyData.keyHash W "atanh", (.str "atanh" 299), (.builtin "off-the-table:math.atanh:shared#opaque")⟩, ⟨PyData.keyHash W "cbrt", (.str "cbrt" 300), (.builtin "off-the-table:math.cbrt:shared#opaque")⟩, ⟨PyData.keyHash W "ceil", (.str "ceil" 301), (.builtin "math.ceil")⟩, ⟨PyData.keyHash W "copysign", (.str "copysign" 302), (.builtin "math.copysign")⟩, ⟨PyData.keyHash W "cos", (.str "cos" 303), (.builtin "off-the-table:math.cos:shared#opaque")⟩, ⟨PyData.keyHash W "cosh", (.str "cosh" 304), (.builtin "off-the-table:math.cosh:shared#opaque")⟩, ⟨PyData.keyHash W "degrees", (.str "degrees" 305), (.builtin "math.degrees")⟩, ⟨PyData.keyHash W "dist", (.str "dist" 306), (.builtin "math.dist")⟩, ⟨PyData.keyHash W "erf", (.str "erf" 307), (.builtin "off-the-table:math.erf:shared#opaque")⟩, ⟨PyData.keyHash W "erfc", (.str "erfc" 308), (.builtin "off-the-table:math.erfc:shared#opaque")⟩, ⟨PyData.keyHash W "exp", (.str "exp" 309), (.builtin "off-the-table:math.exp:shared#opaque")⟩, ⟨PyData.keyHash W "exp2", (.str "exp2" 310), (.builtin "off-the-table:math.exp2:shared#opaque")⟩, ⟨PyData.keyHash W "expm1", (.str "expm1" 311), (.builtin "off-the-table:math.expm1:shared#opaque")⟩, ⟨PyData.keyHash W "fabs", (.str "fabs" 312), (.builtin "math.fabs")⟩, ⟨PyData.keyHash W "factorial", (.str "factorial" 313), (.builtin "math.factorial")⟩, ⟨PyData.keyHash W "floor", (.str "floor" 314), (.builtin "math.floor")⟩, ⟨PyData.keyHash W "fma", (.str "fma" 315), (.builtin "math.fma")⟩, ⟨PyData.keyHash W "fmod", (.str "fmod" 316), (.builtin "math.fmod")⟩, ⟨PyData.keyHash W "frexp", (.str "frexp" 317), (.builtin "math.frexp")⟩, ⟨PyData.keyHash W "fsum", (.str "fsum" 318), (.builtin "math.fsum")⟩, ⟨PyData.keyHash W "gamma", (.str "gamma" 319), (.builtin "off-the-table:math.gamma:shared#opaque")⟩, ⟨PyData.keyHash W "gcd", (.str "gcd" 320), (.builtin "math.gcd")⟩, ⟨PyData.keyHash W "hypot", (.str "hypot" 321), (.builtin "math.hypot")⟩, ⟨PyData.keyHash W "isclose", (.str "isclose" 322), (.builtin "math.isclose")⟩, ⟨PyData.keyHash W "isfinite", (.str "isfinite" 323), (.builtin "math.isfinite")⟩, ⟨PyData.keyHash W "isinf", (.str "isinf" 324), (.builtin "math.isinf")⟩, ⟨PyData.keyHash W "isnan", (.str "isnan" 325), (.builtin "math.isnan")⟩, ⟨PyData.keyHash W "isqrt", (.str "isqrt" 326), (.builtin "math.isqrt")⟩, ⟨PyData.keyHash W "lcm", (.str "lcm" 327), (.builtin "math.lcm")⟩, ⟨PyData.keyHash W "ldexp", (.str "ldexp" 328), (.builtin "math.ldexp")⟩, ⟨PyData.keyHash W "lgamma", (.str "lgamma" 329), (.builtin "off-the-table:math.lgamma:shared#opaque")⟩, ⟨PyData.keyHash W "log", (.str "log" 330), (.builtin "off-the-table:math.log:shared#opaque")⟩, ⟨PyData.keyHash W "log1p", (.str "log1p" 331), (.builtin "off-the-table:math.log1p:shared#opaque")⟩, ⟨PyData.keyHash W "log10", (.str "log10" 332), (.builtin "off-the-table:math.log10:shared#opaque")⟩, ⟨PyData.keyHash W "log2", (.str "log2" 333), (.builtin "off-the-table:math.log2:shared#opaque")⟩, ⟨PyData.keyHash W "modf", (.str "modf" 334), (.builtin "math.modf")⟩, ⟨PyData.keyHash W "pow", (.str "pow" 335), (.builtin "off-the-table:math.pow:shared#opaque")⟩, ⟨PyData.keyHash W "radians", (.str "radians" 336), (.builtin "math.radians")⟩, ⟨PyData.keyHash W "remainder", (.str "remainder" 337), (.builtin "math.remainder")⟩, ⟨PyData.keyHash W "sin", (.str "sin" 338), (.builtin "off-the-table:math.sin:shared#opaque")⟩, ⟨PyData.keyHash W "sinh", (.str "sinh" 339), (.builtin "off-the-table:math.sinh:shared#opaque")⟩, ⟨PyData.keyHash W "sqrt", (.str "sqrt" 340), (.builtin "math.sqrt")⟩, ⟨PyData.keyHash W "tan", (.str "tan" 341), (.builtin "off-the-table:math.tan:shared#opaque")⟩, ⟨PyData.keyHash W "tanh", (.str "tanh" 342), (.builtin "off-the-table:math.tanh:shared#opaque")⟩, ⟨PyData.keyHash W "sumprod", (.str "sumprod" 343), (.builtin "math.sumprod")⟩, ⟨PyData.keyHash W "trunc", (.str "trunc" 344), (.builtin "math.trunc")⟩, ⟨PyData.keyHash W "prod", (.str "prod" 345), (.builtin "math.prod")⟩, ⟨PyData.keyHash W "perm", (.str "perm" 346), (.builtin "math.perm")⟩, ⟨PyData.keyHash W "comb", (.str "comb" 347), (.builtin "math.comb")⟩, ⟨PyData.keyHash W "nextafter", (.str "nextafter" 348), (.builtin "math.nextafter")⟩, ⟨PyData.keyHash W "ulp", (.str "ulp" 349), (.builtin "math.ulp")⟩, ⟨PyData.keyHash W "__file__", (.str "__file__" 350), (.str "/nix/store/wj1f56qky4pmjc7l0r6b6l7whnnw7hp6-python3-3.13.15/lib/python3.13/lib-dynload/math.cpython-313-x86_64-linux-gnu.so" 186)⟩, ⟨PyData.keyHash W "pi", (.str "pi" 352), (.float 4614256656552045848 351)⟩, ⟨PyData.keyHash W "e", (.str "e" 354), (.float 4613303445314885481 353)⟩, ⟨PyData.keyHash W "tau", (.str "tau" 356), (.float 4618760256179416344 355)⟩, ⟨PyData.keyHash W "inf", (.str "inf" 358), (.float 9218868437227405312 357)⟩, ⟨PyData.keyHash W "nan", (.str "nan" 360), (.float 9221120237041090560 359)⟩] 68), #[]⟩
def T0 (w : World) : BT := EvH.put (Ti w) [(12, o12_0 w.params)]
def life0 : Life := { }
def dr0 : Drawn := { }
def x0 (w : World) (os : OsState) : SharedT := ⟨T0 w, 39, life0, #[], dr0, 370, os⟩
def o39 : Obj := ⟨(.type "tuple"), none, (.seq #[] 0), #[]⟩
def o40 : Obj := ⟨.none, none, (.fields (EvH.fixL g40 0 [])), #[]⟩
def o41 : Obj := ⟨(.type "code"), none, (.fields #[(.str "<module>" 371), (.str "<module>" 372), (.str "/claim/cut.py" 373), (.int (1) 0), (.int (0) 0), (.int (0) 0), (.int (0) 0), (.int (0) 0), (.ref 39), (.bool false), (.int (370) 0), (.ref 40), .none, .none, .none, .none, (.int (374) 0), (.int (1) 0), (.str "/claim/cut.py" 375)]), #[]⟩
def o42 : Obj := ⟨(.type "frame"), none, .plain, #[(some (.ref 41)), (some (.ref 3)), (some (.ref 3)), none, (some (.str "__main__" 164)), none, (some (.ref 0))]⟩
def Ta (w : World) : BT := EvH.put (T0 w) [(39, o39), (40, o40), (41, o41), (42, o42)]
def lifea : Life := { }
def dra : Drawn := { }
def xa (w : World) (os : OsState) : SharedT := ⟨Ta w, 43, lifea, #[], dra, 376, os⟩
def Tb (w : World) : BT := (Ta w)
def lifeb : Life := { }
def drb : Drawn := { }
def xb (w : World) (os : OsState) : SharedT := ⟨Tb w, 43, lifeb, #[], drb, 376, os⟩
def o3_1 (W : Params) : Obj := ⟨(.type "dict"), none, (.dict (EvH.fixL (g3 W) 18 [(0, ⟨PyData.keyHash W "__name__", (.str "__name__" 165), (.str "sureplace.given.questions" 473)⟩)]) 18), #[]⟩
def o40_1 : Obj := ⟨.none, none, (.fields (EvH.fixL g40 18 [])), #[]⟩
def o43 : Obj := ⟨(.type "tuple"), none, (.seq #[(.type "ValueError")] 0), #[]⟩
def o44 : Obj := ⟨(.type "builtin_function_or_method"), none, (.fields #[(.builtin "type.__prepare__"), (.type "type")]), #[]⟩
def o45 (W : Params) : Obj := ⟨(.type "dict"), none, (.dict #[⟨PyData.keyHash W "__module__", (.str "__module__" 385), (.str "sureplace.errors" 376)⟩, ⟨PyData.keyHash W "__qualname__", (.str "__qualname__" 387), (.str "SurePlaceError" 386)⟩, ⟨PyData.keyHash W "__firstlineno__", (.str "__firstlineno__" 389), (.int (3) 388)⟩, ⟨PyData.keyHash W "__init__", (.str "__init__" 399), (.ref 59)⟩, ⟨PyData.keyHash W "__static_attributes__", (.str "__static_attributes__" 400), (.ref 60)⟩, ⟨PyData.keyHash W "__classcell__", (.str "__classcell__" 401), (.ref 46)⟩] 6), #[]⟩
def o46 : Obj := ⟨(.type "cell"), none, (.cell (some (.ref 62))), #[]⟩
def o47 : Obj := ⟨(.type "tuple"), none, (.seq #[] 0), #[]⟩
def o48 : Obj := ⟨.none, none, (.fields #[(.int (5) 0), (.int (4) 0), (.ref 58)]), #[]⟩
def o49 : Obj := ⟨(.type "code"), none, (.fields #[(.str "SurePlaceError" 380), (.str "SurePlaceError" 381), (.str "/claim/cut.py" 382), (.int (3) 0), (.int (0) 0), (.int (0) 0), (.int (0) 0), (.int (0) 0), (.ref 47), (.bool false), (.int (370) 0), (.ref 48), .none, .none, .none, .none, (.int (383) 0), (.int (3) 0), (.str "/claim/cut.py" 384)]), #[]⟩
def o50 : Obj := ⟨(.type "frame"), none, .plain, #[(some (.ref 49)), (some (.ref 3)), (some (.ref 45)), none, (some (.str "sureplace.errors" 376)), none, (some (.ref 0))]⟩
def o51 : Obj := ⟨(.type "tuple"), none, (.seq #[(.str "" 390)] 0), #[]⟩
def o52 : Obj := ⟨(.type "tuple"), none, (.seq #[(.ref 46)] 0), #[]⟩
def o53 : Obj := ⟨(.type "tuple"), none, (.seq #[(.str "__class__" 394)] 0), #[]⟩
def o54 : Obj := ⟨.none, none, (.fields #[]), #[]⟩
def o55 : Obj := ⟨(.type "tuple"), none, (.seq #[(.str "self" 395), (.str "why" 396)] 0), #[]⟩
def o56 : Obj := ⟨(.type "tuple"), none, (.seq #[] 0), #[]⟩
def o57 : Obj := ⟨.none, none, (.func ⟨"__init__", "SurePlaceError.__init__", defArgs (inClass (Pg.topS 2) 0), .stmts (defBody (inClass (Pg.topS 2) 0)), defScope (inClass (Pg.topS 2) 0), 0, [], .none, .none, .none, .none, none, .none, .none, 0⟩), #[]⟩
def o58 : Obj := ⟨(.type "code"), none, (.fields #[(.str "__init__" 391), (.str "SurePlaceError.__init__" 392), (.str "/claim/cut.py" 393), (.int (5) 0), (.int (2) 0), (.int (0) 0), (.int (0) 0), (.int (3) 0), (.ref 53), (.bool true), (.int (370) 0), (.ref 54), .none, (.ref 55), (.ref 56), (.ref 57), (.int (397) 0), (.int (5) 0), (.str "/claim/cut.py" 398)]), #[]⟩
def o59 : Obj := ⟨(.type "function"), none, (.func ⟨"__init__", "SurePlaceError.__init__", defArgs (inClass (Pg.topS 2) 0), .stmts (defBody (inClass (Pg.topS 2) 0)), defScope (inClass (Pg.topS 2) 0), 3, [("__class__", 46)], (.ref 51), .none, .none, (.str "sureplace.errors" 376), none, (.ref 58), (.ref 52), 0⟩), #[]⟩
def o60 : Obj := ⟨(.type "tuple"), none, (.seq #[] 0), #[]⟩
def o61 (W : Params) : Obj := ⟨(.type "dict"), none, (.dict #[⟨PyData.keyHash W "__module__", (.str "__module__" 385), (.str "sureplace.errors" 376)⟩, ⟨PyData.keyHash W "__firstlineno__", (.str "__firstlineno__" 389), (.int (3) 388)⟩, ⟨PyData.keyHash W "__init__", (.str "__init__" 399), (.ref 59)⟩, ⟨PyData.keyHash W "__static_attributes__", (.str "__static_attributes__" 400), (.ref 60)⟩, ⟨PyData.keyHash W "__weakref__", (.str "__weakref__" 403), (.ref 63)⟩, ⟨PyData.keyHash W "__doc__", (.str "__doc__" 404), .none⟩] 4), #[]⟩
def o62 : Obj := ⟨(.type "type"), none, (.cls ⟨"SurePlaceError", [(.type "ValueError")], [(.ref 62), (.type "ValueError"), (.type "Exception"), (.type "BaseException"), (.type "object")], 61, "SurePlaceError", true, [], [(.ref 75), (.ref 87), (.ref 99)], false, none, false⟩), #[(some (.ref 43)), none, (some (.str "SurePlaceError" 378)), (some (.str "SurePlaceError" 386)), (some (.builtin "ValueError.__new__")), (some (.bool true))]⟩
def o63 : Obj := ⟨(.type "getset_descriptor"), none, (.fields #[(.str "__weakref__" 402), (.ref 62), (.builtin "ExceptionGroup.__weakref__"), .none]), #[]⟩
def o64 : Obj := ⟨(.type "super"), none, (.fields #[(.ref 62), (.ref 62), (.ref 62)]), #[]⟩
def o65 : Obj := ⟨(.type "builtin_function_or_method"), none, (.fields #[(.builtin "object.__init_subclass__"), (.ref 62)]), #[]⟩
def o66 : Obj := ⟨(.type "tuple"), none, (.seq #[(.ref 62)] 0), #[]⟩
def o67 : Obj := ⟨(.type "builtin_function_or_method"), none, (.fields #[(.builtin "type.__prepare__"), (.type "type")]), #[]⟩
def o68 (W : Params) : Obj := ⟨(.type "dict"), none, (.dict #[⟨PyData.keyHash W "__module__", (.str "__module__" 414), (.str "sureplace.errors" 376)⟩, ⟨PyData.keyHash W "__qualname__", (.str "__qualname__" 416), (.str "InvalidSetting" 415)⟩, ⟨PyData.keyHash W "__firstlineno__", (.str "__firstlineno__" 418), (.int (7) 417)⟩, ⟨PyData.keyHash W "__static_attributes__", (.str "__static_attributes__" 419), (.ref 73)⟩] 4), #[]⟩
def o69 : Obj := ⟨(.type "tuple"), none, (.seq #[] 0), #[]⟩
def o70 : Obj := ⟨.none, none, (.fields #[]), #[]⟩
def o71 : Obj := ⟨(.type "code"), none, (.fields #[(.str "InvalidSetting" 409), (.str "InvalidSetting" 410), (.str "/claim/cut.py" 411), (.int (7) 0), (.int (0) 0), (.int (0) 0), (.int (0) 0), (.int (0) 0), (.ref 69), (.bool false), (.int (370) 0), (.ref 70), .none, .none, .none, .none, (.int (412) 0), (.int (7) 0), (.str "/claim/cut.py" 413)]), #[]⟩
def o72 : Obj := ⟨(.type "frame"), none, .plain, #[(some (.ref 71)), (some (.ref 3)), (some (.ref 68)), none, (some (.str "sureplace.errors" 376)), none, (some (.ref 0))]⟩
def o73 : Obj := ⟨(.type "tuple"), none, (.seq #[] 0), #[]⟩
def o74 (W : Params) : Obj := ⟨(.type "dict"), none, (.dict #[⟨PyData.keyHash W "__module__", (.str "__module__" 414), (.str "sureplace.errors" 376)⟩, ⟨PyData.keyHash W "__firstlineno__", (.str "__firstlineno__" 418), (.int (7) 417)⟩, ⟨PyData.keyHash W "__static_attributes__", (.str "__static_attributes__" 419), (.ref 73)⟩, ⟨PyData.keyHash W "__doc__", (.str "__doc__" 420), .none⟩] 2), #[]⟩
def o75 : Obj := ⟨(.type "type"), none, (.cls ⟨"InvalidSetting", [(.ref 62)], [(.ref 75), (.ref 62), (.type "ValueError"), (.type "Exception"), (.type "BaseException"), (.type "object")], 74, "InvalidSetting", true, [], [], false, none, false⟩), #[(some (.ref 66)), none, (some (.str "InvalidSetting" 407)), (some (.str "InvalidSetting" 415)), (some (.builtin "ValueError.__new__")), (some (.bool true))]⟩
def o76 : Obj := ⟨(.type "super"), none, (.fields #[(.ref 75), (.ref 75), (.ref 75)]), #[]⟩
def o77 : Obj := ⟨(.type "builtin_function_or_method"), none, (.fields #[(.builtin "object.__init_subclass__"), (.ref 75)]), #[]⟩
def o78 : Obj := ⟨(.type "tuple"), none, (.seq #[(.ref 62)] 0), #[]⟩
def o79 : Obj := ⟨(.type "builtin_function_or_method"), none, (.fields #[(.builtin "type.__prepare__"), (.type "type")]), #[]⟩
def o80 (W : Params) : Obj := ⟨(.type "dict"), none, (.dict #[⟨PyData.keyHash W "__module__", (.str "__module__" 430), (.str "sureplace.errors" 376)⟩, ⟨PyData.keyHash W "__qualname__", (.str "__qualname__" 432), (.str "InvalidReading" 431)⟩, ⟨PyData.keyHash W "__firstlineno__", (.str "__firstlineno__" 434), (.int (9) 433)⟩, ⟨PyData.keyHash W "__static_attributes__", (.str "__static_attributes__" 435), (.ref 85)⟩] 4), #[]⟩
def o81 : Obj := ⟨(.type "tuple"), none, (.seq #[] 0), #[]⟩
def o82 : Obj := ⟨.none, none, (.fields #[]), #[]⟩
def o83 : Obj := ⟨(.type "code"), none, (.fields #[(.str "InvalidReading" 425), (.str "InvalidReading" 426), (.str "/claim/cut.py" 427), (.int (9) 0), (.int (0) 0), (.int (0) 0), (.int (0) 0), (.int (0) 0), (.ref 81), (.bool false), (.int (370) 0), (.ref 82), .none, .none, .none, .none, (.int (428) 0), (.int (9) 0), (.str "/claim/cut.py" 429)]), #[]⟩
def o84 : Obj := ⟨(.type "frame"), none, .plain, #[(some (.ref 83)), (some (.ref 3)), (some (.ref 80)), none, (some (.str "sureplace.errors" 376)), none, (some (.ref 0))]⟩
def o85 : Obj := ⟨(.type "tuple"), none, (.seq #[] 0), #[]⟩
def o86 (W : Params) : Obj := ⟨(.type "dict"), none, (.dict #[⟨PyData.keyHash W "__module__", (.str "__module__" 430), (.str "sureplace.errors" 376)⟩, ⟨PyData.keyHash W "__firstlineno__", (.str "__firstlineno__" 434), (.int (9) 433)⟩, ⟨PyData.keyHash W "__static_attributes__", (.str "__static_attributes__" 435), (.ref 85)⟩, ⟨PyData.keyHash W "__doc__", (.str "__doc__" 436), .none⟩] 2), #[]⟩
def o87 : Obj := ⟨(.type "type"), none, (.cls ⟨"InvalidReading", [(.ref 62)], [(.ref 87), (.ref 62), (.type "ValueError"), (.type "Exception"), (.type "BaseException"), (.type "object")], 86, "InvalidReading", true, [], [], false, none, false⟩), #[(some (.ref 78)), none, (some (.str "InvalidReading" 423)), (some (.str "InvalidReading" 431)), (some (.builtin "ValueError.__new__")), (some (.bool true))]⟩
def o88 : Obj := ⟨(.type "super"), none, (.fields #[(.ref 87), (.ref 87), (.ref 87)]), #[]⟩
def o89 : Obj := ⟨(.type "builtin_function_or_method"), none, (.fields #[(.builtin "object.__init_subclass__"), (.ref 87)]), #[]⟩
def o90 : Obj := ⟨(.type "tuple"), none, (.seq #[(.ref 62)] 0), #[]⟩
def o91 : Obj := ⟨(.type "builtin_function_or_method"), none, (.fields #[(.builtin "type.__prepare__"), (.type "type")]), #[]⟩
def o92 (W : Params) : Obj := ⟨(.type "dict"), none, (.dict #[⟨PyData.keyHash W "__module__", (.str "__module__" 446), (.str "sureplace.errors" 376)⟩, ⟨PyData.keyHash W "__qualname__", (.str "__qualname__" 448), (.str "InvalidQuestion" 447)⟩, ⟨PyData.keyHash W "__firstlineno__", (.str "__firstlineno__" 450), (.int (11) 449)⟩, ⟨PyData.keyHash W "__static_attributes__", (.str "__static_attributes__" 451), (.ref 97)⟩] 4), #[]⟩
def o93 : Obj := ⟨(.type "tuple"), none, (.seq #[] 0), #[]⟩
def o94 : Obj := ⟨.none, none, (.fields #[]), #[]⟩
def o95 : Obj := ⟨(.type "code"), none, (.fields #[(.str "InvalidQuestion" 441), (.str "InvalidQuestion" 442), (.str "/claim/cut.py" 443), (.int (11) 0), (.int (0) 0), (.int (0) 0), (.int (0) 0), (.int (0) 0), (.ref 93), (.bool false), (.int (370) 0), (.ref 94), .none, .none, .none, .none, (.int (444) 0), (.int (11) 0), (.str "/claim/cut.py" 445)]), #[]⟩
def o96 : Obj := ⟨(.type "frame"), none, .plain, #[(some (.ref 95)), (some (.ref 3)), (some (.ref 92)), none, (some (.str "sureplace.errors" 376)), none, (some (.ref 0))]⟩
def o97 : Obj := ⟨(.type "tuple"), none, (.seq #[] 0), #[]⟩
def o98 (W : Params) : Obj := ⟨(.type "dict"), none, (.dict #[⟨PyData.keyHash W "__module__", (.str "__module__" 446), (.str "sureplace.errors" 376)⟩, ⟨PyData.keyHash W "__firstlineno__", (.str "__firstlineno__" 450), (.int (11) 449)⟩, ⟨PyData.keyHash W "__static_attributes__", (.str "__static_attributes__" 451), (.ref 97)⟩, ⟨PyData.keyHash W "__doc__", (.str "__doc__" 452), .none⟩] 2), #[]⟩
def o99 : Obj := ⟨(.type "type"), none, (.cls ⟨"InvalidQuestion", [(.ref 62)], [(.ref 99), (.ref 62), (.type "ValueError"), (.type "Exception"), (.type "BaseException"), (.type "object")], 98, "InvalidQuestion", true, [], [], false, none, false⟩), #[(some (.ref 90)), none, (some (.str "InvalidQuestion" 439)), (some (.str "InvalidQuestion" 447)), (some (.builtin "ValueError.__new__")), (some (.bool true))]⟩
def o100 : Obj := ⟨(.type "super"), none, (.fields #[(.ref 99), (.ref 99), (.ref 99)]), #[]⟩
def o101 : Obj := ⟨(.type "builtin_function_or_method"), none, (.fields #[(.builtin "object.__init_subclass__"), (.ref 99)]), #[]⟩
def o102 : Obj := ⟨(.type "tuple"), none, (.seq #[] 0), #[]⟩
def o103 : Obj := ⟨.none, none, (.fields #[]), #[]⟩
def o104 : Obj := ⟨.none, none, (.func ⟨"all_within", "all_within", defArgs (Pg.topS 8), .stmts (defBody (Pg.topS 8)), defScope (Pg.topS 8), 0, [], .none, .none, .none, .none, none, .none, .none, 0⟩), #[]⟩
def o105 : Obj := ⟨(.type "code"), none, (.fields #[(.str "all_within" 461), (.str "all_within" 462), (.str "/claim/cut.py" 463), (.int (15) 0), (.int (3) 0), (.int (0) 0), (.int (0) 0), (.int (3) 0), (.ref 102), (.bool true), (.int (370) 0), (.ref 103), .none, .none, .none, (.ref 104), (.int (464) 0), (.int (15) 0), (.str "/claim/cut.py" 465)]), #[]⟩
def o106 : Obj := ⟨(.type "function"), none, (.func ⟨"all_within", "all_within", defArgs (Pg.topS 8), .stmts (defBody (Pg.topS 8)), defScope (Pg.topS 8), 3, [], .none, .none, .none, (.str "sureplace.numbers.bounds" 455), none, (.ref 105), .none, 0⟩), #[]⟩
def o107 : Obj := ⟨(.type "tuple"), none, (.seq #[] 0), #[]⟩
def o108 : Obj := ⟨.none, none, (.fields #[]), #[]⟩
def o109 : Obj := ⟨.none, none, (.func ⟨"sides_within", "sides_within", defArgs (Pg.topS 9), .stmts (defBody (Pg.topS 9)), defScope (Pg.topS 9), 0, [], .none, .none, .none, .none, none, .none, .none, 0⟩), #[]⟩
def o110 : Obj := ⟨(.type "code"), none, (.fields #[(.str "sides_within" 467), (.str "sides_within" 468), (.str "/claim/cut.py" 469), (.int (17) 0), (.int (2) 0), (.int (0) 0), (.int (0) 0), (.int (3) 0), (.ref 107), (.bool true), (.int (370) 0), (.ref 108), .none, .none, .none, (.ref 109), (.int (470) 0), (.int (17) 0), (.str "/claim/cut.py" 471)]), #[]⟩
def o111 : Obj := ⟨(.type "function"), none, (.func ⟨"sides_within", "sides_within", defArgs (Pg.topS 9), .stmts (defBody (Pg.topS 9)), defScope (Pg.topS 9), 3, [], .none, .none, .none, (.str "sureplace.numbers.bounds" 455), none, (.ref 110), .none, 0⟩), #[]⟩
def T1_0 (w : World) : BT := EvH.put (Tb w) [(3, o3_1 w.params), (40, o40_1), (43, o43), (44, o44), (45, o45 w.params), (46, o46), (47, o47), (48, o48), (49, o49), (50, o50), (51, o51), (52, o52), (53, o53), (54, o54), (55, o55), (56, o56), (57, o57), (58, o58), (59, o59), (60, o60), (61, o61 w.params), (62, o62), (63, o63), (64, o64), (65, o65), (66, o66), (67, o67), (68, o68 w.params), (69, o69), (70, o70)]
def T1_1 (w : World) : BT := EvH.put (T1_0 w) [(71, o71), (72, o72), (73, o73), (74, o74 w.params), (75, o75), (76, o76), (77, o77), (78, o78), (79, o79), (80, o80 w.params), (81, o81), (82, o82), (83, o83), (84, o84), (85, o85), (86, o86 w.params), (87, o87), (88, o88), (89, o89), (90, o90), (91, o91), (92, o92 w.params), (93, o93), (94, o94), (95, o95), (96, o96), (97, o97), (98, o98 w.params), (99, o99), (100, o100)]
def T1 (w : World) : BT := EvH.put (T1_1 w) [(101, o101), (102, o102), (103, o103), (104, o104), (105, o105), (106, o106), (107, o107), (108, o108), (109, o109), (110, o110), (111, o111)]
def life1 : Life := { }
def dr1 : Drawn := { }
def x1 (w : World) (os : OsState) : SharedT := ⟨T1 w, 112, life1, #[], dr1, 477, os⟩
def o3_2 (W : Params) : Obj := ⟨(.type "dict"), none, (.dict (EvH.fixL (g3 W) 43 [(0, ⟨PyData.keyHash W "__name__", (.str "__name__" 165), (.str "sureplace.given.readings" 660)⟩)]) 43), #[]⟩
def o40_2 : Obj := ⟨.none, none, (.fields (EvH.fixL g40 78 [])), #[]⟩
def o112 : Obj := ⟨(.type "tuple"), none, (.seq #[] 0), #[]⟩
def o113 : Obj := ⟨(.type "builtin_function_or_method"), none, (.fields #[(.builtin "type.__prepare__"), (.type "type")]), #[]⟩
def o114 (W : Params) : Obj := ⟨(.type "dict"), none, (.dict #[⟨PyData.keyHash W "__module__", (.str "__module__" 484), (.str "sureplace.given.questions" 473)⟩, ⟨PyData.keyHash W "__qualname__", (.str "__qualname__" 486), (.str "Question" 485)⟩, ⟨PyData.keyHash W "__firstlineno__", (.str "__firstlineno__" 488), (.int (21) 487)⟩, ⟨PyData.keyHash W "__init__", (.str "__init__" 501), (.ref 125)⟩, ⟨PyData.keyHash W "__eq__", (.str "__eq__" 509), (.ref 132)⟩, ⟨PyData.keyHash W "__static_attributes__", (.str "__static_attributes__" 516), (.ref 133)⟩] 6), #[]⟩
def o115 : Obj := ⟨(.type "tuple"), none, (.seq #[] 0), #[]⟩
def o116 : Obj := ⟨.none, none, (.fields #[(.int (23) 0), (.int (4) 0), (.ref 124), (.int (41) 0), (.int (4) 0), (.ref 131)]), #[]⟩
def o117 : Obj := ⟨(.type "code"), none, (.fields #[(.str "Question" 479), (.str "Question" 480), (.str "/claim/cut.py" 481), (.int (21) 0), (.int (0) 0), (.int (0) 0), (.int (0) 0), (.int (0) 0), (.ref 115), (.bool false), (.int (370) 0), (.ref 116), .none, .none, .none, .none, (.int (482) 0), (.int (21) 0), (.str "/claim/cut.py" 483)]), #[]⟩
def o118 : Obj := ⟨(.type "frame"), none, .plain, #[(some (.ref 117)), (some (.ref 3)), (some (.ref 114)), none, (some (.str "sureplace.given.questions" 473)), none, (some (.ref 0))]⟩
def o119 : Obj := ⟨(.type "tuple"), none, (.seq #[] 0), #[]⟩
def o120 : Obj := ⟨.none, none, (.fields #[]), #[]⟩
def o121 : Obj := ⟨(.type "tuple"), none, (.seq #[(.str "self" 492), (.str "moment" 493), (.str "root" 494), (.str "liars" 495), (.str "share" 496), (.str "earliest" 497), (.str "latest" 498)] 0), #[]⟩
def o122 : Obj := ⟨(.type "tuple"), none, (.seq #[] 0), #[]⟩
def o123 : Obj := ⟨.none, none, (.func ⟨"__init__", "Question.__init__", defArgs (inClass (Pg.topS 12) 0), .stmts (defBody (inClass (Pg.topS 12) 0)), defScope (inClass (Pg.topS 12) 0), 0, [], .none, .none, .none, .none, none, .none, .none, 0⟩), #[]⟩
def o124 : Obj := ⟨(.type "code"), none, (.fields #[(.str "__init__" 489), (.str "Question.__init__" 490), (.str "/claim/cut.py" 491), (.int (23) 0), (.int (3) 0), (.int (0) 0), (.int (4) 0), (.int (3) 0), (.ref 119), (.bool true), (.int (370) 0), (.ref 120), .none, (.ref 121), (.ref 122), (.ref 123), (.int (499) 0), (.int (23) 0), (.str "/claim/cut.py" 500)]), #[]⟩
def o125 : Obj := ⟨(.type "function"), none, (.func ⟨"__init__", "Question.__init__", defArgs (inClass (Pg.topS 12) 0), .stmts (defBody (inClass (Pg.topS 12) 0)), defScope (inClass (Pg.topS 12) 0), 3, [], .none, .none, .none, (.str "sureplace.given.questions" 473), none, (.ref 124), .none, 0⟩), #[]⟩
def o126 : Obj := ⟨(.type "tuple"), none, (.seq #[] 0), #[]⟩
def o127 : Obj := ⟨.none, none, (.fields #[]), #[]⟩
def o128 : Obj := ⟨(.type "tuple"), none, (.seq #[(.str "self" 505), (.str "other" 506)] 0), #[]⟩
def o129 : Obj := ⟨(.type "tuple"), none, (.seq #[] 0), #[]⟩
def o130 : Obj := ⟨.none, none, (.func ⟨"__eq__", "Question.__eq__", defArgs (inClass (Pg.topS 12) 1), .stmts (defBody (inClass (Pg.topS 12) 1)), defScope (inClass (Pg.topS 12) 1), 0, [], .none, .none, .none, .none, none, .none, .none, 0⟩), #[]⟩
def o131 : Obj := ⟨(.type "code"), none, (.fields #[(.str "__eq__" 502), (.str "Question.__eq__" 503), (.str "/claim/cut.py" 504), (.int (41) 0), (.int (2) 0), (.int (0) 0), (.int (0) 0), (.int (3) 0), (.ref 126), (.bool true), (.int (370) 0), (.ref 127), .none, (.ref 128), (.ref 129), (.ref 130), (.int (507) 0), (.int (41) 0), (.str "/claim/cut.py" 508)]), #[]⟩
def o132 : Obj := ⟨(.type "function"), none, (.func ⟨"__eq__", "Question.__eq__", defArgs (inClass (Pg.topS 12) 1), .stmts (defBody (inClass (Pg.topS 12) 1)), defScope (inClass (Pg.topS 12) 1), 3, [], .none, .none, .none, (.str "sureplace.given.questions" 473), none, (.ref 131), .none, 0⟩), #[]⟩
def o133 : Obj := ⟨(.type "tuple"), none, (.seq #[(.str "earliest" 510), (.str "latest" 511), (.str "liars" 512), (.str "moment" 513), (.str "root" 514), (.str "share" 515)] 0), #[]⟩
def o134 (W : Params) : Obj := ⟨(.type "dict"), none, (.dict #[⟨PyData.keyHash W "__module__", (.str "__module__" 484), (.str "sureplace.given.questions" 473)⟩, ⟨PyData.keyHash W "__firstlineno__", (.str "__firstlineno__" 488), (.int (21) 487)⟩, ⟨PyData.keyHash W "__init__", (.str "__init__" 501), (.ref 125)⟩, ⟨PyData.keyHash W "__eq__", (.str "__eq__" 509), (.ref 132)⟩, ⟨PyData.keyHash W "__static_attributes__", (.str "__static_attributes__" 516), (.ref 133)⟩, ⟨PyData.keyHash W "__dict__", (.str "__dict__" 518), (.ref 136)⟩, ⟨PyData.keyHash W "__weakref__", (.str "__weakref__" 520), (.ref 137)⟩, ⟨PyData.keyHash W "__doc__", (.str "__doc__" 521), .none⟩, ⟨PyData.keyHash W "__hash__", (.str "__hash__" 522), .none⟩] 5), #[]⟩
def o135 : Obj := ⟨(.type "type"), none, (.cls ⟨"Question", [(.type "object")], [(.ref 135), (.type "object")], 134, "Question", true, [], [], false, none, false⟩), #[none, none, (some (.str "Question" 477)), (some (.str "Question" 485)), (some (.builtin "object.__new__")), (some (.bool true))]⟩
def o136 : Obj := ⟨(.type "getset_descriptor"), none, (.fields #[(.str "__dict__" 517), (.ref 135), (.builtin "function.__dict__"), (.builtin "function.__dict__#set")]), #[]⟩
def o137 : Obj := ⟨(.type "getset_descriptor"), none, (.fields #[(.str "__weakref__" 519), (.ref 135), (.builtin "ExceptionGroup.__weakref__"), .none]), #[]⟩
def o138 : Obj := ⟨(.type "super"), none, (.fields #[(.ref 135), (.ref 135), (.ref 135)]), #[]⟩
def o139 : Obj := ⟨(.type "builtin_function_or_method"), none, (.fields #[(.builtin "object.__init_subclass__"), (.ref 135)]), #[]⟩
def o140 : Obj := ⟨(.type "tuple"), none, (.seq #[] 0), #[]⟩
def o141 : Obj := ⟨.none, none, (.fields #[]), #[]⟩
def o142 : Obj := ⟨.none, none, (.func ⟨"asked", "asked", defArgs (Pg.topS 13), .stmts (defBody (Pg.topS 13)), defScope (Pg.topS 13), 0, [], .none, .none, .none, .none, none, .none, .none, 0⟩), #[]⟩
def o143 : Obj := ⟨(.type "code"), none, (.fields #[(.str "asked" 525), (.str "asked" 526), (.str "/claim/cut.py" 527), (.int (43) 0), (.int (2) 0), (.int (0) 0), (.int (0) 0), (.int (3) 0), (.ref 140), (.bool true), (.int (370) 0), (.ref 141), .none, .none, .none, (.ref 142), (.int (528) 0), (.int (43) 0), (.str "/claim/cut.py" 529)]), #[]⟩
def o144 : Obj := ⟨(.type "function"), none, (.func ⟨"asked", "asked", defArgs (Pg.topS 13), .stmts (defBody (Pg.topS 13)), defScope (Pg.topS 13), 3, [], .none, .none, .none, (.str "sureplace.given.questions" 473), none, (.ref 143), .none, 0⟩), #[]⟩
def o145 : Obj := ⟨(.type "tuple"), none, (.seq #[] 0), #[]⟩
def o146 : Obj := ⟨.none, none, (.fields #[]), #[]⟩
def o147 : Obj := ⟨(.type "tuple"), none, (.seq #[(.str "number" 536), (.str "root" 537)] 0), #[]⟩
def o148 : Obj := ⟨(.type "tuple"), none, (.seq #[] 0), #[]⟩
def o149 : Obj := ⟨.none, none, (.func ⟨"root_up", "root_up", defArgs (Pg.topS 15), .stmts (defBody (Pg.topS 15)), defScope (Pg.topS 15), 0, [], .none, .none, .none, .none, none, .none, .none, 0⟩), #[]⟩
def o150 : Obj := ⟨(.type "code"), none, (.fields #[(.str "root_up" 533), (.str "root_up" 534), (.str "/claim/cut.py" 535), (.int (46) 0), (.int (1) 0), (.int (0) 0), (.int (0) 0), (.int (3) 0), (.ref 145), (.bool true), (.int (370) 0), (.ref 146), .none, (.ref 147), (.ref 148), (.ref 149), (.int (538) 0), (.int (46) 0), (.str "/claim/cut.py" 539)]), #[]⟩
def o151 : Obj := ⟨(.type "function"), none, (.func ⟨"root_up", "root_up", defArgs (Pg.topS 15), .stmts (defBody (Pg.topS 15)), defScope (Pg.topS 15), 3, [], .none, .none, .none, (.str "sureplace.numbers.roots" 531), none, (.ref 150), .none, 0⟩), #[]⟩
def o152 : Obj := ⟨(.type "tuple"), none, (.seq #[] 0), #[]⟩
def o153 : Obj := ⟨.none, none, (.fields #[]), #[]⟩
def o154 : Obj := ⟨(.type "tuple"), none, (.seq #[(.str "side" 546), (.str "low" 547), (.str "high" 548)] 0), #[]⟩
def o155 : Obj := ⟨(.type "tuple"), none, (.seq #[] 0), #[]⟩
def o156 : Obj := ⟨.none, none, (.func ⟨"half_side", "half_side", defArgs (Pg.topS 17), .stmts (defBody (Pg.topS 17)), defScope (Pg.topS 17), 0, [], .none, .none, .none, .none, none, .none, .none, 0⟩), #[]⟩
def o157 : Obj := ⟨(.type "code"), none, (.fields #[(.str "half_side" 543), (.str "half_side" 544), (.str "/claim/cut.py" 545), (.int (52) 0), (.int (1) 0), (.int (0) 0), (.int (0) 0), (.int (3) 0), (.ref 152), (.bool true), (.int (370) 0), (.ref 153), .none, (.ref 154), (.ref 155), (.ref 156), (.int (549) 0), (.int (52) 0), (.str "/claim/cut.py" 550)]), #[]⟩
def o158 : Obj := ⟨(.type "function"), none, (.func ⟨"half_side", "half_side", defArgs (Pg.topS 17), .stmts (defBody (Pg.topS 17)), defScope (Pg.topS 17), 3, [], .none, .none, .none, (.str "sureplace.numbers.boxes" 541), none, (.ref 157), .none, 0⟩), #[]⟩
def o159 : Obj := ⟨(.type "tuple"), none, (.seq #[] 0), #[]⟩
def o160 : Obj := ⟨.none, none, (.fields #[]), #[]⟩
def o161 : Obj := ⟨(.type "tuple"), none, (.seq #[(.str "number" 557), (.str "by" 558)] 0), #[]⟩
def o162 : Obj := ⟨(.type "tuple"), none, (.seq #[] 0), #[]⟩
def o163 : Obj := ⟨.none, none, (.func ⟨"quotient_up", "quotient_up", defArgs (Pg.topS 19), .stmts (defBody (Pg.topS 19)), defScope (Pg.topS 19), 0, [], .none, .none, .none, .none, none, .none, .none, 0⟩), #[]⟩
def o164 : Obj := ⟨(.type "code"), none, (.fields #[(.str "quotient_up" 554), (.str "quotient_up" 555), (.str "/claim/cut.py" 556), (.int (56) 0), (.int (2) 0), (.int (0) 0), (.int (0) 0), (.int (3) 0), (.ref 159), (.bool true), (.int (370) 0), (.ref 160), .none, (.ref 161), (.ref 162), (.ref 163), (.int (559) 0), (.int (56) 0), (.str "/claim/cut.py" 560)]), #[]⟩
def o165 : Obj := ⟨(.type "function"), none, (.func ⟨"quotient_up", "quotient_up", defArgs (Pg.topS 19), .stmts (defBody (Pg.topS 19)), defScope (Pg.topS 19), 3, [], .none, .none, .none, (.str "sureplace.numbers.quotients" 552), none, (.ref 164), .none, 0⟩), #[]⟩
def o166 : Obj := ⟨(.type "tuple"), none, (.seq #[] 0), #[]⟩
def o167 : Obj := ⟨.none, none, (.fields #[]), #[]⟩
def o168 : Obj := ⟨.none, none, (.func ⟨"dot", "dot", defArgs (Pg.topS 21), .stmts (defBody (Pg.topS 21)), defScope (Pg.topS 21), 0, [], .none, .none, .none, .none, none, .none, .none, 0⟩), #[]⟩
def o169 : Obj := ⟨(.type "code"), none, (.fields #[(.str "dot" 564), (.str "dot" 565), (.str "/claim/cut.py" 566), (.int (59) 0), (.int (2) 0), (.int (0) 0), (.int (0) 0), (.int (3) 0), (.ref 166), (.bool true), (.int (370) 0), (.ref 167), .none, .none, .none, (.ref 168), (.int (567) 0), (.int (59) 0), (.str "/claim/cut.py" 568)]), #[]⟩
def o170 : Obj := ⟨(.type "function"), none, (.func ⟨"dot", "dot", defArgs (Pg.topS 21), .stmts (defBody (Pg.topS 21)), defScope (Pg.topS 21), 3, [], .none, .none, .none, (.str "sureplace.kinds.spans" 562), none, (.ref 169), .none, 0⟩), #[]⟩
def o171 : Obj := ⟨(.type "tuple"), none, (.seq #[] 0), #[]⟩
def o172 : Obj := ⟨.none, none, (.fields #[]), #[]⟩
def o173 : Obj := ⟨(.type "tuple"), none, (.seq #[(.str "setting" 575), (.str "ticks" 576)] 0), #[]⟩
def o174 : Obj := ⟨(.type "tuple"), none, (.seq #[] 0), #[]⟩
def o175 : Obj := ⟨.none, none, (.func ⟨"reach", "reach", defArgs (Pg.topS 23), .stmts (defBody (Pg.topS 23)), defScope (Pg.topS 23), 0, [], .none, .none, .none, .none, none, .none, .none, 0⟩), #[]⟩
def o176 : Obj := ⟨(.type "code"), none, (.fields #[(.str "reach" 572), (.str "reach" 573), (.str "/claim/cut.py" 574), (.int (62) 0), (.int (2) 0), (.int (0) 0), (.int (0) 0), (.int (3) 0), (.ref 171), (.bool true), (.int (370) 0), (.ref 172), .none, (.ref 173), (.ref 174), (.ref 175), (.int (577) 0), (.int (62) 0), (.str "/claim/cut.py" 578)]), #[]⟩
def o177 : Obj := ⟨(.type "function"), none, (.func ⟨"reach", "reach", defArgs (Pg.topS 23), .stmts (defBody (Pg.topS 23)), defScope (Pg.topS 23), 3, [], .none, .none, .none, (.str "sureplace.motion.going" 570), none, (.ref 176), .none, 0⟩), #[]⟩
def o178 : Obj := ⟨(.type "tuple"), none, (.seq #[] 0), #[]⟩
def o179 : Obj := ⟨.none, none, (.fields #[]), #[]⟩
def o180 : Obj := ⟨(.type "tuple"), none, (.seq #[(.str "setting" 583), (.str "ticks" 584)] 0), #[]⟩
def o181 : Obj := ⟨(.type "tuple"), none, (.seq #[] 0), #[]⟩
def o182 : Obj := ⟨.none, none, (.func ⟨"slip", "slip", defArgs (Pg.topS 24), .stmts (defBody (Pg.topS 24)), defScope (Pg.topS 24), 0, [], .none, .none, .none, .none, none, .none, .none, 0⟩), #[]⟩
def o183 : Obj := ⟨(.type "code"), none, (.fields #[(.str "slip" 580), (.str "slip" 581), (.str "/claim/cut.py" 582), (.int (64) 0), (.int (2) 0), (.int (0) 0), (.int (0) 0), (.int (3) 0), (.ref 178), (.bool true), (.int (370) 0), (.ref 179), .none, (.ref 180), (.ref 181), (.ref 182), (.int (585) 0), (.int (64) 0), (.str "/claim/cut.py" 586)]), #[]⟩
def o184 : Obj := ⟨(.type "function"), none, (.func ⟨"slip", "slip", defArgs (Pg.topS 24), .stmts (defBody (Pg.topS 24)), defScope (Pg.topS 24), 3, [], .none, .none, .none, (.str "sureplace.motion.going" 570), none, (.ref 183), .none, 0⟩), #[]⟩
def o185 : Obj := ⟨(.type "tuple"), none, (.seq #[] 0), #[]⟩
def o186 : Obj := ⟨.none, none, (.fields #[]), #[]⟩
def o187 : Obj := ⟨(.type "tuple"), none, (.seq #[(.str "kind" 593)] 0), #[]⟩
def o188 : Obj := ⟨(.type "tuple"), none, (.seq #[] 0), #[]⟩
def o189 : Obj := ⟨.none, none, (.func ⟨"rate", "rate", defArgs (Pg.topS 26), .stmts (defBody (Pg.topS 26)), defScope (Pg.topS 26), 0, [], .none, .none, .none, .none, none, .none, .none, 0⟩), #[]⟩
def o190 : Obj := ⟨(.type "code"), none, (.fields #[(.str "rate" 590), (.str "rate" 591), (.str "/claim/cut.py" 592), (.int (67) 0), (.int (1) 0), (.int (0) 0), (.int (0) 0), (.int (3) 0), (.ref 185), (.bool true), (.int (370) 0), (.ref 186), .none, (.ref 187), (.ref 188), (.ref 189), (.int (594) 0), (.int (67) 0), (.str "/claim/cut.py" 595)]), #[]⟩
def o191 : Obj := ⟨(.type "function"), none, (.func ⟨"rate", "rate", defArgs (Pg.topS 26), .stmts (defBody (Pg.topS 26)), defScope (Pg.topS 26), 3, [], .none, .none, .none, (.str "sureplace.kinds.exclusion" 588), none, (.ref 190), .none, 0⟩), #[]⟩
def o192 : Obj := ⟨(.type "tuple"), none, (.seq #[] 0), #[]⟩
def o193 : Obj := ⟨.none, none, (.fields #[]), #[]⟩
def o194 : Obj := ⟨(.type "tuple"), none, (.seq #[(.str "kind" 600)] 0), #[]⟩
def o195 : Obj := ⟨(.type "tuple"), none, (.seq #[] 0), #[]⟩
def o196 : Obj := ⟨.none, none, (.func ⟨"clock_rate", "clock_rate", defArgs (Pg.topS 27), .stmts (defBody (Pg.topS 27)), defScope (Pg.topS 27), 0, [], .none, .none, .none, .none, none, .none, .none, 0⟩), #[]⟩
def o197 : Obj := ⟨(.type "code"), none, (.fields #[(.str "clock_rate" 597), (.str "clock_rate" 598), (.str "/claim/cut.py" 599), (.int (73) 0), (.int (1) 0), (.int (0) 0), (.int (0) 0), (.int (3) 0), (.ref 192), (.bool true), (.int (370) 0), (.ref 193), .none, (.ref 194), (.ref 195), (.ref 196), (.int (601) 0), (.int (73) 0), (.str "/claim/cut.py" 602)]), #[]⟩
def o198 : Obj := ⟨(.type "function"), none, (.func ⟨"clock_rate", "clock_rate", defArgs (Pg.topS 27), .stmts (defBody (Pg.topS 27)), defScope (Pg.topS 27), 3, [], .none, .none, .none, (.str "sureplace.kinds.exclusion" 588), none, (.ref 197), .none, 0⟩), #[]⟩
def o199 : Obj := ⟨(.type "tuple"), none, (.seq #[] 0), #[]⟩
def o200 : Obj := ⟨.none, none, (.fields #[]), #[]⟩
def o201 : Obj := ⟨(.type "tuple"), none, (.seq #[(.str "kind" 607)] 0), #[]⟩
def o202 : Obj := ⟨(.type "tuple"), none, (.seq #[] 0), #[]⟩
def o203 : Obj := ⟨.none, none, (.func ⟨"moved", "moved", defArgs (Pg.topS 28), .stmts (defBody (Pg.topS 28)), defScope (Pg.topS 28), 0, [], .none, .none, .none, .none, none, .none, .none, 0⟩), #[]⟩
def o204 : Obj := ⟨(.type "code"), none, (.fields #[(.str "moved" 604), (.str "moved" 605), (.str "/claim/cut.py" 606), (.int (75) 0), (.int (1) 0), (.int (0) 0), (.int (0) 0), (.int (3) 0), (.ref 199), (.bool true), (.int (370) 0), (.ref 200), .none, (.ref 201), (.ref 202), (.ref 203), (.int (608) 0), (.int (75) 0), (.str "/claim/cut.py" 609)]), #[]⟩
def o205 : Obj := ⟨(.type "function"), none, (.func ⟨"moved", "moved", defArgs (Pg.topS 28), .stmts (defBody (Pg.topS 28)), defScope (Pg.topS 28), 3, [], .none, .none, .none, (.str "sureplace.kinds.exclusion" 588), none, (.ref 204), .none, 0⟩), #[]⟩
def o206 : Obj := ⟨(.type "tuple"), none, (.seq #[] 0), #[]⟩
def o207 : Obj := ⟨.none, none, (.fields #[]), #[]⟩
def o208 : Obj := ⟨(.type "tuple"), none, (.seq #[(.str "setting" 616), (.str "share" 617), (.str "half" 618)] 0), #[]⟩
def o209 : Obj := ⟨(.type "tuple"), none, (.seq #[] 0), #[]⟩
def o210 : Obj := ⟨.none, none, (.func ⟨"cell_radius", "cell_radius", defArgs (Pg.topS 30), .stmts (defBody (Pg.topS 30)), defScope (Pg.topS 30), 0, [], .none, .none, .none, .none, none, .none, .none, 0⟩), #[]⟩
def o211 : Obj := ⟨(.type "code"), none, (.fields #[(.str "cell_radius" 613), (.str "cell_radius" 614), (.str "/claim/cut.py" 615), (.int (80) 0), (.int (2) 0), (.int (0) 0), (.int (0) 0), (.int (3) 0), (.ref 206), (.bool true), (.int (370) 0), (.ref 207), .none, (.ref 208), (.ref 209), (.ref 210), (.int (619) 0), (.int (80) 0), (.str "/claim/cut.py" 620)]), #[]⟩
def o212 : Obj := ⟨(.type "function"), none, (.func ⟨"cell_radius", "cell_radius", defArgs (Pg.topS 30), .stmts (defBody (Pg.topS 30)), defScope (Pg.topS 30), 3, [], .none, .none, .none, (.str "sureplace.witness.widening" 611), none, (.ref 211), .none, 0⟩), #[]⟩
def o213 : Obj := ⟨(.type "tuple"), none, (.seq #[] 0), #[]⟩
def o214 : Obj := ⟨.none, none, (.fields #[]), #[]⟩
def o215 : Obj := ⟨.none, none, (.func ⟨"stretch", "stretch", defArgs (Pg.topS 31), .stmts (defBody (Pg.topS 31)), defScope (Pg.topS 31), 0, [], .none, .none, .none, .none, none, .none, .none, 0⟩), #[]⟩
def o216 : Obj := ⟨(.type "code"), none, (.fields #[(.str "stretch" 622), (.str "stretch" 623), (.str "/claim/cut.py" 624), (.int (83) 0), (.int (3) 0), (.int (0) 0), (.int (0) 0), (.int (3) 0), (.ref 213), (.bool true), (.int (370) 0), (.ref 214), .none, .none, .none, (.ref 215), (.int (625) 0), (.int (83) 0), (.str "/claim/cut.py" 626)]), #[]⟩
def o217 : Obj := ⟨(.type "function"), none, (.func ⟨"stretch", "stretch", defArgs (Pg.topS 31), .stmts (defBody (Pg.topS 31)), defScope (Pg.topS 31), 3, [], .none, .none, .none, (.str "sureplace.witness.widening" 611), none, (.ref 216), .none, 0⟩), #[]⟩
def o218 : Obj := ⟨(.type "tuple"), none, (.seq #[] 0), #[]⟩
def o219 : Obj := ⟨.none, none, (.fields #[]), #[]⟩
def o220 : Obj := ⟨(.type "tuple"), none, (.seq #[(.str "setting" 631), (.str "share" 632), (.str "kind" 633)] 0), #[]⟩
def o221 : Obj := ⟨(.type "tuple"), none, (.seq #[] 0), #[]⟩
def o222 : Obj := ⟨.none, none, (.func ⟨"spread", "spread", defArgs (Pg.topS 32), .stmts (defBody (Pg.topS 32)), defScope (Pg.topS 32), 0, [], .none, .none, .none, .none, none, .none, .none, 0⟩), #[]⟩
def o223 : Obj := ⟨(.type "code"), none, (.fields #[(.str "spread" 628), (.str "spread" 629), (.str "/claim/cut.py" 630), (.int (86) 0), (.int (3) 0), (.int (0) 0), (.int (0) 0), (.int (3) 0), (.ref 218), (.bool true), (.int (370) 0), (.ref 219), .none, (.ref 220), (.ref 221), (.ref 222), (.int (634) 0), (.int (86) 0), (.str "/claim/cut.py" 635)]), #[]⟩
def o224 : Obj := ⟨(.type "function"), none, (.func ⟨"spread", "spread", defArgs (Pg.topS 32), .stmts (defBody (Pg.topS 32)), defScope (Pg.topS 32), 3, [], .none, .none, .none, (.str "sureplace.witness.widening" 611), none, (.ref 223), .none, 0⟩), #[]⟩
def o225 : Obj := ⟨(.type "tuple"), none, (.seq #[] 0), #[]⟩
def o226 : Obj := ⟨.none, none, (.fields #[]), #[]⟩
def o227 : Obj := ⟨(.type "tuple"), none, (.seq #[(.str "setting" 640), (.str "question" 641), (.str "reading" 642), (.str "kind" 643), (.str "late" 644)] 0), #[]⟩
def o228 : Obj := ⟨(.type "tuple"), none, (.seq #[] 0), #[]⟩
def o229 : Obj := ⟨.none, none, (.func ⟨"margin", "margin", defArgs (Pg.topS 33), .stmts (defBody (Pg.topS 33)), defScope (Pg.topS 33), 0, [], .none, .none, .none, .none, none, .none, .none, 0⟩), #[]⟩
def o230 : Obj := ⟨(.type "code"), none, (.fields #[(.str "margin" 637), (.str "margin" 638), (.str "/claim/cut.py" 639), (.int (88) 0), (.int (3) 0), (.int (0) 0), (.int (0) 0), (.int (3) 0), (.ref 225), (.bool true), (.int (370) 0), (.ref 226), .none, (.ref 227), (.ref 228), (.ref 229), (.int (645) 0), (.int (88) 0), (.str "/claim/cut.py" 646)]), #[]⟩
def o231 : Obj := ⟨(.type "function"), none, (.func ⟨"margin", "margin", defArgs (Pg.topS 33), .stmts (defBody (Pg.topS 33)), defScope (Pg.topS 33), 3, [], .none, .none, .none, (.str "sureplace.witness.widening" 611), none, (.ref 230), .none, 0⟩), #[]⟩
def o232 : Obj := ⟨(.type "tuple"), none, (.seq #[] 0), #[]⟩
def o233 : Obj := ⟨.none, none, (.fields #[]), #[]⟩
def o234 : Obj := ⟨.none, none, (.func ⟨"is_name", "is_name", defArgs (Pg.topS 37), .stmts (defBody (Pg.topS 37)), defScope (Pg.topS 37), 0, [], .none, .none, .none, .none, none, .none, .none, 0⟩), #[]⟩
def o235 : Obj := ⟨(.type "code"), none, (.fields #[(.str "is_name" 654), (.str "is_name" 655), (.str "/claim/cut.py" 656), (.int (95) 0), (.int (1) 0), (.int (0) 0), (.int (0) 0), (.int (3) 0), (.ref 232), (.bool true), (.int (370) 0), (.ref 233), .none, .none, .none, (.ref 234), (.int (657) 0), (.int (95) 0), (.str "/claim/cut.py" 658)]), #[]⟩
def o236 : Obj := ⟨(.type "function"), none, (.func ⟨"is_name", "is_name", defArgs (Pg.topS 37), .stmts (defBody (Pg.topS 37)), defScope (Pg.topS 37), 3, [], .none, .none, .none, (.str "sureplace.given.names" 648), none, (.ref 235), .none, 0⟩), #[]⟩
def o237 : Obj := ⟨(.type "tuple"), none, (.seq #[] 0), #[]⟩
def o238 : Obj := ⟨.none, none, (.fields #[]), #[]⟩
def o239 : Obj := ⟨.none, none, (.func ⟨"_direction_holds", "_direction_holds", defArgs (Pg.topS 42), .stmts (defBody (Pg.topS 42)), defScope (Pg.topS 42), 0, [], .none, .none, .none, .none, none, .none, .none, 0⟩), #[]⟩
def o240 : Obj := ⟨(.type "code"), none, (.fields #[(.str "_direction_holds" 670), (.str "_direction_holds" 671), (.str "/claim/cut.py" 672), (.int (101) 0), (.int (1) 0), (.int (0) 0), (.int (0) 0), (.int (3) 0), (.ref 237), (.bool true), (.int (370) 0), (.ref 238), .none, .none, .none, (.ref 239), (.int (673) 0), (.int (101) 0), (.str "/claim/cut.py" 674)]), #[]⟩
def o241 : Obj := ⟨(.type "function"), none, (.func ⟨"_direction_holds", "_direction_holds", defArgs (Pg.topS 42), .stmts (defBody (Pg.topS 42)), defScope (Pg.topS 42), 3, [], .none, .none, .none, (.str "sureplace.given.readings" 660), none, (.ref 240), .none, 0⟩), #[]⟩
def o242 : Obj := ⟨(.type "tuple"), none, (.seq #[] 0), #[]⟩
def o243 : Obj := ⟨.none, none, (.fields #[]), #[]⟩
def o244 : Obj := ⟨.none, none, (.func ⟨"_boxes_hold", "_boxes_hold", defArgs (Pg.topS 43), .stmts (defBody (Pg.topS 43)), defScope (Pg.topS 43), 0, [], .none, .none, .none, .none, none, .none, .none, 0⟩), #[]⟩
def o245 : Obj := ⟨(.type "code"), none, (.fields #[(.str "_boxes_hold" 676), (.str "_boxes_hold" 677), (.str "/claim/cut.py" 678), (.int (103) 0), (.int (1) 0), (.int (0) 0), (.int (0) 0), (.int (3) 0), (.ref 242), (.bool true), (.int (370) 0), (.ref 243), .none, .none, .none, (.ref 244), (.int (679) 0), (.int (103) 0), (.str "/claim/cut.py" 680)]), #[]⟩
def o246 : Obj := ⟨(.type "function"), none, (.func ⟨"_boxes_hold", "_boxes_hold", defArgs (Pg.topS 43), .stmts (defBody (Pg.topS 43)), defScope (Pg.topS 43), 3, [], .none, .none, .none, (.str "sureplace.given.readings" 660), none, (.ref 245), .none, 0⟩), #[]⟩
def o247 : Obj := ⟨(.type "tuple"), none, (.seq #[] 0), #[]⟩
def o248 : Obj := ⟨.none, none, (.fields #[]), #[]⟩
def o249 : Obj := ⟨.none, none, (.func ⟨"_kind_holds", "_kind_holds", defArgs (Pg.topS 44), .stmts (defBody (Pg.topS 44)), defScope (Pg.topS 44), 0, [], .none, .none, .none, .none, none, .none, .none, 0⟩), #[]⟩
def o250 : Obj := ⟨(.type "code"), none, (.fields #[(.str "_kind_holds" 682), (.str "_kind_holds" 683), (.str "/claim/cut.py" 684), (.int (105) 0), (.int (1) 0), (.int (0) 0), (.int (0) 0), (.int (3) 0), (.ref 247), (.bool true), (.int (370) 0), (.ref 248), .none, .none, .none, (.ref 249), (.int (685) 0), (.int (105) 0), (.str "/claim/cut.py" 686)]), #[]⟩
def o251 : Obj := ⟨(.type "function"), none, (.func ⟨"_kind_holds", "_kind_holds", defArgs (Pg.topS 44), .stmts (defBody (Pg.topS 44)), defScope (Pg.topS 44), 3, [], .none, .none, .none, (.str "sureplace.given.readings" 660), none, (.ref 250), .none, 0⟩), #[]⟩
def o252 : Obj := ⟨(.type "tuple"), none, (.seq #[] 0), #[]⟩
def o253 : Obj := ⟨(.type "builtin_function_or_method"), none, (.fields #[(.builtin "type.__prepare__"), (.type "type")]), #[]⟩
def o254 (W : Params) : Obj := ⟨(.type "dict"), none, (.dict #[⟨PyData.keyHash W "__module__", (.str "__module__" 695), (.str "sureplace.given.readings" 660)⟩, ⟨PyData.keyHash W "__qualname__", (.str "__qualname__" 697), (.str "Reading" 696)⟩, ⟨PyData.keyHash W "__firstlineno__", (.str "__firstlineno__" 699), (.int (111) 698)⟩, ⟨PyData.keyHash W "__init__", (.str "__init__" 717), (.ref 266)⟩, ⟨PyData.keyHash W "__eq__", (.str "__eq__" 725), (.ref 273)⟩, ⟨PyData.keyHash W "__static_attributes__", (.str "__static_attributes__" 733), (.ref 274)⟩] 6), #[]⟩
def o255 : Obj := ⟨(.type "tuple"), none, (.seq #[] 0), #[]⟩
def o256 : Obj := ⟨.none, none, (.fields #[(.int (113) 0), (.int (4) 0), (.ref 265), (.int (132) 0), (.int (4) 0), (.ref 272)]), #[]⟩
def o257 : Obj := ⟨(.type "code"), none, (.fields #[(.str "Reading" 690), (.str "Reading" 691), (.str "/claim/cut.py" 692), (.int (111) 0), (.int (0) 0), (.int (0) 0), (.int (0) 0), (.int (0) 0), (.ref 255), (.bool false), (.int (370) 0), (.ref 256), .none, .none, .none, .none, (.int (693) 0), (.int (111) 0), (.str "/claim/cut.py" 694)]), #[]⟩
def o258 : Obj := ⟨(.type "frame"), none, .plain, #[(some (.ref 257)), (some (.ref 3)), (some (.ref 254)), none, (some (.str "sureplace.given.readings" 660)), none, (some (.ref 0))]⟩
def o259 (W : Params) : Obj := ⟨(.type "dict"), none, (.dict #[⟨PyData.keyHash W "late", (.str "late" 702), (.int (0) 700)⟩, ⟨PyData.keyHash W "near", (.str "near" 703), (.int (0) 701)⟩] 2), #[]⟩
def o260 : Obj := ⟨(.type "tuple"), none, (.seq #[] 0), #[]⟩
def o261 : Obj := ⟨.none, none, (.fields #[]), #[]⟩
def o262 : Obj := ⟨(.type "tuple"), none, (.seq #[(.str "self" 707), (.str "source" 708), (.str "moment" 709), (.str "kind" 710), (.str "low" 711), (.str "high" 712), (.str "late" 713), (.str "near" 714)] 0), #[]⟩
def o263 : Obj := ⟨(.type "tuple"), none, (.seq #[] 0), #[]⟩
def o264 : Obj := ⟨.none, none, (.func ⟨"__init__", "Reading.__init__", defArgs (inClass (Pg.topS 45) 0), .stmts (defBody (inClass (Pg.topS 45) 0)), defScope (inClass (Pg.topS 45) 0), 0, [], .none, .none, .none, .none, none, .none, .none, 0⟩), #[]⟩
def o265 : Obj := ⟨(.type "code"), none, (.fields #[(.str "__init__" 704), (.str "Reading.__init__" 705), (.str "/claim/cut.py" 706), (.int (113) 0), (.int (4) 0), (.int (0) 0), (.int (4) 0), (.int (3) 0), (.ref 260), (.bool true), (.int (370) 0), (.ref 261), .none, (.ref 262), (.ref 263), (.ref 264), (.int (715) 0), (.int (113) 0), (.str "/claim/cut.py" 716)]), #[]⟩
def o266 : Obj := ⟨(.type "function"), none, (.func ⟨"__init__", "Reading.__init__", defArgs (inClass (Pg.topS 45) 0), .stmts (defBody (inClass (Pg.topS 45) 0)), defScope (inClass (Pg.topS 45) 0), 3, [], .none, (.ref 259), .none, (.str "sureplace.given.readings" 660), none, (.ref 265), .none, 0⟩), #[]⟩
def o267 : Obj := ⟨(.type "tuple"), none, (.seq #[] 0), #[]⟩
def o268 : Obj := ⟨.none, none, (.fields #[]), #[]⟩
def o269 : Obj := ⟨(.type "tuple"), none, (.seq #[(.str "self" 721), (.str "other" 722)] 0), #[]⟩
def o270 : Obj := ⟨(.type "tuple"), none, (.seq #[] 0), #[]⟩
def o271 : Obj := ⟨.none, none, (.func ⟨"__eq__", "Reading.__eq__", defArgs (inClass (Pg.topS 45) 1), .stmts (defBody (inClass (Pg.topS 45) 1)), defScope (inClass (Pg.topS 45) 1), 0, [], .none, .none, .none, .none, none, .none, .none, 0⟩), #[]⟩
def o272 : Obj := ⟨(.type "code"), none, (.fields #[(.str "__eq__" 718), (.str "Reading.__eq__" 719), (.str "/claim/cut.py" 720), (.int (132) 0), (.int (2) 0), (.int (0) 0), (.int (0) 0), (.int (3) 0), (.ref 267), (.bool true), (.int (370) 0), (.ref 268), .none, (.ref 269), (.ref 270), (.ref 271), (.int (723) 0), (.int (132) 0), (.str "/claim/cut.py" 724)]), #[]⟩
def o273 : Obj := ⟨(.type "function"), none, (.func ⟨"__eq__", "Reading.__eq__", defArgs (inClass (Pg.topS 45) 1), .stmts (defBody (inClass (Pg.topS 45) 1)), defScope (inClass (Pg.topS 45) 1), 3, [], .none, .none, .none, (.str "sureplace.given.readings" 660), none, (.ref 272), .none, 0⟩), #[]⟩
def o274 : Obj := ⟨(.type "tuple"), none, (.seq #[(.str "high" 726), (.str "kind" 727), (.str "late" 728), (.str "low" 729), (.str "moment" 730), (.str "near" 731), (.str "source" 732)] 0), #[]⟩
def o275 (W : Params) : Obj := ⟨(.type "dict"), none, (.dict #[⟨PyData.keyHash W "__module__", (.str "__module__" 695), (.str "sureplace.given.readings" 660)⟩, ⟨PyData.keyHash W "__firstlineno__", (.str "__firstlineno__" 699), (.int (111) 698)⟩, ⟨PyData.keyHash W "__init__", (.str "__init__" 717), (.ref 266)⟩, ⟨PyData.keyHash W "__eq__", (.str "__eq__" 725), (.ref 273)⟩, ⟨PyData.keyHash W "__static_attributes__", (.str "__static_attributes__" 733), (.ref 274)⟩, ⟨PyData.keyHash W "__dict__", (.str "__dict__" 735), (.ref 277)⟩, ⟨PyData.keyHash W "__weakref__", (.str "__weakref__" 737), (.ref 278)⟩, ⟨PyData.keyHash W "__doc__", (.str "__doc__" 738), .none⟩, ⟨PyData.keyHash W "__hash__", (.str "__hash__" 739), .none⟩] 5), #[]⟩
def o276 : Obj := ⟨(.type "type"), none, (.cls ⟨"Reading", [(.type "object")], [(.ref 276), (.type "object")], 275, "Reading", true, [], [], false, none, false⟩), #[none, none, (some (.str "Reading" 688)), (some (.str "Reading" 696)), (some (.builtin "object.__new__")), (some (.bool true))]⟩
def o277 : Obj := ⟨(.type "getset_descriptor"), none, (.fields #[(.str "__dict__" 734), (.ref 276), (.builtin "function.__dict__"), (.builtin "function.__dict__#set")]), #[]⟩
def o278 : Obj := ⟨(.type "getset_descriptor"), none, (.fields #[(.str "__weakref__" 736), (.ref 276), (.builtin "ExceptionGroup.__weakref__"), .none]), #[]⟩
def o279 : Obj := ⟨(.type "super"), none, (.fields #[(.ref 276), (.ref 276), (.ref 276)]), #[]⟩
def o280 : Obj := ⟨(.type "builtin_function_or_method"), none, (.fields #[(.builtin "object.__init_subclass__"), (.ref 276)]), #[]⟩
def T2_0 (w : World) : BT := EvH.put (T1 w) [(3, o3_2 w.params), (40, o40_2), (112, o112), (113, o113), (114, o114 w.params), (115, o115), (116, o116), (117, o117), (118, o118), (119, o119), (120, o120), (121, o121), (122, o122), (123, o123), (124, o124), (125, o125), (126, o126), (127, o127), (128, o128), (129, o129), (130, o130), (131, o131), (132, o132), (133, o133), (134, o134 w.params), (135, o135), (136, o136), (137, o137), (138, o138), (139, o139)]
def T2_1 (w : World) : BT := EvH.put (T2_0 w) [(140, o140), (141, o141), (142, o142), (143, o143), (144, o144), (145, o145), (146, o146), (147, o147), (148, o148), (149, o149), (150, o150), (151, o151), (152, o152), (153, o153), (154, o154), (155, o155), (156, o156), (157, o157), (158, o158), (159, o159), (160, o160), (161, o161), (162, o162), (163, o163), (164, o164), (165, o165), (166, o166), (167, o167), (168, o168), (169, o169)]
def T2_2 (w : World) : BT := EvH.put (T2_1 w) [(170, o170), (171, o171), (172, o172), (173, o173), (174, o174), (175, o175), (176, o176), (177, o177), (178, o178), (179, o179), (180, o180), (181, o181), (182, o182), (183, o183), (184, o184), (185, o185), (186, o186), (187, o187), (188, o188), (189, o189), (190, o190), (191, o191), (192, o192), (193, o193), (194, o194), (195, o195), (196, o196), (197, o197), (198, o198), (199, o199)]
def T2_3 (w : World) : BT := EvH.put (T2_2 w) [(200, o200), (201, o201), (202, o202), (203, o203), (204, o204), (205, o205), (206, o206), (207, o207), (208, o208), (209, o209), (210, o210), (211, o211), (212, o212), (213, o213), (214, o214), (215, o215), (216, o216), (217, o217), (218, o218), (219, o219), (220, o220), (221, o221), (222, o222), (223, o223), (224, o224), (225, o225), (226, o226), (227, o227), (228, o228), (229, o229)]
def T2_4 (w : World) : BT := EvH.put (T2_3 w) [(230, o230), (231, o231), (232, o232), (233, o233), (234, o234), (235, o235), (236, o236), (237, o237), (238, o238), (239, o239), (240, o240), (241, o241), (242, o242), (243, o243), (244, o244), (245, o245), (246, o246), (247, o247), (248, o248), (249, o249), (250, o250), (251, o251), (252, o252), (253, o253), (254, o254 w.params), (255, o255), (256, o256), (257, o257), (258, o258), (259, o259 w.params)]
def T2 (w : World) : BT := EvH.put (T2_4 w) [(260, o260), (261, o261), (262, o262), (263, o263), (264, o264), (265, o265), (266, o266), (267, o267), (268, o268), (269, o269), (270, o270), (271, o271), (272, o272), (273, o273), (274, o274), (275, o275 w.params), (276, o276), (277, o277), (278, o278), (279, o279), (280, o280)]
def life2 : Life := { }
def dr2 : Drawn := { }
def x2 (w : World) (os : OsState) : SharedT := ⟨T2 w, 281, life2, #[], dr2, 742, os⟩
def o3_3 (W : Params) : Obj := ⟨(.type "dict"), none, (.dict (EvH.fixL (g3 W) 63 []) 63), #[]⟩
def o40_3 : Obj := ⟨.none, none, (.fields (EvH.fixL g40 138 [])), #[]⟩
def o281 : Obj := ⟨(.type "tuple"), none, (.seq #[] 0), #[]⟩
def o282 : Obj := ⟨(.type "builtin_function_or_method"), none, (.fields #[(.builtin "type.__prepare__"), (.type "type")]), #[]⟩
def o283 (W : Params) : Obj := ⟨(.type "dict"), none, (.dict #[⟨PyData.keyHash W "__module__", (.str "__module__" 751), (.str "sureplace.given.settings" 742)⟩, ⟨PyData.keyHash W "__qualname__", (.str "__qualname__" 753), (.str "Setting" 752)⟩, ⟨PyData.keyHash W "__firstlineno__", (.str "__firstlineno__" 755), (.int (135) 754)⟩, ⟨PyData.keyHash W "__init__", (.str "__init__" 766), (.ref 294)⟩, ⟨PyData.keyHash W "__eq__", (.str "__eq__" 774), (.ref 301)⟩, ⟨PyData.keyHash W "__static_attributes__", (.str "__static_attributes__" 779), (.ref 302)⟩] 6), #[]⟩
def o284 : Obj := ⟨(.type "tuple"), none, (.seq #[] 0), #[]⟩
def o285 : Obj := ⟨.none, none, (.fields #[(.int (137) 0), (.int (4) 0), (.ref 293), (.int (149) 0), (.int (4) 0), (.ref 300)]), #[]⟩
def o286 : Obj := ⟨(.type "code"), none, (.fields #[(.str "Setting" 746), (.str "Setting" 747), (.str "/claim/cut.py" 748), (.int (135) 0), (.int (0) 0), (.int (0) 0), (.int (0) 0), (.int (0) 0), (.ref 284), (.bool false), (.int (370) 0), (.ref 285), .none, .none, .none, .none, (.int (749) 0), (.int (135) 0), (.str "/claim/cut.py" 750)]), #[]⟩
def o287 : Obj := ⟨(.type "frame"), none, .plain, #[(some (.ref 286)), (some (.ref 3)), (some (.ref 283)), none, (some (.str "sureplace.given.settings" 742)), none, (some (.ref 0))]⟩
def o288 : Obj := ⟨(.type "tuple"), none, (.seq #[] 0), #[]⟩
def o289 : Obj := ⟨.none, none, (.fields #[]), #[]⟩
def o290 : Obj := ⟨(.type "tuple"), none, (.seq #[(.str "self" 759), (.str "dims" 760), (.str "speed" 761), (.str "drift" 762), (.str "per" 763)] 0), #[]⟩
def o291 : Obj := ⟨(.type "tuple"), none, (.seq #[] 0), #[]⟩
def o292 : Obj := ⟨.none, none, (.func ⟨"__init__", "Setting.__init__", defArgs (inClass (Pg.topS 47) 0), .stmts (defBody (inClass (Pg.topS 47) 0)), defScope (inClass (Pg.topS 47) 0), 0, [], .none, .none, .none, .none, none, .none, .none, 0⟩), #[]⟩
def o293 : Obj := ⟨(.type "code"), none, (.fields #[(.str "__init__" 756), (.str "Setting.__init__" 757), (.str "/claim/cut.py" 758), (.int (137) 0), (.int (2) 0), (.int (0) 0), (.int (3) 0), (.int (3) 0), (.ref 288), (.bool true), (.int (370) 0), (.ref 289), .none, (.ref 290), (.ref 291), (.ref 292), (.int (764) 0), (.int (137) 0), (.str "/claim/cut.py" 765)]), #[]⟩
def o294 : Obj := ⟨(.type "function"), none, (.func ⟨"__init__", "Setting.__init__", defArgs (inClass (Pg.topS 47) 0), .stmts (defBody (inClass (Pg.topS 47) 0)), defScope (inClass (Pg.topS 47) 0), 3, [], .none, .none, .none, (.str "sureplace.given.settings" 742), none, (.ref 293), .none, 0⟩), #[]⟩
def o295 : Obj := ⟨(.type "tuple"), none, (.seq #[] 0), #[]⟩
def o296 : Obj := ⟨.none, none, (.fields #[]), #[]⟩
def o297 : Obj := ⟨(.type "tuple"), none, (.seq #[(.str "self" 770), (.str "other" 771)] 0), #[]⟩
def o298 : Obj := ⟨(.type "tuple"), none, (.seq #[] 0), #[]⟩
def o299 : Obj := ⟨.none, none, (.func ⟨"__eq__", "Setting.__eq__", defArgs (inClass (Pg.topS 47) 1), .stmts (defBody (inClass (Pg.topS 47) 1)), defScope (inClass (Pg.topS 47) 1), 0, [], .none, .none, .none, .none, none, .none, .none, 0⟩), #[]⟩
def o300 : Obj := ⟨(.type "code"), none, (.fields #[(.str "__eq__" 767), (.str "Setting.__eq__" 768), (.str "/claim/cut.py" 769), (.int (149) 0), (.int (2) 0), (.int (0) 0), (.int (0) 0), (.int (3) 0), (.ref 295), (.bool true), (.int (370) 0), (.ref 296), .none, (.ref 297), (.ref 298), (.ref 299), (.int (772) 0), (.int (149) 0), (.str "/claim/cut.py" 773)]), #[]⟩
def o301 : Obj := ⟨(.type "function"), none, (.func ⟨"__eq__", "Setting.__eq__", defArgs (inClass (Pg.topS 47) 1), .stmts (defBody (inClass (Pg.topS 47) 1)), defScope (inClass (Pg.topS 47) 1), 3, [], .none, .none, .none, (.str "sureplace.given.settings" 742), none, (.ref 300), .none, 0⟩), #[]⟩
def o302 : Obj := ⟨(.type "tuple"), none, (.seq #[(.str "dims" 775), (.str "drift" 776), (.str "per" 777), (.str "speed" 778)] 0), #[]⟩
def o303 (W : Params) : Obj := ⟨(.type "dict"), none, (.dict #[⟨PyData.keyHash W "__module__", (.str "__module__" 751), (.str "sureplace.given.settings" 742)⟩, ⟨PyData.keyHash W "__firstlineno__", (.str "__firstlineno__" 755), (.int (135) 754)⟩, ⟨PyData.keyHash W "__init__", (.str "__init__" 766), (.ref 294)⟩, ⟨PyData.keyHash W "__eq__", (.str "__eq__" 774), (.ref 301)⟩, ⟨PyData.keyHash W "__static_attributes__", (.str "__static_attributes__" 779), (.ref 302)⟩, ⟨PyData.keyHash W "__dict__", (.str "__dict__" 781), (.ref 305)⟩, ⟨PyData.keyHash W "__weakref__", (.str "__weakref__" 783), (.ref 306)⟩, ⟨PyData.keyHash W "__doc__", (.str "__doc__" 784), .none⟩, ⟨PyData.keyHash W "__hash__", (.str "__hash__" 785), .none⟩] 5), #[]⟩
def o304 : Obj := ⟨(.type "type"), none, (.cls ⟨"Setting", [(.type "object")], [(.ref 304), (.type "object")], 303, "Setting", true, [], [], false, none, false⟩), #[none, none, (some (.str "Setting" 744)), (some (.str "Setting" 752)), (some (.builtin "object.__new__")), (some (.bool true))]⟩
def o305 : Obj := ⟨(.type "getset_descriptor"), none, (.fields #[(.str "__dict__" 780), (.ref 304), (.builtin "function.__dict__"), (.builtin "function.__dict__#set")]), #[]⟩
def o306 : Obj := ⟨(.type "getset_descriptor"), none, (.fields #[(.str "__weakref__" 782), (.ref 304), (.builtin "ExceptionGroup.__weakref__"), .none]), #[]⟩
def o307 : Obj := ⟨(.type "super"), none, (.fields #[(.ref 304), (.ref 304), (.ref 304)]), #[]⟩
def o308 : Obj := ⟨(.type "builtin_function_or_method"), none, (.fields #[(.builtin "object.__init_subclass__"), (.ref 304)]), #[]⟩
def o309 : Obj := ⟨(.type "tuple"), none, (.seq #[] 0), #[]⟩
def o310 : Obj := ⟨.none, none, (.fields #[]), #[]⟩
def o311 : Obj := ⟨(.type "tuple"), none, (.seq #[(.str "script" 793), (.str "count" 794), (.str "rows" 795), (.str "k" 796), (.str "cell" 797)] 0), #[]⟩
def o312 : Obj := ⟨(.type "tuple"), none, (.seq #[] 0), #[]⟩
def o313 : Obj := ⟨.none, none, (.func ⟨"_law_rows", "_law_rows", defArgs (Pg.topS 49), .stmts (defBody (Pg.topS 49)), defScope (Pg.topS 49), 0, [], .none, .none, .none, .none, none, .none, .none, 0⟩), #[]⟩
def o314 : Obj := ⟨(.type "code"), none, (.fields #[(.str "_law_rows" 790), (.str "_law_rows" 791), (.str "/claim/cut.py" 792), (.int (152) 0), (.int (2) 0), (.int (0) 0), (.int (0) 0), (.int (3) 0), (.ref 309), (.bool true), (.int (370) 0), (.ref 310), .none, (.ref 311), (.ref 312), (.ref 313), (.int (798) 0), (.int (152) 0), (.str "/claim/cut.py" 799)]), #[]⟩
def o315 : Obj := ⟨(.type "function"), none, (.func ⟨"_law_rows", "_law_rows", defArgs (Pg.topS 49), .stmts (defBody (Pg.topS 49)), defScope (Pg.topS 49), 3, [], .none, .none, .none, (.str "law_sureplace_k51_how_bounds_are_widened" 788), none, (.ref 314), .none, 0⟩), #[]⟩
def o316 : Obj := ⟨(.type "tuple"), none, (.seq #[] 0), #[]⟩
def o317 : Obj := ⟨.none, none, (.fields #[]), #[]⟩
def o318 : Obj := ⟨(.type "tuple"), none, (.seq #[(.str "number" 804), (.str "low" 805), (.str "high" 806), (.str "_law_turn" 807), (.str "half" 808)] 0), #[]⟩
def o319 : Obj := ⟨(.type "tuple"), none, (.seq #[] 0), #[]⟩
def o320 : Obj := ⟨.none, none, (.func ⟨"_law_root", "_law_root", defArgs (Pg.topS 50), .stmts (defBody (Pg.topS 50)), defScope (Pg.topS 50), 0, [], .none, .none, .none, .none, none, .none, .none, 0⟩), #[]⟩
def o321 : Obj := ⟨(.type "code"), none, (.fields #[(.str "_law_root" 801), (.str "_law_root" 802), (.str "/claim/cut.py" 803), (.int (165) 0), (.int (1) 0), (.int (0) 0), (.int (0) 0), (.int (3) 0), (.ref 316), (.bool true), (.int (370) 0), (.ref 317), .none, (.ref 318), (.ref 319), (.ref 320), (.int (809) 0), (.int (165) 0), (.str "/claim/cut.py" 810)]), #[]⟩
def o322 : Obj := ⟨(.type "function"), none, (.func ⟨"_law_root", "_law_root", defArgs (Pg.topS 50), .stmts (defBody (Pg.topS 50)), defScope (Pg.topS 50), 3, [], .none, .none, .none, (.str "law_sureplace_k51_how_bounds_are_widened" 788), none, (.ref 321), .none, 0⟩), #[]⟩
def o323 : Obj := ⟨(.type "tuple"), none, (.seq #[] 0), #[]⟩
def o324 : Obj := ⟨.none, none, (.fields #[]), #[]⟩
def o325 : Obj := ⟨(.type "tuple"), none, (.seq #[(.str "number" 815), (.str "root" 816)] 0), #[]⟩
def o326 : Obj := ⟨(.type "tuple"), none, (.seq #[] 0), #[]⟩
def o327 : Obj := ⟨.none, none, (.func ⟨"_law_up", "_law_up", defArgs (Pg.topS 51), .stmts (defBody (Pg.topS 51)), defScope (Pg.topS 51), 0, [], .none, .none, .none, .none, none, .none, .none, 0⟩), #[]⟩
def o328 : Obj := ⟨(.type "code"), none, (.fields #[(.str "_law_up" 812), (.str "_law_up" 813), (.str "/claim/cut.py" 814), (.int (181) 0), (.int (1) 0), (.int (0) 0), (.int (0) 0), (.int (3) 0), (.ref 323), (.bool true), (.int (370) 0), (.ref 324), .none, (.ref 325), (.ref 326), (.ref 327), (.int (817) 0), (.int (181) 0), (.str "/claim/cut.py" 818)]), #[]⟩
def o329 : Obj := ⟨(.type "function"), none, (.func ⟨"_law_up", "_law_up", defArgs (Pg.topS 51), .stmts (defBody (Pg.topS 51)), defScope (Pg.topS 51), 3, [], .none, .none, .none, (.str "law_sureplace_k51_how_bounds_are_widened" 788), none, (.ref 328), .none, 0⟩), #[]⟩
def o330 : Obj := ⟨(.type "tuple"), none, (.seq #[] 0), #[]⟩
def o331 : Obj := ⟨.none, none, (.fields #[]), #[]⟩
def o332 : Obj := ⟨(.type "tuple"), none, (.seq #[(.str "row" 823), (.str "base" 824), (.str "count" 825), (.str "digits" 826), (.str "_law_turn" 827)] 0), #[]⟩
def o333 : Obj := ⟨(.type "tuple"), none, (.seq #[] 0), #[]⟩
def o334 : Obj := ⟨.none, none, (.func ⟨"_law_digits", "_law_digits", defArgs (Pg.topS 52), .stmts (defBody (Pg.topS 52)), defScope (Pg.topS 52), 0, [], .none, .none, .none, .none, none, .none, .none, 0⟩), #[]⟩
def o335 : Obj := ⟨(.type "code"), none, (.fields #[(.str "_law_digits" 820), (.str "_law_digits" 821), (.str "/claim/cut.py" 822), (.int (184) 0), (.int (3) 0), (.int (0) 0), (.int (0) 0), (.int (3) 0), (.ref 330), (.bool true), (.int (370) 0), (.ref 331), .none, (.ref 332), (.ref 333), (.ref 334), (.int (828) 0), (.int (184) 0), (.str "/claim/cut.py" 829)]), #[]⟩
def o336 : Obj := ⟨(.type "function"), none, (.func ⟨"_law_digits", "_law_digits", defArgs (Pg.topS 52), .stmts (defBody (Pg.topS 52)), defScope (Pg.topS 52), 3, [], .none, .none, .none, (.str "law_sureplace_k51_how_bounds_are_widened" 788), none, (.ref 335), .none, 0⟩), #[]⟩
def o337 : Obj := ⟨(.type "tuple"), none, (.seq #[] 0), #[]⟩
def o338 : Obj := ⟨.none, none, (.fields #[]), #[]⟩
def o339 : Obj := ⟨(.type "tuple"), none, (.seq #[(.str "row" 834), (.str "dims" 835)] 0), #[]⟩
def o340 : Obj := ⟨(.type "tuple"), none, (.seq #[] 0), #[]⟩
def o341 : Obj := ⟨.none, none, (.func ⟨"_law_setting", "_law_setting", defArgs (Pg.topS 53), .stmts (defBody (Pg.topS 53)), defScope (Pg.topS 53), 0, [], .none, .none, .none, .none, none, .none, .none, 0⟩), #[]⟩
def o342 : Obj := ⟨(.type "code"), none, (.fields #[(.str "_law_setting" 831), (.str "_law_setting" 832), (.str "/claim/cut.py" 833), (.int (190) 0), (.int (1) 0), (.int (0) 0), (.int (0) 0), (.int (3) 0), (.ref 337), (.bool true), (.int (370) 0), (.ref 338), .none, (.ref 339), (.ref 340), (.ref 341), (.int (836) 0), (.int (190) 0), (.str "/claim/cut.py" 837)]), #[]⟩
def o343 : Obj := ⟨(.type "function"), none, (.func ⟨"_law_setting", "_law_setting", defArgs (Pg.topS 53), .stmts (defBody (Pg.topS 53)), defScope (Pg.topS 53), 3, [], .none, .none, .none, (.str "law_sureplace_k51_how_bounds_are_widened" 788), none, (.ref 342), .none, 0⟩), #[]⟩
def o344 : Obj := ⟨(.type "tuple"), none, (.seq #[] 0), #[]⟩
def o345 : Obj := ⟨.none, none, (.fields #[]), #[]⟩
def o346 : Obj := ⟨.none, none, (.func ⟨"_law_velocity", "_law_velocity", defArgs (Pg.topS 54), .stmts (defBody (Pg.topS 54)), defScope (Pg.topS 54), 0, [], .none, .none, .none, .none, none, .none, .none, 0⟩), #[]⟩
def o347 : Obj := ⟨(.type "code"), none, (.fields #[(.str "_law_velocity" 839), (.str "_law_velocity" 840), (.str "/claim/cut.py" 841), (.int (193) 0), (.int (2) 0), (.int (0) 0), (.int (0) 0), (.int (3) 0), (.ref 344), (.bool true), (.int (370) 0), (.ref 345), .none, .none, .none, (.ref 346), (.int (842) 0), (.int (193) 0), (.str "/claim/cut.py" 843)]), #[]⟩
def o348 : Obj := ⟨(.type "function"), none, (.func ⟨"_law_velocity", "_law_velocity", defArgs (Pg.topS 54), .stmts (defBody (Pg.topS 54)), defScope (Pg.topS 54), 3, [], .none, .none, .none, (.str "law_sureplace_k51_how_bounds_are_widened" 788), none, (.ref 347), .none, 0⟩), #[]⟩
def o349 : Obj := ⟨(.type "tuple"), none, (.seq #[] 0), #[]⟩
def o350 : Obj := ⟨.none, none, (.fields #[]), #[]⟩
def o351 : Obj := ⟨.none, none, (.func ⟨"_law_at", "_law_at", defArgs (Pg.topS 55), .stmts (defBody (Pg.topS 55)), defScope (Pg.topS 55), 0, [], .none, .none, .none, .none, none, .none, .none, 0⟩), #[]⟩
def o352 : Obj := ⟨(.type "code"), none, (.fields #[(.str "_law_at" 845), (.str "_law_at" 846), (.str "/claim/cut.py" 847), (.int (201) 0), (.int (2) 0), (.int (0) 0), (.int (0) 0), (.int (3) 0), (.ref 349), (.bool true), (.int (370) 0), (.ref 350), .none, .none, .none, (.ref 351), (.int (848) 0), (.int (201) 0), (.str "/claim/cut.py" 849)]), #[]⟩
def o353 : Obj := ⟨(.type "function"), none, (.func ⟨"_law_at", "_law_at", defArgs (Pg.topS 55), .stmts (defBody (Pg.topS 55)), defScope (Pg.topS 55), 3, [], .none, .none, .none, (.str "law_sureplace_k51_how_bounds_are_widened" 788), none, (.ref 352), .none, 0⟩), #[]⟩
def o354 : Obj := ⟨(.type "tuple"), none, (.seq #[] 0), #[]⟩
def o355 : Obj := ⟨.none, none, (.fields #[]), #[]⟩
def o356 : Obj := ⟨.none, none, (.func ⟨"_law_way", "_law_way", defArgs (Pg.topS 56), .stmts (defBody (Pg.topS 56)), defScope (Pg.topS 56), 0, [], .none, .none, .none, .none, none, .none, .none, 0⟩), #[]⟩
def o357 : Obj := ⟨(.type "code"), none, (.fields #[(.str "_law_way" 851), (.str "_law_way" 852), (.str "/claim/cut.py" 853), (.int (211) 0), (.int (2) 0), (.int (0) 0), (.int (0) 0), (.int (3) 0), (.ref 354), (.bool true), (.int (370) 0), (.ref 355), .none, .none, .none, (.ref 356), (.int (854) 0), (.int (211) 0), (.str "/claim/cut.py" 855)]), #[]⟩
def o358 : Obj := ⟨(.type "function"), none, (.func ⟨"_law_way", "_law_way", defArgs (Pg.topS 56), .stmts (defBody (Pg.topS 56)), defScope (Pg.topS 56), 3, [], .none, .none, .none, (.str "law_sureplace_k51_how_bounds_are_widened" 788), none, (.ref 357), .none, 0⟩), #[]⟩
def o359 : Obj := ⟨(.type "tuple"), none, (.seq #[] 0), #[]⟩
def o360 : Obj := ⟨.none, none, (.fields #[]), #[]⟩
def o361 : Obj := ⟨.none, none, (.func ⟨"_law_square", "_law_square", defArgs (Pg.topS 57), .stmts (defBody (Pg.topS 57)), defScope (Pg.topS 57), 0, [], .none, .none, .none, .none, none, .none, .none, 0⟩), #[]⟩
def o362 : Obj := ⟨(.type "code"), none, (.fields #[(.str "_law_square" 857), (.str "_law_square" 858), (.str "/claim/cut.py" 859), (.int (219) 0), (.int (2) 0), (.int (0) 0), (.int (0) 0), (.int (3) 0), (.ref 359), (.bool true), (.int (370) 0), (.ref 360), .none, .none, .none, (.ref 361), (.int (860) 0), (.int (219) 0), (.str "/claim/cut.py" 861)]), #[]⟩
def o363 : Obj := ⟨(.type "function"), none, (.func ⟨"_law_square", "_law_square", defArgs (Pg.topS 57), .stmts (defBody (Pg.topS 57)), defScope (Pg.topS 57), 3, [], .none, .none, .none, (.str "law_sureplace_k51_how_bounds_are_widened" 788), none, (.ref 362), .none, 0⟩), #[]⟩
def o364 : Obj := ⟨(.type "tuple"), none, (.seq #[] 0), #[]⟩
def o365 : Obj := ⟨.none, none, (.fields #[]), #[]⟩
def o366 : Obj := ⟨.none, none, (.func ⟨"_law_piece", "_law_piece", defArgs (Pg.topS 58), .stmts (defBody (Pg.topS 58)), defScope (Pg.topS 58), 0, [], .none, .none, .none, .none, none, .none, .none, 0⟩), #[]⟩
def o367 : Obj := ⟨(.type "code"), none, (.fields #[(.str "_law_piece" 863), (.str "_law_piece" 864), (.str "/claim/cut.py" 865), (.int (221) 0), (.int (3) 0), (.int (0) 0), (.int (0) 0), (.int (3) 0), (.ref 364), (.bool true), (.int (370) 0), (.ref 365), .none, .none, .none, (.ref 366), (.int (866) 0), (.int (221) 0), (.str "/claim/cut.py" 867)]), #[]⟩
def o368 : Obj := ⟨(.type "function"), none, (.func ⟨"_law_piece", "_law_piece", defArgs (Pg.topS 58), .stmts (defBody (Pg.topS 58)), defScope (Pg.topS 58), 3, [], .none, .none, .none, (.str "law_sureplace_k51_how_bounds_are_widened" 788), none, (.ref 367), .none, 0⟩), #[]⟩
def o369 : Obj := ⟨(.type "tuple"), none, (.seq #[] 0), #[]⟩
def o370 : Obj := ⟨.none, none, (.fields #[]), #[]⟩
def o371 : Obj := ⟨(.type "tuple"), none, (.seq #[(.str "place" 872), (.str "boxes" 873), (.str "best" 874), (.str "box" 875), (.str "square" 876), (.str "k" 877), (.str "gap" 878)] 0), #[]⟩
def o372 : Obj := ⟨(.type "tuple"), none, (.seq #[] 0), #[]⟩
def o373 : Obj := ⟨.none, none, (.func ⟨"_law_boxes", "_law_boxes", defArgs (Pg.topS 59), .stmts (defBody (Pg.topS 59)), defScope (Pg.topS 59), 0, [], .none, .none, .none, .none, none, .none, .none, 0⟩), #[]⟩
def o374 : Obj := ⟨(.type "code"), none, (.fields #[(.str "_law_boxes" 869), (.str "_law_boxes" 870), (.str "/claim/cut.py" 871), (.int (232) 0), (.int (2) 0), (.int (0) 0), (.int (0) 0), (.int (3) 0), (.ref 369), (.bool true), (.int (370) 0), (.ref 370), .none, (.ref 371), (.ref 372), (.ref 373), (.int (879) 0), (.int (232) 0), (.str "/claim/cut.py" 880)]), #[]⟩
def o375 : Obj := ⟨(.type "function"), none, (.func ⟨"_law_boxes", "_law_boxes", defArgs (Pg.topS 59), .stmts (defBody (Pg.topS 59)), defScope (Pg.topS 59), 3, [], .none, .none, .none, (.str "law_sureplace_k51_how_bounds_are_widened" 788), none, (.ref 374), .none, 0⟩), #[]⟩
def o376 : Obj := ⟨(.type "tuple"), none, (.seq #[] 0), #[]⟩
def o377 : Obj := ⟨.none, none, (.fields #[]), #[]⟩
def o378 : Obj := ⟨.none, none, (.func ⟨"_law_value", "_law_value", defArgs (Pg.topS 60), .stmts (defBody (Pg.topS 60)), defScope (Pg.topS 60), 0, [], .none, .none, .none, .none, none, .none, .none, 0⟩), #[]⟩
def o379 : Obj := ⟨(.type "code"), none, (.fields #[(.str "_law_value" 882), (.str "_law_value" 883), (.str "/claim/cut.py" 884), (.int (242) 0), (.int (3) 0), (.int (0) 0), (.int (0) 0), (.int (3) 0), (.ref 376), (.bool true), (.int (370) 0), (.ref 377), .none, .none, .none, (.ref 378), (.int (885) 0), (.int (242) 0), (.str "/claim/cut.py" 886)]), #[]⟩
def o380 : Obj := ⟨(.type "function"), none, (.func ⟨"_law_value", "_law_value", defArgs (Pg.topS 60), .stmts (defBody (Pg.topS 60)), defScope (Pg.topS 60), 3, [], .none, .none, .none, (.str "law_sureplace_k51_how_bounds_are_widened" 788), none, (.ref 379), .none, 0⟩), #[]⟩
def o381 : Obj := ⟨(.type "tuple"), none, (.seq #[] 0), #[]⟩
def o382 : Obj := ⟨.none, none, (.fields #[]), #[]⟩
def o383 : Obj := ⟨.none, none, (.func ⟨"_law_point", "_law_point", defArgs (Pg.topS 61), .stmts (defBody (Pg.topS 61)), defScope (Pg.topS 61), 0, [], .none, .none, .none, .none, none, .none, .none, 0⟩), #[]⟩
def o384 : Obj := ⟨(.type "code"), none, (.fields #[(.str "_law_point" 888), (.str "_law_point" 889), (.str "/claim/cut.py" 890), (.int (258) 0), (.int (2) 0), (.int (0) 0), (.int (0) 0), (.int (3) 0), (.ref 381), (.bool true), (.int (370) 0), (.ref 382), .none, .none, .none, (.ref 383), (.int (891) 0), (.int (258) 0), (.str "/claim/cut.py" 892)]), #[]⟩
def o385 : Obj := ⟨(.type "function"), none, (.func ⟨"_law_point", "_law_point", defArgs (Pg.topS 61), .stmts (defBody (Pg.topS 61)), defScope (Pg.topS 61), 3, [], .none, .none, .none, (.str "law_sureplace_k51_how_bounds_are_widened" 788), none, (.ref 384), .none, 0⟩), #[]⟩
def o386 : Obj := ⟨(.type "tuple"), none, (.seq #[] 0), #[]⟩
def o387 : Obj := ⟨.none, none, (.fields #[]), #[]⟩
def o388 : Obj := ⟨.none, none, (.func ⟨"_law_kind", "_law_kind", defArgs (Pg.topS 62), .stmts (defBody (Pg.topS 62)), defScope (Pg.topS 62), 0, [], .none, .none, .none, .none, none, .none, .none, 0⟩), #[]⟩
def o389 : Obj := ⟨(.type "code"), none, (.fields #[(.str "_law_kind" 894), (.str "_law_kind" 895), (.str "/claim/cut.py" 896), (.int (260) 0), (.int (2) 0), (.int (0) 0), (.int (0) 0), (.int (3) 0), (.ref 386), (.bool true), (.int (370) 0), (.ref 387), .none, .none, .none, (.ref 388), (.int (897) 0), (.int (260) 0), (.str "/claim/cut.py" 898)]), #[]⟩
def o390 : Obj := ⟨(.type "function"), none, (.func ⟨"_law_kind", "_law_kind", defArgs (Pg.topS 62), .stmts (defBody (Pg.topS 62)), defScope (Pg.topS 62), 3, [], .none, .none, .none, (.str "law_sureplace_k51_how_bounds_are_widened" 788), none, (.ref 389), .none, 0⟩), #[]⟩
def o391 : Obj := ⟨(.type "tuple"), none, (.seq #[] 0), #[]⟩
def o392 : Obj := ⟨.none, none, (.fields #[]), #[]⟩
def o393 : Obj := ⟨.none, none, (.func ⟨"_law_moved", "_law_moved", defArgs (Pg.topS 63), .stmts (defBody (Pg.topS 63)), defScope (Pg.topS 63), 0, [], .none, .none, .none, .none, none, .none, .none, 0⟩), #[]⟩
def o394 : Obj := ⟨(.type "code"), none, (.fields #[(.str "_law_moved" 900), (.str "_law_moved" 901), (.str "/claim/cut.py" 902), (.int (278) 0), (.int (2) 0), (.int (0) 0), (.int (0) 0), (.int (3) 0), (.ref 391), (.bool true), (.int (370) 0), (.ref 392), .none, .none, .none, (.ref 393), (.int (903) 0), (.int (278) 0), (.str "/claim/cut.py" 904)]), #[]⟩
def o395 : Obj := ⟨(.type "function"), none, (.func ⟨"_law_moved", "_law_moved", defArgs (Pg.topS 63), .stmts (defBody (Pg.topS 63)), defScope (Pg.topS 63), 3, [], .none, .none, .none, (.str "law_sureplace_k51_how_bounds_are_widened" 788), none, (.ref 394), .none, 0⟩), #[]⟩
def o396 : Obj := ⟨(.type "tuple"), none, (.seq #[] 0), #[]⟩
def o397 : Obj := ⟨.none, none, (.fields #[]), #[]⟩
def o398 : Obj := ⟨(.type "tuple"), none, (.seq #[(.str "way" 909), (.str "dims" 910), (.str "name" 911), (.str "row" 912), (.str "lies" 913), (.str "kind" 914), (.str "moment" 915), (.str "late" 916), (.str "taken" 917), (.str "near" 918), (.str "shift" 919), (.str "there" 920), (.str "low" 921), (.str "high" 922)] 0), #[]⟩
def o399 : Obj := ⟨(.type "tuple"), none, (.seq #[] 0), #[]⟩
def o400 : Obj := ⟨.none, none, (.func ⟨"_law_reading", "_law_reading", defArgs (Pg.topS 64), .stmts (defBody (Pg.topS 64)), defScope (Pg.topS 64), 0, [], .none, .none, .none, .none, none, .none, .none, 0⟩), #[]⟩
def o401 : Obj := ⟨(.type "code"), none, (.fields #[(.str "_law_reading" 906), (.str "_law_reading" 907), (.str "/claim/cut.py" 908), (.int (288) 0), (.int (5) 0), (.int (0) 0), (.int (0) 0), (.int (3) 0), (.ref 396), (.bool true), (.int (370) 0), (.ref 397), .none, (.ref 398), (.ref 399), (.ref 400), (.int (923) 0), (.int (288) 0), (.str "/claim/cut.py" 924)]), #[]⟩
def o402 : Obj := ⟨(.type "function"), none, (.func ⟨"_law_reading", "_law_reading", defArgs (Pg.topS 64), .stmts (defBody (Pg.topS 64)), defScope (Pg.topS 64), 3, [], .none, .none, .none, (.str "law_sureplace_k51_how_bounds_are_widened" 788), none, (.ref 401), .none, 0⟩), #[]⟩
def o403 : Obj := ⟨(.type "tuple"), none, (.seq #[] 0), #[]⟩
def o404 : Obj := ⟨.none, none, (.fields #[]), #[]⟩
def o405 : Obj := ⟨(.type "tuple"), none, (.seq #[(.str "way" 929), (.str "dims" 930), (.str "rows" 931), (.str "many" 932), (.str "names" 933), (.str "liars" 934), (.str "found" 935), (.str "k" 936), (.str "name" 937)] 0), #[]⟩
def o406 : Obj := ⟨(.type "tuple"), none, (.seq #[] 0), #[]⟩
def o407 : Obj := ⟨.none, none, (.func ⟨"_law_readings", "_law_readings", defArgs (Pg.topS 65), .stmts (defBody (Pg.topS 65)), defScope (Pg.topS 65), 0, [], .none, .none, .none, .none, none, .none, .none, 0⟩), #[]⟩
def o408 : Obj := ⟨(.type "code"), none, (.fields #[(.str "_law_readings" 926), (.str "_law_readings" 927), (.str "/claim/cut.py" 928), (.int (304) 0), (.int (6) 0), (.int (0) 0), (.int (0) 0), (.int (3) 0), (.ref 403), (.bool true), (.int (370) 0), (.ref 404), .none, (.ref 405), (.ref 406), (.ref 407), (.int (938) 0), (.int (304) 0), (.str "/claim/cut.py" 939)]), #[]⟩
def o409 : Obj := ⟨(.type "function"), none, (.func ⟨"_law_readings", "_law_readings", defArgs (Pg.topS 65), .stmts (defBody (Pg.topS 65)), defScope (Pg.topS 65), 3, [], .none, .none, .none, (.str "law_sureplace_k51_how_bounds_are_widened" 788), none, (.ref 408), .none, 0⟩), #[]⟩
def o410 : Obj := ⟨(.type "tuple"), none, (.seq #[] 0), #[]⟩
def o411 : Obj := ⟨.none, none, (.fields #[]), #[]⟩
def o412 : Obj := ⟨.none, none, (.func ⟨"_law_question", "_law_question", defArgs (Pg.topS 66), .stmts (defBody (Pg.topS 66)), defScope (Pg.topS 66), 0, [], .none, .none, .none, .none, none, .none, .none, 0⟩), #[]⟩
def o413 : Obj := ⟨(.type "code"), none, (.fields #[(.str "_law_question" 941), (.str "_law_question" 942), (.str "/claim/cut.py" 943), (.int (310) 0), (.int (4) 0), (.int (0) 0), (.int (0) 0), (.int (3) 0), (.ref 410), (.bool true), (.int (370) 0), (.ref 411), .none, .none, .none, (.ref 412), (.int (944) 0), (.int (310) 0), (.str "/claim/cut.py" 945)]), #[]⟩
def o414 : Obj := ⟨(.type "function"), none, (.func ⟨"_law_question", "_law_question", defArgs (Pg.topS 66), .stmts (defBody (Pg.topS 66)), defScope (Pg.topS 66), 3, [], .none, .none, .none, (.str "law_sureplace_k51_how_bounds_are_widened" 788), none, (.ref 413), .none, 0⟩), #[]⟩
def o415 : Obj := ⟨(.type "tuple"), none, (.seq #[] 0), #[]⟩
def o416 : Obj := ⟨.none, none, (.fields #[]), #[]⟩
def o417 : Obj := ⟨(.type "tuple"), none, (.seq #[(.str "script" 950), (.str "rows" 951), (.str "setting" 952), (.str "way" 953), (.str "dims" 954), (.str "question" 955), (.str "readings" 956), (.str "half" 957), (.str "radius" 958), (.str "moments" 959), (.str "number" 960), (.str "reading" 961), (.str "kind" 962), (.str "due" 963), (.str "inside" 964), (.str "kept" 965)] 0), #[]⟩
def o418 : Obj := ⟨(.type "tuple"), none, (.seq #[] 0), #[]⟩
def o419 : Obj := ⟨.none, none, (.func ⟨"law", "law", defArgs (Pg.topS 67), .stmts (defBody (Pg.topS 67)), defScope (Pg.topS 67), 0, [], .none, .none, .none, .none, none, .none, .none, 0⟩), #[]⟩
def o420 : Obj := ⟨(.type "code"), none, (.fields #[(.str "law" 947), (.str "law" 948), (.str "/claim/cut.py" 949), (.int (320) 0), (.int (1) 0), (.int (0) 0), (.int (0) 0), (.int (3) 0), (.ref 415), (.bool true), (.int (370) 0), (.ref 416), .none, (.ref 417), (.ref 418), (.ref 419), (.int (966) 0), (.int (320) 0), (.str "/claim/cut.py" 967)]), #[]⟩
def o421 : Obj := ⟨(.type "function"), none, (.func ⟨"law", "law", defArgs (Pg.topS 67), .stmts (defBody (Pg.topS 67)), defScope (Pg.topS 67), 3, [], .none, .none, .none, (.str "law_sureplace_k51_how_bounds_are_widened" 788), none, (.ref 420), .none, 0⟩), #[]⟩
def T3_0 (w : World) : BT := EvH.put (T2 w) [(3, o3_3 w.params), (40, o40_3), (281, o281), (282, o282), (283, o283 w.params), (284, o284), (285, o285), (286, o286), (287, o287), (288, o288), (289, o289), (290, o290), (291, o291), (292, o292), (293, o293), (294, o294), (295, o295), (296, o296), (297, o297), (298, o298), (299, o299), (300, o300), (301, o301), (302, o302), (303, o303 w.params), (304, o304), (305, o305), (306, o306), (307, o307), (308, o308)]
def T3_1 (w : World) : BT := EvH.put (T3_0 w) [(309, o309), (310, o310), (311, o311), (312, o312), (313, o313), (314, o314), (315, o315), (316, o316), (317, o317), (318, o318), (319, o319), (320, o320), (321, o321), (322, o322), (323, o323), (324, o324), (325, o325), (326, o326), (327, o327), (328, o328), (329, o329), (330, o330), (331, o331), (332, o332), (333, o333), (334, o334), (335, o335), (336, o336), (337, o337), (338, o338)]
def T3_2 (w : World) : BT := EvH.put (T3_1 w) [(339, o339), (340, o340), (341, o341), (342, o342), (343, o343), (344, o344), (345, o345), (346, o346), (347, o347), (348, o348), (349, o349), (350, o350), (351, o351), (352, o352), (353, o353), (354, o354), (355, o355), (356, o356), (357, o357), (358, o358), (359, o359), (360, o360), (361, o361), (362, o362), (363, o363), (364, o364), (365, o365), (366, o366), (367, o367), (368, o368)]
def T3_3 (w : World) : BT := EvH.put (T3_2 w) [(369, o369), (370, o370), (371, o371), (372, o372), (373, o373), (374, o374), (375, o375), (376, o376), (377, o377), (378, o378), (379, o379), (380, o380), (381, o381), (382, o382), (383, o383), (384, o384), (385, o385), (386, o386), (387, o387), (388, o388), (389, o389), (390, o390), (391, o391), (392, o392), (393, o393), (394, o394), (395, o395), (396, o396), (397, o397), (398, o398)]
def T3 (w : World) : BT := EvH.put (T3_3 w) [(399, o399), (400, o400), (401, o401), (402, o402), (403, o403), (404, o404), (405, o405), (406, o406), (407, o407), (408, o408), (409, o409), (410, o410), (411, o411), (412, o412), (413, o413), (414, o414), (415, o415), (416, o416), (417, o417), (418, o418), (419, o419), (420, o420), (421, o421)]
def life3 : Life := { }
def dr3 : Drawn := { }
def x3 (w : World) (os : OsState) : SharedT := ⟨T3 w, 422, life3, #[], dr3, 969, os⟩
def Tf (w : World) : BT := (T3 w)
def lifef : Life := { }
def drf : Drawn := { }
def xf (w : World) (os : OsState) : SharedT := ⟨Tf w, 422, lifef, #[], drf, 969, os⟩
def K (W : Params) : Frag := (nat_lit 2, o2 W) :: (nat_lit 3, o3_3 W) :: (nat_lit 43, o43) :: (nat_lit 46, o46) :: (nat_lit 51, o51) :: (nat_lit 52, o52) :: (nat_lit 53, o53) :: (nat_lit 54, o54) :: (nat_lit 55, o55) :: (nat_lit 56, o56) :: (nat_lit 57, o57) :: (nat_lit 58, o58) :: (nat_lit 59, o59) :: (nat_lit 60, o60) :: (nat_lit 61, o61 W) :: (nat_lit 62, o62) :: (nat_lit 63, o63) :: (nat_lit 66, o66) :: (nat_lit 73, o73) :: (nat_lit 74, o74 W) :: (nat_lit 75, o75) :: (nat_lit 78, o78) :: (nat_lit 85, o85) :: (nat_lit 86, o86 W) :: (nat_lit 87, o87) :: (nat_lit 90, o90) :: (nat_lit 97, o97) :: (nat_lit 98, o98 W) :: (nat_lit 99, o99) :: (nat_lit 102, o102) :: (nat_lit 103, o103) :: (nat_lit 104, o104) :: (nat_lit 105, o105) :: (nat_lit 106, o106) :: (nat_lit 107, o107) :: (nat_lit 108, o108) :: (nat_lit 109, o109) :: (nat_lit 110, o110) :: (nat_lit 111, o111) :: (nat_lit 119, o119) :: (nat_lit 120, o120) :: (nat_lit 121, o121) :: (nat_lit 122, o122) :: (nat_lit 123, o123) :: (nat_lit 124, o124) :: (nat_lit 125, o125) :: (nat_lit 126, o126) :: (nat_lit 127, o127) :: (nat_lit 128, o128) :: (nat_lit 129, o129) :: (nat_lit 130, o130) :: (nat_lit 131, o131) :: (nat_lit 132, o132) :: (nat_lit 133, o133) :: (nat_lit 134, o134 W) :: (nat_lit 135, o135) :: (nat_lit 136, o136) :: (nat_lit 137, o137) :: (nat_lit 140, o140) :: (nat_lit 141, o141) :: (nat_lit 142, o142) :: (nat_lit 143, o143) :: (nat_lit 144, o144) :: (nat_lit 145, o145) :: (nat_lit 146, o146) :: (nat_lit 147, o147) :: (nat_lit 148, o148) :: (nat_lit 149, o149) :: (nat_lit 150, o150) :: (nat_lit 151, o151) :: (nat_lit 152, o152) :: (nat_lit 153, o153) :: (nat_lit 154, o154) :: (nat_lit 155, o155) :: (nat_lit 156, o156) :: (nat_lit 157, o157) :: (nat_lit 158, o158) :: (nat_lit 159, o159) :: (nat_lit 160, o160) :: (nat_lit 161, o161) :: (nat_lit 162, o162) :: (nat_lit 163, o163) :: (nat_lit 164, o164) :: (nat_lit 165, o165) :: (nat_lit 166, o166) :: (nat_lit 167, o167) :: (nat_lit 168, o168) :: (nat_lit 169, o169) :: (nat_lit 170, o170) :: (nat_lit 171, o171) :: (nat_lit 172, o172) :: (nat_lit 173, o173) :: (nat_lit 174, o174) :: (nat_lit 175, o175) :: (nat_lit 176, o176) :: (nat_lit 177, o177) :: (nat_lit 178, o178) :: (nat_lit 179, o179) :: (nat_lit 180, o180) :: (nat_lit 181, o181) :: (nat_lit 182, o182) :: (nat_lit 183, o183) :: (nat_lit 184, o184) :: (nat_lit 185, o185) :: (nat_lit 186, o186) :: (nat_lit 187, o187) :: (nat_lit 188, o188) :: (nat_lit 189, o189) :: (nat_lit 190, o190) :: (nat_lit 191, o191) :: (nat_lit 192, o192) :: (nat_lit 193, o193) :: (nat_lit 194, o194) :: (nat_lit 195, o195) :: (nat_lit 196, o196) :: (nat_lit 197, o197) :: (nat_lit 198, o198) :: (nat_lit 199, o199) :: (nat_lit 200, o200) :: (nat_lit 201, o201) :: (nat_lit 202, o202) :: (nat_lit 203, o203) :: (nat_lit 204, o204) :: (nat_lit 205, o205) :: (nat_lit 206, o206) :: (nat_lit 207, o207) :: (nat_lit 208, o208) :: (nat_lit 209, o209) :: (nat_lit 210, o210) :: (nat_lit 211, o211) :: (nat_lit 212, o212) :: (nat_lit 213, o213) :: (nat_lit 214, o214) :: (nat_lit 215, o215) :: (nat_lit 216, o216) :: (nat_lit 217, o217) :: (nat_lit 218, o218) :: (nat_lit 219, o219) :: (nat_lit 220, o220) :: (nat_lit 221, o221) :: (nat_lit 222, o222) :: (nat_lit 223, o223) :: (nat_lit 224, o224) :: (nat_lit 225, o225) :: (nat_lit 226, o226) :: (nat_lit 227, o227) :: (nat_lit 228, o228) :: (nat_lit 229, o229) :: (nat_lit 230, o230) :: (nat_lit 231, o231) :: (nat_lit 232, o232) :: (nat_lit 233, o233) :: (nat_lit 234, o234) :: (nat_lit 235, o235) :: (nat_lit 236, o236) :: (nat_lit 237, o237) :: (nat_lit 238, o238) :: (nat_lit 239, o239) :: (nat_lit 240, o240) :: (nat_lit 241, o241) :: (nat_lit 242, o242) :: (nat_lit 243, o243) :: (nat_lit 244, o244) :: (nat_lit 245, o245) :: (nat_lit 246, o246) :: (nat_lit 247, o247) :: (nat_lit 248, o248) :: (nat_lit 249, o249) :: (nat_lit 250, o250) :: (nat_lit 251, o251) :: (nat_lit 259, o259 W) :: (nat_lit 260, o260) :: (nat_lit 261, o261) :: (nat_lit 262, o262) :: (nat_lit 263, o263) :: (nat_lit 264, o264) :: (nat_lit 265, o265) :: (nat_lit 266, o266) :: (nat_lit 267, o267) :: (nat_lit 268, o268) :: (nat_lit 269, o269) :: (nat_lit 270, o270) :: (nat_lit 271, o271) :: (nat_lit 272, o272) :: (nat_lit 273, o273) :: (nat_lit 274, o274) :: (nat_lit 275, o275 W) :: (nat_lit 276, o276) :: (nat_lit 277, o277) :: (nat_lit 278, o278) :: (nat_lit 288, o288) :: (nat_lit 289, o289) :: (nat_lit 290, o290) :: (nat_lit 291, o291) :: (nat_lit 292, o292) :: (nat_lit 293, o293) :: (nat_lit 294, o294) :: (nat_lit 295, o295) :: (nat_lit 296, o296) :: (nat_lit 297, o297) :: (nat_lit 298, o298) :: (nat_lit 299, o299) :: (nat_lit 300, o300) :: (nat_lit 301, o301) :: (nat_lit 302, o302) :: (nat_lit 303, o303 W) :: (nat_lit 304, o304) :: (nat_lit 305, o305) :: (nat_lit 306, o306) :: (nat_lit 309, o309) :: (nat_lit 310, o310) :: (nat_lit 311, o311) :: (nat_lit 312, o312) :: (nat_lit 313, o313) :: (nat_lit 314, o314) :: (nat_lit 315, o315) :: (nat_lit 316, o316) :: (nat_lit 317, o317) :: (nat_lit 318, o318) :: (nat_lit 319, o319) :: (nat_lit 320, o320) :: (nat_lit 321, o321) :: (nat_lit 322, o322) :: (nat_lit 323, o323) :: (nat_lit 324, o324) :: (nat_lit 325, o325) :: (nat_lit 326, o326) :: (nat_lit 327, o327) :: (nat_lit 328, o328) :: (nat_lit 329, o329) :: (nat_lit 330, o330) :: (nat_lit 331, o331) :: (nat_lit 332, o332) :: (nat_lit 333, o333) :: (nat_lit 334, o334) :: (nat_lit 335, o335) :: (nat_lit 336, o336) :: (nat_lit 337, o337) :: (nat_lit 338, o338) :: (nat_lit 339, o339) :: (nat_lit 340, o340) :: (nat_lit 341, o341) :: (nat_lit 342, o342) :: (nat_lit 343, o343) :: (nat_lit 344, o344) :: (nat_lit 345, o345) :: (nat_lit 346, o346) :: (nat_lit 347, o347) :: (nat_lit 348, o348) :: (nat_lit 349, o349) :: (nat_lit 350, o350) :: (nat_lit 351, o351) :: (nat_lit 352, o352) :: (nat_lit 353, o353) :: (nat_lit 354, o354) :: (nat_lit 355, o355) :: (nat_lit 356, o356) :: (nat_lit 357, o357) :: (nat_lit 358, o358) :: (nat_lit 359, o359) :: (nat_lit 360, o360) :: (nat_lit 361, o361) :: (nat_lit 362, o362) :: (nat_lit 363, o363) :: (nat_lit 364, o364) :: (nat_lit 365, o365) :: (nat_lit 366, o366) :: (nat_lit 367, o367) :: (nat_lit 368, o368) :: (nat_lit 369, o369) :: (nat_lit 370, o370) :: (nat_lit 371, o371) :: (nat_lit 372, o372) :: (nat_lit 373, o373) :: (nat_lit 374, o374) :: (nat_lit 375, o375) :: (nat_lit 376, o376) :: (nat_lit 377, o377) :: (nat_lit 378, o378) :: (nat_lit 379, o379) :: (nat_lit 380, o380) :: (nat_lit 381, o381) :: (nat_lit 382, o382) :: (nat_lit 383, o383) :: (nat_lit 384, o384) :: (nat_lit 385, o385) :: (nat_lit 386, o386) :: (nat_lit 387, o387) :: (nat_lit 388, o388) :: (nat_lit 389, o389) :: (nat_lit 390, o390) :: (nat_lit 391, o391) :: (nat_lit 392, o392) :: (nat_lit 393, o393) :: (nat_lit 394, o394) :: (nat_lit 395, o395) :: (nat_lit 396, o396) :: (nat_lit 397, o397) :: (nat_lit 398, o398) :: (nat_lit 399, o399) :: (nat_lit 400, o400) :: (nat_lit 401, o401) :: (nat_lit 402, o402) :: (nat_lit 403, o403) :: (nat_lit 404, o404) :: (nat_lit 405, o405) :: (nat_lit 406, o406) :: (nat_lit 407, o407) :: (nat_lit 408, o408) :: (nat_lit 409, o409) :: (nat_lit 410, o410) :: (nat_lit 411, o411) :: (nat_lit 412, o412) :: (nat_lit 413, o413) :: (nat_lit 414, o414) :: (nat_lit 415, o415) :: (nat_lit 416, o416) :: (nat_lit 417, o417) :: (nat_lit 418, o418) :: (nat_lit 419, o419) :: (nat_lit 420, o420) :: (nat_lit 421, o421) :: []
def as : List Addr := [2, 3, 43, 46, 51, 52, 53, 54, 55, 56, 57, 58, 59, 60, 61, 62, 63, 66, 73, 74, 75, 78, 85, 86, 87, 90, 97, 98, 99, 102, 103, 104, 105, 106, 107, 108, 109, 110, 111, 119, 120, 121, 122, 123, 124, 125, 126, 127, 128, 129, 130, 131, 132, 133, 134, 135, 136, 137, 140, 141, 142, 143, 144, 145, 146, 147, 148, 149, 150, 151, 152, 153, 154, 155, 156, 157, 158, 159, 160, 161, 162, 163, 164, 165, 166, 167, 168, 169, 170, 171, 172, 173, 174, 175, 176, 177, 178, 179, 180, 181, 182, 183, 184, 185, 186, 187, 188, 189, 190, 191, 192, 193, 194, 195, 196, 197, 198, 199, 200, 201, 202, 203, 204, 205, 206, 207, 208, 209, 210, 211, 212, 213, 214, 215, 216, 217, 218, 219, 220, 221, 222, 223, 224, 225, 226, 227, 228, 229, 230, 231, 232, 233, 234, 235, 236, 237, 238, 239, 240, 241, 242, 243, 244, 245, 246, 247, 248, 249, 250, 251, 259, 260, 261, 262, 263, 264, 265, 266, 267, 268, 269, 270, 271, 272, 273, 274, 275, 276, 277, 278, 288, 289, 290, 291, 292, 293, 294, 295, 296, 297, 298, 299, 300, 301, 302, 303, 304, 305, 306, 309, 310, 311, 312, 313, 314, 315, 316, 317, 318, 319, 320, 321, 322, 323, 324, 325, 326, 327, 328, 329, 330, 331, 332, 333, 334, 335, 336, 337, 338, 339, 340, 341, 342, 343, 344, 345, 346, 347, 348, 349, 350, 351, 352, 353, 354, 355, 356, 357, 358, 359, 360, 361, 362, 363, 364, 365, 366, 367, 368, 369, 370, 371, 372, 373, 374, 375, 376, 377, 378, 379, 380, 381, 382, 383, 384, 385, 386, 387, 388, 389, 390, 391, 392, 393, 394, 395, 396, 397, 398, 399, 400, 401, 402, 403, 404, 405, 406, 407, 408, 409, 410, 411, 412, 413, 414, 415, 416, 417, 418, 419, 420, 421]
def B0 : List Stmt := behindTheImports P
def en : Env := ({ scope := P.main.scope, locals := mainNs, globals := mainNs, cells := [], code := .ref 41, frame := some 42 } : Env)
def cE : Code := .body B0 en
def ann : Option Value := (some (.ref 6))
theorem imp (w : World) : (HeadRun.impF (HeadRun.stepQ (HeadRun.denQ HeadRun.tabQ) (opening P) w) 16204 (HeadRun.startT (opening P)) (start (opening P)).2).map EvH.parts = some (Ti w, 39, lifei, #[], dri, 370) := by
  kernel_rfl
theorem fen (w : World) (os : OsState) : (EvH.openB HeadRun.fenceQ P (xi w os)).map EvH.parts = some (T0 w, 39, life0, #[], dr0, 370) := by
  kernel_rfl
theorem opn (w : World) : (EvH.openT (fun q => HeadRun.stepQ (HeadRun.denQ HeadRun.tabQ) q w) HeadRun.fenceQ 16204 P).map EvH.parts = some (T0 w, 39, life0, #[], dr0, 370) := EvH.open_two (imp w) (fen w)
theorem hann (w : World) (os : OsState) : (x0 w os).abs.heap.nsMap mainGlobals "__annotations__" = ann := by
  kernel_rfl
theorem pre (w : World) (os : OsState) : EvH.goK (HeadRun.stepQ (HeadRun.denQ HeadRun.tabQ) P w) 39 ann 12 (x0 w os) (topStub P) = some (xa w os, ⟨HeadRun.denQ HeadRun.tabQ cE, cE, ⟨0, 0, 0, 0⟩, [topFrame ⟨0, 0, 0, 0⟩]⟩) := by
  kernel_rfl
theorem blk (w : World) (os : OsState) : EvH.segF (HeadRun.stepQ (HeadRun.denQ HeadRun.tabQ) P w) 39 ann 1 (xa w os) (blockOf B0 en cE ⟨0, 0, 0, 0⟩ [topFrame ⟨0, 0, 0, 0⟩]) = some (xb w os, cE, ⟨0, 0, 0, 0⟩) := by
  kernel_rfl
def l1 : List Stmt := (B0.drop 0).take 11
theorem p1 (w : World) (os : OsState) : EvH.segF (HeadRun.stepQ (HeadRun.denQ HeadRun.tabQ) P w) 39 ann 978 (xb w os) (piecesOf l1 en cE ⟨0, 0, 0, 0⟩ [topFrame ⟨0, 0, 0, 0⟩]) = some (x1 w os, cE, ⟨20, 0, 20, 10⟩) := by
  kernel_rfl
def l2 : List Stmt := (B0.drop 11).take 34
theorem p2 (w : World) (os : OsState) : EvH.segF (HeadRun.stepQ (HeadRun.denQ HeadRun.tabQ) P w) 39 ann 1201 (x1 w os) (piecesOf l2 en cE ⟨20, 0, 20, 10⟩ [topFrame ⟨0, 0, 0, 0⟩]) = some (x2 w os, cE, ⟨111, 0, 133, 255⟩) := by
  kernel_rfl
def l3 : List Stmt := (B0.drop 45).take 22
theorem p3 (w : World) (os : OsState) : EvH.segF (HeadRun.stepQ (HeadRun.denQ HeadRun.tabQ) P w) 39 ann 862 (x2 w os) (piecesOf l3 en cE ⟨111, 0, 133, 255⟩ [topFrame ⟨0, 0, 0, 0⟩]) = some (x3 w os, cE, ⟨320, 0, 344, 97⟩) := by
  kernel_rfl
theorem fin (w : World) (os : OsState) : HeadRun.goF (HeadRun.stepQ (HeadRun.denQ HeadRun.tabQ) P w) 39 ann 2 (x3 w os) ⟨doneF .next, cE, ⟨320, 0, 344, 97⟩, [topFrame ⟨0, 0, 0, 0⟩]⟩ = some (xf w os) := by
  kernel_rfl
theorem hB : B0 = l1 ++ (l2 ++ (l3 ++ ([]))) := by
  kernel_rfl
theorem run (w : World) (os : OsState) : topRun treeTable P w 39 ann (12 + (1 + (978 + (1201 + (862 + 2))))) (x0 w os).abs (topStub P) = some (xf w os).abs :=
  EvH.chain_pre (env := en) hB (pre w os) (blk w os) (EvH.chain_seg (p1 w os) (EvH.chain_seg (p2 w os) (EvH.chain_seg (p3 w os) (EvH.chain_fin (fin w os)))))
def vw : Program := view P [0, 67]
def loo0 : List PySem.Str := ["SurePlaceError", "InvalidSetting", "InvalidReading", "InvalidQuestion", "LIMIT", "all_within", "sides_within", "MOST_LIARS", "Question", "asked", "root_up", "half_side", "quotient_up", "dot", "reach", "slip", "rate", "clock_rate", "moved", "cell_radius", "stretch", "spread", "margin", "SIGNS", "LONGEST", "is_name", "FAR", "STEEPEST", "MOST_BOXES", "_direction_holds"]
def loo1 : List PySem.Str := ["_boxes_hold", "_kind_holds", "Reading", "Setting", "_law_rows", "_law_root", "_law_up", "_law_digits", "_law_setting", "_law_velocity", "_law_at", "_law_way", "_law_square", "_law_piece", "_law_boxes", "_law_value", "_law_point", "_law_kind", "_law_moved", "_law_reading", "_law_readings", "_law_question"]
def loo : List PySem.Str := loo0 ++ loo1
def lv : List (PySem.Str × WData) := []
def dd : DefRec := EvH.lawDef P 67
abbrev RR : OpenRow := OpenLaw.row PySem.Challenge.rw_sureplace_k51_how_bounds_are_widened
theorem ek (P : Params) : as = (K P).map (·.1) := by
  kernel_rfl
theorem look1 (w : World) (os : OsState) : HeadRun.looksF P (x0 w os).abs.heap (xf w os).abs = true := by
  kernel_rfl
theorem c0 (w : World) (os : OsState) : (HeadRun.seenQ vw loo (importedModules P.main.body) (fun s => xlAt vw lv s && recOk (RowW.records (OpenRow.toRowW RR)) s) (xf w os).abs).1 = expectedOf vw := by
  kernel_rfl
theorem c1 (w : World) (os : OsState) : (HeadRun.seenQ vw loo (importedModules P.main.body) (fun s => xlAt vw lv s && recOk (RowW.records (OpenRow.toRowW RR)) s) (xf w os).abs).2.1 = bltViewBooted := by
  kernel_rfl
theorem c2 (w : World) (os : OsState) : (HeadRun.seenQ vw loo (importedModules P.main.body) (fun s => xlAt vw lv s && recOk (RowW.records (OpenRow.toRowW RR)) s) (xf w os).abs).2.2.1 = true := by
  kernel_rfl
theorem c3 (w : World) (os : OsState) : (HeadRun.seenQ vw loo (importedModules P.main.body) (fun s => xlAt vw lv s && recOk (RowW.records (OpenRow.toRowW RR)) s) (xf w os).abs).2.2.2.1 = true := by
  kernel_rfl
theorem c4 (w : World) (os : OsState) : (HeadRun.seenQ vw loo (importedModules P.main.body) (fun s => xlAt vw lv s && recOk (RowW.records (OpenRow.toRowW RR)) s) (xf w os).abs).2.2.2.2.1 = pinGoodD (drecsOf vw) := by
  kernel_rfl
theorem c5 (w : World) (os : OsState) : (HeadRun.seenQ vw loo (importedModules P.main.body) (fun s => xlAt vw lv s && recOk (RowW.records (OpenRow.toRowW RR)) s) (xf w os).abs).2.2.2.2.2.1 = plainGoodE vw (looseW vw loo) := by
  kernel_rfl
theorem c6 (w : World) (os : OsState) : (HeadRun.seenQ vw loo (importedModules P.main.body) (fun s => xlAt vw lv s && recOk (RowW.records (OpenRow.toRowW RR)) s) (xf w os).abs).2.2.2.2.2.2.1 = plainGoodD vw loo := by
  kernel_rfl
theorem c7 (w : World) (os : OsState) : (HeadRun.seenQ vw loo (importedModules P.main.body) (fun s => xlAt vw lv s && recOk (RowW.records (OpenRow.toRowW RR)) s) (xf w os).abs).2.2.2.2.2.2.2.1 = wideGood vw := by
  kernel_rfl
theorem c8 (w : World) (os : OsState) : (HeadRun.seenQ vw loo (importedModules P.main.body) (fun s => xlAt vw lv s && recOk (RowW.records (OpenRow.toRowW RR)) s) (xf w os).abs).2.2.2.2.2.2.2.2 = clsGoodW vw loo := by
  kernel_rfl
theorem look2 (w : World) (os : OsState) : HeadRun.seenQ vw loo (importedModules P.main.body) (fun s => xlAt vw lv s && recOk (RowW.records (OpenRow.toRowW RR)) s) (xf w os).abs = openGood vw loo :=
  EvH.good_of (c0 w os) (c1 w os) (c2 w os) (c3 w os) (c4 w os) (c5 w os) (c6 w os) (c7 w os) (c8 w os)
theorem look3 (w : World) (os : OsState) : as.map (HeadRun.getT (xf w os)) = (K w.params).map fun x => some x.2 := by
  kernel_rfl
theorem looks (w : World) (os : OsState) : (HeadRun.looksF P (x0 w os).abs.heap (xf w os).abs, HeadRun.seenQ vw loo (importedModules P.main.body) (fun s => xlAt vw lv s && recOk (RowW.records (OpenRow.toRowW RR)) s) (xf w os).abs, as.map (HeadRun.getT (xf w os))) = (true, openGood vw loo, (K w.params).map fun x => some x.2) :=
  EvH.tri (look1 w os) (look2 w os) (look3 w os)
theorem left : LeftO P vw loo (fun s => xlAt vw lv s && recOk (RowW.records (OpenRow.toRowW RR)) s) (Hook.obs (kHook K as ek)) (Hook.val (kHook K as ek)) 16204 true :=
  EvH.left_pieces opn hann run (by decide) looks
theorem h_def : defOf vw "law" = some (dd, []) := by
  kernel_rfl
theorem h_the : P.theDef "law" = some (dd.params, dd.body, dd.scope) := by
  kernel_rfl
theorem h_kw : kwWritten? dd.params.kwonlyargs dd.params.kw_defaults = some [] := by
  kernel_rfl
theorem h_ok : (chainsOk vw && opensWell P && (frees (OpenRow.toRowW RR) && RR.within.isEmpty)) = true := by
  kernel_rfl
theorem h_nm : dd.name = "law" := by
  kernel_rfl
theorem h_df : dd.params.defaults = [] := by
  kernel_rfl
end Hd
end
namespace Pg
open PySem PySem.Spec PyProof.Rows L2 Ev Lib LibT LibV LibW EvS
def vecP (n : Nat) (p : Nat → Int) : PyData := .tuple ((List.range n).map fun i => .int (p i))
def kdP (n : Nat) : Kd → PyData
  | .range p => .tuple [.str "range", vecP n p]
  | .clocked p => .tuple [.str "clocked", vecP n p]
  | .differ p q => .tuple [.str "differ", vecP n p, vecP n q]
  | .piece p q => .tuple [.str "piece", vecP n p, vecP n q]
  | .side p => .tuple [.str "side", vecP n p]
  | .boxes bs => .tuple [.str "boxes", .tuple (bs.map boxPy)]
theorem toP_vec (n : Nat) (p : Nat → Int) : toP (vec n p) = some (vecP n p) := by
  unfold vec vecP
  simp only [toP]
  rw [toPs_map (fun i => D.int (p i)) (fun i => PyData.int (p i)) _ fun x _ => rfl]
  rfl
theorem toP_kd (n : Nat) (K : Kd) : toP (kdD n K) = some (kdP n K) := by
  cases K with
  | boxes bs =>
    have := toPs_map boxD boxPy bs fun x _ => toP_box x
    simp [kdD, kdP, toP, toPs, boxesD, this]
  | _ => simp [kdD, kdP, toP, toPs, toP_vec]
theorem Shp.vecP (n : Nat) (p : Nat → Int) : Shp 1 (vecP n p) := Shp.tup fun q hq => by
  obtain ⟨x, _, rfl⟩ := List.mem_map.mp hq
  exact Shp.int _ _
theorem shp_str (n : Nat) {z : Str} (h : PyData.strOk z = true) : Shp n (.str z) := ⟨by simp [PyData.canLay0, h], by simp [PyData.depth]⟩
theorem sh_kd (n : Nat) (K : Kd) : Shp 4 (kdP n K) := by
  have m : ∀ p, Shp 3 (vecP n p) := fun p => ⟨(Shp.vecP n p).1, by have := (Shp.vecP n p).2; omega⟩
  cases K with
  | range p =>
    refine Shp.tup fun q hq => ?_
    simp only [List.mem_cons, List.not_mem_nil, or_false] at hq
    rcases hq with rfl | rfl
    · exact shp_str _ (by decide +kernel)
    · exact m _
  | clocked p =>
    refine Shp.tup fun q hq => ?_
    simp only [List.mem_cons, List.not_mem_nil, or_false] at hq
    rcases hq with rfl | rfl
    · exact shp_str _ (by decide +kernel)
    · exact m _
  | differ p p' =>
    refine Shp.tup fun q hq => ?_
    simp only [List.mem_cons, List.not_mem_nil, or_false] at hq
    rcases hq with rfl | rfl | rfl
    · exact shp_str _ (by decide +kernel)
    · exact m _
    · exact m _
  | piece p p' =>
    refine Shp.tup fun q hq => ?_
    simp only [List.mem_cons, List.not_mem_nil, or_false] at hq
    rcases hq with rfl | rfl | rfl
    · exact shp_str _ (by decide +kernel)
    · exact m _
    · exact m _
  | side p =>
    refine Shp.tup fun q hq => ?_
    simp only [List.mem_cons, List.not_mem_nil, or_false] at hq
    rcases hq with rfl | rfl
    · exact shp_str _ (by decide +kernel)
    · exact m _
  | boxes bs =>
    refine Shp.tup fun q hq => ?_
    simp only [List.mem_cons, List.not_mem_nil, or_false] at hq
    rcases hq with rfl | rfl
    · exact shp_str _ (by decide +kernel)
    · exact Shp.tup fun q hq => by
        obtain ⟨x, _, rfl⟩ := List.mem_map.mp hq
        exact Shp.box x
theorem toPhI (h : HP) (i : Int) : toPh h (.int i) = some (.int i) := rfl
theorem toPhS (h : HP) (i : Str) : toPh h (.str i) = some (.str i) := rfl
theorem eq_rd {n : Nat} {R : RdV} (hs : PyData.strOk R.src = true) (h : HP) : F_Reading__eq__ [rdD n R, rdD n R] h = .ok (.bl true) h := by
  have c := fun b => pure_clean h (d := .bl b) (clean_bl b)
  have s1 := sh_S hs
  have e1 := eqv_S R.src R.src
  have sk := (sh_kd n R.kd).ok (by omega)
  have sr := (sh_kd n R.kd).self
  have tr : ∀ h, toPh h (kdD n R.kd) = some (kdP n R.kd) := fun h => by
    have : toPh h (kdD n R.kd) = toP (kdD n R.kd) := by cases R.kd <;> rfl
    rw [this]; exact toP_kd n R.kd
  unfold rdD rdF
  generalize kdP n R.kd = KP at *
  generalize kdD n R.kd = KD at *
  simp [F_Reading__eq__, List.lookup, sh_int, eqvI, c, -toPh, tr, toPhI, toPhS, e1, s1, sk, sr]
theorem ow_pr {n : Nat} {r : Int × RdV} (hs : PyData.strOk r.2.src = true) (h : HP) : owD (own1 1 F_Reading__eq__) h 6 (prW n r) := by
  unfold prW
  simp only [owD, List.forall_mem_cons, List.not_mem_nil, false_implies, implies_true, and_true, true_and]
  unfold rdD
  simp only [owD]
  show own1 1 F_Reading__eq__ 1 _ h = _
  rw [own1_at]
  exact eq_rd hs h
theorem same_ok {F : Nat → FA} {b : Bool} {ds : List D} {h : HP} (o : ∀ d ∈ ds, owD F h 6 d) : sameL F b (.lst ds) (.lst ds) h = .ok (.bl b) h := by
  have e : lsD h (.lst ds) = some ds := rfl
  unfold sameL
  rw [e]
  unfold sameLs
  exact if_pos ⟨rfl, o⟩
end Pg
namespace Pg
open PySem PySem.Spec PyProof.Rows L2 Ev Lib LibT LibV LibW EvS
theorem mem_intV (x : Int) (ns : List Int) : (ns.map D.int).any (fun d => eqD d (.int x)) = decide (x ∈ ns) := by
  induction ns with
  | nil => rfl
  | cons n ns ih =>
    rw [List.map_cons, List.any_cons, ih]
    have e : eqD (.int n) (.int x) = decide (x = n) := by
      by_cases c : x = n
      · subst c; simp [eqD]
      · have : ¬ n = x := fun z => c z.symm
        simp [eqD, c, this]
    rw [e]
    by_cases c : x = n <;> simp [c]
theorem flat_intV (ns : List Int) : (ns.map D.int).all flatD = true := by
  rw [List.all_map]
  simp [List.all_eq_true]
theorem in_refI (x : Int) (ns : List Int) : fIn true (.int x) (.ref 0) [.lst (ns.map D.int)] = .ok (.bl (!decide (x ∈ ns))) [.lst (ns.map D.int)] := by
  have e := mem_intV x ns
  have f := flat_intV ns
  generalize ns.map D.int = us at *
  simp [f, e]
def e51 (ns : List Int) (n : Nat) (S : SetV) (W : WayV) (Q : QV) (rs : List (Int × RdV)) (z7 : Option D) (cr : Int) (z9 z10 z11 z12 z13 z14 z15 : Option D) : EN :=
  [some (Sc ns), some (rowsL ns 12), some (setD S), some (wayD n W), some (.int (n : Int)), some (qD Q), some (.lst (rs.map (prW n))), z7, some (.int cr), z9, z10, z11, z12, z13, z14, z15]
/-- the moments that were met -/
def MsO (Q : QV) (rs : List (Int × RdV)) (M : List Int) : Prop := M.Nodup ∧ (∀ j, j ∈ M ↔ j ∈ momV Q rs) ∧ M.length ≤ rs.length + 1
theorem m_turn {ns : List Int} {n : Nat} {S : SetV} {W : WayV} {Q : QV} (k : S.ok) (hd : S.d = n) (hn : n ≤ 3) (s1 : 1 ≤ Q.sh) (s2 : Q.sh ≤ 2000000) {rs : List (Int × RdV)} (hl : rs.length ≤ 100) (hr : ∀ r ∈ rs, KdS n r.2.kd ∧ (0 ≤ r.2.la ∧ r.2.la ≤ 1000) ∧ (0 ≤ r.2.ne ∧ r.2.ne ≤ 1000)) {i : Nat} (hi : i < rs.length) {M : List Int} (hM : MsO Q (rs.take i) M) (z7 z12 z13 z14 z15 : Option D) :
    ∃ y12 y13 y14 M', MsO Q (rs.take (i + 1)) M' ∧ B_law_1 (e51 ns n S W Q rs z7 (crd n Q.sh) (some (.ref 0)) (some (.int rs[i].1)) (some (rdD n rs[i].2)) z12 z13 z14 z15) [.lst (M.map D.int)] =
      .nx (e51 ns n S W Q rs z7 (crd n Q.sh) (some (.ref 0)) (some (.int rs[i].1)) (some (rdD n rs[i].2)) y12 y13 y14 z15) [.lst (M'.map D.int)] := by
  obtain ⟨hK, la, ne⟩ := hr _ (List.getElem_mem hi)
  have tk : rs.take (i + 1) = rs.take i ++ [rs[i]] := by rw [List.take_append_getElem hi]
  have ltk : (rs.take i).length = i := by simp; omega
  rw [tk]
  generalize rs[i] = r at *
  obtain ⟨r1, R⟩ := r
  simp only at hK la ne ⊢
  have fm := fun h => F_marginW (S := S) (Q := Q) k hd hn s1 s2 (R := R) hK la ne h
  have fr := fun h => F_rateS hn hK h
  have fc := fun h => F_clock_rate' n R.kd h
  have fv := fun h => F_moved' n R.kd h
  have f1 := fun h => F_reach' k (t := R.la) (by omega) h
  have f2 := fun h => F_slip' k (t := R.la) (by omega) h
  obtain ⟨l1, l2, l3, l4, -⟩ := lk_ n R
  have q3 := q3_ Q
  have q4 := q4_ Q
  have q6 := q6_ Q
  have aq := asI_q Q
  have ar := asI_rd n R
  obtain ⟨r0, r1'⟩ := rate_bd hn hK
  obtain ⟨k0, k1⟩ := clk_bd R.kd
  obtain ⟨v0, v1⟩ := mvd_bd R.kd
  obtain ⟨x0, x1, x2, x3⟩ := rch_lo k la.1 la.2
  have c0 := crd_nn (n := n) s1
  obtain ⟨_, c1, _⟩ := cr_bd (n := n) hn s1 s2
  have m1 : CMulE (movedK R.kd) R.ne := mul64 (by omega) (by omega)
  have m2 : CMulE (rateK n R.kd) (rchS S R.la) := mul64 (by omega) (by omega)
  have m3 : CMulE (clockK R.kd) (slpS S R.la) := mul64 (by omega) (by omega)
  have m4 : CMulE 2 (crd n Q.sh) := mul64 (by omega) (by omega)
  have m5 : CMulE (rateK n R.kd) (2 * crd n Q.sh + 2) := mul64 (by omega) (by omega)
  have m6 : CMulE (clockK R.kd) Q.sh := mul64 (by omega) (by omega)
  have eM : marV S n Q R = movedK R.kd * R.ne + rateK n R.kd * rchS S R.la + clockK R.kd * slpS S R.la + rateK n R.kd * (2 * crd n Q.sh + 2) + clockK R.kd * Q.sh := by
    unfold marV spdV
    omega
  rw [eM] at fm
  have mq : ∀ j, j ∈ momV Q (rs.take i ++ [(r1, R)]) ↔ j ∈ momV Q (rs.take i) ∨ (inQW Q (r1, R) = true ∧ j = R.mo) := fun j => by
    unfold momV
    rw [List.filter_append, List.map_append]
    by_cases q : inQW Q (r1, R) = true
    · simp [q, or_assoc]
    · simp [q]
  obtain ⟨hM1, hM2, hM3⟩ := hM
  have il := in_refI R.mo M
  obtain ⟨M', hM', eN⟩ : ∃ M', MsO Q (rs.take i ++ [(r1, R)]) M' ∧ M' = if inQW Q (r1, R) = true ∧ R.mo ∉ M then M ++ [R.mo] else M := by
    refine ⟨_, ?_, rfl⟩
    split
    · rename_i c
      refine ⟨?_, fun j => ?_, by simp; omega⟩
      · rw [List.nodup_append]
        exact ⟨hM1, by simp, fun a ha b hb e => by rw [List.mem_singleton] at hb; exact c.2 (by rw [← hb, ← e]; exact ha)⟩
      · rw [mq, List.mem_append, hM2]
        constructor
        · rintro (h | h)
          · exact .inl h
          · exact .inr ⟨c.1, List.mem_singleton.mp h⟩
        · rintro (h | h)
          · exact .inl h
          · exact .inr (List.mem_singleton.mpr h.2)
    · rename_i c
      refine ⟨hM1, fun j => ?_, by simp; omega⟩
      rw [mq, hM2]
      constructor
      · exact .inl
      · rintro (h | ⟨h1, h2⟩)
        · exact h
        · have : R.mo ∈ M := Classical.byContradiction fun z => c ⟨h1, z⟩
          rw [h2]
          exact (hM2 _).mp this
  have lM : M.length < sizeLine := by rw [sizeLine_eq]; omega
  have ap : lAppend (.ref 0) [.int R.mo] [.lst (M.map D.int)] = .ok .non [.lst ((M ++ [R.mo]).map D.int)] := by
    have : (M.map D.int).length < sizeLine := by simpa using lM
    simp [appL, lM]
  have ty : tyL [O.lst (M.map D.int)] (.ref 0) = true := rfl
  refine ⟨some (kdD n R.kd), some (.int (movedK R.kd * R.ne + rateK n R.kd * rchS S R.la + clockK R.kd * slpS S R.la + rateK n R.kd * (2 * crd n Q.sh + 2))), some (.bl (inQW Q (r1, R))), M', hM', ?_⟩
  unfold e51
  clear hM' hM1 hM2 hM3 mq hr eM
  have eq1 : inQW Q (r1, R) = (decide (Q.ea ≤ R.mo) && decide (R.mo ≤ Q.la)) := rfl
  rw [eq1] at eN ⊢
  have tr : ∀ h : HP, True := fun _ => trivial
  generalize rs.map (prW n) = rl at *
  generalize rowsL ns 12 = rw_ at *
  generalize wayD n W = wd at *
  generalize rateK n R.kd = rr at *
  generalize clockK R.kd = cc at *
  generalize movedK R.kd = vv at *
  generalize rchS S R.la = rc at *
  generalize slpS S R.la = sl at *
  generalize crd n Q.sh = cr at *
  generalize kdD n R.kd = kd at *
  generalize rdF n R = rf at *
  generalize rdD n R = rd at *
  generalize qF Q = qf at *
  generalize qD Q = qd at *
  generalize setD S = st at *
  generalize Sc ns = sc at *
  generalize hMM : M.map D.int = mm at *
  unfold B_law_1
  rw [seq_nx (e' := [some sc, some rw_, some st, some wd, some (.int (n : Int)), some qd, some (.lst rl), z7, some (.int cr), some (.ref 0), some (.int r1), some rd, some kd, z13, z14, z15]) (h' := [.lst mm]) (by simp [ar, l1])]
  rw [seq_nx (e' := [some sc, some rw_, some st, some wd, some (.int (n : Int)), some qd, some (.lst rl), z7, some (.int cr), some (.ref 0), some (.int r1), some rd, some kd, some (.int (vv * R.ne + rr * rc)), z14, z15]) (h' := [.lst mm]) (by simp [ar, l2, l3, fv, fr, f1, m1, m2])]
  rw [seq_nx (e' := [some sc, some rw_, some st, some wd, some (.int (n : Int)), some qd, some (.lst rl), z7, some (.int cr), some (.ref 0), some (.int r1), some rd, some kd, some (.int (vv * R.ne + rr * rc + cc * sl + rr * (2 * cr + 2))), z14, z15]) (h' := [.lst mm]) (by simp [ar, l2, fc, fr, f2, m3, m4, m5])]
  rw [seq_nx (e' := [some sc, some rw_, some st, some wd, some (.int (n : Int)), some qd, some (.lst rl), z7, some (.int cr), some (.ref 0), some (.int r1), some rd, some kd, some (.int (vv * R.ne + rr * rc + cc * sl + rr * (2 * cr + 2))), z14, z15]) (h' := [.lst mm]) (by simp [fm, fc, aq, q6, m6, sh_int, eqvI])]
  by_cases c1 : Q.ea ≤ R.mo
  · by_cases c2 : R.mo ≤ Q.la
    · rw [seq_nx (e' := [some sc, some rw_, some st, some wd, some (.int (n : Int)), some qd, some (.lst rl), z7, some (.int cr), some (.ref 0), some (.int r1), some rd, some kd, some (.int (vv * R.ne + rr * rc + cc * sl + rr * (2 * cr + 2))), some (.bl true), z15]) (h' := [.lst mm]) (by simp [aq, ar, q3, q4, l4, c1, c2])]
      by_cases c3 : R.mo ∈ M
      · have e1 : M' = M := by rw [eN, if_neg (by simp [c3])]
        rw [e1, hMM]
        simp only [c3, decide_true, Bool.not_true] at il
        simp [ar, l4, -fIn, il, c1, c2]
      · have e1 : M' = M ++ [R.mo] := by rw [eN, if_pos (by simp [c1, c2, c3])]
        rw [e1]
        simp only [c3, decide_false, Bool.not_false] at il
        simp [ar, l4, -fIn, il, c1, c2, -lAppend, -tyL, ty, ap]
    · have e1 : M' = M := by rw [eN, if_neg (by simp [c2])]
      rw [e1, hMM]
      simp [aq, ar, q3, q4, l4, c1, c2]
  · have e1 : M' = M := by rw [eN, if_neg (by simp [c1])]
    rw [e1, hMM]
    simp [aq, ar, q3, q4, l4, c1]
end Pg
namespace Pg
open PySem PySem.Spec PyProof.Rows L2 Ev Lib LibT LibV LibW EvS
theorem m_loop {ns : List Int} {n : Nat} {S : SetV} {W : WayV} {Q : QV} (k : S.ok) (hd : S.d = n) (hn : n ≤ 3) (s1 : 1 ≤ Q.sh) (s2 : Q.sh ≤ 2000000) {rs : List (Int × RdV)} (hl : rs.length ≤ 100) (hr : ∀ r ∈ rs, KdS n r.2.kd ∧ (0 ≤ r.2.la ∧ r.2.la ≤ 1000) ∧ (0 ≤ r.2.ne ∧ r.2.ne ≤ 1000)) (z7 : Option D) :
    ∃ y10 y11 y12 y13 y14 M, MsO Q rs M ∧ forE (gTp 2 (gsCons (gNm 10) (gsCons (gNm 11) gsNil))) B_law_1 [] (rs.map (prW n)) (e51 ns n S W Q rs z7 (crd n Q.sh) (some (.ref 0)) none none none none none none) [.lst [.int Q.mo]] =
      .nx (e51 ns n S W Q rs z7 (crd n Q.sh) (some (.ref 0)) y10 y11 y12 y13 y14 none) [.lst (M.map D.int)] := by
  obtain ⟨_, _, e, y10, y11, y12, y13, y14, M, rfl, rfl, hM⟩ := for_ty (asg := gTp 2 (gsCons (gNm 10) (gsCons (gNm 11) gsNil))) (body := B_law_1) (gd := [])
    (fun i env h' => ∃ (z10 z11 z12 z13 z14 : Option D) (M : List Int), env = e51 ns n S W Q rs z7 (crd n Q.sh) (some (.ref 0)) z10 z11 z12 z13 z14 none ∧ h' = [.lst (M.map D.int)] ∧ MsO Q (rs.take i) M) rs (prW n)
    (fun i env h' hI => by simp [Gd])
    (fun i env h' hi hI => by
      obtain ⟨z10, z11, z12, z13, z14, M, rfl, rfl, hM⟩ := hI
      obtain ⟨y12, y13, y14, M', hM', e⟩ := m_turn (ns := ns) (W := W) k hd hn s1 s2 hl hr hi hM z7 z12 z13 z14 none
      exact ⟨e51 ns n S W Q rs z7 (crd n Q.sh) (some (.ref 0)) (some (.int rs[i].1)) (some (rdD n rs[i].2)) z12 z13 z14 none, by unfold e51; simp [prW], _, _, .inl e, _, _, _, _, _, _, rfl, rfl, hM'⟩)
    (env := e51 ns n S W Q rs z7 (crd n Q.sh) (some (.ref 0)) none none none none none none) (h := [.lst [.int Q.mo]]) ⟨none, none, none, none, none, [Q.mo], rfl, rfl, by simp, fun j => by simp [momV], by simp⟩
  exact ⟨y10, y11, y12, y13, y14, M, by rw [List.take_length] at hM; exact hM, e⟩
theorem at12 (f : Nat → Int) {j : Nat} (hj : j < 12) : atI ((List.range 12).map fun k => D.int (f k)) (j : Int) = some (.int (f j)) := at_vec (n := 12) (p := f) hj
theorem law_true (ns : List Int) (hl : ns.length ≤ 63) (hb : ∀ z ∈ ns, Builtin.Int.intBits z ≤ 1048576) : F_law [.klst (ns.map D.int)] [] = .ok (.bl true) [] := by
  have hns : Okn ns := ⟨hl, fun z hz => bits_sz (hb z hz)⟩
  have fr : F__law_rows [Sc ns, .int 12] [] = .ok (rowsL ns 12) [] := F_rows hns (n := 12) (by omega) []
  have er : rowsL ns 12 = .lst ((List.range 12).map fun k => D.int (rC2 ns k)) := rfl
  have a0 := at12 (rC2 ns) (j := 0) (by omega)
  have a4 := at12 (rC2 ns) (j := 4) (by omega)
  have a5 := at12 (rC2 ns) (j := 5) (by omega)
  have c14 : Ev.cutD ((List.range 12).map fun k => D.int (rC2 ns k)) (some 1) (some 4) = [.int (rC2 ns 1), .int (rC2 ns 2), .int (rC2 ns 3)] := rfl
  have c612 : Ev.cutD ((List.range 12).map fun k => D.int (rC2 ns k)) (some 6) (some 12) = [rC2 ns 6, rC2 ns 7, rC2 ns 8, rC2 ns 9, rC2 ns 10, rC2 ns 11].map D.int := rfl
  obtain ⟨S, hS⟩ : ∃ S, S = lsV (rC2 ns 0) := ⟨_, rfl⟩
  obtain ⟨k, s8, r2, p3⟩ := ls_ok (rC2 ns 0)
  have fs := fun h => F_lsetV (rC2 ns 0) h
  rw [← hS] at k s8 r2 p3 fs
  obtain ⟨n, hn1, hn0, hn2⟩ : ∃ n : Nat, S.d = n ∧ 2 ≤ n ∧ n ≤ 3 := ⟨S.d.toNat, by have := k.1; have := k.2.1; omega, by have := k.1; omega, by have := k.2.1; omega⟩
  obtain ⟨W, fw, hW⟩ := F_lway (n := n) k hn1 hn2 r2 (rC2 ns 1) (rC2 ns 2) (rC2 ns 3) []
  obtain ⟨Q0, fq, hQ0, qo0⟩ := F_lquestion (S := S) hn2 hW (rC2 ns 4) (li := rC2 ns 0 / 200 % 3) (by omega) []
  obtain ⟨m, hm, hm6⟩ : ∃ m : Nat, rC2 ns 5 / 3 % 7 = m ∧ m ≤ 6 := ⟨(rC2 ns 5 / 3 % 7).toNat, by omega, by omega⟩
  have nok : ∀ x ∈ (["a", "b", "c-1"] : List Str), x.length ≤ 1000 ∧ isn x = true := by
    intro x hx
    simp only [List.mem_cons, List.not_mem_nil, or_false] at hx
    rcases hx with rfl | rfl | rfl
    · exact ⟨by decide, by decide +kernel⟩
    · exact ⟨by decide, by decide +kernel⟩
    · exact ⟨by decide, by decide +kernel⟩
  obtain ⟨rs, frs, hrs, src⟩ := F_lreadings (S := S) (n := n) hn0 hn2 hW (rws := [rC2 ns 6, rC2 ns 7, rC2 ns 8, rC2 ns 9, rC2 ns 10, rC2 ns 11]) (names := ["a", "b", "c-1"]) (liars := ["b"]) (by simp) (by simp) nok (m := m) (by simp; omega) (by simp) []
  have lrs : rs.length ≤ 100 := by
    have := congrArg List.length hrs.1
    simp only [List.length_map, List.length_range] at this
    omega
  have hr : ∀ r ∈ rs, KdS n r.2.kd ∧ (0 ≤ r.2.la ∧ r.2.la ≤ 1000) ∧ (0 ≤ r.2.ne ∧ r.2.ne ≤ 1000) := fun r h => by
    have x := hrs.2 r h
    exact ⟨x.kd, by have := x.la; omega, by have := x.ne; omega⟩
  obtain ⟨Q, hQ, s1, s2, e3⟩ : ∃ Q : QV, QOk Q ∧ 1 ≤ Q.sh ∧ Q.sh ≤ 2000000 ∧ (sIf (mB (mBin fEq (mBin fMod (mBin fDiv (mBin fIx (mVar 1) (mCst (.int 0))) (mCst (.int 7))) (mCst (.int 3))) (mCst (.int 1)))) (sAsg (mMkN 2 2 4 gApp F_Question__init__ (aCons (mFld "moment" (mVar 5)) (aCons (mFld "root" (mVar 5)) aNil)) (aCons (mCst (.int 1)) (aCons (mBin fAdd (mCst (.int 1)) (mBin fMod (mCall bInt (aCons (mBin fIx (mVar 1) (mCst (.int 5))) aNil)) (mCst (.int 1000000)))) (aCons (mFld "earliest" (mVar 5)) (aCons (mFld "latest" (mVar 5)) aNil))))) (gNm 5)) sNil)
      [some (Sc ns), some (rowsL ns 12), some (setD S), some (wayD n W), some (.int (n : Int)), some (qD Q0), none, none, none, none, none, none, none, none, none, none] [] =
      .nx [some (Sc ns), some (rowsL ns 12), some (setD S), some (wayD n W), some (.int (n : Int)), some (qD Q), none, none, none, none, none, none, none, none, none, none] [] := by
    have sh6 := hQ0.sh
    by_cases c : rC2 ns 0 / 7 % 3 = 1
    · have qo : QOk ⟨Q0.mo, Q0.ro, 1, 1 + rC2 ns 5 % 1000000, Q0.ea, Q0.la⟩ := ⟨qo0.mo, qo0.ro, qo0.rl, by simp, by simp only; omega, qo0.ea, qo0.la, qo0.el⟩
      refine ⟨⟨Q0.mo, Q0.ro, 1, 1 + rC2 ns 5 % 1000000, Q0.ea, Q0.la⟩, qo, by simp only; omega, by simp only; omega, ?_⟩
      have mk : mkR [] (F_Question__init__ [.ref 0, .int Q0.mo, boxD Q0.ro, .int 1, .int (1 + rC2 ns 5 % 1000000), .int Q0.ea, .int Q0.la] [.ins 2 []]) = .ok (qD ⟨Q0.mo, Q0.ro, 1, 1 + rC2 ns 5 % 1000000, Q0.ea, Q0.la⟩) [] := mk_qW qo []
      have aq := asI_q Q0
      have q1 := q1_ Q0
      have q2 := q2_ Q0
      have q3 := q3_ Q0
      have q4 := q4_ Q0
      rw [er]
      clear fr fs fw fq frs
      generalize qD ⟨Q0.mo, Q0.ro, 1, 1 + rC2 ns 5 % 1000000, Q0.ea, Q0.la⟩ = q9 at *
      generalize ((List.range 12).map fun k => D.int (rC2 ns k)) = rw_ at *
      generalize boxD Q0.ro = bx at *
      generalize qF Q0 = qf at *
      generalize qD Q0 = qd at *
      generalize wayD n W = wd at *
      generalize setD S = st at *
      generalize Sc ns = sc at *
      have a0 : atI rw_ 0 = some (.int (rC2 ns 0)) := a0
      have a5 : atI rw_ 5 = some (.int (rC2 ns 5)) := a5
      simp [lg, a0, a5, c, sh_int, eqvI, aq, q1, q2, q3, q4, mk]
    · refine ⟨Q0, qo0, by omega, by omega, ?_⟩
      rw [er]
      clear fr fs fw fq frs
      generalize ((List.range 12).map fun k => D.int (rC2 ns k)) = rw_ at *
      generalize qD Q0 = qd at *
      generalize wayD n W = wd at *
      generalize setD S = st at *
      generalize Sc ns = sc at *
      have a0 : atI rw_ 0 = some (.int (rC2 ns 0)) := a0
      simp [lg, a0, c, sh_int, eqvI]
  obtain ⟨y10, y11, y12, y13, y14, M, hM, el⟩ := m_loop (ns := ns) (W := W) k hn1 hn2 s1 s2 lrs hr (some (.int (hlf Q.sh)))
  have fst_ := fun h => F_stretchW (S := S) (Q := Q) hn1 hn2 s1 s2 lrs h
  have lenM : M.length = (srt (momV Q rs)).length := by
    have a := nodup_le hM.1 fun j hj => mem_srt.mpr ((hM.2.1 j).mp hj)
    have b := nodup_le ((srt_pw (xs := momV Q rs)).imp fun {a b} h => by omega) fun j hj => (hM.2.1 j).mpr (mem_srt.mp hj)
    omega
  have same := same_ok (F := own1 1 F_Reading__eq__) (b := true) (ds := rs.map (prW n)) (h := [.lst (M.map D.int)]) fun d hd => by
    obtain ⟨r, hr', rfl⟩ := List.mem_map.mp hd
    refine ow_pr ?_ _
    have := src r hr'
    simp only [List.mem_cons, List.not_mem_nil, or_false] at this
    rcases this with q | q | q <;> rw [q] <;> decide +kernel
  obtain ⟨b0, cb, b2⟩ := cr_bd (n := n) hn2 s1 s2
  have c0 := crd_nn (n := n) s1
  obtain ⟨hl0, _⟩ := hl_pos s1
  have hh : hlf Q.sh ≤ 1000001 := by unfold hlf; omega
  have pb : (n : Int) * hlf Q.sh * hlf Q.sh ≤ 3000003 * 1000001 := Int.mul_le_mul b2 hh hl0 (by omega)
  have fup := fun h => F_lup (x := (n : Int) * hlf Q.sh * hlf Q.sh) b0 (by omega) h
  have ecr : ru ((n : Int) * hlf Q.sh * hlf Q.sh) = crd n Q.sh := rfl
  rw [ecr] at fup
  have fcl := fun h => F_cell (S := S) hn1 hn2 s1 s2 h
  have m1 : CMulE (n : Int) (hlf Q.sh) := mul64 (by omega) (by omega)
  have m2 : CMulE ((n : Int) * hlf Q.sh) (hlf Q.sh) := by
    have : 0 ≤ (n : Int) * hlf Q.sh := Int.mul_nonneg (by omega) hl0
    exact mul64 (by omega) (by omega)
  have ehl : (Q.sh + 1) / 2 = hlf Q.sh := rfl
  have q1 := q1_ Q
  have q6 := q6_ Q
  have aq := asI_q Q
  have sf : (setF S).lookup ("dims" : Str) = some (.int (n : Int)) := by rw [← hn1]; simp [List.lookup]
  have as := fun h => asI_set S h
  have pe : ∀ x, pure_ [] (.bl true) x = .ok (.bl true) [] := fun x => pure_cleanJ [] x (clean_bl true)
  rw [F_law_eq]
  show kFnP [] ((H_law_0 T_law_1) (startE 16 [Sc ns]) []) = _
  have go1 : (H_law_0 T_law_1) (startE 16 [Sc ns]) [] = T_law_1 [some (Sc ns), some (rowsL ns 12), some (setD S), none, none, none, none, none, none, none, none, none, none, none, none, none] [] := by
    unfold H_law_0 Sc at *
    rw [seq_nx (e' := [some (.klst (ns.map D.int)), some (rowsL ns 12), none, none, none, none, none, none, none, none, none, none, none, none, none, none]) (h' := []) (by
      clear fs fw fq frs e3 el fst_ same
      generalize rowsL ns 12 = r12 at *
      generalize ns.map D.int = sc at *
      simp [fr])]
    refine seq_nx ?_
    rw [er]
    clear fr fw fq frs e3 el fst_ same
    generalize ((List.range 12).map fun k => D.int (rC2 ns k)) = rw_ at *
    generalize setD S = st at *
    have a0 : atI rw_ 0 = some (.int (rC2 ns 0)) := a0
    simp [a0, fs]
  rw [go1, T_law_1_eq, T_law_2_eq]
  clear go1
  have go2 : (H_law_1 (H_law_2 T_law_3)) [some (Sc ns), some (rowsL ns 12), some (setD S), none, none, none, none, none, none, none, none, none, none, none, none, none] [] = T_law_3 [some (Sc ns), some (rowsL ns 12), some (setD S), some (wayD n W), some (.int (n : Int)), some (qD Q0), none, none, none, none, none, none, none, none, none, none] [] := by
    have l12 : ((List.range 12).map fun k => D.int (rC2 ns k)).length ≤ sizeLine := by rw [sizeLine_eq]; simp
    rw [er]
    clear fr fs frs e3 el fst_ same
    generalize ((List.range 12).map fun k => D.int (rC2 ns k)) = rw_ at *
    generalize T_law_3 = T3
    generalize wayD n W = wd at *
    generalize qD Q0 = qd at *
    generalize setF S = sF at *
    generalize setD S = st at *
    generalize Sc ns = sc at *
    have a0 : atI rw_ 0 = some (.int (rC2 ns 0)) := a0
    have a4 : atI rw_ 4 = some (.int (rC2 ns 4)) := a4
    unfold H_law_1
    rw [seq_nx (e' := [some sc, some (.lst rw_), some st, some wd, none, none, none, none, none, none, none, none, none, none, none, none]) (h' := []) (by simp [l12, c14, fw])]
    rw [seq_nx (e' := [some sc, some (.lst rw_), some st, some wd, some (.int (n : Int)), none, none, none, none, none, none, none, none, none, none, none]) (h' := []) (by simp [as, sf])]
    exact seq_nx (by simp [lg, a0, a4, fq])
  rw [go2, T_law_3_eq]
  clear go2
  have go3 : (H_law_3 T_law_4) [some (Sc ns), some (rowsL ns 12), some (setD S), some (wayD n W), some (.int (n : Int)), some (qD Q0), none, none, none, none, none, none, none, none, none, none] [] = T_law_4 [some (Sc ns), some (rowsL ns 12), some (setD S), some (wayD n W), some (.int (n : Int)), some (qD Q), none, none, none, none, none, none, none, none, none, none] [] := seq_nx e3
  rw [go3, T_law_4_eq, T_law_5_eq, T_law_6_eq, T_law_7_eq, T_law_8_eq]
  clear go3 e3
  have go4 : (H_law_4 (H_law_5 (H_law_6 (H_law_7 (H_law_8 T_law_9))))) [some (Sc ns), some (rowsL ns 12), some (setD S), some (wayD n W), some (.int (n : Int)), some (qD Q), none, none, none, none, none, none, none, none, none, none] [] =
      T_law_9 (e51 ns n S W Q rs (some (.int (hlf Q.sh))) (crd n Q.sh) (some (.ref 0)) y10 y11 y12 y13 y14 none) [.lst (M.map D.int)] := by
    have l12 : ((List.range 12).map fun k => D.int (rC2 ns k)).length ≤ sizeLine := by rw [sizeLine_eq]; simp
    have frs' : F__law_readings [wayD n W, .int (n : Int), .lst ([rC2 ns 6, rC2 ns 7, rC2 ns 8, rC2 ns 9, rC2 ns 10, rC2 ns 11].map D.int), .int (m : Int), .lst [.str "a", .str "b", .str "c-1"], .lst [.str "b"]] [] = .ok (.lst (rs.map (prW n))) [] := frs
    rw [← c612] at frs'
    unfold e51 at *
    rw [er] at *
    clear fr fs fw fq frs same fst_
    generalize hrw : ((List.range 12).map fun k => D.int (rC2 ns k)) = rw_ at *
    generalize T_law_9 = T9
    generalize rs.map (prW n) = rl at *
    generalize wayD n W = wd at *
    generalize qF Q = qf at *
    generalize qD Q = qd at *
    generalize setD S = st at *
    generalize Sc ns = sc at *
    generalize M.map D.int = mm at *
    have a5 : atI rw_ 5 = some (.int (rC2 ns 5)) := a5
    unfold H_law_4
    rw [seq_nx (e' := [some sc, some (.lst rw_), some st, some wd, some (.int (n : Int)), some qd, some (.lst rl), none, none, none, none, none, none, none, none, none]) (h' := []) (by simp [lg, l12, a5, hm, frs'])]
    unfold H_law_5
    rw [seq_nx (e' := [some sc, some (.lst rw_), some st, some wd, some (.int (n : Int)), some qd, some (.lst rl), some (.int (hlf Q.sh)), none, none, none, none, none, none, none, none]) (h' := []) (by simp [lg, aq, q6, ehl])]
    unfold H_law_6
    rw [seq_nx (e' := [some sc, some (.lst rw_), some st, some wd, some (.int (n : Int)), some qd, some (.lst rl), some (.int (hlf Q.sh)), some (.int (crd n Q.sh)), none, none, none, none, none, none, none]) (h' := []) (by simp [m1, m2, fup])]
    unfold H_law_7
    rw [seq_nx (e' := [some sc, some (.lst rw_), some st, some wd, some (.int (n : Int)), some qd, some (.lst rl), some (.int (hlf Q.sh)), some (.int (crd n Q.sh)), none, none, none, none, none, none, none]) (h' := []) (by simp [aq, q6, fcl, sh_int, eqvI])]
    unfold H_law_8
    rw [seq_nx (e' := [some sc, some (.lst rw_), some st, some wd, some (.int (n : Int)), some qd, some (.lst rl), some (.int (hlf Q.sh)), some (.int (crd n Q.sh)), some (.ref 0), none, none, none, none, none, none]) (h' := [.lst [.int Q.mo]]) (by simp [aq, q1])]
    exact seq_nx (by simp [el])
  rw [go4, T_law_9_eq]
  clear go4 el
  have go5 : (H_law_9 T_law_10) (e51 ns n S W Q rs (some (.int (hlf Q.sh))) (crd n Q.sh) (some (.ref 0)) y10 y11 y12 y13 y14 none) [.lst (M.map D.int)] = T_law_10 (e51 ns n S W Q rs (some (.int (hlf Q.sh))) (crd n Q.sh) (some (.ref 0)) y10 y11 y12 y13 y14 (some (.lst (rs.map (prW n))))) [.lst (M.map D.int)] := by
    refine seq_nx ?_
    have l1 : (rs.map (prW n)).length ≤ sizeLine := by rw [sizeLine_eq]; simp; omega
    have l2 : (rs.map (prW n)).length ≤ 16000000 := by simp; omega
    unfold e51
    clear fst_ same fr fs fw fq frs
    generalize rowsL ns 12 = r12 at *
    generalize rs.map (prW n) = rl at *
    generalize M.map D.int = mm at *
    generalize wayD n W = wd at *
    generalize qD Q = qd at *
    generalize setD S = st at *
    generalize Sc ns = sc at *
    simp [l1, l2]
  rw [go5]
  clear go5
  have hh : T_law_10 (e51 ns n S W Q rs (some (.int (hlf Q.sh))) (crd n Q.sh) (some (.ref 0)) y10 y11 y12 y13 y14 (some (.lst (rs.map (prW n))))) [.lst (M.map D.int)] = .rt (.bl true) [.lst (M.map D.int)] := by
    have lM : M.length ≤ 101 := by have := hM.2.2; omega
    have lz : (M.map D.int).length ≤ sizeLine := by rw [sizeLine_eq]; simp; omega
    have lq : (M.map D.int).length = (srt (momV Q rs)).length := by simp [lenM]
    have m3 : CMulE 2 ((srt (momV Q rs)).length : Int) := mul64 (by omega) (by omega)
    have m4 : CMulE (2 * ((srt (momV Q rs)).length : Int)) (crd n Q.sh) := mul64 (by omega) (by omega)
    have eq : strV n Q rs = 2 * ((srt (momV Q rs)).length : Int) * crd n Q.sh := by unfold strV; rw [Int.mul_assoc, Int.mul_assoc, Int.mul_comm (crd n Q.sh)]
    rw [eq] at fst_
    have ls2 : (srt (momV Q rs)).length ≤ sizeLine := by omega
    unfold T_law_10 e51
    clear fr fs fw fq frs eq
    generalize rowsL ns 12 = r12 at *
    generalize rs.map (prW n) = rl at *
    generalize M.map D.int = mm at *
    generalize wayD n W = wd at *
    generalize qD Q = qd at *
    generalize setD S = st at *
    generalize Sc ns = sc at *
    generalize (srt (momV Q rs)).length = sl at *
    generalize crd n Q.sh = cr at *
    simp [fst_, lz, lq, ls2, m3, m4, sh_int, eqvI, -sameL, same]
  rw [hh]
  exact pe _
end Pg
open PySem PySem.W PyProof.Rows
set_option maxHeartbeats 0 in
theorem PySem.Challenge.cw_sureplace_k51_how_bounds_are_widened_holds : PySem.Challenge.rw_sureplace_k51_how_bounds_are_widened.Holds := by
  w_on; o_law
  refine holds_open (r := Hd.RR) (q := Hd.vw) (loose := Hd.loo) (Xt := fun s => xlAt Hd.vw Hd.lv s && recOk (RowW.records (OpenRow.toRowW Hd.RR)) s) (XP := XL Hd.vw Hd.lv) (Yf := Hook.obs (kHook Hd.K Hd.as Hd.ek)) (Ya := Hook.val (kHook Hd.K Hd.as Hd.ek)) (YP := Hook.says (kHook Hd.K Hd.as Hd.ek)) (d := Hd.dd) (kwd := []) Hd.left (Hook.of _) (Hook.keeps _) (fun s e => xl_of s (Bool.and_eq_true_iff.mp e).1) XL.keeps Hd.h_def Hd.h_the Hd.h_kw (fun s e => recFacts_of (Bool.and_eq_true_iff.mp e).2) (by rfl) (by first | assumption | decide +kernel) Hd.h_ok ⟨rfl, rfl, rfl, rfl, rfl, by decide +kernel⟩ ?hw ?hc
  case hw => w_witness2
  k_fill
  refine L2.walk_ofB (l := PySem.Challenge.rw_sureplace_k51_how_bounds_are_widened) (n := 63) (k := 9) (x := "script") (CX := fun _ => L2.CX0) (sp := fun w => Ev.spL _ Pg.F_law) rfl (by decide) Hd.h_df ⟨rfl, by decide, by decide⟩ (fun w h Y => PySem.W.kIn_of Y) ?F (fun _ H a ns hl hb _ hS => ⟨a, ns, rfl, hS, Pg.law_true ns hl hb, fun _ => rfl⟩) (fun _ _ _ _ _ h => h)
  case F =>
    intro w mg fa h KX G hmg
    rw [Hd.h_nm] at hmg
    refine' Pg.all_mk KX G hmg ?aC_Question ?pg_Question ?hd_Question ?po_Question ?sa_Question ?mk_Question ?kc_Question ?na_Question_dims ?na_Question_root ?na_Question_moment ?na_Question_latest ?na_Question_earliest ?na_Question_share ?na_Question_kind ?na_Question_near ?na_Question_late ?na_Question_speed ?na_Question_drift ?na_Question_per ?na_Question_liars ?na_Question_source ?na_Question_low ?na_Question_high ?aC_Reading ?pg_Reading ?hd_Reading ?po_Reading ?sa_Reading ?mk_Reading ?kc_Reading ?ic_Reading ?io_Reading ?na_Reading_dims ?na_Reading_root ?na_Reading_moment ?na_Reading_latest ?na_Reading_earliest ?na_Reading_share ?na_Reading_kind ?na_Reading_near ?na_Reading_late ?na_Reading_speed ?na_Reading_drift ?na_Reading_per ?na_Reading_liars ?na_Reading_source ?na_Reading_low ?na_Reading_high ?aC_Setting ?pg_Setting ?hd_Setting ?po_Setting ?sa_Setting ?mk_Setting ?kc_Setting ?na_Setting_dims ?na_Setting_root ?na_Setting_moment ?na_Setting_latest ?na_Setting_earliest ?na_Setting_share ?na_Setting_kind ?na_Setting_near ?na_Setting_late ?na_Setting_speed ?na_Setting_drift ?na_Setting_per ?na_Setting_liars ?na_Setting_source ?na_Setting_low ?na_Setting_high ?a__law_rows ?l__law_rows ?c__law_rows ?k__law_rows ?a_all_within ?l_all_within ?c_all_within ?k_all_within ?a_Setting__init__ ?i_Setting__init__ ?l_Setting__init__ ?c_Setting__init__ ?k_Setting__init__ ?a__law_setting ?l__law_setting ?c__law_setting ?k__law_setting ?a__law_digits ?l__law_digits ?c__law_digits ?k__law_digits ?a__law_velocity ?l__law_velocity ?c__law_velocity ?k__law_velocity ?a__law_way ?l__law_way ?c__law_way ?k__law_way ?a__law_at ?l__law_at ?c__law_at ?k__law_at ?a_sides_within ?l_sides_within ?c_sides_within ?k_sides_within ?a_Question__init__ ?i_Question__init__ ?l_Question__init__ ?c_Question__init__ ?k_Question__init__ ?a__law_question ?l__law_question ?c__law_question ?k__law_question ?a__law_point ?l__law_point ?c__law_point ?k__law_point ?a__law_kind ?l__law_kind ?c__law_kind ?k__law_kind ?a__law_square ?l__law_square ?c__law_square ?k__law_square ?a__law_piece ?l__law_piece ?c__law_piece ?k__law_piece ?a__law_root ?l__law_root ?c__law_root ?k__law_root ?a__law_up ?l__law_up ?c__law_up ?k__law_up ?a__law_boxes ?l__law_boxes ?c__law_boxes ?k__law_boxes ?a__law_value ?l__law_value ?c__law_value ?k__law_value ?a__law_moved ?l__law_moved ?c__law_moved ?k__law_moved ?a_is_name ?l_is_name ?c_is_name ?k_is_name ?a__direction_holds ?l__direction_holds ?c__direction_holds ?k__direction_holds ?a__boxes_hold ?l__boxes_hold ?c__boxes_hold ?k__boxes_hold ?a__kind_holds ?l__kind_holds ?c__kind_holds ?k__kind_holds ?a_Reading__init__ ?i_Reading__init__ ?l_Reading__init__ ?c_Reading__init__ ?k_Reading__init__ ?a__law_reading ?l__law_reading ?c__law_reading ?k__law_reading ?a__law_readings ?l__law_readings ?c__law_readings ?k__law_readings ?a_half_side ?l_half_side ?c_half_side ?k_half_side ?a_root_up ?l_root_up ?c_root_up ?k_root_up ?a_cell_radius ?l_cell_radius ?c_cell_radius ?k_cell_radius ?a_moved ?l_moved ?c_moved ?k_moved ?a_dot ?l_dot ?c_dot ?k_dot ?a_rate ?l_rate ?c_rate ?k_rate ?a_quotient_up ?l_quotient_up ?c_quotient_up ?k_quotient_up ?a_reach ?l_reach ?c_reach ?k_reach ?a_clock_rate ?l_clock_rate ?c_clock_rate ?k_clock_rate ?a_slip ?l_slip ?c_slip ?k_slip ?a_spread ?l_spread ?c_spread ?k_spread ?a_margin ?l_margin ?c_margin ?k_margin ?a_asked ?l_asked ?c_asked ?k_asked ?a_stretch ?l_stretch ?c_stretch ?k_stretch ?a_Reading__eq__ ?i_Reading__eq__ ?l_Reading__eq__ ?c_Reading__eq__ ?k_Reading__eq__ ?a_law ?l_law ?c_law ?k_law ?is_sp ?is_tk ?z_abs ?z_all ?z_any ?z_int ?z_isinstance ?z_len ?z_list ?z_max ?z_range ?z_set ?z_sum ?z_tuple ?z_zip ?g_FAR ?g_LIMIT ?g_LONGEST ?g_MOST_BOXES ?g_MOST_LIARS ?g_SIGNS ?g_STEEPEST ?g_isqrt
    (case aC_Question => k_is)
    (case pg_Question => k_is)
    (case hd_Question => k_is)
    (case po_Question => k_is)
    (case sa_Question => k_is)
    (case mk_Question => k_is)
    (case kc_Question => k_is)
    (case na_Question_dims => k_is)
    (case na_Question_root => k_is)
    (case na_Question_moment => k_is)
    (case na_Question_latest => k_is)
    (case na_Question_earliest => k_is)
    (case na_Question_share => k_is)
    (case na_Question_kind => k_is)
    (case na_Question_near => k_is)
    (case na_Question_late => k_is)
    (case na_Question_speed => k_is)
    (case na_Question_drift => k_is)
    (case na_Question_per => k_is)
    (case na_Question_liars => k_is)
    (case na_Question_source => k_is)
    (case na_Question_low => k_is)
    (case na_Question_high => k_is)
    (case aC_Reading => k_is)
    (case pg_Reading => k_is)
    (case hd_Reading => k_is)
    (case po_Reading => k_is)
    (case sa_Reading => k_is)
    (case mk_Reading => k_is)
    (case kc_Reading => k_is)
    (case ic_Reading => k_is)
    (case io_Reading => k_is)
    (case na_Reading_dims => k_is)
    (case na_Reading_root => k_is)
    (case na_Reading_moment => k_is)
    (case na_Reading_latest => k_is)
    (case na_Reading_earliest => k_is)
    (case na_Reading_share => k_is)
    (case na_Reading_kind => k_is)
    (case na_Reading_near => k_is)
    (case na_Reading_late => k_is)
    (case na_Reading_speed => k_is)
    (case na_Reading_drift => k_is)
    (case na_Reading_per => k_is)
    (case na_Reading_liars => k_is)
    (case na_Reading_source => k_is)
    (case na_Reading_low => k_is)
    (case na_Reading_high => k_is)
    (case aC_Setting => k_is)
    (case pg_Setting => k_is)
    (case hd_Setting => k_is)
    (case po_Setting => k_is)
    (case sa_Setting => k_is)
    (case mk_Setting => k_is)
    (case kc_Setting => k_is)
    (case na_Setting_dims => k_is)
    (case na_Setting_root => k_is)
    (case na_Setting_moment => k_is)
    (case na_Setting_latest => k_is)
    (case na_Setting_earliest => k_is)
    (case na_Setting_share => k_is)
    (case na_Setting_kind => k_is)
    (case na_Setting_near => k_is)
    (case na_Setting_late => k_is)
    (case na_Setting_speed => k_is)
    (case na_Setting_drift => k_is)
    (case na_Setting_per => k_is)
    (case na_Setting_liars => k_is)
    (case na_Setting_source => k_is)
    (case na_Setting_low => k_is)
    (case na_Setting_high => k_is)
    (case a__law_rows => k_is)
    (case l__law_rows => k_is)
    (case c__law_rows => k_is)
    (case k__law_rows => k_is)
    (case a_all_within => k_is)
    (case l_all_within => k_is)
    (case c_all_within => k_is)
    (case k_all_within => k_is)
    (case a_Setting__init__ => k_is)
    (case i_Setting__init__ => k_is)
    (case l_Setting__init__ => k_is)
    (case c_Setting__init__ => k_is)
    (case k_Setting__init__ => k_is)
    (case a__law_setting => k_is)
    (case l__law_setting => k_is)
    (case c__law_setting => k_is)
    (case k__law_setting => k_is)
    (case a__law_digits => k_is)
    (case l__law_digits => k_is)
    (case c__law_digits => k_is)
    (case k__law_digits => k_is)
    (case a__law_velocity => k_is)
    (case l__law_velocity => k_is)
    (case c__law_velocity => k_is)
    (case k__law_velocity => k_is)
    (case a__law_way => k_is)
    (case l__law_way => k_is)
    (case c__law_way => k_is)
    (case k__law_way => k_is)
    (case a__law_at => k_is)
    (case l__law_at => k_is)
    (case c__law_at => k_is)
    (case k__law_at => k_is)
    (case a_sides_within => k_is)
    (case l_sides_within => k_is)
    (case c_sides_within => k_is)
    (case k_sides_within => k_is)
    (case a_Question__init__ => k_is)
    (case i_Question__init__ => k_is)
    (case l_Question__init__ => k_is)
    (case c_Question__init__ => k_is)
    (case k_Question__init__ => k_is)
    (case a__law_question => k_is)
    (case l__law_question => k_is)
    (case c__law_question => k_is)
    (case k__law_question => k_is)
    (case a__law_point => k_is)
    (case l__law_point => k_is)
    (case c__law_point => k_is)
    (case k__law_point => k_is)
    (case a__law_kind => k_is)
    (case l__law_kind => k_is)
    (case c__law_kind => k_is)
    (case k__law_kind => k_is)
    (case a__law_square => k_is)
    (case l__law_square => k_is)
    (case c__law_square => k_is)
    (case k__law_square => k_is)
    (case a__law_piece => k_is)
    (case l__law_piece => k_is)
    (case c__law_piece => k_is)
    (case k__law_piece => k_is)
    (case a__law_root => k_is)
    (case l__law_root => k_is)
    (case c__law_root => k_is)
    (case k__law_root => k_is)
    (case a__law_up => k_is)
    (case l__law_up => k_is)
    (case c__law_up => k_is)
    (case k__law_up => k_is)
    (case a__law_boxes => k_is)
    (case l__law_boxes => k_is)
    (case c__law_boxes => k_is)
    (case k__law_boxes => k_is)
    (case a__law_value => k_is)
    (case l__law_value => k_is)
    (case c__law_value => k_is)
    (case k__law_value => k_is)
    (case a__law_moved => k_is)
    (case l__law_moved => k_is)
    (case c__law_moved => k_is)
    (case k__law_moved => k_is)
    (case a_is_name => k_is)
    (case l_is_name => k_is)
    (case c_is_name => k_is)
    (case k_is_name => k_is)
    (case a__direction_holds => k_is)
    (case l__direction_holds => k_is)
    (case c__direction_holds => k_is)
    (case k__direction_holds => k_is)
    (case a__boxes_hold => k_is)
    (case l__boxes_hold => k_is)
    (case c__boxes_hold => k_is)
    (case k__boxes_hold => k_is)
    (case a__kind_holds => k_is)
    (case l__kind_holds => k_is)
    (case c__kind_holds => k_is)
    (case k__kind_holds => k_is)
    (case a_Reading__init__ => k_is)
    (case i_Reading__init__ => k_is)
    (case l_Reading__init__ => k_is)
    (case c_Reading__init__ => k_is)
    (case k_Reading__init__ => k_is)
    (case a__law_reading => k_is)
    (case l__law_reading => k_is)
    (case c__law_reading => k_is)
    (case k__law_reading => k_is)
    (case a__law_readings => k_is)
    (case l__law_readings => k_is)
    (case c__law_readings => k_is)
    (case k__law_readings => k_is)
    (case a_half_side => k_is)
    (case l_half_side => k_is)
    (case c_half_side => k_is)
    (case k_half_side => k_is)
    (case a_root_up => k_is)
    (case l_root_up => k_is)
    (case c_root_up => k_is)
    (case k_root_up => k_is)
    (case a_cell_radius => k_is)
    (case l_cell_radius => k_is)
    (case c_cell_radius => k_is)
    (case k_cell_radius => k_is)
    (case a_moved => k_is)
    (case l_moved => k_is)
    (case c_moved => k_is)
    (case k_moved => k_is)
    (case a_dot => k_is)
    (case l_dot => k_is)
    (case c_dot => k_is)
    (case k_dot => k_is)
    (case a_rate => k_is)
    (case l_rate => k_is)
    (case c_rate => k_is)
    (case k_rate => k_is)
    (case a_quotient_up => k_is)
    (case l_quotient_up => k_is)
    (case c_quotient_up => k_is)
    (case k_quotient_up => k_is)
    (case a_reach => k_is)
    (case l_reach => k_is)
    (case c_reach => k_is)
    (case k_reach => k_is)
    (case a_clock_rate => k_is)
    (case l_clock_rate => k_is)
    (case c_clock_rate => k_is)
    (case k_clock_rate => k_is)
    (case a_slip => k_is)
    (case l_slip => k_is)
    (case c_slip => k_is)
    (case k_slip => k_is)
    (case a_spread => k_is)
    (case l_spread => k_is)
    (case c_spread => k_is)
    (case k_spread => k_is)
    (case a_margin => k_is)
    (case l_margin => k_is)
    (case c_margin => k_is)
    (case k_margin => k_is)
    (case a_asked => k_is)
    (case l_asked => k_is)
    (case c_asked => k_is)
    (case k_asked => k_is)
    (case a_stretch => k_is)
    (case l_stretch => k_is)
    (case c_stretch => k_is)
    (case k_stretch => k_is)
    (case a_Reading__eq__ => k_is)
    (case i_Reading__eq__ => k_is)
    (case l_Reading__eq__ => k_is)
    (case c_Reading__eq__ => k_is)
    (case k_Reading__eq__ => k_is)
    (case a_law => k_is)
    (case l_law => k_is)
    (case c_law => k_is)
    (case k_law => k_is)
    (case is_sp => k_is)
    (case is_tk => k_is)
    (case z_abs => k_is)
    (case z_all => k_is)
    (case z_any => k_is)
    (case z_int => k_is)
    (case z_isinstance => k_is)
    (case z_len => k_is)
    (case z_list => k_is)
    (case z_max => k_is)
    (case z_range => k_is)
    (case z_set => k_is)
    (case z_sum => k_is)
    (case z_tuple => k_is)
    (case z_zip => k_is)
    (case g_FAR => k_is)
    (case g_LIMIT => k_is)
    (case g_LONGEST => k_is)
    (case g_MOST_BOXES => k_is)
    (case g_MOST_LIARS => k_is)
    (case g_SIGNS => k_is)
    (case g_STEEPEST => k_is)
    (case g_isqrt => k_is)
