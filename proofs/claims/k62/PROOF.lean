import PyProof.Rows.All
import KE.OsRunLaw
import Wide.All
import OpenK.AllK
import Wide.FinOn
import HandS.EndBits
import HandS.ForMost
import HandS.ForExc
import HandS.Zip
import HandS.TupAny
import HandS.Wide
import HandS.Defaults
import HandS.IsInst
import HandS.ExcInit
import HandS.MakeKw
import HandS.MakeKwOnly
import HandS.Walk
import KE.KMathG
import HandS.Gcd
import HandS.Flt
import HandS.WideBits
import HandS.Deep
import HandS.OwnEq
import HandS.SortKw
import KE.KMinBuiltin
import HandS.Style
import HandS.Dict
import KE.GoesEnum
import HandS.Conv
import HandS.SetFor
import HandS.Strs
import KE.KDictZip
import HandS.FStr
import HandS.StrMore
import HandS.Text
import HandS.DictComp
import HandS.TupMul
import HandS.RevTup
import HandS.Words
import HandS.More
import HandS.Rev
import HandS.Remove
import HandS.Comp
import HandS.ListItems
import HandS.Property
import Flt.RightSqrt
import PySem.Challenge.RW_sureplace_k62_a_ledger_tells_every_kept
set_option Elab.async false
set_option linter.all false
set_option maxRecDepth 100000
noncomputable section
namespace EvH
open PySem PySem.W PySem.Calls PyProof.Rows HeadRun
section
variable (st : SharedT → Thread → Option (SharedT × Thread)) (n0 : Nat) (ann : Option Value)
def segF : Nat → SharedT → Thread → Option (SharedT × Code × Pos)
  | 0, _, _ => none
  | m + 1, s, t => match endAt 1 t with
    | some f => (match f with
      | .next => some (s, t.code, t.pos)
      | _ => none)
    | none => match stepOk n0 ann t with
      | false => none
      | true => match st s t with
        | some (s', t') => frS s' fun s' => segF m s' t'
        | none => none
def goK : Nat → SharedT → Thread → Option (SharedT × Thread)
  | 0, s, t => some (s, t)
  | m + 1, s, t => match through t with
    | true => none
    | false => match stepOk n0 ann t with
      | false => none
      | true => match st s t with
        | some (s', t') => frS s' fun s' => goK m s' t'
        | none => none
end
section
variable {tb : String → Option Builtin} {p : Program} {w : World} {n0 : Nat} {ann : Option Value}
theorem segF_ok : ∀ {m : Nat} {s s' : SharedT} {t : Thread} {c : Code} {q : Pos}, segF (stepT (denote tb) p w) n0 ann m s t = some (s', c, q) → segRun tb p w n0 ann 1 m s.abs t = some (.next, s'.abs, c, q)
  | 0, _, _, _, _, _, h => by cases h
  | m + 1, s, s', t, c, q, h => by
    have h1 : (match endAt 1 t with
      | some f => (match f with
        | .next => some (s, t.code, t.pos)
        | _ => none)
      | none => match stepOk n0 ann t with
        | false => none
        | true => match stepT (denote tb) p w s t with
          | some (s', t') => frS s' fun s' => segF (stepT (denote tb) p w) n0 ann m s' t'
          | none => none) = some (s', c, q) := h
    unfold segRun
    cases he : endAt 1 t with
    | some f =>
      rw [he] at h1
      cases f <;> cases h1
      rfl
    | none =>
      rw [he] at h1
      cases hk : stepOk n0 ann t with
      | false =>
        rw [hk] at h1
        cases h1
      | true =>
        rw [hk] at h1
        have h2 : (match stepT (denote tb) p w s t with
          | some (s', t') => frS s' fun s' => segF (stepT (denote tb) p w) n0 ann m s' t'
          | none => none) = some (s', c, q) := h1
        cases hs : stepT (denote tb) p w s t with
        | none =>
          rw [hs] at h2
          cases h2
        | some r =>
          obtain ⟨s2, t2⟩ := r
          rw [hs] at h2
          have h3 : (frS s2 fun s' => segF (stepT (denote tb) p w) n0 ann m s' t2) = some (s', c, q) := h2
          rw [frS_eq] at h3
          have k := segF_ok h3
          show (match step (denote tb) p w s.abs t with
            | .go s' t' => segRun tb p w n0 ann 1 m s' t'
            | .halt _ _ => none) = _
          rw [stepT_spec hs]
          exact k
theorem goK_ok : ∀ {m : Nat} {s s' : SharedT} {t t' : Thread}, goK (stepT (denote tb) p w) n0 ann m s t = some (s', t') → topGo tb p w n0 ann m s.abs t = some (s'.abs, t')
  | 0, s, s', t, t', h => by
    obtain ⟨rfl, rfl⟩ : s = s' ∧ t = t' := by simpa [goK] using h
    rfl
  | m + 1, s, s', t, t', h => by
    have h1 : (match through t with
      | true => none
      | false => match stepOk n0 ann t with
        | false => none
        | true => match stepT (denote tb) p w s t with
          | some (s', t') => frS s' fun s' => goK (stepT (denote tb) p w) n0 ann m s' t'
          | none => none) = some (s', t') := h
    unfold topGo
    cases ht : through t with
    | true =>
      rw [ht] at h1
      cases h1
    | false =>
      rw [ht] at h1
      cases hk : stepOk n0 ann t with
      | false =>
        rw [hk] at h1
        cases h1
      | true =>
        rw [hk] at h1
        have h2 : (match stepT (denote tb) p w s t with
          | some (s', t') => frS s' fun s' => goK (stepT (denote tb) p w) n0 ann m s' t'
          | none => none) = some (s', t') := h1
        cases hs : stepT (denote tb) p w s t with
        | none =>
          rw [hs] at h2
          cases h2
        | some r =>
          obtain ⟨s2, t2⟩ := r
          rw [hs] at h2
          have h3 : (frS s2 fun s' => goK (stepT (denote tb) p w) n0 ann m s' t2) = some (s', t') := h2
          rw [frS_eq] at h3
          have k := goK_ok h3
          show (match step (denote tb) p w s.abs t with
            | .go s' t' => topGo tb p w n0 ann m s' t'
            | .halt _ _ => none) = _
          rw [stepT_spec hs]
          exact k
end
section
variable {p : Program} {w : World} {n0 : Nat} {ann : Option Value}
theorem segQ {m : Nat} {s s' : SharedT} {t : Thread} {c : Code} {q : Pos} (h : segF (stepQ (denQ tabQ) p w) n0 ann m s t = some (s', c, q)) : segRun treeTable p w n0 ann 1 m s.abs t = some (.next, s'.abs, c, q) :=
  segF_ok (by rw [stepQ_eq, denQ_eq, tabQ_eq]; exact h)
theorem goQ {m : Nat} {s s' : SharedT} {t : Thread} {c : Code} {q : Pos} {B : List Frame} (h : goK (stepQ (denQ tabQ) p w) n0 ann m s t = some (s', ⟨denQ tabQ c, c, q, B⟩)) : topGo treeTable p w n0 ann m s.abs t = some (s'.abs, ⟨denote treeTable c, c, q, B⟩) :=
  goK_ok (by rw [stepQ_eq, denQ_eq, tabQ_eq]; exact h)
theorem finQ {m : Nat} {s s' : SharedT} {t : Thread} (h : goF (stepQ (denQ tabQ) p w) n0 ann m s t = some s') : topRun treeTable p w n0 ann m s.abs t = some s'.abs :=
  goF_ok (by rw [stepQ_eq, denQ_eq, tabQ_eq]; exact h)
end
def openT (st : Program → SharedT → Thread → Option (SharedT × Thread)) (fence : Program → Shared → Option Shared) (M : Nat) (p : Program) : Option SharedT := match impF (st (opening p)) M (startT (opening p)) (start (opening p)).2 with
  | some s => (match fence p s.abs with
    | some s0 => (match s0.heap.isNs mainGlobals && s0.gens.size == 0 with
      | true => (match treeOf s0 with
        | some x => frS x some
        | none => none)
      | false => none)
    | none => none)
  | none => none
theorem openT_ok {M : Nat} {p : Program} {w : World} {x : SharedT} (h : openT (fun q => stepT (denote treeTable) q w) fenceModules? M p = some x) :
    ∃ s0 : Shared, fencedOpening treeTable p w M = some s0 ∧ (s0.heap.isNs mainGlobals && s0.gens.size == 0) = true ∧ x.abs = s0 ∧ s0.heap.objs.size = x.n := by
  unfold openT at h
  cases e1 : impF (stepT (denote treeTable) (opening p) w) M (startT (opening p)) (start (opening p)).2 with
  | none =>
    rw [e1] at h
    cases h
  | some s =>
    rw [e1] at h
    have h1 : (match fenceModules? p s.abs with
      | some s0 => (match s0.heap.isNs mainGlobals && s0.gens.size == 0 with
        | true => (match treeOf s0 with
          | some x => frS x some
          | none => none)
        | false => none)
      | none => none) = some x := h
    have a1 := impF_ok e1
    rw [startT_eq] at a1
    cases e2 : fenceModules? p s.abs with
    | none =>
      rw [e2] at h1
      cases h1
    | some z =>
      rw [e2] at h1
      have h2 : (match z.heap.isNs mainGlobals && z.gens.size == 0 with
        | true => (match treeOf z with
          | some x => frS x some
          | none => none)
        | false => none) = some x := h1
      cases e3 : z.heap.isNs mainGlobals && z.gens.size == 0 with
      | false =>
        rw [e3] at h2
        cases h2
      | true =>
        rw [e3] at h2
        have h3 : (match treeOf z with
          | some x => frS x some
          | none => none) = some x := h2
        cases e4 : treeOf z with
        | none =>
          rw [e4] at h3
          cases h3
        | some y =>
          rw [e4] at h3
          have h4 : frS y some = some x := h3
          rw [frS_eq] at h4
          obtain rfl := Option.some.inj h4
          obtain ⟨ex, en⟩ := treeOf_eq e4
          refine ⟨z, ?_, e3, ex, en⟩
          unfold fencedOpening
          rw [a1]
          exact e2
theorem openQ_eq (M : Nat) (p : Program) (w : World) : openT (fun q => stepT (denote treeTable) q w) fenceModules? M p = openT (fun q => stepQ (denQ tabQ) q w) fenceQ M p := by
  rw [stepQ_eq, denQ_eq, tabQ_eq, fenceQ_eq]
def parts (x : SharedT) := (x.tree, x.n, x.life, x.gens, x.drawn, x.toks)
def openB (fence : Program → Shared → Option Shared) (p : Program) (s : SharedT) : Option SharedT := match fence p s.abs with
  | some s0 => (match s0.heap.isNs mainGlobals && s0.gens.size == 0 with
    | true => treeOf s0
    | false => none)
  | none => none
theorem open_two {M : Nat} {p : Program} {w : World} {T T' : BT} {n n' : Nat} {life life' : Life} {gens gens' : Array GenState} {drawn drawn' : Drawn} {toks toks' : Nat}
    (h1 : (impF (stepQ (denQ tabQ) (opening p) w) M (startT (opening p)) (start (opening p)).2).map parts = some (T', n', life', gens', drawn', toks'))
    (h2 : ∀ os : OsState, (openB fenceQ p ⟨T', n', life', gens', drawn', toks', os⟩).map parts = some (T, n, life, gens, drawn, toks)) :
    (openT (fun q => stepQ (denQ tabQ) q w) fenceQ M p).map parts = some (T, n, life, gens, drawn, toks) := by
  obtain ⟨s, hs, hp⟩ := Option.map_eq_some_iff.mp h1
  obtain ⟨T1, n1, life1, gens1, drawn1, toks1, os⟩ := s
  have hp2 : (T1, n1, life1, gens1, drawn1, toks1) = (T', n', life', gens', drawn', toks') := hp
  simp only [Prod.mk.injEq] at hp2
  obtain ⟨rfl, rfl, rfl, rfl, rfl, rfl⟩ := hp2
  have k := h2 os
  unfold openT
  rw [hs]
  rw [← k]
  unfold openB
  dsimp only
  cases fenceQ p (SharedT.abs ⟨T1, n1, life1, gens1, drawn1, toks1, os⟩) with
  | none => rfl
  | some s0 =>
    show (match s0.heap.isNs mainGlobals && s0.gens.size == 0 with
      | true => (match treeOf s0 with
        | some x => frS x some
        | none => none)
      | false => none).map parts = (match s0.heap.isNs mainGlobals && s0.gens.size == 0 with
      | true => treeOf s0
      | false => none).map parts
    cases s0.heap.isNs mainGlobals && s0.gens.size == 0 with
    | false => rfl
    | true =>
      show (match treeOf s0 with
        | some x => frS x some
        | none => none).map parts = (treeOf s0).map parts
      cases treeOf s0 with
      | none => rfl
      | some x =>
        show (frS x some).map parts = _
        rw [frS_eq]
theorem left_pieces {p q : Program} {loose : List PySem.Str} {Xt : Shared → Bool} {K : Params → Frag} {as : List Addr} {ek : ∀ P, as = (K P).map (·.1)} {N Mt : Nat} {T : World → BT} {n : Nat} {life : Life} {gens : Array GenState} {drawn : Drawn} {toks : Nat} {xf : World → OsState → SharedT} {ann : Option Value}
    (opn : ∀ w : World, (openT (fun q => stepQ (denQ tabQ) q w) fenceQ N p).map parts = some (T w, n, life, gens, drawn, toks))
    (hann : ∀ (w : World) (os : OsState), (⟨T w, n, life, gens, drawn, toks, os⟩ : SharedT).abs.heap.nsMap mainGlobals "__annotations__" = ann)
    (run : ∀ (w : World) (os : OsState), topRun treeTable p w n ann Mt (⟨T w, n, life, gens, drawn, toks, os⟩ : SharedT).abs (topStub p) = some (xf w os).abs)
    (le : Nat.ble Mt N = true)
    (looks : ∀ (w : World) (os : OsState), (looksF p (⟨T w, n, life, gens, drawn, toks, os⟩ : SharedT).abs.heap (xf w os).abs, seenQ q loose (importedModules p.main.body) Xt (xf w os).abs, as.map (getT (xf w os))) = (true, openGood q loose, (K w.params).map fun x => some x.2)) :
    LeftO p q loose Xt (Hook.obs (kHook K as ek)) (Hook.val (kHook K as ek)) N true := fun w => by
  obtain ⟨x, hx, hp⟩ := Option.map_eq_some_iff.mp (opn w)
  rw [← openQ_eq] at hx
  obtain ⟨s0, a, b, ex, en⟩ := openT_ok hx
  obtain ⟨T', n', life', gens', drawn', toks', os⟩ := x
  have hp2 : (T', n', life', gens', drawn', toks') = (T w, n, life, gens, drawn, toks) := hp
  simp only [Prod.mk.injEq] at hp2
  obtain ⟨rfl, rfl, rfl, rfl, rfl, rfl⟩ := hp2
  have en : s0.heap.objs.size = n' := en
  have r := run w os
  have hl := looks w os
  have ha := hann w os
  rw [ex] at r hl ha
  obtain ⟨l1, l23⟩ := Prod.mk.inj hl
  obtain ⟨l2, l3⟩ := Prod.mk.inj l23
  have r := topRun_mono (N - Mt) _ _ _ _ r
  rw [show Mt + (N - Mt) = N by have := Nat.le_of_ble_eq_true le; omega] at r
  rw [← en, ← ha] at r
  have l1' : (staticsOk (importedModules p.main.body) s0.heap (xf w os).abs.heap && namesBound p (xf w os).abs.heap && gensDone (xf w os).abs && laidKept s0.heap (xf w os).abs.heap) = true := l1
  have t : topFrom treeTable p w N s0 = some (xf w os).abs := by
    unfold topFrom
    rw [b]
    show (topRun treeTable p w s0.heap.objs.size (s0.heap.nsMap mainGlobals "__annotations__") N s0 (topStub p)).bind _ = _
    rw [r]
    show (match staticsOk (importedModules p.main.body) s0.heap (xf w os).abs.heap && namesBound p (xf w os).abs.heap && gensDone (xf w os).abs && laidKept s0.heap (xf w os).abs.heap with | true => some (xf w os).abs | false => none) = _
    rw [l1']
  have o1 : as.map (getT (xf w os)) = Hook.obs (kHook K as ek) (xf w os).abs := List.map_congr_left fun a _ => getT_eq (xf w os) a
  rw [o1] at l3
  rw [← seenQ_eq] at l2
  unfold openEnds
  rw [a]
  show (topFrom treeTable p w N s0).map _ = _
  rw [t]
  exact congrArg some (Prod.ext l2 l3)
section
variable {p : Program} {w : World} {n0 : Nat} {ann : Option Value} {env : Env} {q : Pos} {r : Shared}
theorem chain_pre {k m N : Nat} {x xa xb : SharedT} {b b' : List Stmt} {pos pos' : Pos} (hb : b = b')
    (h1 : goK (stepQ (denQ tabQ) p w) n0 ann k x (topStub p) = some (xa, ⟨denQ tabQ (.body b env), .body b env, pos, [topFrame q]⟩))
    (h2 : segF (stepQ (denQ tabQ) p w) n0 ann m xa (blockOf b env (.body b env) pos [topFrame q]) = some (xb, .body b env, pos'))
    (h3 : topRun treeTable p w n0 ann N xb.abs (restOf b' env (.body b env) pos' [topFrame q]) = some r) : topRun treeTable p w n0 ann (k + (m + N)) x.abs (topStub p) = some r := by
  refine go_top (goQ h1) (piece_block (segQ h2) ?_)
  refine Eq.trans (congrArg (fun l => topRun treeTable p w n0 ann N xb.abs (restOf l env (.body b env) pos' [topFrame q])) hb) h3
theorem chain_seg {m N : Nat} {x y : SharedT} {l rest : List Stmt} {c : Code} {pos pos' : Pos}
    (h1 : segF (stepQ (denQ tabQ) p w) n0 ann m x (piecesOf l env c pos [topFrame q]) = some (y, c, pos'))
    (h2 : topRun treeTable p w n0 ann N y.abs (restOf rest env c pos' [topFrame q]) = some r) : topRun treeTable p w n0 ann (m + N) x.abs (restOf (l ++ rest) env c pos [topFrame q]) = some r :=
  piece_app (segQ h1) h2
theorem chain_fin {m : Nat} {x y : SharedT} {c : Code} {pos : Pos} (h : goF (stepQ (denQ tabQ) p w) n0 ann m x ⟨doneF .next, c, pos, [topFrame q]⟩ = some y) : topRun treeTable p w n0 ann m x.abs (restOf [] env c pos [topFrame q]) = some y.abs :=
  piece_nil (finQ h)
end
theorem tri {α β γ : Type} {a a' : α} {b b' : β} {c c' : γ} (h1 : a = a') (h2 : b = b') (h3 : c = c') : (a, b, c) = (a', b', c') := by subst h1 h2 h3; rfl
theorem good_of {q : Program} {loose mods : List PySem.Str} {Xt : Shared → Bool} {s : Shared} (h0 : (seenQ q loose mods Xt s).1 = expectedOf q) (h1 : (seenQ q loose mods Xt s).2.1 = bltViewBooted) (h2 : (seenQ q loose mods Xt s).2.2.1 = true) (h3 : (seenQ q loose mods Xt s).2.2.2.1 = true)
    (h4 : (seenQ q loose mods Xt s).2.2.2.2.1 = pinGoodD (drecsOf q)) (h5 : (seenQ q loose mods Xt s).2.2.2.2.2.1 = plainGoodE q (looseW q loose)) (h6 : (seenQ q loose mods Xt s).2.2.2.2.2.2.1 = plainGoodD q loose) (h7 : (seenQ q loose mods Xt s).2.2.2.2.2.2.2.1 = wideGood q)
    (h8 : (seenQ q loose mods Xt s).2.2.2.2.2.2.2.2 = clsGoodW q loose) : seenQ q loose mods Xt s = openGood q loose := by
  unfold openGood
  rw [← h0, ← h1, ← h4, ← h5, ← h6, ← h7, ← h8]
  generalize seenQ q loose mods Xt s = X at *
  obtain ⟨x0, x1, x2, x3, x4, x5, x6, x7, x8⟩ := X
  simp only at h2 h3
  subst h2 h3
  rfl
def put (T : BT) (l : List (Nat × Obj)) : BT := l.foldl (fun T x => T.ins x.1 x.2) T
/-- a list's first entries, some of them others -/
def fixL {α : Type} (l : List α) (m : Nat) (ch : List (Nat × α)) : Array α := Array.mk (ch.foldl (fun l x => l.set x.1 x.2) (l.take m))
/-- the i-th statement's def, of no default -/
def lawDef (p : Program) (i : Nat) : DefRec := match p.main.body[i]? with
  | some (.FunctionDef n a b _ _ _ sc _ _ pos) => ⟨n, a, b, sc, pos⟩
  | _ => ⟨"law", ⟨[], [], none, [], [], none, []⟩, [], ⟨.function, [], false, false, []⟩, default⟩
end EvH
namespace Ev
open PySem PySem.Spec PyProof.Rows L2
inductive D where
  | non | bl (b : Bool) | int (i : Int) | str (x : Str)
  | tup (ds : List D) | lst (ds : List D) | klst (ds : List D)
  | dic (ks : List (Key × D)) | set (ks : List Int)
  | ins (c : Nat) (fs : List (Str × D))
  | ref (n : Nat)
  /-- an exception that was caught -/
  | xcp (c : Nat) (fs : List (Str × D))
/-- live objects -/
inductive O where
  | lst (ds : List D) | dic (ks : List (Key × D)) | ins (c : Nat) (fs : List (Str × D)) | dead
  /-- a dict whose keys are tuples of ints and texts -/
  | dicT (ks : List (List Key × D))
  /-- a dict that a comprehension fills -/
  | dX
abbrev HP := List O
abbrev EN := List (Option D)
abbrev AM := List (Option Addr)
inductive R (α : Type) where
  | ok (a : α) (h : HP)
  | exc (c : Nat) (fs : List (Str × D)) (h : HP)
  | stuck
@[simp] def R.bind {α β : Type} : R α → (α → HP → R β) → R β
  | .ok a h, f => f a h
  | .exc c fs h, _ => .exc c fs h
  | .stuck, _ => .stuck
/-- what the proof knows of the module: the written part, the classes' addresses -/
structure G where
  K : PySem.W.Frag
  cA : Nat → Addr
  xA : Nat → Addr
def KT (K : PySem.W.Frag) (a : Addr) (xs : List V) : Prop := ∃ (o : Obj) (its : Array Value) (n : Nat), K.lookup a = some o ∧ o.cls = .type "tuple" ∧ o.data = .seq its n ∧ its.size ≤ sizeLine ∧ Vals xs its.toList
def KL (K : PySem.W.Frag) (a : Addr) (xs : List V) : Prop := ∃ (o : Obj) (its : Array Value) (n : Nat), K.lookup a = some o ∧ o.cls = .type "list" ∧ o.dict = none ∧ o.data = .seq its n ∧ its.size ≤ sizeLine ∧ Vals xs its.toList
def FT (K : PySem.W.Frag) (m : AM) (H : Hp) (a : Addr) (xs : List V) : Prop := (Rd H a (.tup xs) ∧ some a ∉ m) ∨ KT K a xs
def FL (K : PySem.W.Frag) (m : AM) (H : Hp) (a : Addr) (xs : List V) : Prop := (Rd H a (.lst xs) ∧ some a ∉ m) ∨ KL K a xs
/-- the exception at a, known to its object -/
def XO (a : Addr) (oe : Obj) : HO := .frz oe (.ext fun h => h.get? a = some oe)
variable (g : G)
mutual
def rep (m : AM) (H : Hp) : D → V → Prop
  | .non, v => v = .non
  | .bl b, v => v = .bl b
  | .int i, v => v = .int i
  | .str x, v => v = .str x
  | .tup ds, v => ∃ a vs, v = .ref a ∧ FT g.K m H a vs ∧ reps m H ds vs
  | .lst ds, v => ∃ a vs, v = .ref a ∧ H a = some (.lst vs) ∧ some a ∉ m ∧ reps m H ds vs
  | .klst ds, v => ∃ a vs, v = .ref a ∧ FL g.K m H a vs ∧ reps m H ds vs
  | .dic ks, v => ∃ a vs, v = .ref a ∧ H a = some (.dK vs) ∧ some a ∉ m ∧ repk m H ks vs
  | .set ks, v => ∃ a n, v = .ref a ∧ H a = some (.set (fun j => decide (j ∈ ks)) n) ∧ some a ∉ m
  | .ins c fs, v => ∃ a dx vs, v = .ref a ∧ H a = some (.ins (g.cA c) dx vs) ∧ some a ∉ m ∧ repf m H fs vs
  | .ref n, v => n < m.length ∧ ∀ a, m[n]? = some (some a) → v = .ref a
  | .xcp c fs, v => ∃ a oe, v = .ref a ∧ H a = some (XO a oe) ∧ some a ∉ m ∧ oe.cls = .ref (g.xA c) ∧ (∃ vs, oe.data = .fields vs) ∧ ((oe.dict = none ∧ fs = []) ∨ ∃ d ws, oe.dict = some d ∧ H d = some (.xd ws) ∧ some d ∉ m ∧ repf m H fs ws)
def reps (m : AM) (H : Hp) : List D → List V → Prop
  | [], vs => vs = []
  | d :: ds, vs => ∃ v r, vs = v :: r ∧ rep m H d v ∧ reps m H ds r
def repk (m : AM) (H : Hp) : List (Key × D) → List (Key × V) → Prop
  | [], vs => vs = []
  | (k, d) :: ds, vs => ∃ v r, vs = (k, v) :: r ∧ rep m H d v ∧ repk m H ds r
def repf (m : AM) (H : Hp) : List (Str × D) → List (Str × V) → Prop
  | [], vs => vs = []
  | (k, d) :: ds, vs => ∃ v r, vs = (k, v) :: r ∧ rep m H d v ∧ repf m H ds r
end
/-- the state grows: what is not live stays, live objects stay live at their place or die -/
structure Ex (m : AM) (H : Hp) (m' : AM) (H' : Hp) : Prop where
  le : m.length ≤ m'.length
  mp : ∀ n a, m'[n]? = some (some a) → n < m.length → m[n]? = some (some a)
  fz : ∀ a o, H a = some o → some a ∉ m → H' a = some o ∧ some a ∉ m'
theorem Ex.refl (m : AM) (H : Hp) : Ex m H m H := ⟨Nat.le_refl _, fun _ _ h _ => h, fun _ _ h k => ⟨h, k⟩⟩
theorem Ex.trans {m1 m2 m3 : AM} {H1 H2 H3 : Hp} (x : Ex m1 H1 m2 H2) (y : Ex m2 H2 m3 H3) : Ex m1 H1 m3 H3 :=
  ⟨Nat.le_trans x.le y.le, fun n a h l => x.mp n a (y.mp n a h (Nat.lt_of_lt_of_le l x.le)) l, fun a o h k => let ⟨h1, k1⟩ := x.fz a o h k; y.fz a o h1 k1⟩
variable {g} {m m' : AM} {H H' : Hp}
theorem FT.ext {a : Addr} {xs : List V} (x : Ex m H m' H') (h : FT g.K m H a xs) : FT g.K m' H' a xs := by
  rcases h with ⟨h | ⟨o, h⟩, k⟩ | h
  · obtain ⟨h1, k1⟩ := x.fz _ _ h k
    exact .inl ⟨.inl h1, k1⟩
  · obtain ⟨h1, k1⟩ := x.fz _ _ h k
    exact .inl ⟨.inr ⟨o, h1⟩, k1⟩
  · exact .inr h
theorem FL.ext {a : Addr} {xs : List V} (x : Ex m H m' H') (h : FL g.K m H a xs) : FL g.K m' H' a xs := by
  rcases h with ⟨h | ⟨o, h⟩, k⟩ | h
  · obtain ⟨h1, k1⟩ := x.fz _ _ h k
    exact .inl ⟨.inl h1, k1⟩
  · obtain ⟨h1, k1⟩ := x.fz _ _ h k
    exact .inl ⟨.inr ⟨o, h1⟩, k1⟩
  · exact .inr h
mutual
theorem rep.ext (x : Ex m H m' H') : ∀ (d : D) (v : V), rep g m H d v → rep g m' H' d v
  | .non, v, h => by simpa [rep] using h
  | .bl b, v, h => by simpa [rep] using h
  | .int i, v, h => by simpa [rep] using h
  | .str s, v, h => by simpa [rep] using h
  | .tup ds, v, h => by
    simp only [rep] at h ⊢
    obtain ⟨a, vs, e, f, r⟩ := h
    exact ⟨a, vs, e, f.ext x, reps.ext x ds vs r⟩
  | .lst ds, v, h => by
    simp only [rep] at h ⊢
    obtain ⟨a, vs, e, f, k, r⟩ := h
    obtain ⟨f1, k1⟩ := x.fz _ _ f k
    exact ⟨a, vs, e, f1, k1, reps.ext x ds vs r⟩
  | .klst ds, v, h => by
    simp only [rep] at h ⊢
    obtain ⟨a, vs, e, f, r⟩ := h
    exact ⟨a, vs, e, f.ext x, reps.ext x ds vs r⟩
  | .dic ks, v, h => by
    simp only [rep] at h ⊢
    obtain ⟨a, vs, e, f, k, r⟩ := h
    obtain ⟨f1, k1⟩ := x.fz _ _ f k
    exact ⟨a, vs, e, f1, k1, repk.ext x ks vs r⟩
  | .set ks, v, h => by
    simp only [rep] at h ⊢
    obtain ⟨a, n, e, f, k⟩ := h
    obtain ⟨f1, k1⟩ := x.fz _ _ f k
    exact ⟨a, n, e, f1, k1⟩
  | .ins c fs, v, h => by
    simp only [rep] at h ⊢
    obtain ⟨a, dx, vs, e, f, k, r⟩ := h
    obtain ⟨f1, k1⟩ := x.fz _ _ f k
    exact ⟨a, dx, vs, e, f1, k1, repf.ext x fs vs r⟩
  | .ref n, v, h => by
    simp only [rep] at h ⊢
    exact ⟨Nat.lt_of_lt_of_le h.1 x.le, fun a e => h.2 a (x.mp n a e h.1)⟩
  | .xcp c fs, v, h => by
    simp only [rep] at h ⊢
    obtain ⟨a, oe, e, f, k, hc, hd, r⟩ := h
    obtain ⟨f1, k1⟩ := x.fz _ _ f k
    refine ⟨a, oe, e, f1, k1, hc, hd, ?_⟩
    rcases r with r | ⟨d, ws, e1, e2, n2, r⟩
    · exact .inl r
    · obtain ⟨f2, k2⟩ := x.fz _ _ e2 n2
      exact .inr ⟨d, ws, e1, f2, k2, repf.ext x fs ws r⟩
theorem reps.ext (x : Ex m H m' H') : ∀ (ds : List D) (vs : List V), reps g m H ds vs → reps g m' H' ds vs
  | [], vs, h => by simpa [reps] using h
  | d :: ds, vs, h => by
    simp only [reps] at h ⊢
    obtain ⟨v, r, e, h1, h2⟩ := h
    exact ⟨v, r, e, rep.ext x d v h1, reps.ext x ds r h2⟩
theorem repk.ext (x : Ex m H m' H') : ∀ (ds : List (Key × D)) (vs : List (Key × V)), repk g m H ds vs → repk g m' H' ds vs
  | [], vs, h => by simpa [repk] using h
  | (k, d) :: ds, vs, h => by
    simp only [repk] at h ⊢
    obtain ⟨v, r, e, h1, h2⟩ := h
    exact ⟨v, r, e, rep.ext x d v h1, repk.ext x ds r h2⟩
theorem repf.ext (x : Ex m H m' H') : ∀ (ds : List (Str × D)) (vs : List (Str × V)), repf g m H ds vs → repf g m' H' ds vs
  | [], vs, h => by simpa [repf] using h
  | (k, d) :: ds, vs, h => by
    simp only [repf] at h ⊢
    obtain ⟨v, r, e, h1, h2⟩ := h
    exact ⟨v, r, e, rep.ext x d v h1, repf.ext x ds r h2⟩
end
def repkT (g : G) (m : AM) (H : Hp) : List (List Key × D) → List (List Key × V) → Prop
  | [], vs => vs = []
  | (k, d) :: ds, vs => ∃ v r, vs = (k, v) :: r ∧ rep g m H d v ∧ repkT g m H ds r
theorem repkT.ext (x : Ex m H m' H') : ∀ (ds : List (List Key × D)) (vs : List (List Key × V)), repkT g m H ds vs → repkT g m' H' ds vs
  | [], vs, h => by simpa [repkT] using h
  | (k, d) :: ds, vs, h => by
    simp only [repkT] at h ⊢
    obtain ⟨v, r, e, h1, h2⟩ := h
    exact ⟨v, r, e, rep.ext x d v h1, repkT.ext x ds r h2⟩
theorem repkT.length : ∀ {ds : List (List Key × D)} {vs : List (List Key × V)}, repkT g m H ds vs → ds.length = vs.length
  | [], vs, h => by simp only [repkT] at h; subst h; rfl
  | (k, d) :: ds, vs, h => by
    simp only [repkT] at h
    obtain ⟨v, r, rfl, _, h2⟩ := h
    simp [repkT.length h2]
/-- a live object at a -/
def liveO (g : G) (m : AM) (H : Hp) (a : Addr) : O → Prop
  | .lst ds => ∃ vs, H a = some (.lst vs) ∧ reps g m H ds vs
  | .dic ks => ∃ vs, H a = some (.dK vs) ∧ repk g m H ks vs
  | .ins c fs => ∃ dx vs, H a = some (.ins (g.cA c) dx vs) ∧ repf g m H fs vs
  | .dead => False
  | .dicT ks => ∃ vs, H a = some (.dT vs) ∧ repkT g m H ks vs
  | .dX => ∃ φ, H a = some (.ext φ)
structure HL (g : G) (m : AM) (H : Hp) (hp : HP) : Prop where
  len : m.length = hp.length
  nd : ∀ (i j : Nat) (a : Addr), m[i]? = some (some a) → m[j]? = some (some a) → i = j
  live : ∀ (i : Nat) (o : O), hp[i]? = some o → (o = .dead ∧ m[i]? = some none) ∨ ∃ a, m[i]? = some (some a) ∧ liveO g m H a o
structure ER (g : G) (m : AM) (H : Hp) (σ : L2.St) (env : EN) : Prop where
  len : σ.length = env.length
  at_ : ∀ (i : Nat) (d : D), env[i]? = some (some d) → ∃ v, σ[i]? = some (some v) ∧ rep g m H d v
theorem ER.ext {σ : L2.St} {env : EN} (x : Ex m H m' H') (h : ER g m H σ env) : ER g m' H' σ env :=
  ⟨h.len, fun i d e => let ⟨v, e1, r⟩ := h.at_ i d e; ⟨v, e1, rep.ext x d v r⟩⟩
/-- the dict of an exception, where it has one -/
def XD (g : G) (m : AM) (H : Hp) (fs : List (Str × D)) : Option Addr → Prop
  | none => fs = []
  | some d => ∃ ws, H d = some (.xd ws) ∧ some d ∉ m ∧ repf g m H fs ws
/-- what is asked behind an expression -/
def PO {α β : Type} (g : G) (m : AM) (H : Hp) (E : XK) (rp : AM → Hp → α → β → Prop) (Q : β → Hp → Prop) : R α → Prop
  | .ok d hp' => ∀ m' H' v, Ex m H m' H' → HL g m' H' hp' → rp m' H' d v → Q v H'
  | .exc c fs hp' => ∀ m' H' d, Ex m H m' H' → HL g m' H' hp' → XD g m' H' fs d → E (.ref (g.xA c)) d H'
  | .stuck => False
theorem PO.bind {α β γ δ : Type} {E : XK} {rp : AM → Hp → α → β → Prop} {rq : AM → Hp → γ → δ → Prop} {Q : β → Hp → Prop} {Q' : δ → Hp → Prop} {r : R α} {f : α → HP → R γ}
    (h : PO g m H E rq Q' (r.bind f)) (k : ∀ d hp' m' H' v, Ex m H m' H' → HL g m' H' hp' → rp m' H' d v → PO g m' H' E rq Q' (f d hp') → Q v H') : PO g m H E rp Q r := by
  cases r with
  | ok d hp' =>
    intro m' H' v x hl rv
    refine k d hp' m' H' v x hl rv ?_
    simp only [R.bind] at h
    revert h
    cases f d hp' with
    | ok e h2 => exact fun h m2 H2 w x2 hl2 r2 => h m2 H2 w (x.trans x2) hl2 r2
    | exc c fs h2 => exact fun h m2 H2 d2 x2 hl2 e2 => h m2 H2 d2 (x.trans x2) hl2 e2
    | stuck => exact fun h => h
  | exc c fs hp' => exact h
  | stuck => exact h
abbrev rB : AM → Hp → Bool → Bool → Prop := fun _ _ b c => b = c
end Ev
namespace Ev
open PySem PySem.Spec PyProof.Rows L2
abbrev M (α : Type) := EN → HP → R α
section
variable (g : G) (X : Cx) (E : XK)
structure EV (e : Expr) (f : M D) : Prop where
  ex : ∃ t, PE X e t ∧ ∀ σ H Q m env hp, HL g m H hp → ER g m H σ env → PO g m H E (rep g) Q (f env hp) → t σ H Q
structure TV (e : Expr) (f : M Bool) : Prop where
  ex : ∃ t, PT X e t ∧ ∀ σ H Q m env hp, HL g m H hp → ER g m H σ env → PO g m H E rB Q (f env hp) → t σ H Q
structure AV (es : List Expr) (f : M (List D)) : Prop where
  ex : ∃ t, PA X es t ∧ ∀ σ H Q m env hp, HL g m H hp → ER g m H σ env → PO g m H E (reps g) Q (f env hp) → t σ H Q
end
section
variable {g : G} {X : Cx} {E : XK}
@[simp] def kVar : Option (Option D) → HP → R D
  | some (some d), hp => .ok d hp
  | some none, _ => .stuck
  | none, _ => .stuck
@[simp] def mVar (i : Nat) (env : EN) (hp : HP) : R D := kVar env[i]? hp
theorem EV.var {i : Nat} {x : Str} {pos : Pos} {e : Expr} (he : e = .Name x pos) (hN : X.N[i]? = some x) (hv : Vis X.env.scope x) (hd : (x == ("__debug__" : Str)) = false) (hcd : (x == ("__classdict__" : Str)) = false) : EV g X E e (mVar i) := by
  subst he
  refine ⟨_, pe_var hN hv hd hcd, fun σ H Q m env hp hl er h => ?_⟩
  unfold mVar kVar at h
  split at h
  · rename_i d e
    obtain ⟨v, e1, r⟩ := er.at_ i d e
    exact ⟨v, e1, h m H v (.refl _ _) hl r⟩
  · exact h.elim
  · exact h.elim
@[simp] def mCst (d : D) (_ : EN) (hp : HP) : R D := .ok d hp
theorem EV.cst {e : Expr} {v : V} {d : D} (hp : PE X e (tC v)) (hr : ∀ m H, rep g m H d v) : EV g X E e (mCst d) :=
  ⟨_, hp, fun σ H Q m env hp hl er h => h m H v (.refl _ _) hl (hr m H)⟩
theorem EV.int {i : Int} {j pos} : EV g X E (.Constant (.int i) j pos) (mCst (.int i)) := .cst pe_int fun _ _ => by simp [rep]
theorem EV.bl {i : Bool} {j pos} : EV g X E (.Constant (.bool i) j pos) (mCst (.bl i)) := .cst pe_bl fun _ _ => by simp [rep]
theorem EV.non {j pos} : EV g X E (.Constant .none j pos) (mCst .non) := .cst pe_non fun _ _ => by simp [rep]
theorem EV.str {i : Str} {j pos} : EV g X E (.Constant (.str i) j pos) (mCst (.str i)) := .cst pe_str fun _ _ => by simp [rep]
theorem EV.glb {x : Str} {d : D} {v : V} {u : Value} {pos : Pos} (hr : ∀ m H, rep g m H d v) (hm : X.mg x = some u) (r : RelV v u) (hg : Gl X x) (hd : (x == ("__debug__" : Str)) = false) : EV g X E (.Name x pos) (mCst d) := .cst (pe_glob hg hm r hd) hr
abbrev F2 := D → D → HP → R D
/-- an operation on values keeps a rule of the layer -/
def OK2 (g : G) (E : XK) (r : R2) (f : F2) : Prop := ∀ m H hp x y v u Q, HL g m H hp → rep g m H x v → rep g m H y u → PO g m H E (rep g) Q (f x y hp) → r v u H Q
def OKS (X : Cx) (g : G) (E : XK) (h : Value → Value → Sem Value) (f : F2) : Prop := ∃ r, OpR X h r ∧ OK2 g E r f
@[simp] def kBin (f : F2) (b : M D) (env : EN) (x : D) (h1 : HP) : R D := (b env h1).bind (f x)
@[simp] def mBin (f : F2) (a b : M D) (env : EN) (hp : HP) : R D := (a env hp).bind (kBin f b env)
theorem EV.bin {op : Operator} {a b : Expr} {pos : Pos} {fa fb : M D} {f : F2} (ho : OKS X g E (binaryOp op) f) (ha : EV g X E a fa) (hb : EV g X E b fb) : EV g X E (.BinOp a op b pos) (mBin f fa fb) := by
  obtain ⟨r, hr, ho⟩ := ho
  obtain ⟨ta, pa, qa⟩ := ha
  obtain ⟨tb, pb, qb⟩ := hb
  refine ⟨_, pe_op hr pa pb, fun σ H Q m env hp hl er h => ?_⟩
  refine qa σ H _ m env hp hl er (PO.bind h fun x h1 m1 H1 v x1 hl1 r1 h => ?_)
  refine qb σ H1 _ m1 env h1 hl1 (er.ext x1) (PO.bind h fun y h2 m2 H2 u x2 hl2 r2 h => ?_)
  exact ho m2 H2 h2 x y v u Q hl2 (rep.ext x2 _ _ r1) r2 h
theorem EV.cmp {op : CmpOp} {a b : Expr} {pos : Pos} {fa fb : M D} {f : F2} (ho : OKS X g E (compareOp op) f) (ha : EV g X E a fa) (hb : EV g X E b fb) (hm : behindInMarks op b = false) : EV g X E (.Compare a [op] [b] pos) (mBin f fa fb) := by
  obtain ⟨r, hr, ho⟩ := ho
  obtain ⟨ta, pa, qa⟩ := ha
  obtain ⟨tb, pb, qb⟩ := hb
  refine ⟨_, pe_cmpR hr pa pb hm, fun σ H Q m env hp hl er h => ?_⟩
  refine qa σ H _ m env hp hl er (PO.bind h fun x h1 m1 H1 v x1 hl1 r1 h => ?_)
  refine qb σ H1 _ m1 env h1 hl1 (er.ext x1) (PO.bind h fun y h2 m2 H2 u x2 hl2 r2 h => ?_)
  exact ho m2 H2 h2 x y v u Q hl2 (rep.ext x2 _ _ r1) r2 h
/-- a value as a bool -/
@[simp] def isB : D → HP → R Bool
  | .bl b, hp => .ok b hp
  | _, _ => .stuck
@[simp] def mB (a : M D) (env : EN) (hp : HP) : R Bool := (a env hp).bind isB
theorem PO.toB {m : AM} {H : Hp} {hp : HP} {d : D} {v : V} {Q : Bool → Hp → Prop} (hl : HL g m H hp) (r : rep g m H d v) (h : PO g m H E rB Q (isB d hp)) : ∃ k, v = .bl k ∧ Q k H := by
  unfold Ev.isB at h
  split at h
  · simp only [rep] at r
    exact ⟨_, r, h m H _ (.refl _ _) hl rfl⟩
  · exact h.elim
theorem PO.isBk {α β : Type} {rq : AM → Hp → α → β → Prop} {m : AM} {H : Hp} {hp : HP} {d : D} {v : V} {Q : β → Hp → Prop} {f : Bool → HP → R α} (r : rep g m H d v) (h : PO g m H E rq Q ((isB d hp).bind f)) : ∃ k, v = .bl k ∧ PO g m H E rq Q (f k hp) := by
  cases d with
  | bl b =>
    simp only [rep] at r
    exact ⟨b, r, h⟩
  | _ => exact h.elim
theorem TV.cmp {op : CmpOp} {a b : Expr} {pos : Pos} {fa fb : M D} {f : F2} (ho : OKS X g E (compareOp op) f) (ha : EV g X E a fa) (hb : EV g X E b fb) (hm : behindInMarks op b = false) : TV g X E (.Compare a [op] [b] pos) (mB (mBin f fa fb)) := by
  obtain ⟨r, hr, ho⟩ := ho
  obtain ⟨ta, pa, qa⟩ := ha
  obtain ⟨tb, pb, qb⟩ := hb
  refine ⟨_, pt_cmpR hr pa pb hm, fun σ H Q m env hp hl er h => ?_⟩
  refine qa σ H _ m env hp hl er ?_
  have h : PO g m H E rB Q ((fa env hp).bind fun x h1 => ((fb env h1).bind fun y h2 => (f x y h2).bind isB)) := by
    have e : mB (mBin f fa fb) env hp = ((fa env hp).bind fun x h1 => ((fb env h1).bind fun y h2 => (f x y h2).bind isB)) := by
      unfold mB mBin
      cases fa env hp with
      | ok x h1 =>
        simp only [R.bind, kBin]
        cases fb env h1 with
        | ok y h2 => rfl
        | exc _ _ _ => rfl
        | stuck => rfl
      | exc _ _ _ => rfl
      | stuck => rfl
    rw [← e]; exact h
  refine PO.bind h fun x h1 m1 H1 v x1 hl1 r1 h => ?_
  refine qb σ H1 _ m1 env h1 hl1 (er.ext x1) (PO.bind h fun y h2 m2 H2 u x2 hl2 r2 h => ?_)
  refine ho m2 H2 h2 x y v u _ hl2 (rep.ext x2 _ _ r1) r2 (PO.bind h fun z h3 m3 H3 w x3 hl3 r3 h => ?_)
  exact PO.toB hl3 r3 h
/-- a < b < c .. (any number) : the first comparison, then the rest from b's value -/
@[simp] def kCh3 (f2 : F2) (c : M D) (env : EN) (y : D) (k : Bool) (h : HP) : R D := if k = true then (c env h).bind (f2 y) else .ok (.bl false) h
@[simp] def kChB (f2 : F2) (c : M D) (env : EN) (y : D) (d : D) (h : HP) : R D := (isB d h).bind (kCh3 f2 c env y)
@[simp] def kCh2 (f f2 : F2) (c : M D) (env : EN) (x y : D) (h2 : HP) : R D := (f x y h2).bind (kChB f2 c env y)
@[simp] def kCh1 (f f2 : F2) (b c : M D) (env : EN) (x : D) (h1 : HP) : R D := (b env h1).bind (kCh2 f f2 c env x)
@[simp] def mCh2 (f f2 : F2) (a b c : M D) (env : EN) (hp : HP) : R D := (a env hp).bind (kCh1 f f2 b c env)
theorem EV.ch2 {op op2 : CmpOp} {a b c : Expr} {pos : Pos} {fa fb fc : M D} {f f2 : F2} (ho : OKS X g E (compareOp op) f) (ho2 : OKS X g E (compareOp op2) f2) (ha : EV g X E a fa) (hb : EV g X E b fb) (hc : EV g X E c fc) (hm : lastMarks [op, op2] [b, c] = false) :
    EV g X E (.Compare a [op, op2] [b, c] pos) (mCh2 f f2 fa fb fc) := by
  obtain ⟨r, hr, ho⟩ := ho
  obtain ⟨r2, hr2, ho2⟩ := ho2
  obtain ⟨ta, pa, qa⟩ := ha
  obtain ⟨tb, pb, qb⟩ := hb
  obtain ⟨tc, pc, qc⟩ := hc
  refine ⟨_, pe_chain hr hr2 pa pb pc hm, fun σ H Q m env hp hl er h => ?_⟩
  refine qa σ H _ m env hp hl er (PO.bind h fun x h1 m1 H1 v x1 hl1 r1 h => ?_)
  refine qb σ H1 _ m1 env h1 hl1 (er.ext x1) (PO.bind h fun y h2 m2 H2 u x2 hl2 r2 h => ?_)
  refine ho m2 H2 h2 x y v u _ hl2 (rep.ext x2 _ _ r1) r2 (PO.bind h fun z h3 m3 H3 w x3 hl3 r3 h => ?_)
  obtain ⟨k, e, h⟩ := PO.isBk r3 h
  refine ⟨k, e, ?_⟩
  unfold kCh3 at h
  cases k with
  | true =>
    rw [if_pos rfl] at h ⊢
    refine qc σ H3 _ m3 env h3 hl3 ((er.ext x1).ext (x2.trans x3)) (PO.bind h fun z h4 m4 H4 w4 x4 hl4 r4 h => ?_)
    exact ho2 m4 H4 h4 y z u w4 Q hl4 (rep.ext (x3.trans x4) _ _ r2) r4 h
  | false =>
    rw [if_neg Bool.false_ne_true] at h ⊢
    exact h m3 H3 _ (.refl _ _) hl3 (by simp [rep])
theorem TV.val {e : Expr} {f : M D} (h : EV g X E e f) (he : ∀ whole, isTrue e X.env whole = (do let v ← whole; standAt e.pos; holding [v] (truthy v))) : TV g X E e (mB f) := by
  obtain ⟨t, p, q⟩ := h
  refine ⟨_, pt_val p he, fun σ H Q m env hp hl er h => ?_⟩
  exact q σ H _ m env hp hl er (PO.bind h fun x h1 m1 H1 v x1 hl1 r1 h => PO.toB hl1 r1 h)
theorem R.bind_assoc {α β γ : Type} (r : R α) (f : α → HP → R β) (k : β → HP → R γ) : (r.bind f).bind k = r.bind fun x h => (f x h).bind k := by cases r <;> rfl
theorem TV.ch2 {op op2 : CmpOp} {a b c : Expr} {pos : Pos} {fa fb fc : M D} {f f2 : F2} (ho : OKS X g E (compareOp op) f) (ho2 : OKS X g E (compareOp op2) f2) (ha : EV g X E a fa) (hb : EV g X E b fb) (hc : EV g X E c fc) (hm : lastMarks [op, op2] [b, c] = false) :
    TV g X E (.Compare a [op, op2] [b, c] pos) (mB (mCh2 f f2 fa fb fc)) := by
  obtain ⟨r, hr, ho⟩ := ho
  obtain ⟨r2, hr2, ho2⟩ := ho2
  obtain ⟨ta, pa, qa⟩ := ha
  obtain ⟨tb, pb, qb⟩ := hb
  obtain ⟨tc, pc, qc⟩ := hc
  refine ⟨_, pt_chain hr hr2 pa pb pc hm, fun σ H Q m env hp hl er h => ?_⟩
  simp only [mB, mCh2, R.bind_assoc] at h
  unfold kCh1 kCh2 kChB at h
  simp only [R.bind_assoc] at h
  refine qa σ H _ m env hp hl er (PO.bind h fun x h1 m1 H1 v x1 hl1 r1 h => ?_)
  refine qb σ H1 _ m1 env h1 hl1 (er.ext x1) (PO.bind h fun y h2 m2 H2 u x2 hl2 r2 h => ?_)
  refine ho m2 H2 h2 x y v u _ hl2 (rep.ext x2 _ _ r1) r2 (PO.bind h fun z h3 m3 H3 w x3 hl3 r3 h => ?_)
  obtain ⟨k, e, h⟩ := PO.isBk r3 h
  refine ⟨k, e, ?_⟩
  unfold kCh3 at h
  cases k with
  | true =>
    rw [if_pos rfl] at h ⊢
    rw [R.bind_assoc] at h
    refine qc σ H3 _ m3 env h3 hl3 ((er.ext x1).ext (x2.trans x3)) (PO.bind h fun z h4 m4 H4 w4 x4 hl4 r4 h => ?_)
    exact ho2 m4 H4 h4 y z u w4 _ hl4 (rep.ext (x3.trans x4) _ _ r2) r4 (PO.bind h fun z h5 m5 H5 w5 x5 hl5 r5 h => PO.toB hl5 r5 h)
  | false =>
    rw [if_neg Bool.false_ne_true] at h ⊢
    exact ⟨false, rfl, h m3 H3 _ (.refl _ _) hl3 rfl⟩
@[simp] def kNotB (k : Bool) (h : HP) : R D := .ok (.bl (!k)) h
@[simp] def kNot (x : D) (h : HP) : R D := (isB x h).bind kNotB
@[simp] def mNot (a : M D) (env : EN) (hp : HP) : R D := (a env hp).bind kNot
@[simp] def kAndB (b : M D) (env : EN) (k : Bool) (h : HP) : R D := if k = true then b env h else .ok (.bl false) h
@[simp] def kAnd (b : M D) (env : EN) (x : D) (h : HP) : R D := (isB x h).bind (kAndB b env)
@[simp] def mAnd (a b : M D) (env : EN) (hp : HP) : R D := (a env hp).bind (kAnd b env)
@[simp] def kOrB (b : M D) (env : EN) (k : Bool) (h : HP) : R D := if k = true then .ok (.bl true) h else b env h
@[simp] def kOr (b : M D) (env : EN) (x : D) (h : HP) : R D := (isB x h).bind (kOrB b env)
@[simp] def mOr (a b : M D) (env : EN) (hp : HP) : R D := (a env hp).bind (kOr b env)
theorem EV.not_ {a : Expr} {pos : Pos} {fa : M D} (ha : EV g X E a fa) : EV g X E (.UnaryOp .Not a pos) (mNot fa) := by
  obtain ⟨ta, pa, qa⟩ := ha
  refine ⟨_, pe_not pa, fun σ H Q m env hp hl er h => ?_⟩
  refine qa σ H _ m env hp hl er (PO.bind h fun x h1 m1 H1 v x1 hl1 r1 h => ?_)
  obtain ⟨k, e, h⟩ := PO.isBk r1 h
  exact ⟨k, e, h m1 H1 _ (.refl _ _) hl1 (by simp [rep])⟩
theorem EV.and_ {a b : Expr} {rest : List Expr} {pos : Pos} {fa fb : M D} (ha : EV g X E a fa) (hb : EV g X E (.BoolOp .And (b :: rest) pos) fb) : EV g X E (.BoolOp .And (a :: b :: rest) pos) (mAnd fa fb) := by
  obtain ⟨ta, pa, qa⟩ := ha
  obtain ⟨tb, pb, qb⟩ := hb
  refine ⟨_, pe_and pa pb, fun σ H Q m env hp hl er h => ?_⟩
  refine qa σ H _ m env hp hl er (PO.bind h fun x h1 m1 H1 v x1 hl1 r1 h => ?_)
  obtain ⟨k, e, h⟩ := PO.isBk r1 h
  refine ⟨k, e, ?_⟩
  unfold kAndB at h
  cases k with
  | true =>
    rw [if_pos rfl] at h ⊢
    exact qb σ H1 Q m1 env h1 hl1 (er.ext x1) h
  | false =>
    rw [if_neg Bool.false_ne_true] at h ⊢
    exact h m1 H1 _ (.refl _ _) hl1 (by simp [rep])
theorem EV.or_ {a b : Expr} {rest : List Expr} {pos : Pos} {fa fb : M D} (ha : EV g X E a fa) (hb : EV g X E (.BoolOp .Or (b :: rest) pos) fb) : EV g X E (.BoolOp .Or (a :: b :: rest) pos) (mOr fa fb) := by
  obtain ⟨ta, pa, qa⟩ := ha
  obtain ⟨tb, pb, qb⟩ := hb
  refine ⟨_, pe_or pa pb, fun σ H Q m env hp hl er h => ?_⟩
  refine qa σ H _ m env hp hl er (PO.bind h fun x h1 m1 H1 v x1 hl1 r1 h => ?_)
  obtain ⟨k, e, h⟩ := PO.isBk r1 h
  refine ⟨k, e, ?_⟩
  unfold kOrB at h
  cases k with
  | false =>
    rw [if_neg Bool.false_ne_true] at h ⊢
    exact qb σ H1 Q m1 env h1 hl1 (er.ext x1) h
  | true =>
    rw [if_pos rfl] at h ⊢
    exact h m1 H1 _ (.refl _ _) hl1 (by simp [rep])
theorem EV.one {op : BoolOp} {a : Expr} {pos : Pos} {fa : M D} (ha : EV g X E a fa) : EV g X E (.BoolOp op [a] pos) fa := by
  obtain ⟨ta, pa, qa⟩ := ha
  exact ⟨_, pe_one pa, qa⟩
@[simp] def ktNot (k : Bool) (h : HP) : R Bool := .ok (!k) h
@[simp] def tmNot (a : M Bool) (env : EN) (hp : HP) : R Bool := (a env hp).bind ktNot
@[simp] def ktAnd (b : M Bool) (env : EN) (k : Bool) (h : HP) : R Bool := if k = true then b env h else .ok false h
@[simp] def tmAnd (a b : M Bool) (env : EN) (hp : HP) : R Bool := (a env hp).bind (ktAnd b env)
@[simp] def ktOr (b : M Bool) (env : EN) (k : Bool) (h : HP) : R Bool := if k = true then .ok true h else b env h
@[simp] def tmOr (a b : M Bool) (env : EN) (hp : HP) : R Bool := (a env hp).bind (ktOr b env)
theorem TV.not_ {a : Expr} {pos : Pos} {fa : M Bool} (ha : TV g X E a fa) : TV g X E (.UnaryOp .Not a pos) (tmNot fa) := by
  obtain ⟨ta, pa, qa⟩ := ha
  refine ⟨_, pt_not pa, fun σ H Q m env hp hl er h => ?_⟩
  refine qa σ H _ m env hp hl er (PO.bind h fun x h1 m1 H1 v x1 hl1 r1 h => ?_)
  cases (show x = v from r1)
  exact h m1 H1 _ (.refl _ _) hl1 rfl
/-- a test whatever its 'whole' is -/
structure WV (g : G) (X : Cx) (E : XK) (e : Expr) (f : M Bool) : Prop where
  ex : ∃ t, PW X e t ∧ ∀ σ H Q m env hp, HL g m H hp → ER g m H σ env → PO g m H E rB Q (f env hp) → t σ H Q
theorem WV.tv {e : Expr} {f : M Bool} (h : WV g X E e f) : TV g X E e f := by
  obtain ⟨ta, pa, qa⟩ := h
  exact ⟨_, pa.pt, qa⟩
theorem WV.and1 {a : Expr} {pos : Pos} {fa : M Bool} (ha : TV g X E a fa) : WV g X E (.BoolOp .And [a] pos) fa := by
  obtain ⟨ta, pa, qa⟩ := ha
  exact ⟨_, pw_and1 pa, qa⟩
theorem WV.or1 {a : Expr} {pos : Pos} {fa : M Bool} (ha : TV g X E a fa) : WV g X E (.BoolOp .Or [a] pos) fa := by
  obtain ⟨ta, pa, qa⟩ := ha
  exact ⟨_, pw_or1 pa, qa⟩
theorem WV.and_ {a b : Expr} {rest : List Expr} {pos : Pos} {fa fb : M Bool} (ha : TV g X E a fa) (hb : WV g X E (.BoolOp .And (b :: rest) pos) fb) : WV g X E (.BoolOp .And (a :: b :: rest) pos) (tmAnd fa fb) := by
  obtain ⟨ta, pa, qa⟩ := ha
  obtain ⟨tb, pb, qb⟩ := hb
  refine ⟨_, pw_and pa pb, fun σ H Q m env hp hl er h => ?_⟩
  refine qa σ H _ m env hp hl er (PO.bind h fun x h1 m1 H1 v x1 hl1 r1 h => ?_)
  cases (show x = v from r1)
  unfold ktAnd at h
  cases x with
  | true =>
    rw [if_pos rfl] at h ⊢
    exact qb σ H1 Q m1 env h1 hl1 (er.ext x1) h
  | false =>
    rw [if_neg Bool.false_ne_true] at h ⊢
    exact h m1 H1 _ (.refl _ _) hl1 rfl
theorem WV.or_ {a b : Expr} {rest : List Expr} {pos : Pos} {fa fb : M Bool} (ha : TV g X E a fa) (hb : WV g X E (.BoolOp .Or (b :: rest) pos) fb) : WV g X E (.BoolOp .Or (a :: b :: rest) pos) (tmOr fa fb) := by
  obtain ⟨ta, pa, qa⟩ := ha
  obtain ⟨tb, pb, qb⟩ := hb
  refine ⟨_, pw_or pa pb, fun σ H Q m env hp hl er h => ?_⟩
  refine qa σ H _ m env hp hl er (PO.bind h fun x h1 m1 H1 v x1 hl1 r1 h => ?_)
  cases (show x = v from r1)
  unfold ktOr at h
  cases x with
  | false =>
    rw [if_neg Bool.false_ne_true] at h ⊢
    exact qb σ H1 Q m1 env h1 hl1 (er.ext x1) h
  | true =>
    rw [if_pos rfl] at h ⊢
    exact h m1 H1 _ (.refl _ _) hl1 rfl
@[simp] def kIf (a b : M D) (env : EN) (k : Bool) (h : HP) : R D := if k = true then a env h else b env h
@[simp] def mIf (c : M Bool) (a b : M D) (env : EN) (hp : HP) : R D := (c env hp).bind (kIf a b env)
theorem EV.ite_ {c a b : Expr} {pos : Pos} {fc : M Bool} {fa fb : M D} (hc : TV g X E c fc) (ha : EV g X E a fa) (hb : EV g X E b fb) : EV g X E (.IfExp c a b pos) (mIf fc fa fb) := by
  obtain ⟨tc, pc, qc⟩ := hc
  obtain ⟨ta, pa, qa⟩ := ha
  obtain ⟨tb, pb, qb⟩ := hb
  refine ⟨_, pe_ifExp pc pa pb, fun σ H Q m env hp hl er h => ?_⟩
  refine qc σ H _ m env hp hl er (PO.bind h fun x h1 m1 H1 v x1 hl1 r1 h => ?_)
  cases (show x = v from r1)
  unfold kIf at h
  cases x with
  | true =>
    rw [if_pos rfl] at h ⊢
    exact qa σ H1 Q m1 env h1 hl1 (er.ext x1) h
  | false =>
    rw [if_neg Bool.false_ne_true] at h ⊢
    exact qb σ H1 Q m1 env h1 hl1 (er.ext x1) h
/-- truth of any value that is there -/
@[simp] def truO : Option O → HP → R Bool
  | some (.lst ds), hp => .ok (!ds.isEmpty) hp
  | some (.dic ds), hp => .ok (!ds.isEmpty) hp
  | _, _ => .stuck
@[simp] def truD : D → HP → R Bool
  | .non, hp => .ok false hp
  | .bl b, hp => .ok b hp
  | .int i, hp => .ok (i != 0) hp
  | .lst ds, hp => .ok (!ds.isEmpty) hp
  | .klst ds, hp => .ok (!ds.isEmpty) hp
  | .tup ds, hp => .ok (!ds.isEmpty) hp
  | .dic ds, hp => .ok (!ds.isEmpty) hp
  | .ref n, hp => truO hp[n]? hp
  | _, _ => .stuck
@[simp] def mTru (a : M D) (env : EN) (hp : HP) : R Bool := (a env hp).bind truD
theorem reps.length {m : AM} {H : Hp} : ∀ {ds : List D} {vs : List V}, reps g m H ds vs → ds.length = vs.length
  | [], vs, h => by simp only [reps] at h; subst h; rfl
  | d :: ds, vs, h => by
    simp only [reps] at h
    obtain ⟨v, r, rfl, _, h2⟩ := h
    simp [reps.length h2]
theorem repk.length {m : AM} {H : Hp} : ∀ {ds : List (Key × D)} {vs : List (Key × V)}, repk g m H ds vs → ds.length = vs.length
  | [], vs, h => by simp only [repk] at h; subst h; rfl
  | (k, d) :: ds, vs, h => by
    simp only [repk] at h
    obtain ⟨v, r, rfl, _, h2⟩ := h
    simp [repk.length h2]
theorem isEmpty_len {α β : Type} {xs : List α} {ys : List β} (h : xs.length = ys.length) : xs.isEmpty = ys.isEmpty := by
  cases xs <;> cases ys <;> simp at h ⊢
theorem HL.at {m : AM} {H : Hp} {hp : HP} (hl : HL g m H hp) {n : Nat} {o : O} (e : hp[n]? = some o) (ne : o ≠ .dead) : ∃ a, m[n]? = some (some a) ∧ liveO g m H a o := by
  rcases hl.live n o e with ⟨h, _⟩ | h
  · exact absurd h ne
  · exact h
theorem FL.sq {K : PySem.W.Frag} {m : AM} {H : Hp} {a : Addr} {xs : List V} (h : FL K m H a xs) : SqL K H a xs := by
  rcases h with ⟨h, _⟩ | h
  · exact .inl h
  · exact .inr h
theorem FT.sq {K : PySem.W.Frag} {m : AM} {H : Hp} {a : Addr} {xs : List V} (h : FT K m H a xs) : SqT K H a xs := by
  rcases h with ⟨h, _⟩ | h
  · exact .inl h
  · exact .inr h
theorem TV.tru {e : Expr} {f : M D} (hK : X.K = g.K) (h : EV g X E e f) (he : ∀ whole, isTrue e X.env whole = (do let v ← whole; standAt e.pos; holding [v] (truthy v))) : TV g X E e (mTru f) := by
  obtain ⟨t, p, q⟩ := h
  refine ⟨_, pt_truth p he, fun σ H Q m env hp hl er h => ?_⟩
  refine q σ H _ m env hp hl er (PO.bind h fun x h1 m1 H1 v x1 hl1 r1 h => ?_)
  have fin : ∀ k, TruV X.K v H1 k → PO g m1 H1 E rB Q (.ok k h1) → ∃ k, TruV X.K v H1 k ∧ Q k H1 := fun k t h => ⟨k, t, h m1 H1 k (.refl _ _) hl1 rfl⟩
  cases x with
  | non => simp only [rep] at r1; subst r1; exact fin false rfl h
  | bl b => simp only [rep] at r1; subst r1; exact fin b rfl h
  | int b => simp only [rep] at r1; subst r1; exact fin _ rfl h
  | str b => exact h.elim
  | tup ds =>
    simp only [rep] at r1
    obtain ⟨a, vs, rfl, f, r⟩ := r1
    exact fin _ (show _ ∨ _ ∨ _ from .inr (.inl ⟨vs, by rw [hK]; exact f.sq, by rw [isEmpty_len (reps.length r)]⟩)) h
  | lst ds =>
    simp only [rep] at r1
    obtain ⟨a, vs, rfl, f, _, r⟩ := r1
    exact fin _ (show _ ∨ _ ∨ _ from .inl ⟨vs, .of f, by rw [isEmpty_len (reps.length r)]⟩) h
  | klst ds =>
    simp only [rep] at r1
    obtain ⟨a, vs, rfl, f, r⟩ := r1
    exact fin _ (show _ ∨ _ ∨ _ from .inl ⟨vs, by rw [hK]; exact f.sq, by rw [isEmpty_len (reps.length r)]⟩) h
  | dic ds =>
    simp only [rep] at r1
    obtain ⟨a, vs, rfl, f, _, r⟩ := r1
    exact fin _ (show _ ∨ _ ∨ _ from .inr (.inr ⟨vs, f, by rw [isEmpty_len (repk.length r)]⟩)) h
  | set ks => exact h.elim
  | ins c fs => exact h.elim
  | xcp c fs => exact h.elim
  | ref n =>
    simp only [rep] at r1
    simp only [truD] at h
    unfold truO at h
    split at h
    · rename_i ds e
      obtain ⟨a, ea, vs, ha, rv⟩ := hl1.at e (by simp)
      obtain rfl := r1.2 a ea
      exact fin _ (show _ ∨ _ ∨ _ from .inl ⟨vs, .of ha, by rw [isEmpty_len (reps.length rv)]⟩) h
    · rename_i ds e
      obtain ⟨a, ea, vs, ha, rv⟩ := hl1.at e (by simp)
      obtain rfl := r1.2 a ea
      exact fin _ (show _ ∨ _ ∨ _ from .inr (.inr ⟨vs, ha, by rw [isEmpty_len (repk.length rv)]⟩)) h
    · exact h.elim
@[simp] def aNil (_ : EN) (hp : HP) : R (List D) := .ok [] hp
@[simp] def kCons2 (x : D) (xs : List D) (h : HP) : R (List D) := .ok (x :: xs) h
@[simp] def kCons (r : M (List D)) (env : EN) (x : D) (h : HP) : R (List D) := (r env h).bind (kCons2 x)
@[simp] def aCons (a : M D) (r : M (List D)) (env : EN) (hp : HP) : R (List D) := (a env hp).bind (kCons r env)
theorem AV.nil : AV g X E [] aNil := ⟨_, pa_nil, fun σ H Q m env hp hl er h => h m H [] (.refl _ _) hl (by simp [reps])⟩
theorem AV.cons {e : Expr} {es : List Expr} {f : M D} {fs : M (List D)} (ha : EV g X E e f) (hr : AV g X E es fs) (hs : starEach (e :: es) X.env = (false, eval e X.env) :: starEach es X.env) : AV g X E (e :: es) (aCons f fs) := by
  obtain ⟨ta, pa, qa⟩ := ha
  obtain ⟨tr, pr, qr⟩ := hr
  refine ⟨_, pa_cons pa pr hs, fun σ H Q m env hp hl er h => ?_⟩
  refine qa σ H _ m env hp hl er (PO.bind h fun x h1 m1 H1 v x1 hl1 r1 h => ?_)
  refine qr σ H1 _ m1 env h1 hl1 (er.ext x1) (PO.bind h fun xs h2 m2 H2 vs x2 hl2 r2 h => ?_)
  exact h m2 H2 _ (.refl _ _) hl2 (by simp only [reps]; exact ⟨v, vs, rfl, rep.ext x2 _ _ r1, r2⟩)
/-- a new frozen thing -/
theorem HL.new {m : AM} {H : Hp} {hp : HP} (hl : HL g m H hp) {p : Addr} {o : HO} (np : H p = none) : Ex m H m (upd H p o) ∧ HL g m (upd H p o) hp ∧ some p ∉ m := by
  have hm : ∀ i a, m[i]? = some (some a) → ∃ o, H a = some o := fun i a e => by
    obtain ⟨h, hh⟩ : ∃ o, hp[i]? = some o := by
      have : i < m.length := (List.getElem?_eq_some_iff.mp e).1
      rw [hl.len] at this
      exact ⟨_, List.getElem?_eq_getElem this⟩
    rcases hl.live i h hh with ⟨_, z⟩ | ⟨b, eb, lv⟩
    · rw [e] at z; cases z
    · rw [e] at eb; cases eb
      cases h with
      | lst ds => obtain ⟨vs, h1, _⟩ := lv; exact ⟨_, h1⟩
      | dic ds => obtain ⟨vs, h1, _⟩ := lv; exact ⟨_, h1⟩
      | dicT ds => obtain ⟨vs, h1, _⟩ := lv; exact ⟨_, h1⟩
      | dX => obtain ⟨φ, h1⟩ := lv; exact ⟨_, h1⟩
      | ins c fs => obtain ⟨dx, vs, h1, _⟩ := lv; exact ⟨_, h1⟩
      | dead => exact lv.elim
  have hn : ∀ a o', H a = some o' → upd H p o a = some o' := fun a o' e => by rw [upd_ne (ne_of_none e np)]; exact e
  have pm : some p ∉ m := fun z => by
    obtain ⟨i, hi, e⟩ := List.getElem_of_mem z
    obtain ⟨o', e'⟩ := hm i p (by rw [List.getElem?_eq_getElem hi, e])
    rw [np] at e'; cases e'
  have x : Ex m H m (upd H p o) := ⟨Nat.le_refl _, fun _ _ h _ => h, fun a o' e k => ⟨hn a o' e, k⟩⟩
  refine ⟨x, ⟨hl.len, hl.nd, fun i h hh => ?_⟩, pm⟩
  rcases hl.live i h hh with z | ⟨b, eb, lv⟩
  · exact .inl z
  · refine .inr ⟨b, eb, ?_⟩
    cases h with
    | lst ds => obtain ⟨vs, h1, r⟩ := lv; exact ⟨vs, hn _ _ h1, reps.ext x _ _ r⟩
    | dic ds => obtain ⟨vs, h1, r⟩ := lv; exact ⟨vs, hn _ _ h1, repk.ext x _ _ r⟩
    | dicT ds => obtain ⟨vs, h1, r⟩ := lv; exact ⟨vs, hn _ _ h1, repkT.ext x _ _ r⟩
    | dX => obtain ⟨φ, h1⟩ := lv; exact ⟨φ, hn _ _ h1⟩
    | ins c fs => obtain ⟨dx, vs, h1, r⟩ := lv; exact ⟨dx, vs, hn _ _ h1, repf.ext x _ _ r⟩
    | dead => exact lv.elim
/-- a new live thing -/
theorem HL.push {m : AM} {H : Hp} {hp : HP} (hl : HL g m H hp) {p : Addr} {o : HO} {ob : O} (np : H p = none) (hne : ob ≠ .dead) (hlv : Ex m H (m ++ [some p]) (upd H p o) → liveO g (m ++ [some p]) (upd H p o) p ob) :
    Ex m H (m ++ [some p]) (upd H p o) ∧ HL g (m ++ [some p]) (upd H p o) (hp ++ [ob]) := by
  obtain ⟨x0, hl0, pm⟩ := hl.new (o := o) np
  have x : Ex m H (m ++ [some p]) (upd H p o) := by
    refine ⟨by simp, fun n a e l => ?_, fun a o' e k => ⟨(x0.fz a o' e k).1, fun z => ?_⟩⟩
    · rw [List.getElem?_append_left l] at e; exact e
    · rcases List.mem_append.mp z with z | z
      · exact k z
      · have : a = p := by simpa using z
        subst this
        rw [np] at e; cases e
  have x2 : Ex m (upd H p o) (m ++ [some p]) (upd H p o) → True := fun _ => trivial
  refine ⟨x, ⟨by simp [hl.len], fun i j a hi hj => ?_, fun i h hh => ?_⟩⟩
  · have key : ∀ i, (m ++ [some p])[i]? = some (some a) → (i < m.length ∧ m[i]? = some (some a)) ∨ (i = m.length ∧ a = p) := fun i e => by
      by_cases l : i < m.length
      · rw [List.getElem?_append_left l] at e; exact .inl ⟨l, e⟩
      · rw [List.getElem?_append_right (by omega)] at e
        have : i - m.length = 0 := by
          by_cases z : i - m.length = 0
          · exact z
          · rw [List.getElem?_eq_none (by simp; omega)] at e; cases e
        rw [this] at e
        simp at e
        exact .inr ⟨by omega, e.symm⟩
    rcases key i hi with ⟨l, e⟩ | ⟨l, e⟩ <;> rcases key j hj with ⟨l', e'⟩ | ⟨l', e'⟩
    · exact hl.nd i j a e e'
    · subst e'; exact absurd (List.mem_of_getElem? e) pm
    · subst e; exact absurd (List.mem_of_getElem? e') pm
    · omega
  · by_cases l : i < hp.length
    · rw [List.getElem?_append_left l] at hh
      rcases hl.live i h hh with ⟨z, e⟩ | ⟨b, eb, lv⟩
      · exact .inl ⟨z, by rw [List.getElem?_append_left (by rw [hl.len]; exact l)]; exact e⟩
      · refine .inr ⟨b, by rw [List.getElem?_append_left (by rw [hl.len]; exact l)]; exact eb, ?_⟩
        cases h with
        | lst ds => obtain ⟨vs, h1, r⟩ := lv; exact ⟨vs, by rw [upd_ne (ne_of_none h1 np)]; exact h1, reps.ext x _ _ r⟩
        | dic ds => obtain ⟨vs, h1, r⟩ := lv; exact ⟨vs, by rw [upd_ne (ne_of_none h1 np)]; exact h1, repk.ext x _ _ r⟩
        | dicT ds => obtain ⟨vs, h1, r⟩ := lv; exact ⟨vs, by rw [upd_ne (ne_of_none h1 np)]; exact h1, repkT.ext x _ _ r⟩
        | dX => obtain ⟨φ, h1⟩ := lv; exact ⟨φ, by rw [upd_ne (ne_of_none h1 np)]; exact h1⟩
        | ins c fs => obtain ⟨dx, vs, h1, r⟩ := lv; exact ⟨dx, vs, by rw [upd_ne (ne_of_none h1 np)]; exact h1, repf.ext x _ _ r⟩
        | dead => exact lv.elim
    · rw [List.getElem?_append_right (by omega)] at hh
      have i0 : i - hp.length = 0 := by
        by_cases z : i - hp.length = 0
        · exact z
        · rw [List.getElem?_eq_none (by simp; omega)] at hh; cases hh
      rw [i0] at hh
      simp at hh
      subst hh
      refine .inr ⟨p, ?_, hlv x⟩
      have : i = m.length := by have := hl.len; omega
      subst this
      rw [List.getElem?_append_right (Nat.le_refl _)]
      simp
@[simp] def kTup (xs : List D) (h : HP) : R D := if xs.length ≤ sizeLine then .ok (.tup xs) h else .stuck
@[simp] def mTup (a : M (List D)) (env : EN) (hp : HP) : R D := (a env hp).bind kTup
theorem EV.tup {es : List Expr} {x1} {pos : Pos} {f : M (List D)} (ha : AV g X E es f) : EV g X E (.Tuple es x1 pos) (mTup f) := by
  obtain ⟨ta, pa, qa⟩ := ha
  refine ⟨_, pe_tup pa, fun σ H Q m env hp hl er h => ?_⟩
  refine qa σ H _ m env hp hl er (PO.bind h fun xs h1 m1 H1 vs x1 hl1 r1 h => ?_)
  unfold kTup at h
  by_cases hz : xs.length ≤ sizeLine
  · rw [if_pos hz] at h
    refine ⟨by rw [← reps.length r1]; exact hz, fun p np => ?_⟩
    obtain ⟨x, hl2, pm⟩ := hl1.new (o := .tup vs) np
    exact h m1 _ _ x hl2 (by simp only [rep]; exact ⟨p, vs, rfl, .inl ⟨.inl upd_same, pm⟩, reps.ext x _ _ r1⟩)
  · rw [if_neg hz] at h; exact h.elim
/-- a list display: frozen, or live -/
@[simp] def newL (live : Bool) (xs : List D) (h : HP) : R D := if xs.length ≤ sizeLine then (if live = true then .ok (.ref h.length) (h ++ [.lst xs]) else .ok (.lst xs) h) else .stuck
theorem PO.newL {live : Bool} {m : AM} {H : Hp} {hp : HP} {xs : List D} {vs : List V} {Q : V → Hp → Prop} (hl : HL g m H hp) (r : reps g m H xs vs) (h : PO g m H E (rep g) Q (Ev.newL live xs hp)) : vs.length ≤ sizeLine ∧ ∀ p, H p = none → Q (.ref p) (upd H p (.lst vs)) := by
  unfold Ev.newL at h
  by_cases hz : xs.length ≤ sizeLine
  · rw [if_pos hz] at h
    refine ⟨by rw [← reps.length r]; exact hz, fun p np => ?_⟩
    cases live with
    | true =>
      rw [if_pos rfl] at h
      obtain ⟨x, hl2⟩ := hl.push (o := .lst vs) (ob := .lst xs) np (by simp) fun x => ⟨vs, upd_same, reps.ext x _ _ r⟩
      refine h _ _ _ x hl2 ?_
      simp only [rep]
      refine ⟨by simp [hl.len], fun a e => ?_⟩
      rw [← hl.len, List.getElem?_append_right (Nat.le_refl _)] at e
      simp at e
      rw [e]
    | false =>
      rw [if_neg Bool.false_ne_true] at h
      obtain ⟨x, hl2, pm⟩ := hl.new (o := .lst vs) np
      exact h m _ _ x hl2 (by simp only [rep]; exact ⟨p, vs, rfl, upd_same, pm, reps.ext x _ _ r⟩)
  · rw [if_neg hz] at h; exact h.elim
@[simp] def mLst (live : Bool) (a : M (List D)) (env : EN) (hp : HP) : R D := (a env hp).bind (newL live)
theorem EV.lst {es : List Expr} {pos : Pos} {f : M (List D)} (live : Bool) (ha : AV g X E es f) : EV g X E (.List es pos) (mLst live f) := by
  obtain ⟨ta, pa, qa⟩ := ha
  refine ⟨_, pe_lst pa, fun σ H Q m env hp hl er h => ?_⟩
  exact qa σ H _ m env hp hl er (PO.bind h fun xs h1 m1 H1 vs x1 hl1 r1 h => PO.newL hl1 r1 h)
end
end Ev
namespace Ev
open PySem PySem.Spec PyProof.Rows L2
section
variable {g : G} {X : Cx} {E : XK}
/-- a list to be read -/
@[simp] def lstO : Option O → Option (List D)
  | some (.lst ds) => some ds
  | _ => none
@[simp] def asL (h : HP) : D → Option (List D)
  | .lst ds => some ds
  | .klst ds => some ds
  | .ref n => lstO h[n]?
  | _ => none
/-- a list that is tracked (not the script, not of the module) -/
@[simp] def asLx (h : HP) : D → Option (List D)
  | .lst ds => some ds
  | .ref n => lstO h[n]?
  | _ => none
@[simp] def asT : D → Option (List D)
  | .tup ds => some ds
  | _ => none
theorem asLx_ok {m : AM} {H : Hp} {hp : HP} {d : D} {v : V} {ds : List D} (hl : HL g m H hp) (r : rep g m H d v) (e : asLx hp d = some ds) : ∃ a vs, v = .ref a ∧ H a = some (.lst vs) ∧ reps g m H ds vs := by
  cases d with
  | lst es =>
    cases e
    simp only [rep] at r
    obtain ⟨a, vs, rfl, f, _, r⟩ := r
    exact ⟨a, vs, rfl, f, r⟩
  | ref n =>
    simp only [asLx] at e
    unfold lstO at e
    split at e
    · rename_i es q
      cases e
      simp only [rep] at r
      obtain ⟨a, ea, vs, ha, rv⟩ := hl.at q (by simp)
      exact ⟨a, vs, r.2 a ea, ha, rv⟩
    · cases e
  | _ => cases e
theorem asL_ok {m : AM} {H : Hp} {hp : HP} {d : D} {v : V} {ds : List D} (hl : HL g m H hp) (r : rep g m H d v) (e : asL hp d = some ds) : ∃ a vs, v = .ref a ∧ SqL g.K H a vs ∧ reps g m H ds vs := by
  cases d with
  | klst es =>
    cases e
    simp only [rep] at r
    obtain ⟨a, vs, rfl, f, r⟩ := r
    exact ⟨a, vs, rfl, f.sq, r⟩
  | lst es =>
    obtain ⟨a, vs, h1, h2, h3⟩ := asLx_ok hl r (ds := ds) e
    exact ⟨a, vs, h1, .of h2, h3⟩
  | ref n =>
    obtain ⟨a, vs, h1, h2, h3⟩ := asLx_ok hl r (ds := ds) e
    exact ⟨a, vs, h1, .of h2, h3⟩
  | _ => cases e
theorem asT_ok {m : AM} {H : Hp} {d : D} {v : V} {ds : List D} (r : rep g m H d v) (e : asT d = some ds) : ∃ a vs, v = .ref a ∧ SqT g.K H a vs ∧ reps g m H ds vs := by
  cases d with
  | tup es =>
    cases e
    simp only [rep] at r
    obtain ⟨a, vs, rfl, f, r⟩ := r
    exact ⟨a, vs, rfl, f.sq, r⟩
  | _ => cases e
theorem reps.get {m : AM} {H : Hp} : ∀ {ds : List D} {vs : List V} {i : Nat} {d : D}, reps g m H ds vs → ds[i]? = some d → ∃ v, vs[i]? = some v ∧ rep g m H d v
  | [], _, _, _, _, e => by simp at e
  | d :: ds, vs, 0, x, h, e => by
    simp only [reps] at h
    obtain ⟨v, r, rfl, h1, h2⟩ := h
    cases e
    exact ⟨v, rfl, h1⟩
  | d :: ds, vs, i + 1, x, h, e => by
    simp only [reps] at h
    obtain ⟨v, r, rfl, h1, h2⟩ := h
    exact reps.get (i := i) h2 e
theorem reps.append {m : AM} {H : Hp} : ∀ {ds es : List D} {vs us : List V}, reps g m H ds vs → reps g m H es us → reps g m H (ds ++ es) (vs ++ us)
  | [], es, vs, us, h, k => by
    simp only [reps] at h
    subst h
    exact k
  | d :: ds, es, vs, us, h, k => by
    simp only [reps] at h
    obtain ⟨v, r, rfl, h1, h2⟩ := h
    simp only [List.cons_append, reps]
    exact ⟨v, r ++ us, rfl, h1, reps.append h2 k⟩
theorem reps.take {m : AM} {H : Hp} : ∀ {ds : List D} {vs : List V} (n : Nat), reps g m H ds vs → reps g m H (ds.take n) (vs.take n)
  | _, _, 0, _ => by simp [reps]
  | [], vs, n + 1, h => by simp only [reps] at h; subst h; simp [reps]
  | d :: ds, vs, n + 1, h => by
    simp only [reps] at h
    obtain ⟨v, r, rfl, h1, h2⟩ := h
    simp only [List.take_succ_cons, reps]
    exact ⟨v, _, rfl, h1, reps.take n h2⟩
theorem reps.drop {m : AM} {H : Hp} : ∀ {ds : List D} {vs : List V} (n : Nat), reps g m H ds vs → reps g m H (ds.drop n) (vs.drop n)
  | _, _, 0, h => h
  | [], vs, n + 1, h => by simp only [reps] at h; subst h; simp [reps]
  | d :: ds, vs, n + 1, h => by
    simp only [reps] at h
    obtain ⟨v, r, rfl, h1, h2⟩ := h
    simp only [List.drop_succ_cons]
    exact reps.drop n h2
theorem reps.mem {m : AM} {H : Hp} {ds : List D} {vs : List V} (h : reps g m H ds vs) (p : V → Bool) (q : D → Bool) (hq : ∀ d v, rep g m H d v → q d = true → p v = true) (hd : ds.all q = true) : vs.all p = true := by
  induction ds generalizing vs with
  | nil => simp only [reps] at h; subst h; rfl
  | cons d ds ih =>
    simp only [reps] at h
    obtain ⟨v, r, rfl, h1, h2⟩ := h
    simp only [List.all_cons, Bool.and_eq_true] at hd ⊢
    exact ⟨hq d v h1 hd.1, ih h2 hd.2⟩
theorem OKS.mk {h : Value → Value → Sem Value} {f : F2} {r : R2} (hr : OpR X h r) (ho : OK2 g E r f) : OKS X g E h f := ⟨r, hr, ho⟩
theorem rInt {m : AM} {H : Hp} {i : Int} {v : V} (r : rep g m H (.int i) v) : v = .int i := by simpa [rep] using r
theorem rStr {m : AM} {H : Hp} {i : Str} {v : V} (r : rep g m H (.str i) v) : v = .str i := by simpa [rep] using r
theorem rBl {m : AM} {H : Hp} {i : Bool} {v : V} (r : rep g m H (.bl i) v) : v = .bl i := by simpa [rep] using r
theorem PO.here {m : AM} {H : Hp} {hp : HP} {d : D} {v : V} {Q : V → Hp → Prop} (hl : HL g m H hp) (h : PO g m H E (rep g) Q (.ok d hp)) (r : rep g m H d v) : Q v H := h m H v (.refl _ _) hl r
@[simp] def fSub : D → D → HP → R D
  | .int i, .int j, h => .ok (.int (i - j)) h
  | _, _, _ => .stuck
theorem ok_sub : OKS X g E (binaryOp .Sub) fSub := .mk op_sub fun m H hp x y v u Q hl rx ry h => by
  unfold fSub at h
  split at h
  · exact ⟨_, _, rInt rx, rInt ry, PO.here hl h (by simp [rep])⟩
  · exact h.elim
/-- * of two factors of together less than a hundred million bits -/
def CMulE (i j : Int) : Prop := i.natAbs.log2 + j.natAbs.log2 < 100000000
instance (i j : Int) : Decidable (CMulE i j) := by unfold CMulE; exact inferInstance
theorem CMulE.ok {i j : Int} (h : CMulE i j) : IntMulOk i j := by
  have b : ∀ x : Int, Builtin.Int.intBits x ≤ x.natAbs.log2 + 1 := fun x => by
    unfold Builtin.Int.intBits
    split <;> omega
  have h1 := b i
  have h2 := b j
  have h3 : i.natAbs.log2 + j.natAbs.log2 < 100000000 := h
  have e : bitsLine = 134217728 := by decide
  unfold IntMulOk
  intro z
  rw [Bool.and_eq_true] at z
  have z2 := z.2
  unfold Builtin.Int.intTooBig at z2
  have z3 := of_decide_eq_true z2
  rw [e] at z3
  omega
theorem op_mulX : OpR X (binaryOp .Mult) (rI CMulE fun i j => .int (i * j)) := opI fun _ _ _ _ _ _ _ hc q => mul_int q hc.ok
@[simp] def fMul : D → D → HP → R D
  | .int i, .int j, h => if CMulE i j then .ok (.int (i * j)) h else .stuck
  | _, _, _ => .stuck
theorem ok_mul : OKS X g E (binaryOp .Mult) fMul := .mk op_mulX fun m H hp x y v u Q hl rx ry h => by
  unfold fMul at h
  split at h
  · split at h
    · rename_i c
      exact ⟨_, _, rInt rx, rInt ry, c, PO.here hl h (by simp [rep])⟩
    · exact h.elim
  · exact h.elim
@[simp] def fDiv : D → D → HP → R D
  | .int i, .int j, h => if 0 < j ∧ j.natAbs.log2 < 9000 then .ok (.int (i / j)) h else .stuck
  | _, _, _ => .stuck
theorem ok_div : OKS X g E (binaryOp .FloorDiv) fDiv := .mk op_fdivW fun m H hp x y v u Q hl rx ry h => by
  unfold fDiv at h
  split at h
  · split at h
    · rename_i c
      exact ⟨_, _, rInt rx, rInt ry, c, PO.here hl h (by simp [rep])⟩
    · exact h.elim
  · exact h.elim
@[simp] def fMod : D → D → HP → R D
  | .int i, .int j, h => if 0 < j then .ok (.int (i % j)) h else .stuck
  | _, _, _ => .stuck
theorem ok_mod : OKS X g E (binaryOp .Mod) fMod := .mk op_mod fun m H hp x y v u Q hl rx ry h => by
  unfold fMod at h
  split at h
  · split at h
    · rename_i c
      exact ⟨_, _, rInt rx, rInt ry, c, PO.here hl h (by simp [rep])⟩
    · exact h.elim
  · exact h.elim
def CPowW (i j : Int) : Prop := 0 ≤ j ∧ (Builtin.Int.intBits i : Int) * j ≤ 2 ^ 27
instance (i j : Int) : Decidable (CPowW i j) := by unfold CPowW; exact inferInstance
@[simp] def fPow : D → D → HP → R D
  | .int i, .int j, h => if CPowW i j then .ok (.int (i ^ j.toNat)) h else .stuck
  | _, _, _ => .stuck
@[simp] def fShl : D → D → HP → R D
  | .int i, .int j, h => if 0 ≤ j ∧ j ≤ 1000000 ∧ i.natAbs < 2 ^ 64 then .ok (.int (i * 2 ^ j.toNat)) h else .stuck
  | _, _, _ => .stuck
@[simp] def catL : Option (List D) → Option (List D) → HP → R D
  | some xs, some ys, h => if xs.length + ys.length ≤ sizeLine then .ok (.lst (xs ++ ys)) h else .stuck
  | _, _, _ => .stuck
@[simp] def fAdd : D → D → HP → R D
  | .int i, .int j, h => .ok (.int (i + j)) h
  | .str i, .str j, h => if i.length + j.length ≤ sizeLine then .ok (.str (i ++ j)) h else .stuck
  | .tup xs, .tup ys, h => if xs.length + ys.length ≤ sizeLine then .ok (.tup (xs ++ ys)) h else .stuck
  | x, y, h => catL (asLx h x) (asLx h y) h
theorem reps.nil_iff {m : AM} {H : Hp} {ds : List D} {vs : List V} (r : reps g m H ds vs) : ds = [] ↔ vs = [] := by
  have h := reps.length r
  constructor
  · intro e; subst e; exact List.length_eq_zero_iff.mp h.symm
  · intro e; subst e; exact List.length_eq_zero_iff.mp h
theorem rTup {m : AM} {H : Hp} {ds : List D} {v : V} (r : rep g m H (.tup ds) v) : ∃ a vs, v = .ref a ∧ SqT g.K H a vs ∧ reps g m H ds vs := asT_ok (g := g) r rfl
theorem PO.newT {m : AM} {H : Hp} {hp : HP} {xs : List D} {vs : List V} {Q : V → Hp → Prop} (hl : HL g m H hp) (r : reps g m H xs vs) (h : PO g m H E (rep g) Q (.ok (.tup xs) hp)) : ∀ p, H p = none → Q (.ref p) (upd H p (.tup vs)) := fun p np => by
  obtain ⟨x, hl2, pm⟩ := hl.new (o := .tup vs) np
  exact h m _ _ x hl2 (by simp only [rep]; exact ⟨p, vs, rfl, .inl ⟨.inl upd_same, pm⟩, reps.ext x _ _ r⟩)
theorem PO.newF {m : AM} {H : Hp} {hp : HP} {xs : List D} {vs : List V} {Q : V → Hp → Prop} (hl : HL g m H hp) (r : reps g m H xs vs) (h : PO g m H E (rep g) Q (.ok (.lst xs) hp)) : ∀ p, H p = none → Q (.ref p) (upd H p (.lst vs)) := fun p np => by
  obtain ⟨x, hl2, pm⟩ := hl.new (o := .lst vs) np
  exact h m _ _ x hl2 (by simp only [rep]; exact ⟨p, vs, rfl, upd_same, pm, reps.ext x _ _ r⟩)
theorem ok_add (hK : X.K = g.K) : OKS X g E (binaryOp .Add) fAdd := by
  refine ⟨_, op_add.or (op_add_str.or (op_catA.or op_cat)), fun m H hp x y v u Q hl rx ry h => ?_⟩
  rw [hK]
  unfold fAdd at h
  split at h
  · exact .inl ⟨_, _, rInt rx, rInt ry, PO.here hl h (by simp [rep])⟩
  · split at h
    · rename_i c
      exact .inr (.inl ⟨_, _, rStr rx, rStr ry, c, PO.here hl h (by simp [rep])⟩)
    · exact h.elim
  · split at h
    · rename_i xs ys c
      obtain ⟨a, vs, rfl, fa, ra⟩ := rTup rx
      obtain ⟨b, us, rfl, fb, rb⟩ := rTup ry
      refine .inr (.inr (.inl ⟨a, b, vs, us, rfl, rfl, fa, fb, by rw [← reps.length ra, ← reps.length rb]; exact c, fun z => ?_, fun _ z => ?_, fun _ _ p np => ?_⟩))
      · have e := (reps.nil_iff ra).mpr z
        subst e
        exact PO.here hl h ry
      · have e := (reps.nil_iff rb).mpr z
        subst e
        rw [List.append_nil] at h
        exact PO.here hl h rx
      · exact PO.newT hl (reps.append ra rb) h p np
    · exact h.elim
  · unfold catL at h
    split at h
    · rename_i xs ys ex ey
      split at h
      · rename_i c
        obtain ⟨a, vs, rfl, fa, ra⟩ := asLx_ok hl rx ex
        obtain ⟨b, us, rfl, fb, rb⟩ := asLx_ok hl ry ey
        exact .inr (.inr (.inr ⟨a, b, vs, us, rfl, rfl, fa, fb, by rw [← reps.length ra, ← reps.length rb]; exact c, PO.newF hl (reps.append ra rb) h⟩))
      · exact h.elim
    · exact h.elim
@[simp] def fCmp (p : Int → Int → Bool) : D → D → HP → R D
  | .int i, .int j, h => .ok (.bl (p i j)) h
  | _, _, _ => .stuck
theorem ok_cmpI {o : CmpOp} {p : Int → Int → Bool} (hr : OpR X (compareOp o) (rI0 fun i j => .bl (p i j))) : OKS X g E (compareOp o) (fCmp p) := .mk hr fun m H hp x y v u Q hl rx ry h => by
  unfold fCmp at h
  split at h
  · exact ⟨_, _, rInt rx, rInt ry, PO.here hl h (by simp [rep])⟩
  · exact h.elim
@[simp] abbrev fLt : F2 := fCmp fun i j => decide (i < j)
@[simp] abbrev fLe : F2 := fCmp fun i j => decide (i ≤ j)
@[simp] abbrev fGt : F2 := fCmp fun i j => decide (j < i)
@[simp] abbrev fGe : F2 := fCmp fun i j => decide (j ≤ i)
theorem ok_lt : OKS X g E (compareOp .Lt) fLt := ok_cmpI op_lt
theorem ok_le : OKS X g E (compareOp .LtE) fLe := ok_cmpI op_le
theorem ok_gt : OKS X g E (compareOp .Gt) fGt := ok_cmpI op_gt
theorem ok_ge : OKS X g E (compareOp .GtE) fGe := ok_cmpI op_ge
mutual
@[simp] def toP : D → Option PyData
  | .non => some .none
  | .bl b => some (.bool b)
  | .int i => some (.int i)
  | .str x => some (.str x)
  | .tup ds => (toPs ds).map PyData.tuple
  | .lst ds => (toPs ds).map PyData.list
  | .klst ds => (toPs ds).map PyData.list
  | _ => none
@[simp] def toPs : List D → Option (List PyData)
  | [] => some []
  | d :: ds => match toP d, toPs ds with
    | some p, some ps => some (p :: ps)
    | _, _ => none
end
@[simp] def toPO : Option O → Option PyData
  | some (.lst ds) => (toPs ds).map PyData.list
  | _ => none
@[simp] def toPh (h : HP) : D → Option PyData
  | .ref n => toPO h[n]?
  | d => toP d
mutual
theorem toP_ok {m : AM} {H : Hp} : ∀ (d : D) (v : V) (p : PyData), rep g m H d v → toP d = some p → Dp g.K H v p
  | .non, v, p, r, e => by cases e; simp only [rep] at r; subst r; exact .non
  | .bl b, v, p, r, e => by cases e; simp only [rep] at r; subst r; exact .bl b
  | .int b, v, p, r, e => by cases e; simp only [rep] at r; subst r; exact .int b
  | .str b, v, p, r, e => by cases e; simp only [rep] at r; subst r; exact .str b
  | .tup ds, v, p, r, e => by
    simp only [rep] at r
    obtain ⟨a, vs, rfl, f, r⟩ := r
    simp only [toP] at e
    obtain ⟨ps, e1, rfl⟩ := Option.map_eq_some_iff.mp e
    exact .tup f.sq (toPs_ok ds vs ps r e1)
  | .lst ds, v, p, r, e => by
    simp only [rep] at r
    obtain ⟨a, vs, rfl, f, _, r⟩ := r
    simp only [toP] at e
    obtain ⟨ps, e1, rfl⟩ := Option.map_eq_some_iff.mp e
    exact .lst (.of f) (toPs_ok ds vs ps r e1)
  | .klst ds, v, p, r, e => by
    simp only [rep] at r
    obtain ⟨a, vs, rfl, f, r⟩ := r
    simp only [toP] at e
    obtain ⟨ps, e1, rfl⟩ := Option.map_eq_some_iff.mp e
    exact .lst f.sq (toPs_ok ds vs ps r e1)
  | .dic _, v, p, r, e => by simp [toP] at e
  | .set _, v, p, r, e => by simp [toP] at e
  | .ins _ _, v, p, r, e => by simp [toP] at e
  | .ref _, v, p, r, e => by simp [toP] at e
  | .xcp _ _, v, p, r, e => by simp [toP] at e
theorem toPs_ok {m : AM} {H : Hp} : ∀ (ds : List D) (vs : List V) (ps : List PyData), reps g m H ds vs → toPs ds = some ps → DpAll g.K H vs ps
  | [], vs, ps, r, e => by simp only [reps] at r; subst r; simp only [toPs] at e; cases e; exact .nil
  | d :: ds, vs, ps, r, e => by
    simp only [reps] at r
    obtain ⟨v, r', rfl, h1, h2⟩ := r
    simp only [toPs] at e
    split at e
    · rename_i p qs e1 e2
      cases e
      exact .cons (toP_ok d v p h1 e1) (toPs_ok ds r' qs h2 e2)
    · cases e
end
theorem toPh_ok {m : AM} {H : Hp} {hp : HP} {d : D} {v : V} {p : PyData} (hl : HL g m H hp) (r : rep g m H d v) (e : toPh hp d = some p) : Dp g.K H v p := by
  cases d with
  | ref n =>
    simp only [toPh] at e
    unfold toPO at e
    split at e
    · rename_i ds q
      obtain ⟨ps, e1, rfl⟩ := Option.map_eq_some_iff.mp e
      simp only [rep] at r
      obtain ⟨a, ea, vs, ha, rv⟩ := hl.at q (by simp)
      rw [r.2 a ea]
      exact .lst (.of ha) (toPs_ok ds vs ps rv e1)
    · cases e
  | _ => exact toP_ok _ _ _ r e
@[simp] def eqP : Option PyData → Option PyData → HP → R D
  | some p, some q, h => if SeqAt.shaped p = true ∧ SeqAt.shaped q = true then .ok (.bl (PyData.eqv p q)) h else .stuck
  | _, _, _ => .stuck
@[simp] def neP : Option PyData → Option PyData → HP → R D
  | some p, some q, h => if SeqAt.shaped p = true ∧ SeqAt.shaped q = true then .ok (.bl (!PyData.eqv p q)) h else .stuck
  | _, _, _ => .stuck
@[simp] def fEq (x y : D) (h : HP) : R D := eqP (toPh h x) (toPh h y) h
@[simp] def fNe (x y : D) (h : HP) : R D := neP (toPh h x) (toPh h y) h
theorem ok_eq (hK : X.K = g.K) (hu : X.A.units + 64 < cLine) : OKS X g E (compareOp .Eq) fEq := .mk (op_eqD hu) fun m H hp x y v u Q hl rx ry h => by
  rw [hK]
  unfold fEq eqP at h
  split at h
  · rename_i p q e1 e2
    split at h
    · rename_i c
      exact ⟨p, q, toPh_ok hl rx e1, toPh_ok hl ry e2, c.1, c.2, PO.here hl h (by simp [rep])⟩
    · exact h.elim
  · exact h.elim
theorem ok_ne (hK : X.K = g.K) (hu : X.A.units + 64 < cLine) : OKS X g E (compareOp .NotEq) fNe := .mk (op_neD hu) fun m H hp x y v u Q hl rx ry h => by
  rw [hK]
  unfold fNe neP at h
  split at h
  · rename_i p q e1 e2
    split at h
    · rename_i c
      exact ⟨p, q, toPh_ok hl rx e1, toPh_ok hl ry e2, c.1, c.2, PO.here hl h (by simp [rep])⟩
    · exact h.elim
  · exact h.elim
@[simp] def isNon : D → Bool
  | .non => true
  | _ => false
theorem isNon_ok {m : AM} {H : Hp} {d : D} {v : V} (hd : ∀ n, d ≠ .ref n) (r : rep g m H d v) : decide (v = V.non) = isNon d := by
  cases d with
  | non => simp only [rep] at r; subst r; rfl
  | bl b => simp only [rep] at r; subst r; rfl
  | int b => simp only [rep] at r; subst r; rfl
  | str b => simp only [rep] at r; subst r; rfl
  | tup ds => simp only [rep] at r; obtain ⟨a, vs, rfl, _⟩ := r; rfl
  | lst ds => simp only [rep] at r; obtain ⟨a, vs, rfl, _⟩ := r; rfl
  | klst ds => simp only [rep] at r; obtain ⟨a, vs, rfl, _⟩ := r; rfl
  | dic ds => simp only [rep] at r; obtain ⟨a, vs, rfl, _⟩ := r; rfl
  | set ks => simp only [rep] at r; obtain ⟨a, n, rfl, _⟩ := r; rfl
  | ins c fs => simp only [rep] at r; obtain ⟨a, dx, vs, rfl, _⟩ := r; rfl
  | xcp c fs => simp only [rep] at r; obtain ⟨a, oe, rfl, _⟩ := r; rfl
  | ref n => exact absurd rfl (hd n)
/-- a live object is there -/
@[simp] def aliveO : Option O → Bool
  | some .dead => false
  | some _ => true
  | none => false
@[simp] def alive (h : HP) (n : Nat) : Bool := aliveO h[n]?
theorem alive_ok {m : AM} {H : Hp} {hp : HP} {n : Nat} {v : V} (hl : HL g m H hp) (r : rep g m H (.ref n) v) (e : alive hp n = true) : ∃ a, v = .ref a := by
  simp only [rep] at r
  unfold alive aliveO at e
  split at e
  · cases e
  · rename_i o hn q
    obtain ⟨a, ea, _⟩ := hl.at q hn
    exact ⟨a, r.2 a ea⟩
  · cases e
@[simp] def fIsN : D → D → HP → R D
  | .ref n, .non, h => if alive h n = true then .ok (.bl false) h else .stuck
  | x, .non, h => .ok (.bl (isNon x)) h
  | _, _, _ => .stuck
@[simp] def fNotN : D → D → HP → R D
  | .ref n, .non, h => if alive h n = true then .ok (.bl true) h else .stuck
  | x, .non, h => .ok (.bl (!isNon x)) h
  | _, _, _ => .stuck
theorem ok_isN : OKS X g E (compareOp .Is) fIsN := .mk op_isN fun m H hp x y v u Q hl rx ry h => by
  unfold fIsN at h
  split at h
  · refine ⟨by simpa [rep] using ry, ?_⟩
    split at h
    · rename_i n c
      obtain ⟨a, rfl⟩ := alive_ok hl rx c
      exact PO.here hl h (by simp [rep])
    · exact h.elim
  · rename_i hx
    refine ⟨by simpa [rep] using ry, ?_⟩
    rw [isNon_ok (fun n e => hx n e) rx]
    exact PO.here hl h (by simp [rep])
  · exact h.elim
theorem ok_notN : OKS X g E (compareOp .IsNot) fNotN := .mk op_notN fun m H hp x y v u Q hl rx ry h => by
  unfold fNotN at h
  split at h
  · refine ⟨by simpa [rep] using ry, ?_⟩
    split at h
    · rename_i n c
      obtain ⟨a, rfl⟩ := alive_ok hl rx c
      exact PO.here hl h (by simp [rep])
    · exact h.elim
  · rename_i hx
    refine ⟨by simpa [rep] using ry, ?_⟩
    rw [isNon_ok (fun n e => hx n e) rx]
    exact PO.here hl h (by simp [rep])
  · exact h.elim
@[simp] def flatD : D → Bool
  | .non => true
  | .bl _ => true
  | .int _ => true
  | .str _ => true
  | _ => false
def eqD : D → D → Bool
  | .non, .non => true
  | .bl a, .bl b => a == b
  | .bl a, .int b => (if a then 1 else 0) == b
  | .int a, .bl b => a == (if b then 1 else 0)
  | .int a, .int b => a == b
  | .str a, .str b => a == b
  | _, _ => false
theorem flatD_ok {m : AM} {H : Hp} : ∀ (d : D) (v : V), rep g m H d v → flatD d = true → flatV v = true := fun d v r e => by
  cases d <;> first | (simp only [rep] at r; subst r; rfl) | cases e
theorem eqD_ok {m : AM} {H : Hp} {d e : D} {v u : V} (r : rep g m H d v) (q : rep g m H e u) (hd : flatD d = true) (he : flatD e = true) : eqV v u = eqD d e := by
  cases d <;> cases e <;> first | exact absurd hd Bool.false_ne_true | exact absurd he Bool.false_ne_true | (simp only [rep] at r q; subst r; subst q; rfl)
theorem inD_ok {m : AM} {H : Hp} {x : D} {v : V} (r : rep g m H x v) (fx : flatD x = true) : ∀ {ds : List D} {vs : List V}, reps g m H ds vs → ds.all flatD = true → inV v vs = ds.any fun y => eqD y x
  | [], vs, h, _ => by simp only [reps] at h; subst h; rfl
  | d :: ds, vs, h, f => by
    simp only [reps] at h
    obtain ⟨w, r', rfl, h1, h2⟩ := h
    simp only [List.all_cons, Bool.and_eq_true] at f
    have ih := inD_ok r fx h2 f.2
    unfold inV at ih ⊢
    rw [List.any_cons, List.any_cons, ih, eqD_ok h1 r f.1 fx]
@[simp] def seqD (h : HP) : D → Option (List D)
  | .tup ds => some ds
  | d => asL h d
@[simp] def inO (neg : Bool) (x : D) : Option (List D) → HP → R D
  | some ds, h => if flatD x = true ∧ ds.all flatD = true then .ok (.bl (if neg then !(ds.any fun y => eqD y x) else ds.any fun y => eqD y x)) h else .stuck
  | none, _ => .stuck
@[simp] def fIn (neg : Bool) : D → D → HP → R D
  | .str i, .str j, h => .ok (.bl (if neg then !(!(Builtin.Str.occurrences j i 0 j.length 1).isEmpty) else !(Builtin.Str.occurrences j i 0 j.length 1).isEmpty)) h
  | x, y, h => inO neg x (seqD h y) h
theorem seqD_ok {m : AM} {H : Hp} {hp : HP} {d : D} {v : V} {ds : List D} (hl : HL g m H hp) (r : rep g m H d v) (e : seqD hp d = some ds) : ∃ a vs, v = .ref a ∧ (SqL g.K H a vs ∨ SqT g.K H a vs) ∧ reps g m H ds vs := by
  unfold seqD at e
  split at e
  · cases e
    obtain ⟨a, vs, h1, h2, h3⟩ := asT_ok r rfl
    exact ⟨a, vs, h1, .inr h2, h3⟩
  · obtain ⟨a, vs, h1, h2, h3⟩ := asL_ok hl r e
    exact ⟨a, vs, h1, .inl h2, h3⟩
theorem fIn_ok {m : AM} {H : Hp} {hp : HP} {neg : Bool} {x y : D} {v u : V} {Q : V → Hp → Prop} (hl : HL g m H hp) (rx : rep g m H x v) (ry : rep g m H y u) (h : PO g m H E (rep g) Q (fIn neg x y hp)) :
    (∃ i j, v = .str i ∧ u = .str j ∧ Q (.bl (if neg then !(!(Builtin.Str.occurrences j i 0 j.length 1).isEmpty) else !(Builtin.Str.occurrences j i 0 j.length 1).isEmpty)) H) ∨ rIn g.K neg v u H Q := by
  unfold fIn at h
  split at h
  · exact .inl ⟨_, _, rStr rx, rStr ry, PO.here hl h (by simp [rep])⟩
  · unfold inO at h
    split at h
    · rename_i ds e
      split at h
      · rename_i c
        obtain ⟨a, vs, rfl, hs, rs⟩ := seqD_ok hl ry e
        refine .inr ⟨a, vs, rfl, hs, flatD_ok _ _ rx c.1, reps.mem rs _ _ (fun d v => flatD_ok d v) c.2, ?_⟩
        rw [inD_ok rx c.1 rs c.2]
        exact PO.here hl h (by simp [rep])
      · exact h.elim
    · exact h.elim
theorem ok_in (hK : X.K = g.K) : OKS X g E (compareOp .In) (fIn false) := by
  refine ⟨_, op_in_str.or op_in_seq, fun m H hp x y v u Q hl rx ry h => ?_⟩
  rw [hK]
  exact fIn_ok hl rx ry h
theorem ok_notin (hK : X.K = g.K) : OKS X g E (compareOp .NotIn) (fIn true) := by
  refine ⟨_, op_notIn_str.or op_notIn_seq, fun m H hp x y v u Q hl rx ry h => ?_⟩
  rw [hK]
  exact fIn_ok hl rx ry h
@[simp] def kNeg : D → HP → R D
  | .int i, h => .ok (.int (-i)) h
  | _, _ => .stuck
@[simp] def mNeg (a : M D) (env : EN) (hp : HP) : R D := (a env hp).bind kNeg
theorem EV.neg {a : Expr} {pos : Pos} {fa : M D} (ha : EV g X E a fa) : EV g X E (.UnaryOp .USub a pos) (mNeg fa) := by
  obtain ⟨ta, pa, qa⟩ := ha
  refine ⟨_, pe_un un_neg pa, fun σ H Q m env hp hl er h => ?_⟩
  refine qa σ H _ m env hp hl er (PO.bind h fun x h1 m1 H1 v x1 hl1 r1 h => ?_)
  cases x with
  | int i => exact ⟨i, rInt r1, PO.here hl1 h (by simp [rep])⟩
  | _ => exact h.elim
@[simp] def okO : Option D → HP → R D
  | some d, h => .ok d h
  | none, _ => .stuck
@[simp] def ixS : Option Nat → HP → R D
  | some c, h => .ok (.str ⟨#[c]⟩) h
  | none, _ => .stuck
@[simp] def ixL (i : Int) : Option (List D) → HP → R D
  | some ds, h => okO (atI ds i) h
  | none, _ => .stuck
@[simp] def fIx : D → D → HP → R D
  | .str z, .int i, h => if z.length ≤ sizeLine then ixS (atI z.cps.toList i) h else .stuck
  | x, .int i, h => ixL i (seqD h x) h
  | _, _, _ => .stuck
theorem reps.atI {m : AM} {H : Hp} {ds : List D} {vs : List V} {i : Int} {d : D} (r : reps g m H ds vs) (e : L2.atI ds i = some d) : ∃ v, L2.atI vs i = some v ∧ rep g m H d v := by
  unfold L2.atI at e ⊢
  rw [← reps.length r]
  cases q : ixN ds.length i with
  | none => rw [q] at e; cases e
  | some j =>
    rw [q] at e
    exact reps.get r e
theorem EV.ix {a b : Expr} {pos : Pos} {fa fb : M D} (hK : X.K = g.K) (ha : EV g X E a fa) (hb : EV g X E b fb) (hs : PlainIx b) : EV g X E (.Subscript a b pos) (mBin fIx fa fb) := by
  obtain ⟨ta, pa, qa⟩ := ha
  obtain ⟨tb, pb, qb⟩ := hb
  refine ⟨_, pe_ix ix_seq pa pb hs, fun σ H Q m env hp hl er h => ?_⟩
  refine qa σ H _ m env hp hl er (PO.bind h fun x h1 m1 H1 v x1 hl1 r1 h => ?_)
  refine qb σ H1 _ m1 env h1 hl1 (er.ext x1) (PO.bind h fun y h2 m2 H2 u x2 hl2 r2 h => ?_)
  have r1 := rep.ext x2 _ _ r1
  rw [hK]
  unfold fIx at h
  split at h
  · split at h
    · rename_i c
      unfold ixS at h
      split at h
      · rename_i k e
        exact .inr (.inr ⟨_, _, k, rStr r1, rInt r2, c, e, PO.here hl2 h (by simp [rep])⟩)
      · exact h.elim
    · exact h.elim
  · unfold ixL at h
    split at h
    · rename_i ds e
      unfold okO at h
      split at h
      · rename_i d ed
        obtain ⟨p, vs, rfl, hs, rs⟩ := seqD_ok hl2 r1 e
        obtain ⟨w, ew, rw'⟩ := rs.atI ed
        rcases hs with hs | hs
        · exact .inl ⟨p, vs, _, w, rfl, rInt r2, hs, ew, PO.here hl2 h rw'⟩
        · exact .inr (.inl ⟨p, vs, _, w, rfl, rInt r2, hs, ew, PO.here hl2 h rw'⟩)
      · exact h.elim
    · exact h.elim
  · exact h.elim
/-- a part of a slice: left out, or an int -/
structure PV (g : G) (X : Cx) (E : XK) (e : Option Expr) (f : M (Option Int)) : Prop where
  ex : ∃ t, L2.PO X e t ∧ ∀ σ H Q m env hp, HL g m H hp → ER g m H σ env → PO g m H E (fun _ _ a b => a = b) Q (f env hp) → t σ H Q
@[simp] def pNo (_ : EN) (hp : HP) : R (Option Int) := .ok none hp
@[simp] def kYes : D → HP → R (Option Int)
  | .int i, h => .ok (some i) h
  | _, _ => .stuck
@[simp] def pYes (a : M D) (env : EN) (hp : HP) : R (Option Int) := (a env hp).bind kYes
theorem PV.no : PV g X E none pNo := ⟨_, po_none, fun σ H Q m env hp hl er h => h m H none (.refl _ _) hl rfl⟩
theorem PV.yes {e : Expr} {f : M D} (he : EV g X E e f) : PV g X E (some e) (pYes f) := by
  obtain ⟨t, p, q⟩ := he
  refine ⟨_, po_some p, fun σ H Q m env hp hl er h => ?_⟩
  refine q σ H _ m env hp hl er (PO.bind h fun x h1 m1 H1 v x1 hl1 r1 h => ?_)
  cases x with
  | int i => exact ⟨i, rInt r1, h m1 H1 (some i) (.refl _ _) hl1 rfl⟩
  | _ => exact h.elim
def cutD (xs : List D) (lo hi : Option Int) : List D := (xs.drop (HT.sIx xs.length 0 lo)).take (HT.sIx xs.length xs.length hi - HT.sIx xs.length 0 lo)
theorem cutD_all {xs : List D} {lo hi : Option Int} (c : HT.sIx xs.length 0 lo = 0 ∧ HT.sIx xs.length xs.length hi = xs.length) : cutD xs lo hi = xs := by
  unfold cutD
  rw [c.1, c.2]
  simp
theorem reps.cut {m : AM} {H : Hp} {ds : List D} {vs : List V} {lo hi : Option Int} (r : reps g m H ds vs) : reps g m H (cutD ds lo hi) (cutV vs lo hi) := by
  unfold cutD cutV
  rw [← reps.length r]
  exact (r.drop _).take _
@[simp] def slL (lo hi : Option Int) : Option (List D) → HP → R D
  | some ds, h => .ok (.lst (cutD ds lo hi)) h
  | none, _ => .stuck
@[simp] def fSl : D → Option Int → Option Int → HP → R D
  | .str z, lo, hi, h => if z.length ≤ sizeLine then .ok (.str (cutS z lo hi)) h else .stuck
  | .tup ds, lo, hi, h => .ok (.tup (cutD ds lo hi)) h
  | x, lo, hi, h => slL lo hi (asL h x) h
@[simp] def kSl2 (hi : M (Option Int)) (env : EN) (x : D) (l : Option Int) (h : HP) : R D := (hi env h).bind (fSl x l)
@[simp] def kSl1 (lo hi : M (Option Int)) (env : EN) (x : D) (h : HP) : R D := (lo env h).bind (kSl2 hi env x)
@[simp] def mSl (a : M D) (lo hi : M (Option Int)) (env : EN) (hp : HP) : R D := (a env hp).bind (kSl1 lo hi env)
theorem EV.sl {e : Expr} {lo hi : Option Expr} {p2 pos : Pos} {f : M D} {fl fh : M (Option Int)} (hK : X.K = g.K) (he : EV g X E e f) (hl : PV g X E lo fl) (hh : PV g X E hi fh) : EV g X E (.Subscript e (.Slice lo hi none p2) pos) (mSl f fl fh) := by
  obtain ⟨t, p, q⟩ := he
  obtain ⟨tl, pl, ql⟩ := hl
  obtain ⟨th, ph, qh⟩ := hh
  refine ⟨_, pe_slice (sl_tupA.or (sl_list.or sl_str)) p pl ph, fun σ H Q m env hp hl er h => ?_⟩
  refine q σ H _ m env hp hl er (PO.bind h fun x h1 m1 H1 v x1 hl1 r1 h => ?_)
  refine ql σ H1 _ m1 env h1 hl1 (er.ext x1) (PO.bind h fun y h2 m2 H2 u x2 hl2 r2 h => ?_)
  refine qh σ H2 _ m2 env h2 hl2 ((er.ext x1).ext x2) (PO.bind h fun z h3 m3 H3 w x3 hl3 r3 h => ?_)
  subst r2
  subst r3
  have r1 := rep.ext (x2.trans x3) _ _ r1
  rw [hK]
  unfold fSl at h
  split at h
  · rename_i s
    split at h
    · rename_i c
      exact .inr (.inr ⟨_, rStr r1, c, PO.here hl3 h (by simp [rep])⟩)
    · exact h.elim
  · obtain ⟨a, vs, rfl, hs, rs⟩ := rTup r1
    refine .inl ⟨a, vs, rfl, hs, fun c => ?_, fun _ p np => PO.newT hl3 rs.cut h p np⟩
    rw [← reps.length rs] at c
    rw [cutD_all c] at h
    exact PO.here hl3 h r1
  · unfold slL at h
    split at h
    · rename_i ds e
      obtain ⟨a, vs, rfl, hs, rs⟩ := asL_ok hl3 r1 e
      exact .inr (.inl ⟨a, vs, rfl, hs, fun p np => PO.newF hl3 rs.cut h p np⟩)
    · exact h.elim
end
end Ev
namespace Ev
open PySem PySem.Spec PyProof.Rows L2
section
variable {g : G} {X : Cx} {E : XK}
abbrev FA := List D → HP → R D
/-- a call by values keeps a rule -/
def CV (X : Cx) (g : G) (E : XK) (f : Value) (F : FA) : Prop := ∃ r, CallR X f r ∧ ∀ m H hp ds vs Q, HL g m H hp → reps g m H ds vs → PO g m H E (rep g) Q (F ds hp) → r vs H Q
@[simp] def mCall (F : FA) (a : M (List D)) (env : EN) (hp : HP) : R D := (a env hp).bind F
section
variable {x : Str} {id T : String} {p pos : Pos} {e : Expr} {es : List Expr} {fs : M (List D)} {F : FA}
theorem EV.callB (hc : CV X g E (.builtin id) F) (hm : X.mg x = none) (ha : AV g X E (e :: es) fs) (hg : Gl X x) (hv : bootBuiltins x = some (.builtin id)) (hn : x ≠ "__name__") (hdb : (x == ("__debug__" : Str)) = false)
    (he : starEach (e :: es) X.env = (false, eval e X.env) :: starEach es X.env) (hpl : (backTo pos (starEach es X.env)).any (·.1) = false) : EV g X E (.Call (.Name x p) (e :: es) [] pos) (mCall F fs) := by
  obtain ⟨r, hr, hc⟩ := hc
  obtain ⟨t, pa, qa⟩ := ha
  refine ⟨_, pe_callB hr hg hm hv pa hn hdb he hpl, fun σ H Q m env hp hl er h => ?_⟩
  exact qa σ H _ m env hp hl er (PO.bind h fun xs h1 m1 H1 vs x1 hl1 r1 h => hc m1 H1 h1 xs vs Q hl1 r1 h)
theorem EV.callT (hc : CV X g E (.type T) F) (hm : X.mg x = none) (ha : AV g X E (e :: es) fs) (hg : Gl X x) (hv : bootBuiltins x = some (.type T)) (hn : x ≠ "__name__") (hdb : (x == ("__debug__" : Str)) = false)
    (he : starEach (e :: es) X.env = (false, eval e X.env) :: starEach es X.env) (hpl : (backTo pos (starEach es X.env)).any (·.1) = false) : EV g X E (.Call (.Name x p) (e :: es) [] pos) (mCall F fs) := by
  obtain ⟨r, hr, hc⟩ := hc
  obtain ⟨t, pa, qa⟩ := ha
  refine ⟨_, pe_callTy hr hg hm hv pa hn hdb he hpl, fun σ H Q m env hp hl er h => ?_⟩
  exact qa σ H _ m env hp hl er (PO.bind h fun xs h1 m1 H1 vs x1 hl1 r1 h => hc m1 H1 h1 xs vs Q hl1 r1 h)
end
theorem reps1 {m : AM} {H : Hp} {d : D} {vs : List V} (r : reps g m H [d] vs) : ∃ v, vs = [v] ∧ rep g m H d v := by
  simp only [reps] at r
  obtain ⟨v, r, rfl, h, rfl⟩ := r
  exact ⟨v, rfl, h⟩
theorem reps2 {m : AM} {H : Hp} {d e : D} {vs : List V} (r : reps g m H [d, e] vs) : ∃ v u, vs = [v, u] ∧ rep g m H d v ∧ rep g m H e u := by
  simp only [reps] at r
  obtain ⟨v, r, rfl, h, u, r2, rfl, h2, rfl⟩ := r
  exact ⟨v, u, rfl, h, h2⟩
@[simp] def lenO : Option (List D) → HP → R D
  | some ds, h => .ok (.int ds.length) h
  | none, _ => .stuck
@[simp] def bLen : List D → HP → R D
  | [.str z], h => if z.length ≤ sizeLine then .ok (.int z.length) h else .stuck
  | [x], h => lenO (seqD h x) h
  | _, _ => .stuck
theorem cv_len (hK : X.K = g.K) : CV X g E (.builtin "len") bLen := by
  refine ⟨_, call_len, fun m H hp ds vs Q hl r h => ?_⟩
  rw [hK]
  unfold bLen at h
  split at h
  · split at h
    · rename_i c
      obtain ⟨v, rfl, rr⟩ := reps1 r
      obtain rfl := rStr rr
      exact ⟨_, _, rfl, ⟨c, rfl⟩, PO.here hl h (by simp [rep])⟩
    · exact h.elim
  · unfold lenO at h
    split at h
    · rename_i es e
      obtain ⟨v, rfl, rr⟩ := reps1 r
      obtain ⟨a, us, rfl, hs, rs⟩ := seqD_ok hl rr e
      refine ⟨_, us.length, rfl, ?_, PO.here hl h (by rw [reps.length rs]; simp [rep])⟩
      rcases hs with hs | hs
      · exact .inl ⟨us, hs, rfl⟩
      · exact .inr ⟨us, hs, rfl⟩
    · exact h.elim
  · exact h.elim
@[simp] def bInt : List D → HP → R D
  | [.int i], h => .ok (.int i) h
  | [.bl b], h => .ok (.int (if b then 1 else 0)) h
  | _, _ => .stuck
theorem cv_int : CV X g E (.type "int") bInt := by
  refine ⟨_, call_int1, fun m H hp ds vs Q hl r h => ?_⟩
  unfold bInt at h
  split at h
  · obtain ⟨v, rfl, rr⟩ := reps1 r
    obtain rfl := rInt rr
    exact .inl ⟨_, rfl, PO.here hl h (by simp [rep])⟩
  · obtain ⟨v, rfl, rr⟩ := reps1 r
    obtain rfl := rBl rr
    exact .inr ⟨_, rfl, PO.here hl h (by simp [rep])⟩
  · exact h.elim
@[simp] def bAbs : List D → HP → R D
  | [.int i], h => .ok (.int (if i < 0 then -i else i)) h
  | _, _ => .stuck
@[simp] def intsD : List D → Option (List Int)
  | [] => some []
  | .int i :: ds => (intsD ds).map (i :: ·)
  | _ => none
theorem intsD_ok {m : AM} {H : Hp} : ∀ {ds : List D} {vs : List V} {ns : List Int}, reps g m H ds vs → intsD ds = some ns → vs = ns.map V.int
  | [], vs, ns, r, e => by simp only [reps] at r; subst r; cases e; rfl
  | .int i :: ds, vs, ns, r, e => by
    simp only [reps] at r
    obtain ⟨v, r', rfl, h1, h2⟩ := r
    simp only [intsD] at e
    obtain ⟨ms, e1, rfl⟩ := Option.map_eq_some_iff.mp e
    obtain rfl := rInt h1
    rw [intsD_ok h2 e1, List.map_cons]
  | .non :: ds, vs, ns, r, e => by cases e
  | .bl _ :: ds, vs, ns, r, e => by cases e
  | .str _ :: ds, vs, ns, r, e => by cases e
  | .tup _ :: ds, vs, ns, r, e => by cases e
  | .lst _ :: ds, vs, ns, r, e => by cases e
  | .klst _ :: ds, vs, ns, r, e => by cases e
  | .dic _ :: ds, vs, ns, r, e => by cases e
  | .set _ :: ds, vs, ns, r, e => by cases e
  | .ins _ _ :: ds, vs, ns, r, e => by cases e
  | .ref _ :: ds, vs, ns, r, e => by cases e
  | .xcp _ _ :: ds, vs, ns, r, e => by cases e
theorem intsD_map (ns : List Int) : intsD (ns.map D.int) = some ns := by
  induction ns with
  | nil => rfl
  | cons n ns ih => simp [intsD, ih]
@[simp] def blsD : List D → Option (List Bool)
  | [] => some []
  | .bl i :: ds => (blsD ds).map (i :: ·)
  | _ => none
theorem blsD_ok {m : AM} {H : Hp} : ∀ {ds : List D} {vs : List V} {ns : List Bool}, reps g m H ds vs → blsD ds = some ns → vs = ns.map V.bl
  | [], vs, ns, r, e => by simp only [reps] at r; subst r; cases e; rfl
  | .bl i :: ds, vs, ns, r, e => by
    simp only [reps] at r
    obtain ⟨v, r', rfl, h1, h2⟩ := r
    simp only [blsD] at e
    obtain ⟨ms, e1, rfl⟩ := Option.map_eq_some_iff.mp e
    obtain rfl := rBl h1
    rw [blsD_ok h2 e1, List.map_cons]
  | .non :: ds, vs, ns, r, e => by cases e
  | .int _ :: ds, vs, ns, r, e => by cases e
  | .str _ :: ds, vs, ns, r, e => by cases e
  | .tup _ :: ds, vs, ns, r, e => by cases e
  | .lst _ :: ds, vs, ns, r, e => by cases e
  | .klst _ :: ds, vs, ns, r, e => by cases e
  | .dic _ :: ds, vs, ns, r, e => by cases e
  | .set _ :: ds, vs, ns, r, e => by cases e
  | .ins _ _ :: ds, vs, ns, r, e => by cases e
  | .ref _ :: ds, vs, ns, r, e => by cases e
  | .xcp _ _ :: ds, vs, ns, r, e => by cases e
theorem blsD_map (ns : List Bool) : blsD (ns.map D.bl) = some ns := by
  induction ns with
  | nil => rfl
  | cons n ns ih => simp [blsD, ih]
@[simp] def sumN : Option (List Int) → HP → R D
  | some ns, h => .ok (.int ns.sum) h
  | none, _ => .stuck
@[simp] def sumO : Option (List D) → HP → R D
  | some es, h => sumN (intsD es) h
  | none, _ => .stuck
@[simp] def bSum : List D → HP → R D
  | [x], h => sumO (asL h x) h
  | _, _ => .stuck
@[simp] def allN : Option (List Bool) → HP → R D
  | some ns, h => .ok (.bl (ns.all id)) h
  | none, _ => .stuck
@[simp] def allO : Option (List D) → HP → R D
  | some es, h => allN (blsD es) h
  | none, _ => .stuck
@[simp] def bAll : List D → HP → R D
  | [x], h => allO (asL h x) h
  | _, _ => .stuck
theorem cv_all (hK : X.K = g.K) (hc : X.calm = true) : CV X g E (.builtin "all") bAll := by
  refine ⟨_, cr_all hc, fun m H hp ds vs Q hl r h => ?_⟩
  rw [hK]
  unfold bAll at h
  split at h
  · unfold allO at h
    split at h
    · rename_i es e
      unfold allN at h
      split at h
      · rename_i ns en
        obtain ⟨v, rfl, rr⟩ := reps1 r
        obtain ⟨a, us, rfl, hs, rs⟩ := asL_ok hl rr e
        have := blsD_ok rs en
        subst this
        exact ⟨a, ns, rfl, hs, PO.here hl h (by simp [rep])⟩
      · exact h.elim
    · exact h.elim
  · exact h.elim
@[simp] def anyN : Option (List Bool) → HP → R D
  | some ns, h => .ok (.bl (ns.any id)) h
  | none, _ => .stuck
@[simp] def anyO : Option (List D) → HP → R D
  | some es, h => anyN (blsD es) h
  | none, _ => .stuck
@[simp] def bAny : List D → HP → R D
  | [x], h => anyO (asL h x) h
  | _, _ => .stuck
theorem cv_any (hK : X.K = g.K) (hc : X.calm = true) : CV X g E (.builtin "any") bAny := by
  refine ⟨_, cr_any hc, fun m H hp ds vs Q hl r h => ?_⟩
  rw [hK]
  unfold bAny at h
  split at h
  · unfold anyO at h
    split at h
    · rename_i es e
      unfold anyN at h
      split at h
      · rename_i ns en
        obtain ⟨v, rfl, rr⟩ := reps1 r
        obtain ⟨a, us, rfl, hs, rs⟩ := asL_ok hl rr e
        have := blsD_ok rs en
        subst this
        exact ⟨a, ns, rfl, hs, PO.here hl h (by simp [rep])⟩
      · exact h.elim
    · exact h.elim
  · exact h.elim
/-- the greatest, the least of a list -/
def maxL : List Int → Int
  | [] => 0
  | [n] => n
  | n :: ns => if maxL ns > n then maxL ns else n
def minL : List Int → Int
  | [] => 0
  | [n] => n
  | n :: ns => if minL ns < n then minL ns else n
theorem maxL_mem : ∀ {ns : List Int}, ns ≠ [] → maxL ns ∈ ns ∧ ∀ y ∈ ns, y ≤ maxL ns
  | [], h => absurd rfl h
  | [n], _ => by simp [maxL]
  | n :: k :: ns, _ => by
    have ih := maxL_mem (ns := k :: ns) (by simp)
    unfold maxL
    split
    · refine ⟨List.mem_cons_of_mem _ ih.1, fun y hy => ?_⟩
      rcases List.mem_cons.mp hy with e | hy
      · subst e; omega
      · exact ih.2 y hy
    · refine ⟨List.mem_cons_self .., fun y hy => ?_⟩
      rcases List.mem_cons.mp hy with e | hy
      · subst e; omega
      · have := ih.2 y hy; omega
theorem minL_mem : ∀ {ns : List Int}, ns ≠ [] → minL ns ∈ ns ∧ ∀ y ∈ ns, minL ns ≤ y
  | [], h => absurd rfl h
  | [n], _ => by simp [minL]
  | n :: k :: ns, _ => by
    have ih := minL_mem (ns := k :: ns) (by simp)
    unfold minL
    split
    · refine ⟨List.mem_cons_of_mem _ ih.1, fun y hy => ?_⟩
      rcases List.mem_cons.mp hy with e | hy
      · subst e; omega
      · exact ih.2 y hy
    · refine ⟨List.mem_cons_self .., fun y hy => ?_⟩
      rcases List.mem_cons.mp hy with e | hy
      · subst e; omega
      · have := ih.2 y hy; omega
section
variable {prog : Program} {w : World} {A : Around} {Ex : Value → Shared → Prop} {s : Shared} {l : Addr}
theorem kept_tup {h' : Heap} (hk : ∀ b o, b ∉ [s.heap.objs.size] → (s.heap.push { cls := .type "tuple_iterator", data := .fields #[.ref l, .int 0 0] }).get? b = some o → h'.get? b = some o) :
    ∀ b o, s.heap.get? b = some o → h'.get? b = some o := fun b o e => by
  refine hk b o (fun hm => ?_) (Heap.get?_push_of_some _ e)
  rcases List.mem_cons.mp hm with e1 | hm
  · exact absurd (e1 ▸ Heap.lt_size e) (Nat.lt_irrefl _)
  · cases hm
theorem foot_tup (hlt : l < s.heap.objs.size) : ∀ b ∈ [s.heap.objs.size, l], b < (s.heap.push { cls := .type "tuple_iterator", data := .fields #[.ref l, .int 0 0] }).objs.size := fun b hb => by
  rw [Heap.size_push]
  rcases List.mem_cons.mp hb with rfl | hb
  · exact Nat.lt_succ_self _
  · rcases List.mem_cons.mp hb with rfl | hb
    · exact Nat.lt_succ_of_lt hlt
    · cases hb
theorem max_intTup {xs : Array (Int × Tok)} {Q : Value → Shared → Prop} (hh : A.handled = none) (hl : s.heap.IsTuple l (intItems xs)) (hne : 0 < xs.size)
    (h : ∀ v h' tk, (intItems xs)[argBest (fun i j => decide (numAt xs i > numAt xs j)) (xs.size - 1)]? = some v → (∀ b o, s.heap.get? b = some o → h'.get? b = some o) → Q v { s with heap := h', toks := tk }) :
    wpAny (model prog w) A (call (.builtin "max") [.ref l]) Q Ex s := by
  have hlt : l < s.heap.objs.size := by obtain ⟨_, e, _⟩ := hl; exact Heap.lt_size e
  refine call_max_walk (wpAny_pyIter_tuple hl ?_)
  refine ⟨_, _, _, _, _, _, _, rfl, Walks.tuple (A := A.in1) hh _ l (Nat.ne_of_lt hlt) (intItems xs), ⟨⟨_, Heap.get?_push_size _ rfl, rfl, rfl⟩, hl.push _⟩, foot_tup hlt, by simpa [intItems] using hne, CmpOf.ints_gt (numAt xs) (fun _ _ => intItems_at), fun v h' tk hP hk => ?_⟩
  exact h v h' tk (by simpa [intItems] using hP) (kept_tup hk)
theorem min_intTup {xs : Array (Int × Tok)} {Q : Value → Shared → Prop} (hh : A.handled = none) (hl : s.heap.IsTuple l (intItems xs)) (hne : 0 < xs.size)
    (h : ∀ v h' tk, (intItems xs)[argBest (fun i j => decide (numAt xs i < numAt xs j)) (xs.size - 1)]? = some v → (∀ b o, s.heap.get? b = some o → h'.get? b = some o) → Q v { s with heap := h', toks := tk }) :
    wpAny (model prog w) A (call (.builtin "min") [.ref l]) Q Ex s := by
  have hlt : l < s.heap.objs.size := by obtain ⟨_, e, _⟩ := hl; exact Heap.lt_size e
  refine call_min_walk (wpAny_pyIter_tuple hl ?_)
  refine ⟨_, _, _, _, _, _, _, rfl, Walks.tuple (A := A.in1) hh _ l (Nat.ne_of_lt hlt) (intItems xs), ⟨⟨_, Heap.get?_push_size _ rfl, rfl, rfl⟩, hl.push _⟩, foot_tup hlt, by simpa [intItems] using hne, CmpOf.ints_lt (numAt xs) (fun _ _ => intItems_at), fun v h' tk hP hk => ?_⟩
  exact h v h' tk (by simpa [intItems] using hP) (kept_tup hk)
theorem max_rawT {its : List Value} {ns : List Int} {Q : Value → Shared → Prop} (hh : A.handled = none) (hl : s.heap.IsTuple l its.toArray) (hi : IntsAre its ns) (hne : 0 < ns.length)
    (h : ∀ h' tk M t', (∀ b o, s.heap.get? b = some o → h'.get? b = some o) → M ∈ ns → (∀ a, a ∈ ns → a ≤ M) → Q (.int M t') { s with heap := h', toks := tk }) : wpAny (model prog w) A (call (.builtin "max") [.ref l]) Q Ex s := by
  obtain ⟨xs, e⟩ := hi.allInts.items
  have hn : numsOf (intItems xs).toList = ns := by rw [← e]; exact hi.numsOf
  rw [nums_intItems] at hn
  subst hn
  rw [e] at hl
  have hsz : 0 < xs.size := by simpa using hne
  refine max_intTup hh hl hsz fun v h' tk hv hk => ?_
  obtain ⟨t, rfl⟩ := intItems_at hv
  obtain ⟨h1, h2⟩ := argBest_gt (numAt xs) (xs.size - 1)
  refine h h' tk _ t hk ?_ fun a ha => ?_
  · rw [numAt_eq]; exact PySem.getD_mem (by rw [List.length_map, Array.length_toList]; omega)
  · obtain ⟨j, hj, rfl⟩ := mem_getD ha
    rw [List.length_map, Array.length_toList] at hj
    rw [← numAt_eq]; exact h2 j (by omega)
theorem min_rawT {its : List Value} {ns : List Int} {Q : Value → Shared → Prop} (hh : A.handled = none) (hl : s.heap.IsTuple l its.toArray) (hi : IntsAre its ns) (hne : 0 < ns.length)
    (h : ∀ h' tk M t', (∀ b o, s.heap.get? b = some o → h'.get? b = some o) → M ∈ ns → (∀ a, a ∈ ns → M ≤ a) → Q (.int M t') { s with heap := h', toks := tk }) : wpAny (model prog w) A (call (.builtin "min") [.ref l]) Q Ex s := by
  obtain ⟨xs, e⟩ := hi.allInts.items
  have hn : numsOf (intItems xs).toList = ns := by rw [← e]; exact hi.numsOf
  rw [nums_intItems] at hn
  subst hn
  rw [e] at hl
  have hsz : 0 < xs.size := by simpa using hne
  refine min_intTup hh hl hsz fun v h' tk hv hk => ?_
  obtain ⟨t, rfl⟩ := intItems_at hv
  obtain ⟨h1, h2⟩ := argBest_lt (numAt xs) (xs.size - 1)
  refine h h' tk _ t hk ?_ fun a ha => ?_
  · rw [numAt_eq]; exact PySem.getD_mem (by rw [List.length_map, Array.length_toList]; omega)
  · obtain ⟨j, hj, rfl⟩ := mem_getD ha
    rw [List.length_map, Array.length_toList] at hj
    rw [← numAt_eq]; exact h2 j (by omega)
end
def rMaxT (K : PySem.W.Frag) : List V → Hp → VK → Prop := fun vs H Q => ∃ (a : Addr) (ns : List Int), vs = [V.ref a] ∧ SqT K H a (ns.map V.int) ∧ 0 < ns.length ∧ ∀ m, m ∈ ns → (∀ y, y ∈ ns → y ≤ m) → Q (.int m) H
def rMinT (K : PySem.W.Frag) : List V → Hp → VK → Prop := fun vs H Q => ∃ (a : Addr) (ns : List Int), vs = [V.ref a] ∧ SqT K H a (ns.map V.int) ∧ 0 < ns.length ∧ ∀ m, m ∈ ns → (∀ y, y ∈ ns → m ≤ y) → Q (.int m) H
theorem cr_maxT (hc : X.calm = true) : CallR X (.builtin "max") (rMaxT X.K) := by
  intro pins s σ H vs us Q I r h
  obtain ⟨a, ns, rfl, hs, hne, q⟩ := h
  obtain ⟨its, rv, hl, _⟩ := I.tuple hs
  rw [Vals.ref1 r]
  exact max_rawT (I.ok.hd hc) hl rv.ints hne fun h' tk m t' hk h1 h2 => ⟨.int _, H, I.kept hk, ⟨_, rfl⟩, q m h1 h2⟩
theorem cr_minT (hc : X.calm = true) : CallR X (.builtin "min") (rMinT X.K) := by
  intro pins s σ H vs us Q I r h
  obtain ⟨a, ns, rfl, hs, hne, q⟩ := h
  obtain ⟨its, rv, hl, _⟩ := I.tuple hs
  rw [Vals.ref1 r]
  exact min_rawT (I.ok.hd hc) hl rv.ints hne fun h' tk m t' hk h1 h2 => ⟨.int _, H, I.kept hk, ⟨_, rfl⟩, q m h1 h2⟩
theorem reps_cons {m : AM} {H : Hp} {d : D} {ds : List D} {vs : List V} (r : reps g m H (d :: ds) vs) : ∃ v us, vs = v :: us ∧ rep g m H d v ∧ reps g m H ds us := by
  simp only [reps] at r
  obtain ⟨v, r', rfl, h1, h2⟩ := r
  exact ⟨v, r', rfl, h1, h2⟩
theorem numax3_int (i j k : Int) : nuMax3 (.int i) (.int j) (.int k) = some (.int (if k > (if j > i then j else i) then k else (if j > i then j else i))) := by
  by_cases c : i < j
  · by_cases c2 : j < k <;> simp [nuMax3, nuMax2, nuLt, nuCB, c, c2]
  · by_cases c2 : i < k <;> simp [nuMax3, nuMax2, nuLt, nuCB, c, c2]
theorem numin3_int (i j k : Int) : nuMin3 (.int i) (.int j) (.int k) = some (.int (if k < (if j < i then j else i) then k else (if j < i then j else i))) := by
  by_cases c : j < i
  · by_cases c2 : k < j <;> simp [nuMin3, nuMin2, nuLt, nuCB, c, c2]
  · by_cases c2 : k < i <;> simp [nuMin3, nuMin2, nuLt, nuCB, c, c2]
@[simp] def maxN : Option (List Int) → HP → R D
  | some ns, h => if 0 < ns.length then .ok (.int (maxL ns)) h else .stuck
  | none, _ => .stuck
@[simp] def maxO : Option (List D) → HP → R D
  | some es, h => maxN (intsD es) h
  | none, _ => .stuck
@[simp] def bMax : List D → HP → R D
  | [.int i, .int j], h => .ok (.int (if j > i then j else i)) h
  | [.int i, .int j, .int k], h => .ok (.int (if k > (if j > i then j else i) then k else (if j > i then j else i))) h
  | [.tup ds], h => maxN (intsD ds) h
  | [x], h => maxO (asL h x) h
  | _, _ => .stuck
theorem CallR.or {f : Value} {r r' : List V → Hp → VK → Prop} (h : CallR X f r) (h' : CallR X f r') : CallR X f (fun xs H Q => r xs H Q ∨ r' xs H Q) := by
  intro pins s σ H xs us Q I rx q
  rcases q with q | q
  · exact h pins s σ H xs us Q I rx q
  · exact h' pins s σ H xs us Q I rx q
theorem cv_max (hK : X.K = g.K) (hc : X.calm = true) : CV X g E (.builtin "max") bMax := by
  refine ⟨_, (call_max2 hc).or ((cr_max hc).or ((call_max3Nu hc).or (cr_maxT hc))), fun m H hp ds vs Q hl r h => ?_⟩
  rw [hK]
  unfold bMax at h
  split at h
  · obtain ⟨v, u, rfl, r1, r2⟩ := reps2 r
    obtain rfl := rInt r1
    obtain rfl := rInt r2
    exact .inl ⟨_, _, rfl, PO.here hl h (by simp [rep])⟩
  · obtain ⟨v, vs1, rfl, r1, r2⟩ := reps_cons r
    obtain ⟨v2, v3, rfl, r2, r3⟩ := reps2 r2
    obtain rfl := rInt r1
    obtain rfl := rInt r2
    obtain rfl := rInt r3
    exact .inr (.inr (.inl ⟨_, _, _, _, rfl, numax3_int _ _ _, PO.here hl h (by simp [rep])⟩))
  · unfold maxN at h
    split at h
    · rename_i ns en
      split at h
      · rename_i c
        obtain ⟨v, rfl, rr⟩ := reps1 r
        obtain ⟨a, us, rfl, hs, rs⟩ := asT_ok rr rfl
        have := intsD_ok rs en
        subst this
        refine .inr (.inr (.inr ⟨a, ns, rfl, hs, c, fun M h1 h2 => ?_⟩))
        obtain ⟨k1, k2⟩ := maxL_mem (ns := ns) (by intro z; subst z; simp at c)
        have e : M = maxL ns := Int.le_antisymm (k2 M h1) (h2 _ k1)
        rw [e]
        exact PO.here hl h (by simp [rep])
      · exact h.elim
    · exact h.elim
  · unfold maxO at h
    split at h
    · rename_i es e
      unfold maxN at h
      split at h
      · rename_i ns en
        split at h
        · rename_i c
          obtain ⟨v, rfl, rr⟩ := reps1 r
          obtain ⟨a, us, rfl, hs, rs⟩ := asL_ok hl rr e
          have := intsD_ok rs en
          subst this
          refine .inr (.inl ⟨a, ns, rfl, hs, c, fun M h1 h2 => ?_⟩)
          obtain ⟨k1, k2⟩ := maxL_mem (ns := ns) (by intro z; subst z; simp at c)
          have e : M = maxL ns := Int.le_antisymm (k2 M h1) (h2 _ k1)
          rw [e]
          exact PO.here hl h (by simp [rep])
        · exact h.elim
      · exact h.elim
    · exact h.elim
  · exact h.elim
@[simp] def minN : Option (List Int) → HP → R D
  | some ns, h => if 0 < ns.length then .ok (.int (minL ns)) h else .stuck
  | none, _ => .stuck
@[simp] def minO : Option (List D) → HP → R D
  | some es, h => minN (intsD es) h
  | none, _ => .stuck
@[simp] def bMin : List D → HP → R D
  | [.int i, .int j], h => .ok (.int (if j < i then j else i)) h
  | [.int i, .int j, .int k], h => .ok (.int (if k < (if j < i then j else i) then k else (if j < i then j else i))) h
  | [.tup ds], h => minN (intsD ds) h
  | [x], h => minO (asL h x) h
  | _, _ => .stuck
theorem cv_min (hK : X.K = g.K) (hc : X.calm = true) : CV X g E (.builtin "min") bMin := by
  refine ⟨_, (call_min2 hc).or ((cr_min hc).or ((call_min3Nu hc).or (cr_minT hc))), fun m H hp ds vs Q hl r h => ?_⟩
  rw [hK]
  unfold bMin at h
  split at h
  · obtain ⟨v, u, rfl, r1, r2⟩ := reps2 r
    obtain rfl := rInt r1
    obtain rfl := rInt r2
    exact .inl ⟨_, _, rfl, PO.here hl h (by simp [rep])⟩
  · obtain ⟨v, vs1, rfl, r1, r2⟩ := reps_cons r
    obtain ⟨v2, v3, rfl, r2, r3⟩ := reps2 r2
    obtain rfl := rInt r1
    obtain rfl := rInt r2
    obtain rfl := rInt r3
    exact .inr (.inr (.inl ⟨_, _, _, _, rfl, numin3_int _ _ _, PO.here hl h (by simp [rep])⟩))
  · unfold minN at h
    split at h
    · rename_i ns en
      split at h
      · rename_i c
        obtain ⟨v, rfl, rr⟩ := reps1 r
        obtain ⟨a, us, rfl, hs, rs⟩ := asT_ok rr rfl
        have := intsD_ok rs en
        subst this
        refine .inr (.inr (.inr ⟨a, ns, rfl, hs, c, fun M h1 h2 => ?_⟩))
        obtain ⟨k1, k2⟩ := minL_mem (ns := ns) (by intro z; subst z; simp at c)
        have e : M = minL ns := Int.le_antisymm (h2 _ k1) (k2 M h1)
        rw [e]
        exact PO.here hl h (by simp [rep])
      · exact h.elim
    · exact h.elim
  · unfold minO at h
    split at h
    · rename_i es e
      unfold minN at h
      split at h
      · rename_i ns en
        split at h
        · rename_i c
          obtain ⟨v, rfl, rr⟩ := reps1 r
          obtain ⟨a, us, rfl, hs, rs⟩ := asL_ok hl rr e
          have := intsD_ok rs en
          subst this
          refine .inr (.inl ⟨a, ns, rfl, hs, c, fun M h1 h2 => ?_⟩)
          obtain ⟨k1, k2⟩ := minL_mem (ns := ns) (by intro z; subst z; simp at c)
          have e : M = minL ns := Int.le_antisymm (h2 _ k1) (k2 M h1)
          rw [e]
          exact PO.here hl h (by simp [rep])
        · exact h.elim
      · exact h.elim
    · exact h.elim
  · exact h.elim
@[simp] def tupO : Option (List D) → HP → R D
  | some es, h => .ok (.tup es) h
  | none, _ => .stuck
@[simp] def bTuple : List D → HP → R D
  | [.tup ds], h => .ok (.tup ds) h
  | [x], h => tupO (asL h x) h
  | _, _ => .stuck
@[simp] def listO (live : Bool) : Option (List D) → HP → R D
  | some es, h => newL live es h
  | none, _ => .stuck
@[simp] def bList (live : Bool) : List D → HP → R D
  | [x], h => listO live (seqD h x) h
  | _, _ => .stuck
theorem cv_list (live : Bool) (hK : X.K = g.K) : CV X g E (.type "list") (bList live) := by
  refine ⟨_, call_list_of, fun m H hp ds vs Q hl r h => ?_⟩
  rw [hK]
  unfold bList at h
  split at h
  · unfold listO at h
    split at h
    · rename_i es e
      obtain ⟨v, rfl, rr⟩ := reps1 r
      obtain ⟨a, us, rfl, hs, rs⟩ := seqD_ok hl rr e
      exact ⟨a, us, rfl, hs, (PO.newL hl rs h).2⟩
    · exact h.elim
  · exact h.elim
/-- isqrt, for numbers below 2 ^ 6000 -/
@[simp] def bIsqrt : List D → HP → R D
  | [.int i], h => if 0 ≤ i ∧ i.toNat.log2 < 6000 then .ok (.int ((Float64.isqrt i.toNat : Nat) : Int)) h else .stuck
  | _, _ => .stuck
@[simp] def tyO : Option O → Option String
  | some (.lst _) => some "list"
  | some (.dic _) => some "dict"
  | _ => none
@[simp] def tyD (h : HP) : D → Option String
  | .non => some "NoneType"
  | .bl _ => some "bool"
  | .int _ => some "int"
  | .str _ => some "str"
  | .tup _ => some "tuple"
  | .lst _ => some "list"
  | .dic _ => some "dict"
  | .ref n => tyO h[n]?
  | _ => none
theorem tyD_ok {m : AM} {H : Hp} {hp : HP} {d : D} {v : V} {T : String} (hl : HL g m H hp) (r : rep g m H d v) (e : tyD hp d = some T) : TyX g.K H v (.type T) := by
  cases d with
  | non => cases e; simp only [rep] at r; subst r; exact .base .non
  | bl b => cases e; simp only [rep] at r; subst r; exact .base (.bl b)
  | int b => cases e; simp only [rep] at r; subst r; exact .base (.int b)
  | str b => cases e; simp only [rep] at r; subst r; exact .base (.str b)
  | tup ds =>
    cases e
    simp only [rep] at r
    obtain ⟨a, vs, rfl, f, _⟩ := r
    rcases f with ⟨f | ⟨o, f⟩, _⟩ | ⟨o, its, n, k1, k2, _⟩
    · exact .base (.tup f)
    · exact .fTuple f
    · exact .kTuple k1 k2
  | lst ds =>
    cases e
    simp only [rep] at r
    obtain ⟨a, vs, rfl, f, _⟩ := r
    exact .base (.lst f)
  | klst ds => cases e
  | dic ds =>
    cases e
    simp only [rep] at r
    obtain ⟨a, vs, rfl, f, _⟩ := r
    exact .base (.dK f)
  | set ks => cases e
  | ins c fs => cases e
  | xcp c fs => cases e
  | ref n =>
    simp only [tyD] at e
    simp only [rep] at r
    unfold tyO at e
    split at e
    · rename_i ds q
      cases e
      obtain ⟨a, ea, vs, ha, _⟩ := hl.at q (by simp)
      rw [r.2 a ea]
      exact .base (.lst ha)
    · rename_i ds q
      cases e
      obtain ⟨a, ea, vs, ha, _⟩ := hl.at q (by simp)
      rw [r.2 a ea]
      exact .base (.dK ha)
    · cases e
@[simp] def isiB : Option Bool → HP → R D
  | some b, h => .ok (.bl b) h
  | none, _ => .stuck
@[simp] def isiO (T : String) : Option String → HP → R D
  | some S, h => isiB (kitB S T) h
  | none, _ => .stuck
@[simp] def kIsi (T : String) (x : D) (h : HP) : R D := isiO T (tyD h x) h
@[simp] def mIsi (T : String) (a : M D) (env : EN) (hp : HP) : R D := (a env hp).bind (kIsi T)
theorem pe_bty {x : Str} {T : String} {pos : Pos} (hg : Gl X x) (hm : X.mg x = none) (hv : bootBuiltins x = some (.type T)) (hn : x ≠ "__name__") (hd : (x == ("__debug__" : Str)) = false) : PE X (.Name x pos) (tC (.ty T)) := pe_bltn (v := .ty T) hg hm hv rfl hn hd
theorem EV.isi {T : String} {t isi : Str} {a : Expr} {p p2 pos : Pos} {fa : M D} (hK : X.K = g.K) (he0 : isi = "isinstance") (hm : X.mg isi = none) (hmt : X.mg t = none) (ha : EV g X E a fa) (hg : Gl X isi) (hgt : Gl X t) (hv : bootBuiltins t = some (.type T)) (hn : t ≠ "__name__") (hd : (t == ("__debug__" : Str)) = false)
    (he : starEach [a, .Name t p2] X.env = (false, eval a X.env) :: starEach [.Name t p2] X.env) : EV g X E (.Call (.Name isi p) [a, .Name t p2] [] pos) (mIsi T fa) := by
  subst he0
  obtain ⟨ta, pa, qa⟩ := ha
  refine ⟨_, pe_callB call_isi hg hm (by decide +kernel) (pa_cons pa (pa_cons (pe_bty hgt hmt hv hn hd) pa_nil rfl) he) (by decide) (by decide) he rfl, fun σ H Q m env hp hl er h => ?_⟩
  refine qa σ H _ m env hp hl er (PO.bind h fun x h1 m1 H1 v x1 hl1 r1 h => ?_)
  rw [hK]
  unfold kIsi isiO at h
  split at h
  · rename_i S e
    unfold isiB at h
    split at h
    · rename_i b eb
      exact ⟨v, .ty T, .type S, .type T, b, rfl, .ty T, tyD_ok hl1 r1 e, kit_ty eb, PO.here hl1 h (by simp [rep])⟩
    · exact h.elim
  · exact h.elim
end
end Ev
namespace Ev
open PySem PySem.Spec PyProof.Rows L2
section
variable {g : G} {X : Cx} {E : XK}
abbrev TF := D → EN → HP → Option EN
abbrev TFs := List D → EN → HP → Option EN
/-- the slots at `is` may be turned, the others stay -/
def Turned (is : List Nat) (σ σ' : L2.St) : Prop := σ'.length = σ.length ∧ ∀ j, j ∉ is → σ'[j]? = σ[j]?
theorem Turned.refl (is : List Nat) (σ : L2.St) : Turned is σ σ := ⟨rfl, fun _ _ => rfl⟩
theorem Turned.trans {is : List Nat} {a b c : L2.St} (x : Turned is a b) (y : Turned is b c) : Turned is a c := ⟨y.1.trans x.1, fun j h => (y.2 j h).trans (x.2 j h)⟩
theorem Turned.mono {is js : List Nat} {a b : L2.St} (x : Turned is a b) (h : ∀ i ∈ is, i ∈ js) : Turned js a b := ⟨x.1, fun j hj => x.2 j fun z => hj (h j z)⟩
structure GV (g : G) (X : Cx) (tg : Expr) (is : List Nat) (f : TF) : Prop where
  ex : ∃ t, PG X tg t ∧ ∀ v σ H Q m env hp d, HL g m H hp → ER g m H σ env → rep g m H d v → (∃ env', f d env hp = some env' ∧ ∀ σ', Turned is σ σ' → ER g m H σ' env' → Q σ' H) → t v σ H Q
structure GVs (g : G) (X : Cx) (tgs : List Expr) (is : List Nat) (f : TFs) : Prop where
  ex : ∃ t, PGs X tgs t ∧ ∀ vs σ H Q m env hp ds, HL g m H hp → ER g m H σ env → reps g m H ds vs → (∃ env', f ds env hp = some env' ∧ ∀ σ', Turned is σ σ' → ER g m H σ' env' → Q σ' H) → t vs σ H Q
theorem ER.set {m : AM} {H : Hp} {σ : L2.St} {env : EN} {i : Nat} {d : D} {v : V} (er : ER g m H σ env) (r : rep g m H d v) : ER g m H (σ.set i (some v)) (env.set i (some d)) := by
  refine ⟨by simp [er.len], fun j e h => ?_⟩
  by_cases hj : i = j
  · subst hj
    rw [List.getElem?_set_self'] at h
    cases q : env[i]? with
    | none => rw [q] at h; cases h
    | some z =>
      rw [q] at h
      cases h
      have : i < σ.length := by rw [er.len]; exact (List.getElem?_eq_some_iff.mp q).1
      exact ⟨v, by rw [List.getElem?_set_self this], r⟩
  · rw [List.getElem?_set_ne hj] at h
    obtain ⟨w, e1, r1⟩ := er.at_ j e h
    exact ⟨w, by rw [List.getElem?_set_ne hj]; exact e1, r1⟩
@[simp] def gNm (i : Nat) (d : D) (env : EN) (_ : HP) : Option EN := some (env.set i (some d))
theorem GV.name {i : Nat} {x : Str} {pos : Pos} (hN : X.N.Nodup) (hi : X.N[i]? = some x) (hx : Loc X.env.scope x) (hf : X.fn x = true ∨ X.env.scope.names.lookup x = some .local) : GV g X (.Name x pos) [i] (gNm i) := by
  refine ⟨_, pg_name hN hi hx hf, fun v σ H Q m env hp d hl er r ⟨env', e, h⟩ => ?_⟩
  cases e
  refine h _ ⟨by simp, fun j hj => ?_⟩ (er.set r)
  rw [List.getElem?_set_ne (by intro z; subst z; simp at hj)]
@[simp] def gsNil : List D → EN → HP → Option EN
  | [], env, _ => some env
  | _, _, _ => none
@[simp] def gsK (fs : TFs) (ds : List D) (h : HP) : Option EN → Option EN
  | some env => fs ds env h
  | none => none
@[simp] def gsCons (f : TF) (fs : TFs) : List D → EN → HP → Option EN
  | d :: ds, env, h => gsK fs ds h (f d env h)
  | [], _, _ => none
theorem GVs.nil {is : List Nat} : GVs g X [] is gsNil := by
  refine ⟨_, pgs_nil, fun vs σ H Q m env hp ds hl er r ⟨env', e, h⟩ => ?_⟩
  cases ds with
  | nil =>
    cases e
    simp only [reps] at r
    exact ⟨r, h σ (.refl _ _) er⟩
  | cons _ _ => cases e
theorem GVs.cons {t : Expr} {ts : List Expr} {is js ks : List Nat} {f : TF} {fs : TFs} (h1 : GV g X t is f) (h2 : GVs g X ts js fs) (hi : ∀ i ∈ is, i ∈ ks) (hj : ∀ i ∈ js, i ∈ ks) (hs : (assignEach (t :: ts) X.env).map (·.2) = assign t X.env :: (assignEach ts X.env).map (·.2)) : GVs g X (t :: ts) ks (gsCons f fs) := by
  obtain ⟨ta, pa, qa⟩ := h1
  obtain ⟨tb, pb, qb⟩ := h2
  refine ⟨_, pgs_cons pa pb hs, fun vs σ H Q m env hp ds hl er r ⟨env', e, h⟩ => ?_⟩
  cases ds with
  | nil => cases e
  | cons d ds =>
    simp only [reps] at r
    obtain ⟨v, vr, rfl, r1, r2⟩ := r
    simp only [gsCons] at e
    obtain ⟨env1, e1, e2⟩ : ∃ env1, f d env hp = some env1 ∧ fs ds env1 hp = some env' := by
      revert e
      cases f d env hp with
      | some z => exact fun e => ⟨z, rfl, e⟩
      | none => exact fun e => by cases e
    refine ⟨v, vr, rfl, qa v σ H _ m env hp d hl er r1 ⟨env1, e1, fun σ' t' er' => ?_⟩⟩
    exact qb vr σ' H Q m env1 hp ds hl er' r2 ⟨env', e2, fun σ2 t2 er2 => h σ2 ((t'.mono hi).trans (t2.mono hj)) er2⟩
@[simp] def gTp (n : Nat) (fs : TFs) : D → EN → HP → Option EN
  | .tup ds, env, h => if ds.length = n then fs ds env h else none
  | _, _, _ => none
theorem GV.tup {es : List Expr} {k n : Nat} {pos : Pos} {is : List Nat} {fs : TFs} (hK : X.K = g.K) (hc : X.calm = true) (h : GVs g X es is fs) (hn : (assignEach es X.env).length = n) (hst : (assignEach es X.env).findIdx? (·.1) = none) : GV g X (.Tuple es k pos) is (gTp n fs) := by
  obtain ⟨t, p, q⟩ := h
  refine ⟨_, pg_tup hc p hn hst, fun v σ H Q m env hp d hl er r ⟨env', e, h⟩ => ?_⟩
  rw [hK]
  cases d with
  | tup ds =>
    simp only [gTp] at e
    split at e
    · rename_i c
      obtain ⟨a, vs, rfl, hs, rs⟩ := rTup r
      exact ⟨a, vs, rfl, hs, by rw [← reps.length rs]; exact c, q vs σ H Q m env hp ds hl er rs ⟨env', e, h⟩⟩
    · cases e
  | _ => cases e
/-- the items, and the live lists that must stay while they are walked -/
abbrev GdL := List (Nat × List D)
abbrev IM := EN → HP → R (List D × GdL)
def Gd (gd : GdL) (hp : HP) : Prop := ∀ p ∈ gd, hp[p.1]? = some (.lst p.2)
/-- the iterator J gives the items while the guard holds -/
structure Foll (g : G) (m0 : AM) (H0 : Hp) (J : It) (items : List D) (gd : GdL) : Prop where
  go : ∀ i m H hp, i < items.length → Ex m0 H0 m H → HL g m H hp → Gd gd hp → J.go i H
  yld : ∀ i m H hp x H', i < items.length → Ex m0 H0 m H → HL g m H hp → Gd gd hp → J.yld i H x H' → ∃ d, items[i]? = some d ∧ Ex m H m H' ∧ HL g m H' hp ∧ rep g m H' d x
  stop : ∀ m H hp, Ex m0 H0 m H → HL g m H hp → Gd gd hp → J.stop items.length H
def IPO (g : G) (m : AM) (H : Hp) (E : XK) (Rr : It → Hp → Prop) : R (List D × GdL) → Prop
  | .ok d hp' => ∀ m' H' J, Ex m H m' H' → HL g m' H' hp' → Foll g m' H' J d.1 d.2 → Rr J H'
  | .exc c fs hp' => ∀ m' H' d, Ex m H m' H' → HL g m' H' hp' → XD g m' H' fs d → E (.ref (g.xA c)) d H'
  | .stuck => False
structure IV (g : G) (X : Cx) (E : XK) (tg it : Expr) (f : IM) : Prop where
  ex : ∃ wi, PI X tg it wi ∧ ∀ σ H Rr m env hp, HL g m H hp → ER g m H σ env → IPO g m H E Rr (f env hp) → wi σ H Rr
theorem IPO.bind {α β : Type} {m : AM} {H : Hp} {rp : AM → Hp → α → β → Prop} {Rr : It → Hp → Prop} {Q : β → Hp → Prop} {r : R α} {f : α → HP → R (List D × GdL)}
    (h : IPO g m H E Rr (r.bind f)) (k : ∀ d hp' m' H' v, Ex m H m' H' → HL g m' H' hp' → rp m' H' d v → IPO g m' H' E Rr (f d hp') → Q v H') : PO g m H E rp Q r := by
  cases r with
  | ok d hp' =>
    intro m' H' v x hl rv
    refine k d hp' m' H' v x hl rv ?_
    simp only [R.bind] at h
    revert h
    cases f d hp' with
    | ok e h2 => exact fun h m2 H2 w x2 hl2 r2 => h m2 H2 w (x.trans x2) hl2 r2
    | exc c fs h2 => exact fun h m2 H2 d2 x2 hl2 e2 => h m2 H2 d2 (x.trans x2) hl2 e2
    | stuck => exact fun h => h
  | exc c fs hp' => exact h
  | stuck => exact h
/-- a list as a source -/
@[simp] def lviewO (n : Nat) : Option O → Option (List D × GdL)
  | some (.lst ds) => some (ds, [(n, ds)])
  | _ => none
@[simp] def lview (h : HP) : D → Option (List D × GdL)
  | .lst ds => some (ds, [])
  | .klst ds => some (ds, [])
  | .ref n => lviewO n h[n]?
  | _ => none
def LSrc (g : G) (m0 : AM) (H0 : Hp) (a : Addr) (ds : List D) (gd : GdL) : Prop := ∀ m H hp, Ex m0 H0 m H → HL g m H hp → Gd gd hp → ∃ vs, SqL g.K H a vs ∧ reps g m H ds vs
def TSrc (g : G) (m0 : AM) (H0 : Hp) (a : Addr) (ds : List D) : Prop := ∀ m H, Ex m0 H0 m H → ∃ vs, SqT g.K H a vs ∧ reps g m H ds vs
theorem lview_ok {m : AM} {H : Hp} {hp : HP} {d : D} {v : V} {p : List D × GdL} (hl : HL g m H hp) (r : rep g m H d v) (e : lview hp d = some p) : ∃ a, v = .ref a ∧ LSrc g m H a p.1 p.2 ∧ Gd p.2 hp := by
  cases d with
  | lst ds =>
    cases e
    simp only [rep] at r
    obtain ⟨a, vs, rfl, f, k, rs⟩ := r
    exact ⟨a, rfl, fun m2 H2 hp2 x _ _ => ⟨vs, .of (x.fz _ _ f k).1, reps.ext x _ _ rs⟩, fun p hp => by cases hp⟩
  | klst ds =>
    cases e
    simp only [rep] at r
    obtain ⟨a, vs, rfl, f, rs⟩ := r
    exact ⟨a, rfl, fun m2 H2 hp2 x _ _ => ⟨vs, (f.ext x).sq, reps.ext x _ _ rs⟩, fun p hp => by cases hp⟩
  | ref n =>
    simp only [lview] at e
    unfold lviewO at e
    split at e
    · rename_i ds q
      cases e
      simp only [rep] at r
      obtain ⟨a, ea, vs, ha, rs⟩ := hl.at q (by simp)
      refine ⟨a, r.2 a ea, fun m2 H2 hp2 x hl2 gd => ?_, fun p hp => ?_⟩
      · obtain ⟨b, eb, us, hb, rr⟩ := hl2.at (gd (n, ds) (List.mem_singleton.mpr rfl)) (by simp)
        have := x.mp n b eb r.1
        rw [ea] at this
        cases this
        exact ⟨us, .of hb, rr⟩
      · cases List.mem_singleton.mp hp
        exact q
    · cases e
  | _ => cases e
theorem tview_ok {m : AM} {H : Hp} {ds : List D} {v : V} (r : rep g m H (.tup ds) v) : ∃ a, v = .ref a ∧ TSrc g m H a ds := by
  simp only [rep] at r
  obtain ⟨a, vs, rfl, f, rs⟩ := r
  exact ⟨a, rfl, fun m2 H2 x => ⟨vs, (f.ext x).sq, reps.ext x _ _ rs⟩⟩
@[simp] def seqO : Option (List D × GdL) → HP → R (List D × GdL)
  | some p, h => .ok p h
  | none, _ => .stuck
@[simp] def kSeq (x : D) (h : HP) : R (List D × GdL) := seqO (lview h x) h
@[simp] def iSeq (a : M D) (env : EN) (hp : HP) : R (List D × GdL) := (a env hp).bind kSeq
@[simp] def kTupS : D → HP → R (List D × GdL)
  | .tup ds, h => .ok (ds, []) h
  | _, _ => .stuck
@[simp] def iTupS (a : M D) (env : EN) (hp : HP) : R (List D × GdL) := (a env hp).bind kTupS
theorem foll_list {m0 : AM} {H0 : Hp} {a : Addr} {ds : List D} {gd : GdL} (s : LSrc g m0 H0 a ds gd) : Foll g m0 H0 (Itl g.K a) ds gd := by
  refine ⟨fun i m H hp hi x hl gd => ?_, fun i m H hp v H' hi x hl gd y => ?_, fun m H hp x hl gd => ?_⟩
  · obtain ⟨vs, s, rr⟩ := s m H hp x hl gd
    obtain ⟨w, ew, _⟩ := rr.get (List.getElem?_eq_getElem hi)
    exact ⟨vs, w, s, ew⟩
  · obtain ⟨vs, s, rr⟩ := s m H hp x hl gd
    obtain ⟨e, y⟩ := y
    subst e
    obtain ⟨w, ew, rw'⟩ := rr.get (List.getElem?_eq_getElem hi)
    have := y vs s
    rw [ew] at this
    cases this
    exact ⟨_, List.getElem?_eq_getElem hi, .refl _ _, hl, rw'⟩
  · obtain ⟨vs, s, rr⟩ := s m H hp x hl gd
    exact ⟨vs, s, by rw [reps.length rr]; exact Nat.le_refl _⟩
theorem foll_tup {m0 : AM} {H0 : Hp} {a : Addr} {ds : List D} (s : TSrc g m0 H0 a ds) : Foll g m0 H0 (Itt g.K a) ds [] := by
  refine ⟨fun i m H hp hi x hl gd => ?_, fun i m H hp v H' hi x hl gd y => ?_, fun m H hp x hl gd => ?_⟩
  · obtain ⟨vs, s, rr⟩ := s m H x
    obtain ⟨w, ew, _⟩ := rr.get (List.getElem?_eq_getElem hi)
    exact ⟨vs, w, s, ew⟩
  · obtain ⟨vs, s, rr⟩ := s m H x
    obtain ⟨e, y⟩ := y
    subst e
    obtain ⟨w, ew, rw'⟩ := rr.get (List.getElem?_eq_getElem hi)
    have := y vs s
    rw [ew] at this
    cases this
    exact ⟨_, List.getElem?_eq_getElem hi, .refl _ _, hl, rw'⟩
  · obtain ⟨vs, s, rr⟩ := s m H x
    exact ⟨vs, s, by rw [reps.length rr]; exact Nat.le_refl _⟩
def zipD (xs ys : List D) : List D := List.zipWith (fun a b => .tup [a, b]) xs ys
theorem new_pair {m : AM} {H : Hp} {hp : HP} {T : Addr} {x y : V} {a b : D} (hl : HL g m H hp) (np : H T = none) (ra : rep g m H a x) (rb : rep g m H b y) :
    Ex m H m (upd H T (.tup [x, y])) ∧ HL g m (upd H T (.tup [x, y])) hp ∧ rep g m (upd H T (.tup [x, y])) (.tup [a, b]) (.ref T) := by
  obtain ⟨x', hl2, pm⟩ := hl.new (o := .tup [x, y]) np
  refine ⟨x', hl2, ?_⟩
  simp only [rep]
  refine ⟨T, [x, y], rfl, .inl ⟨.inl upd_same, pm⟩, ?_⟩
  simp only [reps]
  exact ⟨x, [y], rfl, rep.ext x' _ _ ra, y, [], rfl, rep.ext x' _ _ rb, rfl⟩
theorem zip_at {xs ys : List D} {i : Nat} (h : i < (zipD xs ys).length) : ∃ (h1 : i < xs.length) (h2 : i < ys.length), (zipD xs ys)[i]? = some (.tup [xs[i], ys[i]]) := by
  have h' := h
  simp only [zipD, List.length_zipWith] at h'
  refine ⟨by omega, by omega, ?_⟩
  rw [List.getElem?_eq_getElem h]
  simp [zipD]
theorem foll_zip {m0 : AM} {H0 : Hp} {a b : Addr} {xs ys : List D} {gd gd' : GdL} (s : LSrc g m0 H0 a xs gd) (s' : LSrc g m0 H0 b ys gd') : Foll g m0 H0 (Itz g.K a b) (zipD xs ys) (gd ++ gd') := by
  have q : ∀ {m H hp}, Ex m0 H0 m H → HL g m H hp → Gd (gd ++ gd') hp → (∃ vs, SqL g.K H a vs ∧ reps g m H xs vs) ∧ ∃ us, SqL g.K H b us ∧ reps g m H ys us := fun x hl h =>
    ⟨s _ _ _ x hl fun p hp => h p (List.mem_append_left _ hp), s' _ _ _ x hl fun p hp => h p (List.mem_append_right _ hp)⟩
  refine ⟨fun i m H hp hi x hl gd => ?_, fun i m H hp v H' hi x hl gd y => ?_, fun m H hp x hl gd => ?_⟩
  · obtain ⟨⟨vs, s1, r1⟩, us, s2, r2⟩ := q x hl gd
    obtain ⟨h1, h2, _⟩ := zip_at hi
    obtain ⟨w, ew, _⟩ := r1.get (List.getElem?_eq_getElem h1)
    obtain ⟨w2, ew2, _⟩ := r2.get (List.getElem?_eq_getElem h2)
    exact ⟨vs, us, w, w2, s1, s2, ew, ew2⟩
  · obtain ⟨⟨vs, s1, r1⟩, us, s2, r2⟩ := q x hl gd
    obtain ⟨h1, h2, e⟩ := zip_at hi
    obtain ⟨T, x1, y1, rfl, nT, rfl, k1, k2⟩ := y
    obtain ⟨w, ew, rw1⟩ := r1.get (List.getElem?_eq_getElem h1)
    obtain ⟨w2, ew2, rw2⟩ := r2.get (List.getElem?_eq_getElem h2)
    have z1 := k1 vs s1
    have z2 := k2 us s2
    rw [ew] at z1
    rw [ew2] at z2
    cases z1
    cases z2
    obtain ⟨x', hl2, rr⟩ := new_pair hl nT rw1 rw2
    exact ⟨_, e, x', hl2, rr⟩
  · obtain ⟨⟨vs, s1, r1⟩, us, s2, r2⟩ := q x hl gd
    refine ⟨vs, us, s1, s2, ?_⟩
    simp only [zipD, List.length_zipWith]
    rw [← reps.length r1, ← reps.length r2]
    omega
theorem foll_zipT {m0 : AM} {H0 : Hp} {a b : Addr} {xs ys : List D} (s : TSrc g m0 H0 a xs) (s' : TSrc g m0 H0 b ys) : Foll g m0 H0 (RZ.ItzT g.K a b) (zipD xs ys) [] := by
  refine ⟨fun i m H hp hi x hl gd => ?_, fun i m H hp v H' hi x hl gd y => ?_, fun m H hp x hl gd => ?_⟩
  · obtain ⟨vs, s1, r1⟩ := s _ _ x
    obtain ⟨us, s2, r2⟩ := s' _ _ x
    obtain ⟨h1, h2, _⟩ := zip_at hi
    obtain ⟨w, ew, _⟩ := r1.get (List.getElem?_eq_getElem h1)
    obtain ⟨w2, ew2, _⟩ := r2.get (List.getElem?_eq_getElem h2)
    exact ⟨vs, us, w, w2, s1, s2, ew, ew2⟩
  · obtain ⟨vs, s1, r1⟩ := s _ _ x
    obtain ⟨us, s2, r2⟩ := s' _ _ x
    obtain ⟨h1, h2, e⟩ := zip_at hi
    obtain ⟨T, x1, y1, rfl, nT, rfl, k1, k2⟩ := y
    obtain ⟨w, ew, rw1⟩ := r1.get (List.getElem?_eq_getElem h1)
    obtain ⟨w2, ew2, rw2⟩ := r2.get (List.getElem?_eq_getElem h2)
    have z1 := k1 vs s1
    have z2 := k2 us s2
    rw [ew] at z1
    rw [ew2] at z2
    cases z1
    cases z2
    obtain ⟨x', hl2, rr⟩ := new_pair hl nT rw1 rw2
    exact ⟨_, e, x', hl2, rr⟩
  · obtain ⟨vs, s1, r1⟩ := s _ _ x
    obtain ⟨us, s2, r2⟩ := s' _ _ x
    refine ⟨vs, us, s1, s2, ?_⟩
    simp only [zipD, List.length_zipWith]
    rw [← reps.length r1, ← reps.length r2]
    omega
theorem IV.seq {tg e : Expr} {f : M D} (hK : X.K = g.K) (h : EV g X E e f) : IV g X E tg e (iSeq f) := by
  obtain ⟨t, p, q⟩ := h
  refine ⟨_, pi_list p, fun σ H Rr m env hp hl er h => ?_⟩
  refine q σ H _ m env hp hl er (IPO.bind h fun x h1 m1 H1 v x1 hl1 r1 h => ?_)
  rw [hK]
  unfold kSeq seqO at h
  split at h
  · rename_i p e
    obtain ⟨a, rfl, s, gd⟩ := lview_ok hl1 r1 e
    obtain ⟨vs, sq, _⟩ := s _ _ _ (.refl _ _) hl1 gd
    exact ⟨a, rfl, ⟨vs, sq⟩, h m1 H1 _ (.refl _ _) hl1 (foll_list s)⟩
  · exact h.elim
theorem IV.tupS {tg e : Expr} {f : M D} (hK : X.K = g.K) (h : EV g X E e f) : IV g X E tg e (iTupS f) := by
  obtain ⟨t, p, q⟩ := h
  refine ⟨_, pi_tup p, fun σ H Rr m env hp hl er h => ?_⟩
  refine q σ H _ m env hp hl er (IPO.bind h fun x h1 m1 H1 v x1 hl1 r1 h => ?_)
  rw [hK]
  cases x with
  | tup ds =>
    obtain ⟨a, rfl, s⟩ := tview_ok r1
    obtain ⟨vs, sq, _⟩ := s _ _ (.refl _ _)
    exact ⟨a, rfl, ⟨vs, sq⟩, h m1 H1 _ (.refl _ _) hl1 (foll_tup s)⟩
  | _ => exact h.elim
/-- range(n), range(a, b) -/
def rngD (lo : Int) (n : Nat) : List D := (List.range n).map fun i => .int (lo + (i : Nat))
theorem rngD_len (lo : Int) (n : Nat) : (rngD lo n).length = n := by simp [rngD]
theorem foll_range {m0 : AM} {H0 : Hp} {lo : Int} {n : Nat} : Foll g m0 H0 (Itr lo n) (rngD lo n) [] := by
  refine ⟨fun i m H hp hi x _ _ => by rw [rngD_len] at hi; exact hi, fun i m H hp v H' hi x hl' _ y => ?_, fun m H hp x _ _ => by rw [rngD_len]; exact Nat.le_refl _⟩
  obtain ⟨e, y⟩ := y
  subst e
  subst y
  rw [rngD_len] at hi
  exact ⟨.int (lo + (i : Nat)), by simp [rngD, hi], .refl _ _, hl', by simp [rep]⟩
/-- a range's bounds -/
def Rg (n : Int) : Prop := -(2 ^ 62) ≤ n ∧ n < 2 ^ 62
open Classical in
@[simp] noncomputable def kRange1 : List D → HP → R (List D × GdL)
  | [.int n], h => if Rg n then .ok (rngD 0 n.toNat, []) h else .stuck
  | _, _ => .stuck
@[simp] noncomputable def iRange1 (a : M (List D)) (env : EN) (hp : HP) : R (List D × GdL) := (a env hp).bind kRange1
open Classical in
@[simp] noncomputable def kRange2 : List D → HP → R (List D × GdL)
  | [.int i, .int j], h => if Rg i ∧ Rg j then .ok (rngD i (j - i).toNat, []) h else .stuck
  | _, _ => .stuck
@[simp] noncomputable def iRange2 (a : M (List D)) (env : EN) (hp : HP) : R (List D × GdL) := (a env hp).bind kRange2
theorem IV.range1 {tg a : Expr} {p pos : Pos} {f : M (List D)} (hm : X.mg "range" = none) (h : AV g X E [a] f) (hg : Gl X "range") (hs : starEach [a] X.env = [(false, eval a X.env)]) : IV g X E tg (.Call (.Name "range" p) [a] [] pos) (iRange1 f) := by
  obtain ⟨t, p, q⟩ := h
  refine ⟨_, pi_range1 hg hm p hs, fun σ H Rr m env hp hl er h => ?_⟩
  refine q σ H _ m env hp hl er (IPO.bind h fun xs h1 m1 H1 vs x1 hl1 r1 h => ?_)
  unfold kRange1 at h
  split at h
  · split at h
    · rename_i c
      obtain ⟨v, rfl, rr⟩ := reps1 r1
      obtain rfl := rInt rr
      exact ⟨_, rfl, c.1, c.2, h m1 H1 _ (.refl _ _) hl1 foll_range⟩
    · exact h.elim
  · exact h.elim
/-- zip(a, b): two lists, or two tuples -/
@[simp] def zipO : Option (List D × GdL) → Option (List D × GdL) → HP → R (List D × GdL)
  | some p, some q, h => .ok (zipD p.1 q.1, p.2 ++ q.2) h
  | _, _, _ => .stuck
@[simp] def kZip2 : List D → HP → R (List D × GdL)
  | [.tup ds, .tup es], h => .ok (zipD ds es, []) h
  | [x, y], h => zipO (lview h x) (lview h y) h
  | _, _ => .stuck
@[simp] def iZip2 (a : M (List D)) (env : EN) (hp : HP) : R (List D × GdL) := (a env hp).bind kZip2
theorem IV.zip {e e2 : Expr} {p pos tpos : Pos} {elts : List Expr} {kk : Nat} {f : M (List D)} (hK : X.K = g.K) (hm : X.mg "zip" = none) (h : AV g X E [e, e2] f) (hg : Gl X "zip")
    (hs : starEach [e, e2] X.env = (false, eval e X.env) :: starEach [e2] X.env) (hpl : (backTo pos (starEach [e2] X.env)).any (·.1) = false) : IV g X E (.Tuple elts kk tpos) (.Call (.Name "zip" p) [e, e2] [] pos) (iZip2 f) := by
  obtain ⟨t, p, q⟩ := h
  refine ⟨_, RZ.pi_zipA hg hm p hs hpl, fun σ H Rr m env hp hl er h => ?_⟩
  refine q σ H _ m env hp hl er (IPO.bind h fun xs h1 m1 H1 vs x1 hl1 r1 h => ?_)
  rw [hK]
  unfold kZip2 at h
  split at h
  · obtain ⟨v, u, rfl, rr, rr2⟩ := reps2 r1
    obtain ⟨a, rfl, s⟩ := tview_ok rr
    obtain ⟨b, rfl, s'⟩ := tview_ok rr2
    obtain ⟨vs, sq, _⟩ := s _ _ (.refl _ _)
    obtain ⟨us, sq', _⟩ := s' _ _ (.refl _ _)
    exact ⟨a, b, vs, us, rfl, .inr ⟨sq, sq', h m1 H1 _ (.refl _ _) hl1 (foll_zipT s s')⟩⟩
  · unfold zipO at h
    split at h
    · rename_i p q e1 e2
      obtain ⟨v, u, rfl, rr, rr2⟩ := reps2 r1
      obtain ⟨a, rfl, s, gd⟩ := lview_ok hl1 rr e1
      obtain ⟨b, rfl, s', gd'⟩ := lview_ok hl1 rr2 e2
      obtain ⟨vs, sq, _⟩ := s _ _ _ (.refl _ _) hl1 gd
      obtain ⟨us, sq', _⟩ := s' _ _ _ (.refl _ _) hl1 gd'
      exact ⟨a, b, vs, us, rfl, .inl ⟨sq, sq', h m1 H1 _ (.refl _ _) hl1 (foll_zip s s')⟩⟩
    · exact h.elim
  · exact h.elim
/-- the signs of a text -/
@[simp] def kText : D → HP → R (List D × GdL)
  | .str z, h => .ok (z.cps.toList.map fun c => .str ⟨#[c]⟩, []) h
  | _, _ => .stuck
@[simp] def iText (a : M D) (env : EN) (hp : HP) : R (List D × GdL) := (a env hp).bind kText
theorem foll_text {m0 : AM} {H0 : Hp} {z : Str} : Foll g m0 H0 (Its z) (z.cps.toList.map fun c => .str ⟨#[c]⟩) [] := by
  refine ⟨fun i m H hp hi x _ _ => ?_, fun i m H hp v H' hi x hl' _ y => ?_, fun m H hp x _ _ => ?_⟩
  · show i < z.cps.size; simpa using hi
  · obtain ⟨e, c, ec, y⟩ := y
    subst e
    subst y
    refine ⟨.str ⟨#[c]⟩, ?_, .refl _ _, hl', by simp [rep]⟩
    rw [List.getElem?_map, Array.getElem?_toList, ec]
    rfl
  · show z.cps.size ≤ _
    simp
theorem IV.text {tg e : Expr} {f : M D} (h : EV g X E e f) : IV g X E tg e (iText f) := by
  obtain ⟨t, p, q⟩ := h
  refine ⟨_, pi_str p, fun σ H Rr m env hp hl er h => ?_⟩
  refine q σ H _ m env hp hl er (IPO.bind h fun x h1 m1 H1 v x1 hl1 r1 h => ?_)
  cases x with
  | str z =>
    obtain rfl := rStr r1
    exact ⟨z, rfl, h m1 H1 _ (.refl _ _) hl1 foll_text⟩
  | _ => exact h.elim
/-- a list, a tuple or a text: whatever comes -/
theorem PI.or' {tg it : Expr} {w1 w2 : TI} (h1 : PI X tg it w1) (h2 : PI X tg it w2) : PI X tg it (fun σ H R => w1 σ H R ∨ w2 σ H R) := ⟨fun pins s σ H R I h => h.elim (h1.run pins s σ H R I) (h2.run pins s σ H R I)⟩
@[simp] def kAny : D → HP → R (List D × GdL)
  | .tup ds, h => .ok (ds, []) h
  | .str z, h => .ok (z.cps.toList.map fun c => .str ⟨#[c]⟩, []) h
  | x, h => seqO (lview h x) h
@[simp] def iAny (a : M D) (env : EN) (hp : HP) : R (List D × GdL) := (a env hp).bind kAny
theorem IV.any {tg e : Expr} {f : M D} (hK : X.K = g.K) (h : EV g X E e f) : IV g X E tg e (iAny f) := by
  obtain ⟨w1, p1, q1⟩ := IV.seq (tg := tg) hK h
  obtain ⟨w2, p2, q2⟩ := IV.tupS (tg := tg) hK h
  obtain ⟨w3, p3, q3⟩ := IV.text (tg := tg) h
  refine ⟨_, PI.or' p1 (PI.or' p2 p3), fun σ H Rr m env hp hl er h => ?_⟩
  cases hf : f env hp with
  | ok x h1 =>
    unfold iAny at h
    rw [hf] at h
    cases x with
    | tup ds => exact .inr (.inl (q2 σ H Rr m env hp hl er (by unfold iTupS; rw [hf]; exact h)))
    | str z => exact .inr (.inr (q3 σ H Rr m env hp hl er (by unfold iText; rw [hf]; exact h)))
    | _ => exact .inl (q1 σ H Rr m env hp hl er (by unfold iSeq; rw [hf]; exact h))
  | exc c fs h1 =>
    unfold iAny at h
    rw [hf] at h
    exact .inl (q1 σ H Rr m env hp hl er (by unfold iSeq; rw [hf]; exact h))
  | stuck =>
    unfold iAny at h
    rw [hf] at h
    exact h.elim
end
end Ev
namespace Ev
open PySem PySem.Spec PyProof.Rows L2
section
variable {g : G} {X : Cx} {E : XK}
theorem liveO.ext {m m' : AM} {H H' : Hp} {b : Addr} {o : O} (x : Ex m H m' H') (e : H' b = H b) (h : liveO g m H b o) : liveO g m' H' b o := by
  cases o with
  | lst ds => obtain ⟨vs, h1, r⟩ := h; exact ⟨vs, by rw [e]; exact h1, reps.ext x _ _ r⟩
  | dic ds => obtain ⟨vs, h1, r⟩ := h; exact ⟨vs, by rw [e]; exact h1, repk.ext x _ _ r⟩
  | dicT ds => obtain ⟨vs, h1, r⟩ := h; exact ⟨vs, by rw [e]; exact h1, repkT.ext x _ _ r⟩
  | dX => obtain ⟨φ, h1⟩ := h; exact ⟨φ, by rw [e]; exact h1⟩
  | ins c fs => obtain ⟨dx, vs, h1, r⟩ := h; exact ⟨dx, vs, by rw [e]; exact h1, repf.ext x _ _ r⟩
  | dead => exact h.elim
theorem HL.write {m : AM} {H : Hp} {hp : HP} (hl : HL g m H hp) {n : Nat} {a : Addr} {u : HO} {ob ob' : O} (ea : m[n]? = some (some a)) (eo : hp[n]? = some ob) (hne : ob' ≠ .dead)
    (hlv : Ex m H m (upd H a u) → liveO g m (upd H a u) a ob') : Ex m H m (upd H a u) ∧ HL g m (upd H a u) (hp.set n ob') := by
  have x : Ex m H m (upd H a u) := ⟨Nat.le_refl _, fun _ _ h _ => h, fun b o e k => ⟨by rw [upd_ne (fun z => by subst z; exact k (List.mem_of_getElem? ea))]; exact e, k⟩⟩
  refine ⟨x, ⟨by simp [hl.len], hl.nd, fun i o h => ?_⟩⟩
  by_cases hi : n = i
  · subst hi
    rw [List.getElem?_set_self (List.getElem?_eq_some_iff.mp eo).1] at h
    cases h
    exact .inr ⟨a, ea, hlv x⟩
  · rw [List.getElem?_set_ne hi] at h
    rcases hl.live i o h with z | ⟨b, eb, lv⟩
    · exact .inl z
    · refine .inr ⟨b, eb, lv.ext x ?_⟩
      rw [upd_ne (fun z => by subst z; exact hi (hl.nd n i b ea eb))]
@[reducible] def R.nx {α : Type} (r : R α) : R α := match r with
  | .exc _ _ _ => .stuck
  | r => r
theorem PO.nx {α β : Type} {m : AM} {H : Hp} {E' : XK} {rp : AM → Hp → α → β → Prop} {Q : β → Hp → Prop} {r : R α} (h : PO g m H E rp Q r.nx) : PO g m H E' rp Q r := by
  cases r with
  | ok d h' => exact h
  | exc _ _ _ => exact h.elim
  | stuck => exact h
def appL (n : Nat) (y : D) (h : HP) : R Unit := match h[n]? with
  | some (.lst ds) => if ds.length < sizeLine then .ok () (h.set n (.lst (ds ++ [y]))) else .stuck
  | _ => .stuck
open Classical in
noncomputable def lcE (asg : TF) (cond : M Bool) (elt : M D) (envw : EN) (n : Nat) (gd : GdL) : List D → HP → R Unit
  | [], h => if Gd gd h then .ok () h else .stuck
  | d :: ds, h => if Gd gd h then (match asg d envw h with
      | some e => (cond e h).nx.bind fun b h1 => if b = true then (elt e h1).nx.bind fun y h2 => (appL n y h2).bind fun _ h3 => lcE asg cond elt envw n gd ds h3 else lcE asg cond elt envw n gd ds h1
      | none => .stuck)
    else .stuck
/-- no live thing from n on is in it -/
def rlt (n : Nat) : D → Bool
  | .non => true
  | .bl _ => true
  | .int _ => true
  | .str _ => true
  | .tup ds => rlts n ds
  | .lst ds => rlts n ds
  | .klst ds => rlts n ds
  | .dic ks => rltk n ks
  | .set _ => true
  | .ins _ fs => rltf n fs
  | .ref k => decide (k < n)
  | .xcp _ fs => rltf n fs
where
  rlts (n : Nat) : List D → Bool
  | [] => true
  | d :: ds => rlt n d && rlts n ds
  rltk (n : Nat) : List (Key × D) → Bool
  | [] => true
  | (_, d) :: ds => rlt n d && rltk n ds
  rltf (n : Nat) : List (Str × D) → Bool
  | [] => true
  | (_, d) :: ds => rlt n d && rltf n ds
/-- m1 knows less than m' -/
structure Dn (n : Nat) (m' m1 : AM) : Prop where
  mem : ∀ a, some a ∈ m1 → some a ∈ m'
  at_ : ∀ k a, k < n → m1[k]? = some (some a) → m'[k]? = some (some a)
  le : n ≤ m1.length
theorem FT.down {K : PySem.W.Frag} {n : Nat} {m' m1 : AM} {H : Hp} {a : Addr} {xs : List V} (x : Dn n m' m1) (h : FT K m' H a xs) : FT K m1 H a xs := by
  rcases h with ⟨h, k⟩ | h
  · exact .inl ⟨h, fun z => k (x.mem _ z)⟩
  · exact .inr h
theorem FL.down {K : PySem.W.Frag} {n : Nat} {m' m1 : AM} {H : Hp} {a : Addr} {xs : List V} (x : Dn n m' m1) (h : FL K m' H a xs) : FL K m1 H a xs := by
  rcases h with ⟨h, k⟩ | h
  · exact .inl ⟨h, fun z => k (x.mem _ z)⟩
  · exact .inr h
mutual
theorem rep.down {n : Nat} {m' m1 : AM} {H : Hp} (x : Dn n m' m1) : ∀ (d : D) (v : V), rlt n d = true → rep g m' H d v → rep g m1 H d v
  | .non, v, _, h => by simpa [rep] using h
  | .bl b, v, _, h => by simpa [rep] using h
  | .int i, v, _, h => by simpa [rep] using h
  | .str s, v, _, h => by simpa [rep] using h
  | .tup ds, v, q, h => by
    simp only [rep] at h ⊢
    simp only [rlt] at q
    obtain ⟨a, vs, e, f, r⟩ := h
    exact ⟨a, vs, e, f.down x, reps.down x ds vs q r⟩
  | .lst ds, v, q, h => by
    simp only [rep] at h ⊢
    simp only [rlt] at q
    obtain ⟨a, vs, e, f, k, r⟩ := h
    exact ⟨a, vs, e, f, fun z => k (x.mem _ z), reps.down x ds vs q r⟩
  | .klst ds, v, q, h => by
    simp only [rep] at h ⊢
    simp only [rlt] at q
    obtain ⟨a, vs, e, f, r⟩ := h
    exact ⟨a, vs, e, f.down x, reps.down x ds vs q r⟩
  | .dic ks, v, q, h => by
    simp only [rep] at h ⊢
    simp only [rlt] at q
    obtain ⟨a, vs, e, f, k, r⟩ := h
    exact ⟨a, vs, e, f, fun z => k (x.mem _ z), repk.down x ks vs q r⟩
  | .set ks, v, q, h => by
    simp only [rep] at h ⊢
    obtain ⟨a, n, e, f, k⟩ := h
    exact ⟨a, n, e, f, fun z => k (x.mem _ z)⟩
  | .ins c fs, v, q, h => by
    simp only [rep] at h ⊢
    simp only [rlt] at q
    obtain ⟨a, dx, vs, e, f, k, r⟩ := h
    exact ⟨a, dx, vs, e, f, fun z => k (x.mem _ z), repf.down x fs vs q r⟩
  | .ref k, v, q, h => by
    simp only [rep] at h ⊢
    simp only [rlt, decide_eq_true_eq] at q
    exact ⟨Nat.lt_of_lt_of_le q x.le, fun a e => h.2 a (x.at_ k a q e)⟩
  | .xcp c fs, v, q, h => by
    simp only [rep] at h ⊢
    simp only [rlt] at q
    obtain ⟨a, oe, e, f, k, hc, hd, r⟩ := h
    refine ⟨a, oe, e, f, fun z => k (x.mem _ z), hc, hd, ?_⟩
    rcases r with r | ⟨d, ws, e1, e2, n2, r⟩
    · exact .inl r
    · exact .inr ⟨d, ws, e1, e2, fun z => n2 (x.mem _ z), repf.down x fs ws q r⟩
theorem reps.down {n : Nat} {m' m1 : AM} {H : Hp} (x : Dn n m' m1) : ∀ (ds : List D) (vs : List V), rlt.rlts n ds = true → reps g m' H ds vs → reps g m1 H ds vs
  | [], vs, _, h => by simpa [reps] using h
  | d :: ds, vs, q, h => by
    simp only [reps] at h ⊢
    simp only [rlt.rlts, Bool.and_eq_true] at q
    obtain ⟨v, r, e, h1, h2⟩ := h
    exact ⟨v, r, e, rep.down x d v q.1 h1, reps.down x ds r q.2 h2⟩
theorem repk.down {n : Nat} {m' m1 : AM} {H : Hp} (x : Dn n m' m1) : ∀ (ds : List (Key × D)) (vs : List (Key × V)), rlt.rltk n ds = true → repk g m' H ds vs → repk g m1 H ds vs
  | [], vs, _, h => by simpa [repk] using h
  | (k, d) :: ds, vs, q, h => by
    simp only [repk] at h ⊢
    simp only [rlt.rltk, Bool.and_eq_true] at q
    obtain ⟨v, r, e, h1, h2⟩ := h
    exact ⟨v, r, e, rep.down x d v q.1 h1, repk.down x ds r q.2 h2⟩
theorem repf.down {n : Nat} {m' m1 : AM} {H : Hp} (x : Dn n m' m1) : ∀ (ds : List (Str × D)) (vs : List (Str × V)), rlt.rltf n ds = true → repf g m' H ds vs → repf g m1 H ds vs
  | [], vs, _, h => by simpa [repf] using h
  | (k, d) :: ds, vs, q, h => by
    simp only [repf] at h ⊢
    simp only [rlt.rltf, Bool.and_eq_true] at q
    obtain ⟨v, r, e, h1, h2⟩ := h
    exact ⟨v, r, e, rep.down x d v q.1 h1, repf.down x ds r q.2 h2⟩
end
mutual
theorem rep.rlt {m : AM} {H : Hp} : ∀ (d : D) (v : V), rep g m H d v → Ev.rlt m.length d = true
  | .non, v, h => rfl
  | .bl b, v, h => rfl
  | .int i, v, h => rfl
  | .str s, v, h => rfl
  | .tup ds, v, h => by simp only [rep] at h; obtain ⟨a, vs, e, f, r⟩ := h; simp only [Ev.rlt]; exact reps.rlt ds vs r
  | .lst ds, v, h => by simp only [rep] at h; obtain ⟨a, vs, e, f, k, r⟩ := h; simp only [Ev.rlt]; exact reps.rlt ds vs r
  | .klst ds, v, h => by simp only [rep] at h; obtain ⟨a, vs, e, f, r⟩ := h; simp only [Ev.rlt]; exact reps.rlt ds vs r
  | .dic ks, v, h => by simp only [rep] at h; obtain ⟨a, vs, e, f, k, r⟩ := h; simp only [Ev.rlt]; exact repk.rlt ks vs r
  | .set ks, v, h => rfl
  | .ins c fs, v, h => by simp only [rep] at h; obtain ⟨a, dx, vs, e, f, k, r⟩ := h; simp only [Ev.rlt]; exact repf.rlt fs vs r
  | .ref k, v, h => by simp only [rep] at h; simp only [Ev.rlt, decide_eq_true_eq]; exact h.1
  | .xcp c fs, v, h => by
    simp only [rep] at h
    obtain ⟨a, oe, e, f, k, hc, hd, r⟩ := h
    simp only [Ev.rlt]
    rcases r with ⟨_, r⟩ | ⟨d, ws, e1, e2, n2, r⟩
    · rw [r]; rfl
    · exact repf.rlt fs ws r
theorem reps.rlt {m : AM} {H : Hp} : ∀ (ds : List D) (vs : List V), reps g m H ds vs → Ev.rlt.rlts m.length ds = true
  | [], vs, h => rfl
  | d :: ds, vs, h => by
    simp only [reps] at h
    obtain ⟨v, r, e, h1, h2⟩ := h
    simp only [Ev.rlt.rlts, Bool.and_eq_true]
    exact ⟨rep.rlt d v h1, reps.rlt ds r h2⟩
theorem repk.rlt {m : AM} {H : Hp} : ∀ (ds : List (Key × D)) (vs : List (Key × V)), repk g m H ds vs → Ev.rlt.rltk m.length ds = true
  | [], vs, h => rfl
  | (k, d) :: ds, vs, h => by
    simp only [repk] at h
    obtain ⟨v, r, e, h1, h2⟩ := h
    simp only [Ev.rlt.rltk, Bool.and_eq_true]
    exact ⟨rep.rlt d v h1, repk.rlt ds r h2⟩
theorem repf.rlt {m : AM} {H : Hp} : ∀ (ds : List (Str × D)) (vs : List (Str × V)), repf g m H ds vs → Ev.rlt.rltf m.length ds = true
  | [], vs, h => rfl
  | (k, d) :: ds, vs, h => by
    simp only [repf] at h
    obtain ⟨v, r, e, h1, h2⟩ := h
    simp only [Ev.rlt.rltf, Bool.and_eq_true]
    exact ⟨rep.rlt d v h1, repf.rlt ds r h2⟩
end
def rltT (n : Nat) (ds : List (List Key × D)) : Bool := ds.all fun p => Ev.rlt n p.2
theorem repkT.down {n : Nat} {m' m1 : AM} {H : Hp} (x : Dn n m' m1) : ∀ (ds : List (List Key × D)) (vs : List (List Key × V)), rltT n ds = true → repkT g m' H ds vs → repkT g m1 H ds vs
  | [], vs, _, h => by simpa [repkT] using h
  | (k, d) :: ds, vs, q, h => by
    simp only [repkT] at h ⊢
    unfold rltT at q
    rw [List.all_cons, Bool.and_eq_true] at q
    obtain ⟨v, r, e, h1, h2⟩ := h
    exact ⟨v, r, e, rep.down x d v q.1 h1, repkT.down x ds r q.2 h2⟩
theorem repkT.rlt {m : AM} {H : Hp} : ∀ (ds : List (List Key × D)) (vs : List (List Key × V)), repkT g m H ds vs → rltT m.length ds = true
  | [], vs, h => rfl
  | (k, d) :: ds, vs, h => by
    simp only [repkT] at h
    obtain ⟨v, r, e, h1, h2⟩ := h
    unfold rltT
    rw [List.all_cons, Bool.and_eq_true]
    exact ⟨rep.rlt d v h1, repkT.rlt ds r h2⟩
theorem HL.lookup {m : AM} {H : Hp} {hp : HP} (hl : HL g m H hp) {n : Nat} {a : Addr} (e : m[n]? = some (some a)) : ∃ o, hp[n]? = some o ∧ liveO g m H a o := by
  have l : n < hp.length := by rw [← hl.len]; exact (List.getElem?_eq_some_iff.mp e).1
  refine ⟨_, List.getElem?_eq_getElem l, ?_⟩
  rcases hl.live n _ (List.getElem?_eq_getElem l) with ⟨_, z⟩ | ⟨b, eb, lv⟩
  · rw [e] at z; cases z
  · rw [e] at eb; cases eb; exact lv
/-- the objects of before are as they were (as data): the state is one of the old live map -/
theorem HL.back {m m' : AM} {H H' : Hp} {hp hp' : HP} (hl : HL g m H hp) (x : Ex m H m' H') (hl' : HL g m' H' hp') (e : hp'.take hp.length = hp) : Ex m H m H' ∧ HL g m H' hp ∧ Dn m.length m' m := by
  have same : ∀ k a, k < m.length → m[k]? = some (some a) → m'[k]? = some (some a) := fun k a lk ek => by
    obtain ⟨o, eo, lv⟩ := hl.lookup ek
    have e2 : hp'[k]? = some o := by
      have : (hp'.take hp.length)[k]? = some o := by rw [e]; exact eo
      rw [List.getElem?_take] at this
      split at this
      · exact this
      · cases this
    rcases hl'.live k o e2 with ⟨z, _⟩ | ⟨b, eb, _⟩
    · subst z; exact lv.elim
    · rw [x.mp k b eb lk] at ek
      cases ek
      exact eb
  have dn : Dn m.length m' m := ⟨fun a z => by
      obtain ⟨k, lk, ek⟩ := List.getElem_of_mem z
      exact List.mem_of_getElem? (same k a lk (by rw [List.getElem?_eq_getElem lk, ek])), same, Nat.le_refl _⟩
  refine ⟨⟨Nat.le_refl _, fun _ _ h _ => h, fun a o h k => ⟨(x.fz a o h k).1, k⟩⟩, ⟨hl.len, hl.nd, fun i o h => ?_⟩, dn⟩
  rcases hl.live i o h with z | ⟨b, eb, lv⟩
  · exact .inl z
  · refine .inr ⟨b, eb, ?_⟩
    have li : i < m.length := (List.getElem?_eq_some_iff.mp eb).1
    have e2 : hp'[i]? = some o := by
      have : (hp'.take hp.length)[i]? = some o := by rw [e]; exact h
      rw [List.getElem?_take] at this
      split at this
      · exact this
      · cases this
    rcases hl'.live i o e2 with ⟨z, _⟩ | ⟨b', eb', lv'⟩
    · subst z; exact lv.elim
    · have := same i b li eb
      rw [eb'] at this
      cases this
      cases o with
      | lst ds =>
        obtain ⟨vs, _, r0⟩ := lv
        obtain ⟨us, h1, r⟩ := lv'
        exact ⟨us, h1, reps.down dn _ _ (reps.rlt _ _ r0) r⟩
      | dic ds =>
        obtain ⟨vs, _, r0⟩ := lv
        obtain ⟨us, h1, r⟩ := lv'
        exact ⟨us, h1, repk.down dn _ _ (repk.rlt _ _ r0) r⟩
      | dicT ds =>
        obtain ⟨vs, _, r0⟩ := lv
        obtain ⟨us, h1, r⟩ := lv'
        exact ⟨us, h1, repkT.down dn _ _ (repkT.rlt _ _ r0) r⟩
      | dX => exact lv'
      | ins c fs =>
        obtain ⟨_, vs, _, r0⟩ := lv
        obtain ⟨dx, us, h1, r⟩ := lv'
        exact ⟨dx, us, h1, repf.down dn _ _ (repf.rlt _ _ r0) r⟩
      | dead => exact lv.elim
/-- a value frozen: what is younger than n becomes a value of its own -/
def fz (n : Nat) (h : HP) (d : D) : Option D := if rlt n d = true then some d else match d with
  | .ref k => match h[k]? with
    | some (.lst ds) => if rlt.rlts n ds = true then some (.lst ds) else none
    | some (.dic ks) => if rlt.rltk n ks = true then some (.dic ks) else none
    | some (.ins c fs) => if rlt.rltf n fs = true then some (.ins c fs) else none
    | _ => none
  | _ => none
theorem fz_ok {m m' : AM} {H' : Hp} {hp' : HP} {d d' : D} {v : V} (hl' : HL g m' H' hp') (dn : Dn m.length m' m) (lm : m.length ≤ m'.length) (r : rep g m' H' d v) (e : fz m.length hp' d = some d') : rep g m H' d' v := by
  unfold fz at e
  split at e
  · rename_i c
    cases e
    exact rep.down dn _ _ c r
  · rename_i c
    split at e
    · rename_i k
      simp only [rlt, decide_eq_true_eq] at c
      simp only [rep] at r
      have nm : ∀ a, m'[k]? = some (some a) → some a ∉ m := fun a ea z => by
        obtain ⟨j, lj, ej⟩ := List.getElem_of_mem z
        have := dn.at_ j a lj (by rw [List.getElem?_eq_getElem lj, ej])
        have := hl'.nd j k a this ea
        omega
      split at e
      · rename_i ds q
        split at e
        · rename_i c2
          cases e
          obtain ⟨a, ea, vs, ha, rs⟩ := hl'.at q (by simp)
          simp only [rep]
          exact ⟨a, vs, r.2 a ea, ha, nm a ea, reps.down dn _ _ c2 rs⟩
        · cases e
      · rename_i ds q
        split at e
        · rename_i c2
          cases e
          obtain ⟨a, ea, vs, ha, rs⟩ := hl'.at q (by simp)
          simp only [rep]
          exact ⟨a, vs, r.2 a ea, ha, nm a ea, repk.down dn _ _ c2 rs⟩
        · cases e
      · rename_i c0 ds q
        split at e
        · rename_i c2
          cases e
          obtain ⟨a, ea, dx, vs, ha, rs⟩ := hl'.at q (by simp)
          simp only [rep]
          exact ⟨a, dx, vs, r.2 a ea, ha, nm a ea, repf.down dn _ _ c2 rs⟩
        · cases e
      · cases e
    · cases e
open Classical in
noncomputable def pure_ (h0 : HP) (d : D) (h : HP) : R D := if h.take h0.length = h0 then (match fz h0.length h d with
    | some d' => .ok d' h0
    | none => .stuck) else .stuck
theorem PO.pure_ {m m' : AM} {H H' : Hp} {hp hp' : HP} {d : D} {v : V} {Q : V → Hp → Prop} (hl : HL g m H hp) (x : Ex m H m' H') (hl' : HL g m' H' hp') (r : rep g m' H' d v) (h : PO g m H E (rep g) Q (Ev.pure_ hp d hp')) : Q v H' := by
  unfold Ev.pure_ at h
  split at h
  · rename_i c
    split at h
    · rename_i d' e
      obtain ⟨x2, hl2, dn⟩ := hl.back x hl' c
      rw [← hl.len] at e
      exact h m H' v x2 hl2 (fz_ok hl' dn x.le r e)
    · exact h.elim
  · exact h.elim
end
end Ev
namespace Ev
open PySem PySem.Spec PyProof.Rows L2
section
variable {g : G} {X : Cx} {E : XK}
theorem wipe_get (σ : L2.St) (j : Nat) : ∀ vs : List Nat, (wipe σ vs)[j]? = if j ∈ vs then (if j < σ.length then some none else none) else σ[j]?
  | [] => by simp [wipe]
  | v :: vs => by
    unfold wipe
    have ih := wipe_get σ j vs
    by_cases e : v = j
    · subst e
      rw [List.getElem?_set_self', ih]
      simp only [List.mem_cons, true_or, if_true]
      by_cases h : v < σ.length
      · by_cases hv : v ∈ vs
        · simp [hv, h]
        · simp [hv, h, List.getElem?_eq_getElem h]
      · have : σ[v]? = none := List.getElem?_eq_none (by omega)
        by_cases hv : v ∈ vs
        · simp [hv, h]
        · simp [hv, h, this]
    · rw [List.getElem?_set_ne e, ih]
      have : j ≠ v := fun z => e z.symm
      simp [List.mem_cons, this]
theorem wipe_turned {is vs : List Nat} {a b : L2.St} (t : Turned is a b) (h : ∀ i ∈ is, i ∈ vs) : wipe b vs = wipe a vs := by
  refine List.ext_getElem? fun j => ?_
  rw [wipe_get, wipe_get, t.1]
  split
  · rfl
  · rename_i hj
    exact t.2 j fun z => hj (h j z)
theorem wipe_wipe (σ : L2.St) (vs : List Nat) : wipe (wipe σ vs) vs = wipe σ vs := by
  refine List.ext_getElem? fun j => ?_
  rw [wipe_get, wipe_get, wipe_length]
  split
  · rfl
  · rfl
@[simp] def wipeE (env : EN) : List Nat → EN
  | [] => env
  | v :: vs => (wipeE env vs).set v none
theorem ER.unset {m : AM} {H : Hp} {σ : L2.St} {env : EN} {i : Nat} (er : ER g m H σ env) : ER g m H (σ.set i none) (env.set i none) := by
  refine ⟨by simp [er.len], fun j e h => ?_⟩
  by_cases hj : i = j
  · subst hj
    rw [List.getElem?_set_self'] at h
    cases q : env[i]? with
    | none => rw [q] at h; cases h
    | some z => rw [q] at h; cases h
  · rw [List.getElem?_set_ne hj] at h
    obtain ⟨w, e1, r1⟩ := er.at_ j e h
    exact ⟨w, by rw [List.getElem?_set_ne hj]; exact e1, r1⟩
theorem ER.wipe {m : AM} {H : Hp} {σ : L2.St} {env : EN} (er : ER g m H σ env) : ∀ vs, ER g m H (L2.wipe σ vs) (wipeE env vs)
  | [] => er
  | v :: vs => (ER.wipe er vs).unset
noncomputable def outL (live : Bool) (h0 : HP) (h : HP) : R D := if live = true then .ok (.ref h0.length) h else pure_ h0 (.ref h0.length) h
noncomputable def mLc (live : Bool) (it : IM) (own : List Nat) (asg : TF) (cond : M Bool) (elt : M D) : M D := fun env hp => (it env hp).bind fun p h =>
  (lcE asg cond elt (wipeE env own) h.length p.2 p.1 (h ++ [.lst []])).bind fun _ h' => outL live h h'
theorem PO.mono {α β : Type} {rp : AM → Hp → α → β → Prop} {m m1 : AM} {H H1 : Hp} {Q : β → Hp → Prop} {r : R α} (x : Ex m H m1 H1) (h : PO g m H E rp Q r) : PO g m1 H1 E rp Q r := by
  cases r with
  | ok d h2 => exact fun m2 H2 w x3 hl3 r3 => h m2 H2 w (x.trans x3) hl3 r3
  | exc c fs h2 => exact fun m2 H2 d2 x3 hl3 e2 => h m2 H2 d2 (x.trans x3) hl3 e2
  | stuck => exact h
theorem PO.bindB {α β γ δ : Type} {m0 m : AM} {H0 H : Hp} {rp : AM → Hp → α → β → Prop} {rq : AM → Hp → γ → δ → Prop} {Q : β → Hp → Prop} {Q' : δ → Hp → Prop} {r : R α} {f : α → HP → R γ}
    (h : PO g m0 H0 E rq Q' (r.bind f)) (x0 : Ex m0 H0 m H) (k : ∀ d hp' m' H' v, Ex m H m' H' → HL g m' H' hp' → rp m' H' d v → PO g m0 H0 E rq Q' (f d hp') → Q v H') : PO g m H E rp Q r := by
  cases r with
  | ok d hp' => exact fun m' H' v x hl rv => k d hp' m' H' v x hl rv h
  | exc c fs hp' => exact fun m2 H2 d2 x3 hl3 e2 => h m2 H2 d2 (x0.trans x3) hl3 e2
  | stuck => exact h
/-- the reading of a comprehension follows from the evaluation -/
theorem lc_sem {wi : TI} {gt : TG} {tt : TT} {te : TE} {fi : IM} {own is : List Nat} {asg : TF} {cond : M Bool} {elt : M D} (live : Bool)
    (hi : ∀ σ H Rr m env hp, HL g m H hp → ER g m H σ env → IPO g m H E Rr (fi env hp) → wi σ H Rr)
    (hg : ∀ v σ H Q m env hp d, HL g m H hp → ER g m H σ env → rep g m H d v → (∃ env', asg d env hp = some env' ∧ ∀ σ', Turned is σ σ' → ER g m H σ' env' → Q σ' H) → gt v σ H Q)
    (ht : ∀ σ H Q m env hp, HL g m H hp → ER g m H σ env → PO g m H E0 rB Q (cond env hp) → tt σ H Q)
    (he : ∀ σ H Q m env hp, HL g m H hp → ER g m H σ env → PO g m H E0 (rep g) Q (elt env hp) → te σ H Q)
    (hsub : ∀ i ∈ is, i ∈ own)
    {σ : L2.St} {H : Hp} {Q : VK} {m : AM} {env : EN} {hp : HP} (hl : HL g m H hp) (er : ER g m H σ env) (h : PO g m H E (rep g) Q (mLc live fi own asg cond elt env hp)) : tLc wi gt tt te own σ H Q := by
  unfold mLc at h
  refine hi σ H _ m env hp hl er ?_
  revert h
  cases fi env hp with
  | exc c fs h1 => exact fun h => h
  | stuck => exact fun h => h
  | ok p h1 =>
    obtain ⟨items, gd⟩ := p
    intro h m1 H1 J x1 hl1 fo D hD
    have h : PO g m H E (rep g) Q ((lcE asg cond elt (wipeE env own) h1.length gd items (h1 ++ [.lst []])).bind fun _ h' => outL live h1 h') := h
    obtain ⟨x2, hl2⟩ := hl1.push (o := .lst []) (ob := .lst []) hD (by simp) fun x => ⟨[], upd_same, by simp [reps]⟩
    have er1 := (er.ext x1).wipe own
    have eD : ∀ {m' : AM} {H' : Hp} {b : Addr}, Ex (m1 ++ [some D]) (upd H1 D (.lst [])) m' H' → m'[h1.length]? = some (some b) → b = D := fun {m' H' b} x e => by
      have := x.mp h1.length b e (by simp [hl1.len])
      rw [← hl1.len, List.getElem?_append_right (Nat.le_refl _)] at this
      simp at this
      exact this.symm
    refine ⟨fun i k H' => k = items.length - i ∧ i ≤ items.length ∧ ∃ m' hp', Ex (m1 ++ [some D]) (upd H1 D (.lst [])) m' H' ∧ HL g m' H' hp' ∧
        PO g m1 H1 E (rep g) Q ((lcE asg cond elt (wipeE env own) h1.length gd (items.drop i) hp').bind fun _ h' => outL live h1 h'),
      ⟨items.length, rfl, Nat.zero_le _, m1 ++ [some D], h1 ++ [.lst []], .refl _ _, hl2, by rw [List.drop_zero]; exact PO.mono x1 h⟩, ?_⟩
    rintro i k H' ⟨rfl, hi', m', hp', x', hl', po⟩
    have xm1 : Ex m1 H1 m' H' := x2.trans x'
    by_cases hlt : i < items.length
    · have ed : items.drop i = items[i] :: items.drop (i + 1) := List.drop_eq_getElem_cons hlt
      rw [ed] at po
      unfold lcE at po
      by_cases hgd : Gd gd hp'
      · rw [if_pos hgd] at po
        refine .inr ⟨fo.go i m' H' hp' hlt xm1 hl' hgd, fun H'' => ∃ k', k' < items.length - i ∧ (k' = items.length - (i + 1) ∧ i + 1 ≤ items.length ∧ ∃ m' hp', Ex (m1 ++ [some D]) (upd H1 D (.lst [])) m' H'' ∧ HL g m' H'' hp' ∧
          PO g m1 H1 E (rep g) Q ((lcE asg cond elt (wipeE env own) h1.length gd (items.drop (i + 1)) hp').bind fun _ h' => outL live h1 h')), fun H'' z => z, fun x H'' y => ?_⟩
        obtain ⟨d, ed', xe, hl3, rd⟩ := fo.yld i m' H' hp' x H'' hlt xm1 hl' hgd y
        rw [List.getElem?_eq_getElem hlt] at ed'
        cases ed'
        split at po
        · rename_i env' easg
          have erw : ER g m' H'' (L2.wipe σ own) (wipeE env own) := er1.ext (xm1.trans xe)
          refine hg x (L2.wipe σ own) H'' _ m' (wipeE env own) hp' _ hl3 erw rd ⟨env', easg, fun σ' tn er' => ?_⟩
          refine ⟨by rw [wipe_turned tn hsub, wipe_wipe], ?_⟩
          rw [R.bind_assoc] at po
          refine ht σ' H'' _ m' env' hp' hl3 er' (PO.nx (E := E) (PO.bindB po (xm1.trans xe) fun b h4 m4 H4 v4 x4 hl4 r4 po => ?_))
          cases (show b = v4 from r4)
          cases b with
          | true =>
            rw [if_pos rfl] at po ⊢
            rw [R.bind_assoc] at po
            refine he σ' H4 _ m4 env' h4 hl4 (er'.ext x4) (PO.nx (E := E) (PO.bindB po ((xm1.trans xe).trans x4) fun y' h5 m5 H5 v5 x5 hl5 r5 po => ?_))
            rw [R.bind_assoc] at po
            unfold appL at po
            split at po
            · rename_i acc eacc
              split at po
              · rename_i hz
                obtain ⟨b, eb, vs, hb, rs⟩ := hl5.at eacc (by simp)
                have x5' := ((x'.trans xe).trans (x4.trans x5))
                obtain rfl := eD x5' eb
                refine ⟨vs, hb, by rw [← reps.length rs]; exact hz, ?_⟩
                obtain ⟨x6, hl6⟩ := hl5.write (u := .lst (vs ++ [v5])) (ob' := .lst (acc ++ [y'])) eb eacc (by simp) fun x6 => ⟨vs ++ [v5], upd_same, reps.ext x6 _ _ (reps.append rs (by simp only [reps]; exact ⟨v5, [], rfl, r5, rfl⟩))⟩
                exact ⟨items.length - (i + 1), by omega, rfl, hlt, m5, _, x5'.trans x6, hl6, po⟩
              · exact po.elim
            · exact po.elim
          | false =>
            rw [if_neg Bool.false_ne_true] at po ⊢
            exact ⟨items.length - (i + 1), by omega, rfl, hlt, m4, h4, (x'.trans xe).trans x4, hl4, po⟩
        · exact po.elim
      · rw [if_neg hgd] at po
        exact po.elim
    · have e : i = items.length := by omega
      subst e
      rw [List.drop_length] at po
      unfold lcE at po
      by_cases hgd : Gd gd hp'
      · rw [if_pos hgd] at po
        refine .inl ⟨fo.stop m' H' hp' xm1 hl' hgd, ?_⟩
        have po : PO g m1 H1 E (rep g) Q (outL live h1 hp') := po
        have rr : rep g m' H' (.ref h1.length) (.ref D) := by
          simp only [rep]
          refine ⟨Nat.lt_of_lt_of_le (by simp [hl1.len]) x'.le, fun a ea => ?_⟩
          rw [eD x' ea]
        unfold outL at po
        cases live with
        | true =>
          rw [if_pos rfl] at po
          exact po m' H' _ xm1 hl' rr
        | false =>
          rw [if_neg Bool.false_ne_true] at po
          exact PO.pure_ hl1 xm1 hl' rr po
      · rw [if_neg hgd] at po
        exact po.elim
end
end Ev
namespace Ev
open PySem PySem.Spec PyProof.Rows L2
section
variable {g : G} {X : Cx} {E : XK}
/-- contexts of a comprehension's block -/
abbrev Blk (X : Cx) (scope : Scope) (s : Shared) (H : Hp) (C : Addr) (cl : List (Str × Addr)) (fp : List Addr) : Cx := X.blk s H scope (compEnvC scope cl C X.env) fp
/-- the parts of a comprehension -/
structure LCV (g : G) (X : Cx) (E : XK) (elt tg it : Expr) (ifs : List Expr) (scope : Scope) (own : List (Str × Nat)) (f : Bool → M D) : Prop where
  ok : BlkOk X.N X.env.scope scope own
  ex : ∃ wi gt tt te, PI X tg it wi ∧ (∀ s H C cl fp, PG (Blk X scope s H C cl fp) tg gt) ∧ (∀ s H C cl fp, PTs (Blk X scope s H C cl fp) ifs tt) ∧ (∀ s H C cl fp, PE (Blk X scope s H C cl fp) elt te) ∧
    ∀ live σ H Q m env hp, HL g m H hp → ER g m H σ env → PO g m H E (rep g) Q (f live env hp) → tLc wi gt tt te (own.map (·.2)) σ H Q
structure CV1 (g : G) (X : Cx) (ifs : List Expr) (f : M Bool) : Prop where
  ex : ∃ t, PTs X ifs t ∧ ∀ σ H Q m env hp, HL g m H hp → ER g m H σ env → PO g m H E0 rB Q (f env hp) → t σ H Q
@[simp] def cYes (_ : EN) (h : HP) : R Bool := .ok true h
theorem CV1.nil : CV1 g X [] cYes := ⟨_, pts_nil, fun σ H Q m env hp hl er h => h m H true (.refl _ _) hl rfl⟩
theorem CV1.one {c : Expr} {f : M Bool} (h : TV g X E0 c f) : CV1 g X [c] f := by
  obtain ⟨t, p, q⟩ := h
  exact ⟨_, pts_one p, q⟩
theorem PE.weak {e : Expr} {t t' : TE} (h : PE X e t) (w : ∀ σ H Q, t' σ H Q → t σ H Q) : PE X e t' := ⟨fun pins s σ H Q I q => h.run pins s σ H Q I (w σ H Q q)⟩
theorem PG.weak {e : Expr} {t t' : TG} (h : PG X e t) (w : ∀ v σ H Q, t' v σ H Q → t v σ H Q) : PG X e t' := ⟨fun pins s σ H v u Q I r q => h.run pins s σ H v u Q I r (w v σ H Q q)⟩
theorem PTs.weak {e : List Expr} {t t' : TT} (h : PTs X e t) (w : ∀ σ H Q, t' σ H Q → t σ H Q) : PTs X e t' := ⟨fun pins s σ H Q I q => h.run pins s σ H Q I (w σ H Q q)⟩
theorem LCV.mk' {elt tg it : Expr} {ifs : List Expr} {scope : Scope} {own : List (Str × Nat)} {is : List Nat} {fi : IM} {asg : TF} {cond : M Bool} {fe : M D}
    (ok : blkC X.N X.env.scope scope own = true) (hi : IV g X E tg it fi) (hg : ∀ s H C cl fp, GV g (Blk X scope s H C cl fp) tg is asg) (ht : ∀ s H C cl fp, CV1 g (Blk X scope s H C cl fp) ifs cond)
    (he : ∀ s H C cl fp, EV g (Blk X scope s H C cl fp) E0 elt fe) (hs : ∀ i ∈ is, i ∈ own.map (·.2)) : LCV g X E elt tg it ifs scope own (fun live => mLc live fi (own.map (·.2)) asg cond fe) := by
  obtain ⟨wi, pi, qi⟩ := hi
  refine ⟨blkOk_by ok, wi, fun v σ H Q => ∀ s H' C cl fp, Classical.choose (hg s H' C cl fp).ex v σ H Q, fun σ H Q => ∀ s H' C cl fp, Classical.choose (ht s H' C cl fp).ex σ H Q,
    fun σ H Q => ∀ s H' C cl fp, Classical.choose (he s H' C cl fp).ex σ H Q, pi, fun s H C cl fp => ?_, fun s H C cl fp => ?_, fun s H C cl fp => ?_, fun live σ H Q m env hp hl er h => ?_⟩
  · exact PG.weak (Classical.choose_spec (hg s H C cl fp).ex).1 fun v σ H' Q q => q s H C cl fp
  · exact PTs.weak (Classical.choose_spec (ht s H C cl fp).ex).1 fun σ H' Q q => q s H C cl fp
  · exact PE.weak (Classical.choose_spec (he s H C cl fp).ex).1 fun σ H' Q q => q s H C cl fp
  · refine lc_sem live qi (fun v σ H Q m env hp d hl er r h s H' C cl fp => ?_) (fun σ H Q m env hp hl er h s H' C cl fp => ?_) (fun σ H Q m env hp hl er h s H' C cl fp => ?_) hs hl er h
    · exact (Classical.choose_spec (hg s H' C cl fp).ex).2 v σ H Q m env hp d hl er r h
    · exact (Classical.choose_spec (ht s H' C cl fp).ex).2 σ H Q m env hp hl er h
    · exact (Classical.choose_spec (he s H' C cl fp).ex).2 σ H Q m env hp hl er h
theorem EV.lc {elt tg it : Expr} {ifs : List Expr} {scope : Scope} {own : List (Str × Nat)} {pos : Pos} {f : Bool → M D} (live : Bool) (hc : X.calm = true) (hN : X.N.Nodup) (h : LCV g X E elt tg it ifs scope own f) (hs : ∀ x, foldedSetIterable it X.env x = pure x) :
    EV g X E (.ListComp elt [⟨tg, it, ifs, 0⟩] scope pos) (f live) := by
  obtain ⟨ok, wi, gt, tt, te, p1, p2, p3, p4, q⟩ := h
  exact ⟨_, pe_lc hc hN p1 ok p2 p3 p4 hs, fun σ H Q m env hp hl er h => q live σ H Q m env hp hl er h⟩
inductive SR where
  | nx (e : EN) (h : HP)
  | rt (d : D) (h : HP)
  | bk (e : EN) (h : HP)
  | ct (e : EN) (h : HP)
  | exc (c : Nat) (fs : List (Str × D)) (h : HP)
  | stuck
abbrev SM := EN → HP → SR
def SPO (g : G) (m : AM) (H : Hp) (E : XK) (K : Ends) : SR → Prop
  | .nx e hp' => ∀ m' H' σ', Ex m H m' H' → HL g m' H' hp' → ER g m' H' σ' e → K.nx σ' H'
  | .rt d hp' => ∀ m' H' v, Ex m H m' H' → HL g m' H' hp' → rep g m' H' d v → K.rt v H'
  | .bk e hp' => ∀ m' H' σ', Ex m H m' H' → HL g m' H' hp' → ER g m' H' σ' e → K.bk σ' H'
  | .ct e hp' => ∀ m' H' σ', Ex m H m' H' → HL g m' H' hp' → ER g m' H' σ' e → K.ct σ' H'
  | .exc c fs hp' => ∀ m' H' d, Ex m H m' H' → HL g m' H' hp' → XD g m' H' fs d → E (.ref (g.xA c)) d H'
  | .stuck => False
theorem SPO.mono {m m1 : AM} {H H1 : Hp} {K : Ends} {r : SR} (x : Ex m H m1 H1) (h : SPO g m H E K r) : SPO g m1 H1 E K r := by
  cases r with
  | nx e h2 => exact fun m2 H2 w x3 hl3 r3 => h m2 H2 w (x.trans x3) hl3 r3
  | rt e h2 => exact fun m2 H2 w x3 hl3 r3 => h m2 H2 w (x.trans x3) hl3 r3
  | bk e h2 => exact fun m2 H2 w x3 hl3 r3 => h m2 H2 w (x.trans x3) hl3 r3
  | ct e h2 => exact fun m2 H2 w x3 hl3 r3 => h m2 H2 w (x.trans x3) hl3 r3
  | exc c fs h2 => exact fun m2 H2 d2 x3 hl3 e2 => h m2 H2 d2 (x.trans x3) hl3 e2
  | stuck => exact h
@[simp] def R.sbind {α : Type} : R α → (α → HP → SR) → SR
  | .ok a h, f => f a h
  | .exc c fs h, _ => .exc c fs h
  | .stuck, _ => .stuck
theorem SPO.bind {α β : Type} {m : AM} {H : Hp} {rp : AM → Hp → α → β → Prop} {K : Ends} {Q : β → Hp → Prop} {r : R α} {f : α → HP → SR}
    (h : SPO g m H E K (r.sbind f)) (k : ∀ d hp' m' H' v, Ex m H m' H' → HL g m' H' hp' → rp m' H' d v → SPO g m' H' E K (f d hp') → Q v H') : PO g m H E rp Q r := by
  cases r with
  | ok d hp' => exact fun m' H' v x hl rv => k d hp' m' H' v x hl rv (SPO.mono x h)
  | exc c fs hp' => exact h
  | stuck => exact h
structure SV (g : G) (X : Cx) (E : XK) (st : Stmt) (f : SM) : Prop where
  ex : ∃ t, PS X st t ∧ ∀ K σ H m env hp, HL g m H hp → ER g m H σ env → SPO g m H E K (f env hp) → t K σ H
structure SVs (g : G) (X : Cx) (E : XK) (st : List Stmt) (f : SM) : Prop where
  ex : ∃ t, PSs X st t ∧ ∀ K σ H m env hp, HL g m H hp → ER g m H σ env → SPO g m H E K (f env hp) → t K σ H
@[simp] def sNil (env : EN) (hp : HP) : SR := .nx env hp
@[simp] def SR.andThen : SR → SM → SR
  | .nx e h, fs => fs e h
  | .rt d h, _ => .rt d h
  | .bk e h, _ => .bk e h
  | .ct e h, _ => .ct e h
  | .exc c fs h, _ => .exc c fs h
  | .stuck, _ => .stuck
@[simp] def sSeq (f fs : SM) (env : EN) (hp : HP) : SR := (f env hp).andThen fs
theorem SVs.nil : SVs g X E [] sNil := ⟨_, pss_nil, fun K σ H m env hp hl er h => h m H σ (.refl _ _) hl er⟩
theorem SVs.cons {st : Stmt} {rest : List Stmt} {f fs : SM} (h1 : SV g X E st f) (h2 : SVs g X E rest fs) : SVs g X E (st :: rest) (sSeq f fs) := by
  obtain ⟨t, p, q⟩ := h1
  obtain ⟨u, p2, q2⟩ := h2
  refine ⟨_, pss_cons p p2, fun K σ H m env hp hl er h => ?_⟩
  refine q { K with nx := u K } σ H m env hp hl er ?_
  unfold sSeq at h
  revert h
  cases f env hp with
  | nx e h1 => exact fun h m' H' σ' x hl' er' => q2 K σ' H' m' e h1 hl' er' (SPO.mono x h)
  | rt e h2 => exact fun h => h
  | bk e h2 => exact fun h => h
  | ct e h2 => exact fun h => h
  | exc c fs h2 => exact fun h => h
  | stuck => exact fun h => h
theorem SVs.one {st : Stmt} {f : SM} (h1 : SV g X E st f) : SVs g X E [st] f := by
  obtain ⟨t, p, q⟩ := h1
  exact ⟨_, pss_one p, q⟩
/-- code that is never come to -/
@[simp] def sNever (_ : EN) (_ : HP) : SR := .stuck
theorem SV.never {st : Stmt} : SV g X E st sNever := ⟨_, ps_never, fun K σ H m env hp hl er h => h.elim⟩
theorem SVs.never {st : List Stmt} : SVs g X E st sNever := ⟨_, pss_never, fun K σ H m env hp hl er h => h.elim⟩
@[simp] def kRet (d : D) (h : HP) : SR := .rt d h
@[simp] def sRet (a : M D) (env : EN) (hp : HP) : SR := (a env hp).sbind kRet
theorem SV.ret {e : Expr} {pos : Pos} {f : M D} (h : EV g X E e f) : SV g X E (.Return (some e) pos) (sRet f) := by
  obtain ⟨t, p, q⟩ := h
  refine ⟨_, ps_ret p, fun K σ H m env hp hl er h => ?_⟩
  exact q σ H _ m env hp hl er (SPO.bind h fun x h1 m1 H1 v x1 hl1 r1 h => h m1 H1 v (.refl _ _) hl1 r1)
@[simp] def sRetN (_ : EN) (hp : HP) : SR := .rt .non hp
theorem SV.pass {pos : Pos} : SV g X E (.Pass pos) sNil := ⟨_, ps_pass, fun K σ H m env hp hl er h => h m H σ (.refl _ _) hl er⟩
@[simp] def sBrk (env : EN) (hp : HP) : SR := .bk env hp
@[simp] def sCnt (env : EN) (hp : HP) : SR := .ct env hp
@[simp] def kExp (env : EN) (_ : D) (h : HP) : SR := .nx env h
@[simp] def sExp (a : M D) (env : EN) (hp : HP) : SR := (a env hp).sbind (kExp env)
theorem SV.exp {e : Expr} {pos : Pos} {f : M D} (h : EV g X E e f) (hs : swapsWith e none pos.line X.env = pure false) : SV g X E (.Expr e pos) (sExp f) := by
  obtain ⟨t, p, q⟩ := h
  refine ⟨_, ps_expr p hs, fun K σ H m env hp hl er h => ?_⟩
  exact q σ H _ m env hp hl er (SPO.bind h fun x h1 m1 H1 v x1 hl1 r1 h => h m1 H1 σ (.refl _ _) hl1 (er.ext x1))
@[simp] def kSIf (a b : SM) (env : EN) (k : Bool) (h : HP) : SR := if k = true then a env h else b env h
@[simp] def sIf (c : M Bool) (a b : SM) (env : EN) (hp : HP) : SR := (c env hp).sbind (kSIf a b env)
theorem SV.if_ {c : Expr} {a b : List Stmt} {pos : Pos} {fc : M Bool} {fa fb : SM} (hc : TV g X E c fc) (ha : SVs g X E a fa) (hb : SVs g X E b fb) : SV g X E (.If c a b pos) (sIf fc fa fb) := by
  obtain ⟨tc, pc, qc⟩ := hc
  obtain ⟨ta, pa, qa⟩ := ha
  obtain ⟨tb, pb, qb⟩ := hb
  refine ⟨_, ps_if pc pa pb, fun K σ H m env hp hl er h => ?_⟩
  refine qc σ H _ m env hp hl er (SPO.bind h fun x h1 m1 H1 v x1 hl1 r1 h => ?_)
  cases (show x = v from r1)
  unfold kSIf at h
  cases x with
  | true =>
    rw [if_pos rfl] at h ⊢
    exact qa K σ H1 m1 env h1 hl1 (er.ext x1) h
  | false =>
    rw [if_neg Bool.false_ne_true] at h ⊢
    exact qb K σ H1 m1 env h1 hl1 (er.ext x1) h
/-- target = value -/
@[simp] def asgO : Option EN → HP → SR
  | some e, h => .nx e h
  | none, _ => .stuck
@[simp] def kAsg (t : TF) (env : EN) (d : D) (h : HP) : SR := asgO (t d env h) h
@[simp] def sAsg (a : M D) (t : TF) (env : EN) (hp : HP) : SR := (a env hp).sbind (kAsg t env)
theorem asg_sem {te : TE} {gt : TG} {f : M D} {is : List Nat} {tf : TF} (q : ∀ σ H Q m env hp, HL g m H hp → ER g m H σ env → PO g m H E (rep g) Q (f env hp) → te σ H Q)
    (qg : ∀ v σ H Q m env hp d, HL g m H hp → ER g m H σ env → rep g m H d v → (∃ env', tf d env hp = some env' ∧ ∀ σ', Turned is σ σ' → ER g m H σ' env' → Q σ' H) → gt v σ H Q)
    {K : Ends} {σ : L2.St} {H : Hp} {m : AM} {env : EN} {hp : HP} (hl : HL g m H hp) (er : ER g m H σ env) (h : SPO g m H E K (sAsg f tf env hp)) : tAsg te gt K σ H := by
  refine q σ H _ m env hp hl er (SPO.bind h fun x h1 m1 H1 v x1 hl1 r1 h => ?_)
  unfold kAsg asgO at h
  split at h
  · rename_i e _ ee
    exact qg v σ H1 _ m1 env _ x hl1 (er.ext x1) r1 ⟨_, ee, fun σ' t er' => h m1 H1 σ' (.refl _ _) hl1 er'⟩
  · exact h.elim
theorem SV.set {i : Nat} {x : Str} {e : Expr} {pos pos' : Pos} {f : M D} (h : EV g X E e f) (hN : X.N.Nodup) (hi : X.N[i]? = some x) (hx : Loc X.env.scope x) (hs : swapsWith e (some (.Name x pos')) pos.line X.env = pure false) (hf : X.fn x = true ∨ X.env.scope.names.lookup x = some .local) :
    SV g X E (.Assign [.Name x pos'] e pos) (sAsg f (gNm i)) := by
  obtain ⟨t, p, q⟩ := h
  obtain ⟨gt, pg, qg⟩ := (GV.name (g := g) (pos := pos') hN hi hx hf).ex
  refine ⟨_, ps_set hN hi hx p hs hf, fun K σ H m env hp hl er h => ?_⟩
  refine q σ H _ m env hp hl er (SPO.bind h fun x h1 m1 H1 v x1 hl1 r1 h => ?_)
  exact h m1 H1 _ (.refl _ _) hl1 ((er.ext x1).set r1)
theorem SV.asg {tg e : Expr} {pos : Pos} {f : M D} {is : List Nat} {tf : TF} (h : EV g X E e f) (hg : GV g X tg is tf) (hs : swapsWithSole [tg] e pos.line X.env = pure false) (hw : swappedStores [tg] e X.env = pure none)
    (h1 : (assignEach [tg] X.env).map (·.2) = [assign tg X.env]) : SV g X E (.Assign [tg] e pos) (sAsg f tf) := by
  obtain ⟨t, p, q⟩ := h
  obtain ⟨gt, pg, qg⟩ := hg
  exact ⟨_, ps_asg p pg hs hw h1, fun K σ H m env hp hl er h => asg_sem q qg hl er h⟩
/-- name = [..] on one line, the name a local -/
theorem SV.setLc {i : Nat} {y : Str} {py : Pos} {elt tg it : Expr} {ifs : List Expr} {scope : Scope} {own : List (Str × Nat)} {pos spos : Pos} {f : Bool → M D} (live : Bool) (hc : X.calm = true) (hN : X.N.Nodup) (h : LCV g X E elt tg it ifs scope own f)
    (hy : X.N[i]? = some y) (hyl : X.env.scope.names.lookup y = some .local) (hsw : swapsWith (.ListComp elt [⟨tg, it, ifs, 0⟩] scope pos) (some (.Name y py)) spos.line X.env = pure true) (hs : ∀ x, foldedSetIterable it X.env x = pure x) :
    SV g X E (.Assign [.Name y py] (.ListComp elt [⟨tg, it, ifs, 0⟩] scope pos) spos) (sAsg (f live) (gNm i)) := by
  obtain ⟨ok, wi, gt, tt, te, p1, p2, p3, p4, q⟩ := h
  refine ⟨_, ps_setLc hc hN hy hyl hsw p1 ok p2 p3 p4 hs, fun K σ H m env hp hl er h => ?_⟩
  refine q live σ H _ m env hp hl er (SPO.bind h fun x h1 m1 H1 v x1 hl1 r1 h => ?_)
  exact h m1 H1 _ (.refl _ _) hl1 ((er.ext x1).set r1)
open Classical in
noncomputable def forE (asg : TF) (body : SM) (gd : GdL) : List D → SM
  | [], env, h => if Gd gd h then .nx env h else .stuck
  | d :: ds, env, h => if Gd gd h then (match asg d env h with
      | some e => (match body e h with
        | .nx e h => forE asg body gd ds e h
        | .ct e h => forE asg body gd ds e h
        | .bk e h => .nx e h
        | .rt d h => .rt d h
        | .exc c fs h => .exc c fs h
        | .stuck => .stuck)
      | none => .stuck) else .stuck
@[simp] noncomputable def kFor (asg : TF) (body : SM) (env : EN) (p : List D × GdL) (h : HP) : SR := forE asg body p.2 p.1 env h
@[simp] noncomputable def sFor (it : IM) (asg : TF) (body : SM) (env : EN) (hp : HP) : SR := (it env hp).sbind (kFor asg body env)
theorem SV.for_ {tg it : Expr} {body : List Stmt} {pos : Pos} {fi : IM} {is : List Nat} {tf : TF} {fb : SM} (hp : PassesOwn (model X.prog X.w) X.A X.env X.xe) (hc : X.calm = true) (hi : IV g X E tg it fi) (hg : GV g X tg is tf) (hb : SVs g X E body fb) (hs : ∀ x, foldedSetIterable it X.env x = pure x) :
    SV g X E (.For tg it body [] pos) (sFor fi tf fb) := by
  obtain ⟨wi, pi, qi⟩ := hi
  obtain ⟨gt, pg, qg⟩ := hg
  obtain ⟨tb, pb, qb⟩ := hb
  refine ⟨_, ps_for hp hc pi pg pb hs, fun K σ H m env hp hl er h => ?_⟩
  refine qi σ H _ m env hp hl er ?_
  unfold sFor at h
  revert h
  cases fi env hp with
  | exc c fs h1 => exact fun h => h
  | stuck => exact fun h => h
  | ok p h1 =>
    obtain ⟨items, gd⟩ := p
    intro h m1 H1 J x1 hl1 fo
    have h : SPO g m H E K (forE tf fb gd items env h1) := h
    refine ⟨fun i k σ' H' => k = items.length - i ∧ i ≤ items.length ∧ ∃ m' env' hp', Ex m1 H1 m' H' ∧ HL g m' H' hp' ∧ ER g m' H' σ' env' ∧ SPO g m H E K (forE tf fb gd (items.drop i) env' hp'),
      ⟨items.length, rfl, Nat.zero_le _, m1, env, h1, .refl _ _, hl1, er.ext x1, by rw [List.drop_zero]; exact h⟩, ?_⟩
    rintro i k σ' H' ⟨rfl, hi', m', env', hp', x', hl', er', po⟩
    by_cases hlt : i < items.length
    · rw [List.drop_eq_getElem_cons hlt] at po
      unfold forE at po
      by_cases hgd : Gd gd hp'
      · rw [if_pos hgd] at po
        refine .inr ⟨fo.go i m' H' hp' hlt x' hl' hgd, fun σ2 H2 => ∃ k', k' < items.length - i ∧ k' = items.length - (i + 1) ∧ i + 1 ≤ items.length ∧ ∃ m' env' hp', Ex m1 H1 m' H2 ∧ HL g m' H2 hp' ∧ ER g m' H2 σ2 env' ∧ SPO g m H E K (forE tf fb gd (items.drop (i + 1)) env' hp'),
          fun σ2 H2 z => z, fun v H2 y => ?_⟩
        obtain ⟨d, ed, xe, hl2, rd⟩ := fo.yld i m' H' hp' v H2 hlt x' hl' hgd y
        rw [List.getElem?_eq_getElem hlt] at ed
        cases ed
        split at po
        · rename_i e2 ea
          refine qg v σ' H2 _ m' env' hp' _ hl2 (er'.ext xe) rd ⟨e2, ea, fun σ3 tn er3 => ?_⟩
          refine qb _ σ3 H2 m' e2 hp' hl2 er3 ?_
          have xx := x'.trans xe
          revert po
          cases fb e2 hp' with
          | nx e3 h3 => exact fun po m3 H3 σ4 x3 hl3 er4 => ⟨items.length - (i + 1), by omega, rfl, hlt, m3, e3, h3, xx.trans x3, hl3, er4, po⟩
          | ct e3 h3 => exact fun po m3 H3 σ4 x3 hl3 er4 => ⟨items.length - (i + 1), by omega, rfl, hlt, m3, e3, h3, xx.trans x3, hl3, er4, po⟩
          | bk e3 h3 => exact fun po m3 H3 σ4 x3 hl3 er4 => po m3 H3 σ4 ((x1.trans xx).trans x3) hl3 er4
          | rt d h3 => exact fun po m3 H3 v3 x3 hl3 r3 => po m3 H3 v3 ((x1.trans xx).trans x3) hl3 r3
          | exc c fs h3 => exact fun po m3 H3 d2 x3 hl3 e2 => po m3 H3 d2 ((x1.trans xx).trans x3) hl3 e2
          | stuck => exact fun po => po.elim
        · exact po.elim
      · rw [if_neg hgd] at po
        exact po.elim
    · have e : i = items.length := by omega
      subst e
      rw [List.drop_length] at po
      unfold forE at po
      by_cases hgd : Gd gd hp'
      · rw [if_pos hgd] at po
        exact .inl ⟨fo.stop m' H' hp' x' hl' hgd, po m' H' σ' (x1.trans x') hl' er'⟩
      · rw [if_neg hgd] at po
        exact po.elim
end
end Ev
namespace Ev
open PySem PySem.Spec PyProof.Rows L2
section
variable {g : G} {X : Cx} {E : XK}
/-- a def's promise, by its function on data -/
def spF (g : G) (n : Nat) (F : FA) : Sp := fun vs H Q E => vs.length = n ∧ ∃ m hp ds, HL g m H hp ∧ reps g m H ds vs ∧ PO g m H E (rep g) Q (F ds hp)
@[simp] def startE (N : Nat) (ds : List D) : EN := ds.map some ++ List.replicate (N - ds.length) none
open Classical in
noncomputable def excP (h0 : HP) (c : Nat) (fs : List (Str × D)) (h : HP) : R D := if h.take h0.length = h0 ∧ rlt.rltf h0.length fs = true then .exc c fs h0 else .stuck
/-- a pure def -/
@[simp] noncomputable def kFnP (h : HP) : SR → R D
  | .nx _ h' => pure_ h .non h'
  | .rt d h' => pure_ h d h'
  | .exc c fs h' => excP h c fs h'
  | .bk _ _ => .stuck
  | .ct _ _ => .stuck
  | .stuck => .stuck
@[simp] noncomputable def fnP (N : Nat) (body : SM) (ds : List D) (h : HP) : R D := kFnP h (body (startE N ds) h)
/-- a def that turns live things, or hands one back -/
@[simp] def kFnR : SR → R D
  | .nx _ h' => .ok .non h'
  | .rt d h' => .ok d h'
  | .exc c fs h' => .exc c fs h'
  | .bk _ _ => .stuck
  | .ct _ _ => .stuck
  | .stuck => .stuck
@[simp] def fnR (N : Nat) (body : SM) (ds : List D) (h : HP) : R D := kFnR (body (startE N ds) h)
theorem ER.start {m : AM} {H : Hp} {ds : List D} {vs : List V} (r : reps g m H ds vs) (N : List Str) : ER g m H (L2.start N vs) (startE N.length ds) := by
  have hl := reps.length r
  refine ⟨by simp [L2.start, startE, hl], fun i d e => ?_⟩
  unfold startE at e
  by_cases h : i < ds.length
  · rw [List.getElem?_append_left (by simpa using h), List.getElem?_map, List.getElem?_eq_getElem h] at e
    simp at e
    obtain ⟨v, ev, rv⟩ := reps.get r (List.getElem?_eq_getElem h)
    rw [e] at rv
    refine ⟨v, ?_, rv⟩
    unfold L2.start
    rw [List.getElem?_append_left (by rw [List.length_map, ← hl]; exact h), List.getElem?_map, ev]
    rfl
  · rw [List.getElem?_append_right (by simpa using Nat.le_of_not_lt h), List.getElem?_replicate] at e
    split at e <;> cases e
theorem fnP_ends {m : AM} {H : Hp} {hp : HP} {N : Nat} {fb : SM} {ds : List D} {Q : VK} (hl : HL g m H hp) (h : PO g m H E (rep g) Q (fnP N fb ds hp)) :
    SPO g m H E { nx := fun _ H' => Q .non H', rt := Q } (fb (startE N ds) hp) := by
  unfold fnP at h
  revert h
  cases fb (startE N ds) hp with
  | nx e h' => exact fun h m' H' σ' x hl' _ => PO.pure_ hl x hl' (d := .non) (by simp [rep]) h
  | rt d h' => exact fun h m' H' v x hl' r => PO.pure_ hl x hl' r h
  | exc c fs h' =>
    intro h m' H' d x hl' hd
    have h : PO g m H E (rep g) Q (excP hp c fs h') := h
    unfold excP at h
    split at h
    · rename_i cnd
      obtain ⟨x2, hl2, dn⟩ := hl.back x hl' cnd.1
      rw [← hl.len] at cnd
      refine h m H' d x2 hl2 ?_
      cases d with
      | none => exact hd
      | some d =>
        obtain ⟨ws, hd, nd, r⟩ := hd
        exact ⟨ws, hd, fun z => nd (dn.mem _ z), repf.down dn _ _ cnd.2 r⟩
    · exact h.elim
  | bk e h' => exact fun h => h.elim
  | ct e h' => exact fun h => h.elim
  | stuck => exact fun h => h.elim
theorem fnR_ends {m : AM} {H : Hp} {hp : HP} {N : Nat} {fb : SM} {ds : List D} {Q : VK} (h : PO g m H E (rep g) Q (fnR N fb ds hp)) :
    SPO g m H E { nx := fun _ H' => Q .non H', rt := Q } (fb (startE N ds) hp) := by
  unfold fnR at h
  revert h
  cases fb (startE N ds) hp with
  | nx e h' => exact fun h m' H' σ' x hl' _ => h m' H' _ x hl' (by simp [rep])
  | rt d h' => exact fun h => h
  | exc c fs h' => exact fun h => h
  | bk e h' => exact fun h => h.elim
  | ct e h' => exact fun h => h.elim
  | stuck => exact fun h => h.elim
section
variable {P : Program} {w : World} {K : PySem.W.Frag} {mg : Str → Option Value} {base : Heap}
/-- a def that raises nothing -/
theorem Fn0 {x qual : Str} {st : Stmt} {f : Addr} {fd : FuncData} {N ps : List Str} {k : Nat} {fb : SM} {Fa : FA} (F : Fun K x qual st f fd) (S : FnScope N ps (defScope st))
    (hF : ∀ {E : XK} {m : AM} {H : Hp} {hp : HP} {ds : List D} {Q : VK}, HL g m H hp → PO g m H E (rep g) Q (Fa ds hp) → SPO g m H E { nx := fun _ H' => Q .non H', rt := Q } (fb (startE N.length ds) hp))
    (hb : ∀ (cdv : Value) (A : Around) (outer : List Env) (s : Shared) (H : Hp) (E : XK), Room k (A.deeper (envOfC qual (defScope st) s.heap.objs.size f cdv)) →
      SVs g (cxOf CX0 P w K mg base N qual (defScope st) f cdv A outer s H E).nox E (defBody st) fb) :
    FnOk P w K mg base CX0 (k + 1) f fd ps (spF g ps.length Fa) := by
  refine F.ok S (fun vs H Q E h => h.1) (fun cdv A outer s H vs Q E hr h => ?_)
  obtain ⟨_, m, hp, ds, hl, r, po⟩ := h
  obtain ⟨t, p, q⟩ := hb cdv A outer s H E hr
  exact ⟨t, p, q _ _ _ m _ hp hl (ER.start r N) (hF hl po)⟩
end
@[simp] def kFn (n : Nat) (F : FA) (xs : List D) (h : HP) : R D := if xs.length = n then F xs h else .stuck
@[simp] def mFn (n : Nat) (F : FA) (a : M (List D)) (env : EN) (hp : HP) : R D := (a env hp).bind (kFn n F)
/-- f(e, ..) -/
theorem EV.call {CX : CXT} {k n : Nat} {f : Addr} {fd : FuncData} {ps : List Str} {Fa : FA} {x : Str} {p pos : Pos} {e : Expr} {es : List Expr} {fs : M (List D)}
    (F : FnOk X.prog X.w X.K X.mg X.base CX k f fd ps (spF g n Fa)) (hr : Room k X.A) (hm : X.mg x = some (.ref f)) (hk : PySem.W.keepIn X.K (.ref f) = true) (hb : Binds X.K fd ps []) (hx : Passes CX X E) (ha : AV g X E (e :: es) fs)
    (hg : Gl X x) (hdb : (x == ("__debug__" : Str)) = false) (he : starEach (e :: es) X.env = (false, eval e X.env) :: starEach es X.env) (hpl : (backTo pos (starEach es X.env)).any (·.1) = false) :
    EV g X E (.Call (.Name x p) (e :: es) [] pos) (mFn n Fa fs) := by
  obtain ⟨t, pa, qa⟩ := ha
  refine ⟨_, pe_call F hr hg hm hk hb .nil hx pa hdb he hpl, fun σ H Q m env hp hl er h => ?_⟩
  refine qa σ H _ m env hp hl er (PO.bind h fun xs h1 m1 H1 vs x1 hl1 r1 h => ?_)
  unfold kFn at h
  split at h
  · rename_i c
    rw [List.append_nil]
    exact ⟨by rw [← reps.length r1]; exact c, m1, h1, xs, hl1, r1, h⟩
  · exact h.elim
abbrev FM := D → List D → HP → R D
structure BM (X : Cx) (g : G) (E : XK) (T id : String) (ty : HP → D → Bool) (F : FM) : Prop where
  ty_ : ∀ m H hp d v, HL g m H hp → rep g m H d v → ty hp d = true → tyV g.K T v H
  ex : ∃ r, MtR X id r ∧ ∀ m H hp d ds v vs Q, HL g m H hp → rep g m H d v → reps g m H ds vs → PO g m H E (rep g) Q (F d ds hp) → r v vs H Q
@[simp] def kBm (ty : HP → D → Bool) (F : FM) (args : M (List D)) (env : EN) (x : D) (h : HP) : R D := if ty h x = true then (args env h).bind (F x) else .stuck
@[simp] def mBm (ty : HP → D → Bool) (F : FM) (a : M D) (args : M (List D)) (env : EN) (hp : HP) : R D := (a env hp).bind (kBm ty F args env)
section
variable {T id : String} {name : Str} {o e : Expr} {es : List Expr} {apos cpos : Pos} {ty : HP → D → Bool} {F : FM} {fo : M D} {fs : M (List D)}
theorem EV.bm (hK : X.K = g.K) (pa : PlainAttrs T) (slot : Slot T name id) (hty : typeOf (.builtin id) = pure (.type "method_descriptor")) (hm : BM X g E T id ty F) (ho : EV g X E o fo) (ha : AV g X E (e :: es) fs)
    (hbase : attributeBase o name X.env (eval o X.env) = eval o X.env)
    (hfew : ((backTo cpos (starEach (e :: es) X.env)).all (fun x => !x.1) && (backToKw cpos (keywordEach [] X.env)).all (fun x => x.1.isSome)
      && decide ((e :: es).length + ([] : List Keyword).length + (if ([] : List Keyword).isEmpty then 0 else 1) < 30)) = true)
    (hline : (apos.endLine == cpos.line) = true) (hs : starEach (e :: es) X.env = (false, eval e X.env) :: starEach es X.env) (hplain : (backTo cpos (starEach es X.env)).any (·.1) = false) :
    EV g X E (.Call (.Attribute o name apos) (e :: es) [] cpos) (mBm ty F fo fs) := by
  obtain ⟨hty2, r, hr, hm⟩ := hm
  obtain ⟨t, p, q⟩ := ho
  obtain ⟨ta, pa', qa⟩ := ha
  refine ⟨_, pe_bm pa slot hty hr p pa' hbase hfew hline hs hplain, fun σ H Q m env hp hl er h => ?_⟩
  refine q σ H _ m env hp hl er (PO.bind h fun x h1 m1 H1 v x1 hl1 r1 h => ?_)
  unfold kBm at h
  split at h
  · rename_i c
    refine ⟨by rw [hK]; exact hty2 m1 H1 h1 x v hl1 r1 c, ?_⟩
    refine qa σ H1 _ m1 env h1 hl1 (er.ext x1) (PO.bind h fun ds h2 m2 H2 vs x2 hl2 r2 h => ?_)
    exact hm m2 H2 h2 x ds v vs Q hl2 (rep.ext x2 _ _ r1) r2 h
  · exact h.elim
end
@[simp] def tyLO : Option O → Bool
  | some (.lst _) => true
  | _ => false
@[simp] def tyL (h : HP) : D → Bool
  | .ref n => tyLO h[n]?
  | _ => false
theorem tyL_ok {m : AM} {H : Hp} {hp : HP} {d : D} {v : V} (hl : HL g m H hp) (r : rep g m H d v) (e : tyL hp d = true) : tyV g.K "list" v H := by
  cases d with
  | ref n =>
    simp only [tyL] at e
    unfold tyLO at e
    split at e
    · rename_i ds q
      simp only [rep] at r
      obtain ⟨a, ea, vs, ha, _⟩ := hl.at q (by simp)
      rw [r.2 a ea]
      exact .inl ⟨rfl, vs, .of ha⟩
    · cases e
  | _ => cases e
@[simp] def kUnit (_ : Unit) (h : HP) : R D := .ok .non h
@[simp] def lAppend : D → List D → HP → R D
  | .ref n, [y], h => (appL n y h).bind kUnit
  | _, _, _ => .stuck
theorem bm_append : BM X g E "list" "list.append" tyL lAppend := by
  refine ⟨fun m H hp d v hl r e => tyL_ok hl r e, _, mt_append, fun m H hp d ds v vs Q hl r rs h => ?_⟩
  unfold lAppend at h
  split at h
  · rename_i n y
    unfold appL at h
    split at h
    · rename_i acc e
      split at h
      · rename_i hz
        obtain ⟨u, rfl, ru⟩ := reps1 rs
        simp only [rep] at r
        obtain ⟨a, ea, us, ha, rr⟩ := hl.at e (by simp)
        obtain ⟨x6, hl6⟩ := hl.write (u := .lst (us ++ [u])) (ob' := .lst (acc ++ [y])) ea e (by simp) fun x6 => ⟨us ++ [u], upd_same, reps.ext x6 _ _ (reps.append rr (by simp only [reps]; exact ⟨u, [], rfl, ru, rfl⟩))⟩
        exact ⟨a, us, u, r.2 a ea, rfl, ha, by rw [← reps.length rr]; exact hz, h m _ _ x6 hl6 (by simp [rep])⟩
      · exact h.elim
    · exact h.elim
  · exact h.elim
theorem reps.dropLast {m : AM} {H : Hp} {ds : List D} {vs : List V} (r : reps g m H ds vs) : reps g m H ds.dropLast vs.dropLast := by
  rw [List.dropLast_eq_take, List.dropLast_eq_take, ← reps.length r]
  exact r.take _
@[simp] def popO (n : Nat) (ds : List D) : Option D → HP → R D
  | some y, h => .ok y (h.set n (.lst ds.dropLast))
  | none, _ => .stuck
@[simp] def popL (n : Nat) : Option O → HP → R D
  | some (.lst ds), h => popO n ds ds[ds.length - 1]? h
  | _, _ => .stuck
@[simp] def lPop : D → List D → HP → R D
  | .ref n, [], h => popL n h[n]? h
  | _, _, _ => .stuck
end
/-- the script -/
theorem rep_script {g : G} {m : AM} {H : Hp} {a : Addr} {ns : List Int} (h : SqL g.K H a (ns.map V.int)) (hm : some a ∉ m) : rep g m H (.klst (ns.map D.int)) (.ref a) := by
  simp only [rep]
  refine ⟨a, ns.map V.int, rfl, ?_, ?_⟩
  · rcases h with h | h
    · exact .inl ⟨h, hm⟩
    · exact .inr h
  · clear h
    induction ns with
    | nil => simp [reps]
    | cons n ns ih =>
      simp only [List.map_cons, reps]
      exact ⟨.int n, _, rfl, by simp [rep], ih⟩
end Ev
namespace Ev
open PySem PySem.Spec PyProof.Rows L2
@[simp] theorem bind_ok {α β : Type} (a : α) (h : HP) (f : α → HP → R β) : (R.ok a h).bind f = f a h := rfl
@[simp] theorem sbind_ok {α : Type} (a : α) (h : HP) (f : α → HP → SR) : (R.ok a h).sbind f = f a h := rfl
@[simp] theorem Gd_nil (h : HP) : Gd [] h = True := by simp [Gd]
theorem rlts_eq {n : Nat} {ds : List D} : rlt.rlts n ds = ds.all (rlt n) := by
  induction ds with
  | nil => rfl
  | cons d ds ih => simp [rlt.rlts, ih]
/-- a value without live things -/
def clean (d : D) : Prop := ∀ n, rlt n d = true
theorem clean_int (i : Int) : clean (.int i) := fun _ => rfl
theorem clean_bl (i : Bool) : clean (.bl i) := fun _ => rfl
theorem clean_str (i : Str) : clean (.str i) := fun _ => rfl
theorem clean_non : clean .non := fun _ => rfl
theorem clean_tup {ds : List D} (h : ∀ d ∈ ds, clean d) : clean (.tup ds) := fun n => by
  simp only [rlt, rlts_eq, List.all_eq_true]
  exact fun d hd => h d hd n
theorem clean_lst {ds : List D} (h : ∀ d ∈ ds, clean d) : clean (.lst ds) := fun n => by
  simp only [rlt, rlts_eq, List.all_eq_true]
  exact fun d hd => h d hd n
theorem pure_same {d : D} (h : HP) (c : rlt h.length d = true) : pure_ h d h = .ok d h := by
  unfold pure_
  rw [if_pos (List.take_length)]
  simp [fz, c]
theorem pure_junk {d : D} (h x : HP) (c : rlt h.length d = true) : pure_ h d (h ++ x) = .ok d h := by
  unfold pure_
  rw [if_pos (by simp)]
  simp [fz, c]
theorem pure_list {ds : List D} (h : HP) (c : ∀ d ∈ ds, clean d) : pure_ h (.ref h.length) (h ++ [.lst ds]) = .ok (.lst ds) h := by
  unfold pure_
  rw [if_pos (by simp)]
  have : rlt.rlts h.length ds = true := by
    rw [rlts_eq, List.all_eq_true]
    exact fun d hd => c d hd _
  simp [fz, rlt, this]
theorem pure_clean {d : D} (h : HP) (c : clean d) : pure_ h d h = .ok d h := pure_same h (c _)
theorem pure_cleanJ {d : D} (h x : HP) (c : clean d) : pure_ h d (h ++ x) = .ok d h := pure_junk h x (c _)
theorem appL_last {y : D} {ds : List D} (h : HP) (c : ds.length < sizeLine) : appL h.length y (h ++ [.lst ds]) = .ok () (h ++ [.lst (ds ++ [y])]) := by
  unfold appL
  simp [c]
@[simp] theorem le_line {n : Nat} (h : n ≤ 16000000) : (n ≤ sizeLine) = True := by
  rw [sizeLine_eq]
  exact eq_true (by omega)
@[simp] theorem lt_line {n : Nat} (h : n ≤ 16000000) : (n < sizeLine) = True := by
  rw [sizeLine_eq]
  exact eq_true (by omega)
theorem rg_of {n : Int} (h1 : -1000000000000000000 ≤ n) (h2 : n ≤ 1000000000000000000) : Rg n := by
  unfold Rg
  omega
@[simp] theorem rg_nat {n : Nat} (h2 : n ≤ 1000000000000000000) : Rg (n : Int) := rg_of (by omega) (by omega)
@[simp] theorem rg_lit {n : Nat} (h2 : OfNat.ofNat n ≤ 1000000000000000000) : Rg (OfNat.ofNat n : Int) := by
  have := rg_nat h2
  exact this
theorem forE_inv {asg : TF} {body : SM} {gd : GdL} (I : Nat → EN → HP → Prop) {items : List D} (hg : ∀ i env h, I i env h → Gd gd h)
    (hs : ∀ i env h (hi : i < items.length), I i env h → ∃ e, asg items[i] env h = some e ∧ ∃ env' h', (body e h = .nx env' h' ∨ body e h = .ct env' h') ∧ I (i + 1) env' h')
    {env : EN} {h : HP} (h0 : I 0 env h) : ∃ env' h', forE asg body gd items env h = .nx env' h' ∧ I items.length env' h' := by
  have key : ∀ k i env h, i + k = items.length → I i env h → ∃ env' h', forE asg body gd (items.drop i) env h = .nx env' h' ∧ I items.length env' h' := by
    intro k
    induction k with
    | zero =>
      intro i env h e hI
      have e : i = items.length := by omega
      subst e
      refine ⟨env, h, ?_, hI⟩
      rw [List.drop_length]
      unfold forE
      rw [if_pos (hg _ _ _ hI)]
    | succ k ih =>
      intro i env h e hI
      have hi : i < items.length := by omega
      obtain ⟨e1, ea, env', h', eb, hI'⟩ := hs i env h hi hI
      obtain ⟨env2, h2, e2, hI2⟩ := ih (i + 1) env' h' (by omega) hI'
      refine ⟨env2, h2, ?_, hI2⟩
      rw [List.drop_eq_getElem_cons hi]
      unfold forE
      rw [if_pos (hg _ _ _ hI)]
      simp only [ea]
      rcases eb with eb | eb <;> simp only [eb, e2]
  exact key items.length 0 env h (by omega) h0
abbrev sz (i : Int) : Nat := i.natAbs.log2
theorem sz_lt {i : Int} {n : Nat} (h0 : 0 < n) (h : i.natAbs < 2 ^ n) : sz i < n := PySem.Flt.log2_lt_of h0 h
theorem lt_sz (i : Int) : i.natAbs < 2 ^ (sz i + 1) := Nat.lt_log2_self
theorem mulX {i j : Int} (a b : Nat) (hi : sz i ≤ a) (hj : sz j ≤ b) (h : a + b < 100000000) : CMulE i j := by
  unfold CMulE
  show sz i + sz j < _
  omega
theorem sz_mul (i j : Int) : sz (i * j) ≤ sz i + sz j + 1 := by
  have h : (i * j).natAbs < 2 ^ (sz i + sz j + 2) := by
    rw [Int.natAbs_mul, show sz i + sz j + 2 = (sz i + 1) + (sz j + 1) by omega, Nat.pow_add]
    exact Nat.mul_lt_mul'' (lt_sz i) (lt_sz j)
  have := sz_lt (by omega) h
  omega
theorem sz_add (i j : Int) : sz (i + j) ≤ max (sz i) (sz j) + 1 := by
  have h1 := lt_sz i
  have h2 := lt_sz j
  have p1 : 2 ^ (sz i + 1) ≤ 2 ^ (max (sz i) (sz j) + 1) := Nat.pow_le_pow_right (by decide) (by omega)
  have p2 : 2 ^ (sz j + 1) ≤ 2 ^ (max (sz i) (sz j) + 1) := Nat.pow_le_pow_right (by decide) (by omega)
  have h : (i + j).natAbs < 2 ^ (max (sz i) (sz j) + 2) := by
    rw [show max (sz i) (sz j) + 2 = (max (sz i) (sz j) + 1) + 1 by omega, Nat.pow_succ]
    omega
  have := sz_lt (by omega) h
  omega
theorem sz_neg (i : Int) : sz (-i) = sz i := by unfold sz; rw [Int.natAbs_neg]
theorem sz_sub (i j : Int) : sz (i - j) ≤ max (sz i) (sz j) + 1 := by
  have := sz_add i (-j)
  rw [sz_neg] at this
  rw [Int.sub_eq_add_neg]
  exact this
theorem sz_small {i : Int} {n : Nat} (h0 : 0 < n) (h : i.natAbs < 2 ^ n) : sz i ≤ n := Nat.le_of_lt (sz_lt h0 h)
end Ev
namespace Ev
open PySem PySem.Spec PyProof.Rows L2
section
variable {g : G} {X : Cx} {E : XK}
@[simp] def setJ (n : Nat) (ds : List D) (y : D) : Option Nat → HP → R Unit
  | some j, h => .ok () (h.set n (.lst (ds.set j y)))
  | none, _ => .stuck
@[simp] def setL (n : Nat) (k : Int) (y : D) : Option O → HP → R Unit
  | some (.lst ds), h => setJ n ds y (ixN ds.length k) h
  | _, _ => .stuck
@[simp] def setD (y : D) : D → D → HP → R Unit
  | .ref n, .int k, h => setL n k y h[n]? h
  | _, _, _ => .stuck
@[simp] def kNx (env : EN) (_ : Unit) (h : HP) : SR := .nx env h
@[simp] def kSetIx2 (env : EN) (y o : D) (k : D) (h : HP) : SR := (setD y o k h).sbind (kNx env)
@[simp] def kSetIx1 (fi : M D) (env : EN) (y : D) (o : D) (h : HP) : SR := (fi env h).sbind (kSetIx2 env y o)
@[simp] def kSetIx (fo fi : M D) (env : EN) (y : D) (h : HP) : SR := (fo env h).sbind (kSetIx1 fi env y)
@[simp] def sSetIx (fv fo fi : M D) (env : EN) (hp : HP) : SR := (fv env hp).sbind (kSetIx fo fi env)
theorem reps.set {m : AM} {H : Hp} {y : D} {v : V} (rv : rep g m H y v) : ∀ {ds : List D} {vs : List V} {j : Nat}, reps g m H ds vs → reps g m H (ds.set j y) (vs.set j v)
  | [], vs, j, h => by
    simp only [reps] at h
    subst h
    simp [reps]
  | d :: ds, vs, 0, h => by
    simp only [reps] at h
    obtain ⟨w, r, rfl, h1, h2⟩ := h
    simp only [List.set_cons_zero, reps]
    exact ⟨v, r, rfl, rv, h2⟩
  | d :: ds, vs, j + 1, h => by
    simp only [reps] at h
    obtain ⟨w, r, rfl, h1, h2⟩ := h
    simp only [List.set_cons_succ, reps]
    exact ⟨w, _, rfl, h1, reps.set rv h2⟩
theorem SV.setIx {o i e : Expr} {pos pos' : Pos} {fv fo fi : M D} (hv : EV g X E e fv) (ho : EV g X E o fo) (hi : EV g X E i fi)
    (ha : ∀ v, assign (.Subscript o i pos') X.env v = (do
      let ov ← holding [v] (eval o X.env)
      let iv ← holding [v, ov] (eval i X.env)
      standAt pos'
      holding [v, ov, iv] (setItem ov iv v)
      release [v, ov, iv] []))
    (hs : swapsWithSole [.Subscript o i pos'] e pos.line X.env = pure false) (hw : swappedStores [.Subscript o i pos'] e X.env = pure none)
    (h1 : (assignEach [.Subscript o i pos'] X.env).map (·.2) = [assign (.Subscript o i pos') X.env]) : SV g X E (.Assign [.Subscript o i pos'] e pos) (sSetIx fv fo fi) := by
  obtain ⟨tv, pv, qv⟩ := hv
  obtain ⟨to, po, qo⟩ := ho
  obtain ⟨ti, pi, qi⟩ := hi
  refine ⟨_, ps_asg pv (pg_sub po pi set_list ha) hs hw h1, fun K σ H m env hp hl er h => ?_⟩
  refine qv σ H _ m env hp hl er (SPO.bind h fun y h1 m1 H1 v x1 hl1 r1 h => ?_)
  refine qo σ H1 _ m1 env h1 hl1 (er.ext x1) (SPO.bind h fun od h2 m2 H2 u x2 hl2 r2 h => ?_)
  refine qi σ H2 _ m2 env h2 hl2 ((er.ext x1).ext x2) (SPO.bind h fun k h3 m3 H3 w x3 hl3 r3 h => ?_)
  unfold kSetIx2 at h
  cases od with
  | ref n =>
    cases k with
    | int k =>
      simp only [setD] at h
      cases eo : h3[n]? with
      | none => rw [eo] at h; exact h.elim
      | some ob =>
        rw [eo] at h
        cases ob with
        | lst ds =>
          simp only [setL] at h
          cases ej : ixN ds.length k with
          | none => rw [ej] at h; exact h.elim
          | some j =>
            rw [ej] at h
            simp only [setJ, R.sbind, kNx] at h
            have r2' := rep.ext x3 _ _ r2
            simp only [rep] at r2'
            obtain ⟨a, ea, us, hA, rr⟩ := hl3.at eo (by simp)
            have ry := rep.ext (x2.trans x3) _ _ r1
            obtain ⟨x6, hl6⟩ := hl3.write (u := .lst (us.set j v)) (ob' := .lst (ds.set j y)) ea eo (by simp) fun x6 => ⟨us.set j v, upd_same, reps.ext x6 _ _ (reps.set ry rr)⟩
            exact ⟨a, us, k, j, r2'.2 a ea, rInt r3, hA, by rw [← reps.length rr]; exact ej, h m3 _ σ x6 hl6 (((er.ext x1).ext x2).ext x3 |>.ext x6)⟩
        | _ => exact h.elim
    | _ => exact h.elim
  | _ => exact h.elim
@[simp] def kBits : D → HP → R D
  | .int i, h => .ok (.int (Builtin.Int.intBits i : Nat)) h
  | _, _ => .stuck
@[simp] def mBits (f : M D) (env : EN) (hp : HP) : R D := (f env hp).bind kBits
@[simp] def tyLs (h : HP) (d : D) : Bool := (asL h d).isSome
@[simp] def idxN (n : Nat) (j : Nat) (h : HP) : R D := if j < n then .ok (.int (j : Nat)) h else .stuck
@[simp] def idxO (y : D) : Option (List D) → HP → R D
  | some ds, h => if flatD y = true ∧ ds.all flatD = true then idxN ds.length (ds.findIdx fun z => eqD z y) h else .stuck
  | none, _ => .stuck
@[simp] def lIndex : D → List D → HP → R D
  | d, [y], h => idxO y (asL h d) h
  | _, _, _ => .stuck
theorem reps.back {m : AM} {H : Hp} : ∀ {ds : List D} {vs : List V} {i : Nat} {v : V}, reps g m H ds vs → vs[i]? = some v → ∃ d, ds[i]? = some d ∧ rep g m H d v
  | [], vs, i, v, h, e => by
    simp only [reps] at h
    subst h
    simp at e
  | d :: ds, vs, 0, v, h, e => by
    simp only [reps] at h
    obtain ⟨w, r, rfl, h1, h2⟩ := h
    cases e
    exact ⟨d, rfl, h1⟩
  | d :: ds, vs, i + 1, v, h, e => by
    simp only [reps] at h
    obtain ⟨w, r, rfl, h1, h2⟩ := h
    obtain ⟨d', e', r'⟩ := reps.back (ds := ds) (i := i) h2 (by simpa using e)
    exact ⟨d', by simpa using e', r'⟩
def rngN (lo : Int) (n : Nat) : List D := (List.range n).map fun i => .int (lo + (i : Nat) * (-1))
open Classical in
@[simp] noncomputable def kRange3 : List D → HP → R (List D × GdL)
  | [.int i, .int j, .int c], h => if c = -1 ∧ Rg i ∧ Rg j then .ok (rngN i (i - j).toNat, []) h else .stuck
  | _, _ => .stuck
@[simp] noncomputable def iRange3 (a : M (List D)) (env : EN) (hp : HP) : R (List D × GdL) := (a env hp).bind kRange3
end
end Ev
namespace Ev
open PySem PySem.Spec PyProof.Rows L2
section
variable {g : G} {X : Cx} {E : XK}
section
variable {a b c d : Expr} {pos : Pos} {ta tb tc td : TE}
def tChain3 (r r' r'' : R2) (ta tb tc td : TE) : TE := fun σ H Q => ta σ H fun x H1 => tb σ H1 fun y H2 => r x y H2 fun z H3 => ∃ k, z = .bl k ∧
  (if k = true then tc σ H3 fun w' H4 => r' y w' H4 fun z2 H5 => ∃ k2, z2 = .bl k2 ∧ (if k2 = true then td σ H5 fun w2 H6 => r'' w' w2 H6 Q else Q (.bl false) H5) else Q (.bl false) H3)
theorem pe_chain3 {op op' op'' : CmpOp} {r r' r'' : R2} (ho : OpR X (compareOp op) r) (ho' : OpR X (compareOp op') r') (ho'' : OpR X (compareOp op'') r'') (ha : PE X a ta) (hb : PE X b tb) (hc : PE X c tc) (hd : PE X d td)
    (hm : lastMarks [op, op', op''] [b, c, d] = false) : PE X (.Compare a [op, op', op''] [b, c, d] pos) (tChain3 r r' r'' ta tb tc td) := by
  refine ⟨fun pins s σ H Q I h => ?_⟩
  refine Compare_chain (thn (ha.run pins s σ H _ I h) fun v s1 ⟨x, H1, I1, r1, q1⟩ => chain_link (thn (hb.run pins s1 σ H1 _ I1 q1) fun u s2 ⟨y, H2, I2, r2, q2⟩ =>
    thn (ho pins s2 σ H2 x y v u _ I2 r1 r2 q2) fun d s3 ⟨z, H3, I3, r3, k, e, q3⟩ => ?_)) hm
  subst e
  cases r3
  refine wpAny_truthy_bool ?_
  cases k with
  | false => exact ite_ff ⟨.bl false, H3, I3, rfl, q3⟩
  | true =>
    refine ite_tt (chain_link (thn (hc.run pins s3 σ H3 _ I3 q3) fun w' s4 ⟨z', H4, I4, r4, q4⟩ => thn (ho' pins s4 σ H4 y z' u w' _ I4 r2 r4 q4) fun d s5 ⟨z2, H5, I5, r5, k2, e2, q5⟩ => ?_))
    subst e2
    cases r5
    refine wpAny_truthy_bool ?_
    cases k2 with
    | false => exact ite_ff ⟨.bl false, H5, I5, rfl, q5⟩
    | true => exact ite_tt (chain_last (thn (hd.run pins s5 σ H5 _ I5 q5) fun w2 s6 ⟨z3, H6, I6, r6, q6⟩ => ho'' pins s6 σ H6 z' z3 w' w2 Q I6 r4 r6 q6))
theorem pt_chain3 {op op' op'' : CmpOp} {r r' r'' : R2} (ho : OpR X (compareOp op) r) (ho' : OpR X (compareOp op') r') (ho'' : OpR X (compareOp op'') r'') (ha : PE X a ta) (hb : PE X b tb) (hc : PE X c tc) (hd : PE X d td)
    (hm : lastMarks [op, op', op''] [b, c, d] = false) : PT X (.Compare a [op, op', op''] [b, c, d] pos) (tTest (tChain3 r r' r'' ta tb tc td)) := by
  refine ⟨fun pins s σ H Q I h => ?_⟩
  refine isTrue_chain (thn (ha.run pins s σ H _ I h) fun v s1 ⟨x, H1, I1, r1, q1⟩ => test_link (thn (hb.run pins s1 σ H1 _ I1 q1) fun u s2 ⟨y, H2, I2, r2, q2⟩ =>
    thn (ho pins s2 σ H2 x y v u _ I2 r1 r2 q2) fun d s3 ⟨z, H3, I3, r3, k, e, q3⟩ => ?_)) hm
  subst e
  cases r3
  refine wpAny_truthy_bool ?_
  cases k with
  | false =>
    obtain ⟨k', e', q'⟩ := q3
    cases e'
    exact ite_ff ⟨H3, I3, q'⟩
  | true =>
    refine ite_tt (test_link (thn (hc.run pins s3 σ H3 _ I3 q3) fun w' s4 ⟨z', H4, I4, r4, q4⟩ => thn (ho' pins s4 σ H4 y z' u w' _ I4 r2 r4 q4) fun d s5 ⟨z2, H5, I5, r5, k2, e2, q5⟩ => ?_))
    subst e2
    cases r5
    refine wpAny_truthy_bool ?_
    cases k2 with
    | false =>
      obtain ⟨k', e', q'⟩ := q5
      cases e'
      exact ite_ff ⟨H5, I5, q'⟩
    | true =>
      refine ite_tt (test_last (thn (hd.run pins s5 σ H5 _ I5 q5) fun w2 s6 ⟨z3, H6, I6, r6, q6⟩ => thn (ho'' pins s6 σ H6 z' z3 w' w2 _ I6 r4 r6 q6) fun d' s7 ⟨z4, H7, I7, r7, k3, e3, q7⟩ => ?_))
      subst e3
      cases r7
      exact wpAny_truthy_bool ⟨H7, I7, q7⟩
end
@[simp] def kC3g (f3 : F2) (d : M D) (env : EN) (w : D) (k : Bool) (h : HP) : R D := if k = true then (d env h).bind (f3 w) else .ok (.bl false) h
@[simp] def kC3f (f3 : F2) (d : M D) (env : EN) (w : D) (z : D) (h : HP) : R D := (isB z h).bind (kC3g f3 d env w)
@[simp] def kC3e (f2 f3 : F2) (d : M D) (env : EN) (y : D) (w : D) (h : HP) : R D := (f2 y w h).bind (kC3f f3 d env w)
@[simp] def kC3d (f2 f3 : F2) (c d : M D) (env : EN) (y : D) (k : Bool) (h : HP) : R D := if k = true then (c env h).bind (kC3e f2 f3 d env y) else .ok (.bl false) h
@[simp] def kC3c (f2 f3 : F2) (c d : M D) (env : EN) (y : D) (z : D) (h : HP) : R D := (isB z h).bind (kC3d f2 f3 c d env y)
@[simp] def kC3b (f f2 f3 : F2) (c d : M D) (env : EN) (x y : D) (h2 : HP) : R D := (f x y h2).bind (kC3c f2 f3 c d env y)
@[simp] def kC3a (f f2 f3 : F2) (b c d : M D) (env : EN) (x : D) (h1 : HP) : R D := (b env h1).bind (kC3b f f2 f3 c d env x)
@[simp] def mCh3 (f f2 f3 : F2) (a b c d : M D) (env : EN) (hp : HP) : R D := (a env hp).bind (kC3a f f2 f3 b c d env)
theorem EV.ch3 {op op2 op3 : CmpOp} {a b c d : Expr} {pos : Pos} {fa fb fc fd : M D} {f f2 f3 : F2} (ho : OKS X g E (compareOp op) f) (ho2 : OKS X g E (compareOp op2) f2) (ho3 : OKS X g E (compareOp op3) f3) (ha : EV g X E a fa) (hb : EV g X E b fb) (hc : EV g X E c fc) (hd : EV g X E d fd) (hm : lastMarks [op, op2, op3] [b, c, d] = false) :
    EV g X E (.Compare a [op, op2, op3] [b, c, d] pos) (mCh3 f f2 f3 fa fb fc fd) := by
  obtain ⟨r, hr, ho⟩ := ho
  obtain ⟨r2, hr2, ho2⟩ := ho2
  obtain ⟨r3, hr3, ho3⟩ := ho3
  obtain ⟨ta, pa, qa⟩ := ha
  obtain ⟨tb, pb, qb⟩ := hb
  obtain ⟨tc, pc, qc⟩ := hc
  obtain ⟨td, pd, qd⟩ := hd
  refine ⟨_, pe_chain3 hr hr2 hr3 pa pb pc pd hm, fun σ H Q m env hp hl er h => ?_⟩
  refine qa σ H _ m env hp hl er (PO.bind h fun x h1 m1 H1 v x1 hl1 r1 h => ?_)
  refine qb σ H1 _ m1 env h1 hl1 (er.ext x1) (PO.bind h fun y h2 m2 H2 u x2 hl2 r2 h => ?_)
  refine ho m2 H2 h2 x y v u _ hl2 (rep.ext x2 _ _ r1) r2 (PO.bind h fun z h3 m3 H3 w x3 hl3 r3 h => ?_)
  obtain ⟨k, e, h⟩ := PO.isBk r3 h
  refine ⟨k, e, ?_⟩
  unfold kC3d at h
  cases k with
  | true =>
    rw [if_pos rfl] at h ⊢
    refine qc σ H3 _ m3 env h3 hl3 ((er.ext x1).ext (x2.trans x3)) (PO.bind h fun z h4 m4 H4 w4 x4 hl4 r4 h => ?_)
    refine ho2 m4 H4 h4 y z u w4 _ hl4 (rep.ext (x3.trans x4) _ _ r2) r4 (PO.bind h fun z5 h5 m5 H5 w5 x5 hl5 r5 h => ?_)
    obtain ⟨k2, e2, h⟩ := PO.isBk r5 h
    refine ⟨k2, e2, ?_⟩
    unfold kC3g at h
    cases k2 with
    | true =>
      rw [if_pos rfl] at h ⊢
      refine qd σ H5 _ m5 env h5 hl5 ((er.ext x1).ext (x2.trans (x3.trans (x4.trans x5)))) (PO.bind h fun z6 h6 m6 H6 w6 x6 hl6 r6 h => ?_)
      exact ho3 m6 H6 h6 z z6 w4 w6 Q hl6 (rep.ext (x5.trans x6) _ _ r4) r6 h
    | false =>
      rw [if_neg Bool.false_ne_true] at h ⊢
      exact h m5 H5 _ (.refl _ _) hl5 (by simp [rep])
  | false =>
    rw [if_neg Bool.false_ne_true] at h ⊢
    exact h m3 H3 _ (.refl _ _) hl3 (by simp [rep])
theorem TV.ch3 {op op2 op3 : CmpOp} {a b c d : Expr} {pos : Pos} {fa fb fc fd : M D} {f f2 f3 : F2} (ho : OKS X g E (compareOp op) f) (ho2 : OKS X g E (compareOp op2) f2) (ho3 : OKS X g E (compareOp op3) f3) (ha : EV g X E a fa) (hb : EV g X E b fb) (hc : EV g X E c fc) (hd : EV g X E d fd) (hm : lastMarks [op, op2, op3] [b, c, d] = false) :
    TV g X E (.Compare a [op, op2, op3] [b, c, d] pos) (mB (mCh3 f f2 f3 fa fb fc fd)) := by
  obtain ⟨r, hr, ho⟩ := ho
  obtain ⟨r2, hr2, ho2⟩ := ho2
  obtain ⟨r3, hr3, ho3⟩ := ho3
  obtain ⟨ta, pa, qa⟩ := ha
  obtain ⟨tb, pb, qb⟩ := hb
  obtain ⟨tc, pc, qc⟩ := hc
  obtain ⟨td, pd, qd⟩ := hd
  refine ⟨_, pt_chain3 hr hr2 hr3 pa pb pc pd hm, fun σ H Q m env hp hl er h => ?_⟩
  simp only [mB, mCh3, R.bind_assoc] at h
  unfold kC3a kC3b kC3c at h
  simp only [R.bind_assoc] at h
  refine qa σ H _ m env hp hl er (PO.bind h fun x h1 m1 H1 v x1 hl1 r1 h => ?_)
  refine qb σ H1 _ m1 env h1 hl1 (er.ext x1) (PO.bind h fun y h2 m2 H2 u x2 hl2 r2 h => ?_)
  refine ho m2 H2 h2 x y v u _ hl2 (rep.ext x2 _ _ r1) r2 (PO.bind h fun z h3 m3 H3 w x3 hl3 r3 h => ?_)
  obtain ⟨k, e, h⟩ := PO.isBk r3 h
  refine ⟨k, e, ?_⟩
  unfold kC3d at h
  cases k with
  | true =>
    rw [if_pos rfl] at h ⊢
    rw [R.bind_assoc] at h
    unfold kC3e kC3f at h
    simp only [R.bind_assoc] at h
    refine qc σ H3 _ m3 env h3 hl3 ((er.ext x1).ext (x2.trans x3)) (PO.bind h fun z h4 m4 H4 w4 x4 hl4 r4 h => ?_)
    refine ho2 m4 H4 h4 y z u w4 _ hl4 (rep.ext (x3.trans x4) _ _ r2) r4 (PO.bind h fun z5 h5 m5 H5 w5 x5 hl5 r5 h => ?_)
    obtain ⟨k2, e2, h⟩ := PO.isBk r5 h
    refine ⟨k2, e2, ?_⟩
    unfold kC3g at h
    cases k2 with
    | true =>
      rw [if_pos rfl] at h ⊢
      rw [R.bind_assoc] at h
      refine qd σ H5 _ m5 env h5 hl5 ((er.ext x1).ext (x2.trans (x3.trans (x4.trans x5)))) (PO.bind h fun z6 h6 m6 H6 w6 x6 hl6 r6 h => ?_)
      refine ho3 m6 H6 h6 z z6 w4 w6 _ hl6 (rep.ext (x5.trans x6) _ _ r4) r6 (PO.bind h fun z7 h7 m7 H7 w7 x7 hl7 r7 h => ?_)
      exact PO.toB hl7 r7 h
    | false =>
      rw [if_neg Bool.false_ne_true] at h ⊢
      exact PO.toB (d := .bl false) (v := .bl false) hl5 (by simp [rep]) h
  | false =>
    rw [if_neg Bool.false_ne_true] at h ⊢
    exact PO.toB (d := .bl false) (v := .bl false) hl3 (by simp [rep]) h
/-- what is asked of a class: plain, and none of the names of its fields is one of its attributes -/
structure ClsT (K : PySem.W.Frag) (C : Addr) (fs : List Str) : Prop where
  cl : Cls K C
  na : ∀ f ∈ fs, NoAttr K C f
def CsOk (g : G) (f : Str) : Prop := ∀ c, Cls g.K (g.cA c) ∧ NoAttr g.K (g.cA c) f
theorem CsOk.of {f : Str} {fs : List Str} (t : ∀ c, ClsT g.K (g.cA c) fs) (hf : f ∈ fs) : CsOk g f := fun c => ⟨(t c).cl, (t c).na f hf⟩
@[simp] def insO : Option O → Option (Nat × List (Str × D))
  | some (.ins c fs) => some (c, fs)
  | _ => none
def asI (h : HP) : D → Option (Nat × List (Str × D))
  | .ins c fs => some (c, fs)
  | .ref n => insO h[n]?
  | _ => none
@[simp] theorem asI_ins (h : HP) (c : Nat) (fs : List (Str × D)) : asI h (.ins c fs) = some (c, fs) := rfl
@[simp] theorem asI_ref (h : HP) (n : Nat) : asI h (.ref n) = insO h[n]? := rfl
theorem asI_ok {m : AM} {H : Hp} {hp : HP} {d : D} {v : V} {c : Nat} {fs : List (Str × D)} (hl : HL g m H hp) (r : rep g m H d v) (e : asI hp d = some (c, fs)) : ∃ a dx vs, v = .ref a ∧ H a = some (.ins (g.cA c) dx vs) ∧ repf g m H fs vs := by
  cases d with
  | ins c' fs' =>
    simp only [asI] at e
    cases e
    simp only [rep] at r
    obtain ⟨a, dx, vs, e1, e2, _, e3⟩ := r
    exact ⟨a, dx, vs, e1, e2, e3⟩
  | ref n =>
    simp only [asI] at e
    unfold insO at e
    split at e
    · rename_i c' fs' q
      cases e
      simp only [rep] at r
      obtain ⟨a, ea, dx, vs, ha, rv⟩ := hl.at q (by simp)
      exact ⟨a, dx, vs, r.2 a ea, ha, rv⟩
    · cases e
  | _ => cases e
theorem repf.lookup {m : AM} {H : Hp} {f : Str} : ∀ {fs : List (Str × D)} {vs : List (Str × V)}, repf g m H fs vs → (∀ d, fs.lookup f = some d → ∃ v, vs.lookup f = some v ∧ rep g m H d v) ∧ (fs.lookup f = none → vs.lookup f = none)
  | [], vs, h => by
    simp only [repf] at h
    subst h
    exact ⟨fun d e => (by cases e), fun _ => rfl⟩
  | (k, d) :: fs, vs, h => by
    simp only [repf] at h
    obtain ⟨v, r, rfl, h1, h2⟩ := h
    have ih := repf.lookup (f := f) h2
    simp only [List.lookup_cons]
    cases q : f == k with
    | true => exact ⟨fun d' e => ⟨v, rfl, by cases e; exact h1⟩, fun e => by cases e⟩
    | false => exact ih
@[simp] def optR : Option D → HP → R D
  | some d, h => .ok d h
  | none, _ => .stuck
@[simp] def fldI (f : Str) : Option (Nat × List (Str × D)) → HP → R D
  | some (_, fs), h => optR (fs.lookup f) h
  | none, _ => .stuck
@[simp] def kFld (f : Str) (x : D) (h : HP) : R D := fldI f (asI h x) h
@[simp] def mFld (f : Str) (a : M D) (env : EN) (hp : HP) : R D := (a env hp).bind (kFld f)
/-- e.f -/
theorem EV.fld {e : Expr} {f : Str} {pos : Pos} {fe : M D} (hK : X.K = g.K) (hcs : CsOk g f) (h : EV g X E e fe) (hb : attributeBase e f X.env (eval e X.env) = eval e X.env) : EV g X E (.Attribute e f pos) (mFld f fe) := by
  obtain ⟨t, p, q⟩ := h
  refine ⟨_, pe_fld p hb, fun σ H Q m env hp hl er h => q σ H _ m env hp hl er (PO.bind h fun x h1 m1 H1 v x1 hl1 r1 h => ?_)⟩
  unfold kFld fldI at h
  split at h
  · rename_i c fs e
    unfold optR at h
    split at h
    · rename_i d el
      obtain ⟨a, dx, vs, rfl, ea, rf⟩ := asI_ok hl1 r1 e
      obtain ⟨u, eu, ru⟩ := rf.lookup.1 d el
      rw [hK]
      exact ⟨a, _, dx, vs, u, rfl, ea, (hcs c).1, (hcs c).2, eu, PO.here hl1 h ru⟩
    · exact h.elim
  · exact h.elim
@[simp] def putD (f : Str) (d : D) : List (Str × D) → List (Str × D)
  | [] => [(f, d)]
  | (k, x) :: r => if k = f then (k, d) :: r else (k, x) :: putD f d r
theorem repf.put {m : AM} {H : Hp} {f : Str} {d : D} {v : V} (rv : rep g m H d v) : ∀ {fs : List (Str × D)} {vs : List (Str × V)}, repf g m H fs vs → repf g m H (putD f d fs) (putF f v vs)
  | [], vs, h => by
    simp only [repf] at h
    subst h
    simp only [putD, putF, repf]
    exact ⟨v, [], rfl, rv, rfl⟩
  | (k, x) :: fs, vs, h => by
    simp only [repf] at h
    obtain ⟨w, r, rfl, h1, h2⟩ := h
    simp only [putD, putF]
    by_cases q : k = f
    · rw [if_pos q, if_pos q]
      simp only [repf]
      exact ⟨v, r, rfl, rv, h2⟩
    · rw [if_neg q, if_neg q]
      simp only [repf]
      exact ⟨w, _, rfl, h1, repf.put rv h2⟩
theorem repf.length {m : AM} {H : Hp} : ∀ {ds : List (Str × D)} {vs : List (Str × V)}, repf g m H ds vs → ds.length = vs.length
  | [], vs, h => by simp only [repf] at h; subst h; rfl
  | (k, d) :: ds, vs, h => by
    simp only [repf] at h
    obtain ⟨v, r, rfl, _, h2⟩ := h
    simp [repf.length h2]
@[simp] def putI (f : Str) (y : D) (n : Nat) : Option O → HP → R Unit
  | some (.ins c fs), h => if fs.length < 1000 then .ok () (h.set n (.ins c (putD f y fs))) else .stuck
  | _, _ => .stuck
@[simp] def putR (f : Str) (y : D) : D → HP → R Unit
  | .ref n, h => putI f y n h[n]? h
  | _, _ => .stuck
@[simp] def kPut2 (f : Str) (env : EN) (y o : D) (h : HP) : SR := (putR f y o h).sbind (kNx env)
@[simp] def kPut1 (f : Str) (fo : M D) (env : EN) (y : D) (h : HP) : SR := (fo env h).sbind (kPut2 f env y)
@[simp] def sPut (f : Str) (fv fo : M D) (env : EN) (hp : HP) : SR := (fv env hp).sbind (kPut1 f fo env)
theorem SV.put {o e : Expr} {f : Str} {pos pos' : Pos} {fv fo : M D} (hK : X.K = g.K) (hcs : CsOk g f) (hv : EV g X E e fv) (ho : EV g X E o fo) (hs : swapsWith e (some (.Attribute o f pos')) pos.line X.env = pure false) :
    SV g X E (.Assign [.Attribute o f pos'] e pos) (sPut f fv fo) := by
  obtain ⟨tv, pv, qv⟩ := hv
  obtain ⟨to, po, qo⟩ := ho
  refine ⟨_, ps_fld po pv hs, fun K σ H m env hp hl er h => ?_⟩
  refine qv σ H _ m env hp hl er (SPO.bind h fun y h1 m1 H1 v x1 hl1 r1 h => ?_)
  refine qo σ H1 _ m1 env h1 hl1 (er.ext x1) (SPO.bind h fun od h2 m2 H2 u x2 hl2 r2 h => ?_)
  unfold kPut2 at h
  cases od with
  | ref n =>
    simp only [putR] at h
    cases eo : h2[n]? with
    | none => rw [eo] at h; exact h.elim
    | some ob =>
      rw [eo] at h
      cases ob with
      | ins c fs =>
        simp only [putI] at h
        split at h
        · rename_i hc
          simp only [R.sbind, kNx] at h
          simp only [rep] at r2
          obtain ⟨a, ea, dx, vs, hA, rr⟩ := hl2.at eo (by simp)
          have ry := rep.ext x2 _ _ r1
          obtain ⟨x6, hl6⟩ := hl2.write (u := .ins (g.cA c) dx (putF f v vs)) (ob' := .ins c (putD f y fs)) ea eo (by simp) fun x6 => ⟨dx, _, upd_same, repf.ext x6 _ _ (repf.put ry rr)⟩
          rw [hK]
          exact ⟨a, _, dx, vs, r2.2 a ea, hA, (hcs c).1, (hcs c).2, by rw [← repf.length rr]; exact hc, h m2 _ σ x6 hl6 ((er.ext x1).ext x2 |>.ext x6)⟩
        · exact h.elim
      | _ => exact h.elim
  | _ => exact h.elim
@[simp] def sStuck (_ : EN) (_ : HP) : SR := .stuck
theorem SV.no {s : Stmt} : SV g X E s sStuck := ⟨fun _ _ _ => False, ⟨fun _ _ _ _ _ _ h => h.elim⟩, fun _ _ _ _ _ _ _ _ h => h⟩
structure KwV (g : G) (X : Cx) (E : XK) (ks : List Keyword) (f : M (List D)) : Prop where
  ex : ∃ t, PK X ks t ∧ ∀ σ H Q m env hp, HL g m H hp → ER g m H σ env → PO g m H E (reps g) Q (f env hp) → t σ H Q
theorem KwV.nil : KwV g X E [] aNil := ⟨_, pk_nil, fun σ H Q m env hp hl er h => h m H [] (.refl _ _) hl (by simp [reps])⟩
theorem KwV.cons {nm : Option Str} {kpos : Pos} {e : Expr} {es : List Keyword} {f : M D} {fs : M (List D)} (ha : EV g X E e f) (hr : KwV g X E es fs) : KwV g X E (⟨nm, e, kpos⟩ :: es) (aCons f fs) := by
  obtain ⟨ta, pa, qa⟩ := ha
  obtain ⟨tr, pr, qr⟩ := hr
  refine ⟨_, pk_cons pa pr, fun σ H Q m env hp hl er h => ?_⟩
  refine qa σ H _ m env hp hl er (PO.bind h fun x h1 m1 H1 v x1 hl1 r1 h => ?_)
  refine qr σ H1 _ m1 env h1 hl1 (er.ext x1) (PO.bind h fun xs h2 m2 H2 vs x2 hl2 r2 h => ?_)
  exact h m2 H2 _ (.refl _ _) hl2 (by simp only [reps]; exact ⟨v, vs, rfl, rep.ext x2 _ _ r1, r2⟩)
/-- how values of a call are put in the parameters' order -/
def ArgO (g : G) (gD : List D → List D → List D) (gV : List V → List V → List V) : Prop := ∀ m H xs vs ys ws, reps g m H xs vs → reps g m H ys ws → reps g m H (gD xs ys) (gV vs ws)
@[simp] def gApp (xs ys : List D) : List D := xs ++ ys
theorem ArgO.app : ArgO g gApp fun vs ws => vs ++ ws := fun m H xs vs ys ws h1 h2 => reps.append h1 h2
/-- .. defaults behind -/
@[simp] def gAppD (ds : List D) (xs ys : List D) : List D := xs ++ (ys ++ ds)
@[simp] def kCallN (n k : Nat) (gD : List D → List D → List D) (F : FA) (xs ys : List D) (h : HP) : R D := if xs.length = n ∧ ys.length = k then F (gD xs ys) h else .stuck
@[simp] def kCallN1 (n k : Nat) (gD : List D → List D → List D) (F : FA) (ks : M (List D)) (env : EN) (xs : List D) (h : HP) : R D := (ks env h).bind (kCallN n k gD F xs)
@[simp] def mCallN (n k : Nat) (gD : List D → List D → List D) (F : FA) (a ks : M (List D)) (env : EN) (hp : HP) : R D := (a env hp).bind (kCallN1 n k gD F ks env)
section
variable {CX : CXT} {k n np : Nat} {f : Addr} {fd : FuncData} {ps ks : List Str} {Fa : FA} {x : Str} {p pos : Pos} {e : Expr} {es : List Expr} {kws : List Keyword} {fs fk : M (List D)} {gv : List Value → List Value → List Value} {gV : List V → List V → List V} {gD : List D → List D → List D}
noncomputable def mkR (h0 : HP) : R D → R D
  | .ok .non h => pure_ h0 (.ref h0.length) h
  | _ => .stuck
@[simp] def gMk (gD : List D → List D → List D) (h : HP) (xs ys : List D) : List D := gD (.ref h.length :: xs) ys
@[simp] noncomputable def kMkN (c n k : Nat) (gD : List D → List D → List D) (F : FA) (xs ys : List D) (h : HP) : R D := if xs.length = n ∧ ys.length = k then mkR h (F (gMk gD h xs ys) (h ++ [.ins c []])) else .stuck
@[simp] noncomputable def kMkN1 (c n k : Nat) (gD : List D → List D → List D) (F : FA) (ks : M (List D)) (env : EN) (xs : List D) (h : HP) : R D := (ks env h).bind (kMkN c n k gD F xs)
@[simp] noncomputable def mMkN (c n k : Nat) (gD : List D → List D → List D) (F : FA) (a ks : M (List D)) (env : EN) (hp : HP) : R D := (a env hp).bind (kMkN1 c n k gD F ks env)
theorem mk_sp {c : Nat} {m : AM} {H : Hp} {hp : HP} {xs ys : List D} {vs ws : List V} {Q : VK} (hl : HL g m H hp) (r1 : reps g m H xs vs) (r2 : reps g m H ys ws) (hD : ArgO g gD gV) (hnp : (gMk gD hp xs ys).length = np)
    (h : PO g m H E (rep g) Q (mkR hp (Fa (gMk gD hp xs ys) (hp ++ [.ins c []])))) :
    ∀ x dx, H x = none → H dx = none → dx ≠ x → spF g np Fa (gV (.ref x :: vs) ws) (upd (upd H dx (.own x)) x (.ins (g.cA c) dx [])) (fun v H3 => v = .non ∧ Q (.ref x) H3) E := by
  intro x dx nx ndx ne
  obtain ⟨x1, hl1, _⟩ := hl.new (o := .own x) ndx
  have nx1 : (upd H dx (.own x)) x = none := by rw [upd_ne (Ne.symm ne)]; exact nx
  obtain ⟨x2, hl2⟩ := hl1.push (o := .ins (g.cA c) dx []) (ob := .ins c []) nx1 (by simp) fun x2 => ⟨dx, [], upd_same, by simp [repf]⟩
  have rx : rep g (m ++ [some x]) (upd (upd H dx (.own x)) x (.ins (g.cA c) dx [])) (.ref hp.length) (.ref x) := by
    simp only [rep]
    refine ⟨by simp [hl.len], fun a e => ?_⟩
    rw [← hl.len, List.getElem?_append_right (Nat.le_refl _)] at e
    simp at e
    rw [e]
  have rr := hD _ _ (.ref hp.length :: xs) (.ref x :: vs) ys ws (by simp only [reps]; exact ⟨_, _, rfl, rx, reps.ext (x1.trans x2) _ _ r1⟩) (reps.ext (x1.trans x2) _ _ r2)
  refine ⟨by rw [← reps.length rr]; exact hnp, _, _, _, hl2, rr, ?_⟩
  have e : gD (.ref hp.length :: xs) ys = gMk gD hp xs ys := rfl
  rw [e]
  revert h
  cases Fa (gMk gD hp xs ys) (hp ++ [.ins c []]) with
  | ok d h' =>
    cases d with
    | non =>
      intro h m' H' v x3 hl3 rv
      refine ⟨by simpa [rep] using rv, ?_⟩
      exact PO.pure_ hl ((x1.trans x2).trans x3) hl3 (rep.ext x3 _ _ rx) h
    | _ => exact fun h => h.elim
  | exc _ _ _ => exact fun h => h.elim
  | stuck => exact fun h => h.elim
theorem EV.mkN {c : Nat} (M : Mk X.K (g.cA c) f) (F : FnOk X.prog X.w X.K X.mg X.base CX k f fd ps (spF g np Fa)) (hr : Room (k + 1) X.A) (hm : X.mg x = some (.ref (g.cA c))) (hb : KBn X.K fd ps (n + 1) ks gv gV) (hD : ArgO g gD gV) (hnp : ∀ xs ys : List D, xs.length = n + 1 → ys.length = ks.length → (gD xs ys).length = np) (hx : Passes CX X E)
    (ha : AV g X E (e :: es) fs) (hkw : KwV g X E kws fk) (hg : Gl X x) (hall : (backToKw pos (keywordEach kws X.env)).all (·.1.isSome) = true) (hks : (backToKw pos (keywordEach kws X.env)).filterMap (·.1) = ks)
    (hdb : (x == ("__debug__" : Str)) = false) (he : starEach (e :: es) X.env = (false, eval e X.env) :: starEach es X.env)
    (hpl : ((backTo pos (starEach (e :: es) X.env)).any (·.1) || (backToKw pos (keywordEach kws X.env)).any (·.1.isNone)) = false) :
    EV g X E (.Call (.Name x p) (e :: es) kws pos) (mMkN c n ks.length gD Fa fs fk) := by
  obtain ⟨t, pa, qa⟩ := ha
  obtain ⟨tk, pk, qk⟩ := hkw
  refine ⟨_, pe_makeK M F hr hg hm hb hx pa pk hall hks hdb he hpl, fun σ H Q m env hp hl er h => ?_⟩
  refine qa σ H _ m env hp hl er (PO.bind h fun xs h1 m1 H1 vs x1 hl1 r1 h => ?_)
  refine qk σ H1 _ m1 env h1 hl1 (er.ext x1) (PO.bind h fun ys h2 m2 H2 ws x2 hl2 r2 h => ?_)
  unfold kMkN at h
  split at h
  · rename_i cnd
    exact ⟨(reps.length r1).symm.trans cnd.1, (reps.length r2).symm.trans cnd.2, mk_sp hl2 (reps.ext x2 _ _ r1) r2 hD (hnp _ _ (by simp [cnd.1]) cnd.2) h⟩
  · exact h.elim
/-- C(e, ..) -/
@[simp] noncomputable def kMkP (c n : Nat) (F : FA) (xs : List D) (h : HP) : R D := if xs.length = n then mkR h (F (gMk gApp h xs []) (h ++ [.ins c []])) else .stuck
@[simp] noncomputable def mMkP (c n : Nat) (F : FA) (a : M (List D)) (env : EN) (hp : HP) : R D := (a env hp).bind (kMkP c n F)
@[simp] def methI (c : Nat) (nm : Str) : Option (Nat × List (Str × D)) → Bool
  | some (c', fs) => decide (c' = c) && (fs.lookup nm).isNone
  | none => false
@[simp] def kMeth2 (n : Nat) (F : FA) (x : D) (xs : List D) (h : HP) : R D := if xs.length = n then F (x :: xs) h else .stuck
@[simp] def kMeth (c n : Nat) (nm : Str) (F : FA) (a : M (List D)) (env : EN) (x : D) (h : HP) : R D := if methI c nm (asI h x) = true then (a env h).bind (kMeth2 n F x) else .stuck
@[simp] def mMeth (c n : Nat) (nm : Str) (F : FA) (o : M D) (a : M (List D)) (env : EN) (hp : HP) : R D := (o env hp).bind (kMeth c n nm F a env)
theorem EV.meth {c : Nat} {nm : Str} {o : Expr} {apos : Pos} {fo : M D} {pl : Sem Bool} (t : Cls X.K (g.cA c)) (hmt : Meth X.K (g.cA c) nm f) (F : FnOk X.prog X.w X.K X.mg X.base CX k f fd ps (spF g (n + 1) Fa)) (hr : Room k X.A) (hb : Binds X.K fd ps []) (hx : Passes CX X E)
    (ho : EV g X E o fo) (ha : AV g X E (e :: es) fs) (hst : starEach (e :: es) X.env = (false, eval e X.env) :: starEach es X.env) (hpl : (backTo pos (starEach es X.env)).any (·.1) = false)
    (ht : eval (.Call (.Attribute o nm apos) (e :: es) [] pos) X.env = (do
      let ov ← eval o X.env
      standAt apos.atName
      let (f, first) ← holding [ov] (getMethod ov nm pl)
      callWith pos f first (backTo pos (starEach (e :: es) X.env)) (backToKw pos (keywordEach [] X.env)))) :
    EV g X E (.Call (.Attribute o nm apos) (e :: es) [] pos) (mMeth c n nm Fa fo fs) := by
  obtain ⟨to, po, qo⟩ := ho
  obtain ⟨ta, pa, qa⟩ := ha
  refine ⟨_, pe_meth po t hmt F hr hb .nil hx pa hst hpl ht, fun σ H Q m env hp hl er h => ?_⟩
  refine qo σ H _ m env hp hl er (PO.bind h fun x h1 m1 H1 v x1 hl1 r1 h => ?_)
  unfold kMeth at h
  split at h
  · rename_i cnd
    unfold methI at cnd
    split at cnd
    · rename_i c' fs' e
      rw [Bool.and_eq_true] at cnd
      obtain ⟨a, dx, vs, rfl, ea, rf⟩ := asI_ok hl1 r1 e
      have ec := of_decide_eq_true cnd.1
      rw [ec] at ea
      refine ⟨a, dx, vs, rfl, ea, rf.lookup.2 (Option.isNone_iff_eq_none.mp cnd.2), ?_⟩
      refine qa σ H1 _ m1 env h1 hl1 (er.ext x1) (PO.bind h fun xs h2 m2 H2 ws x2 hl2 r2 h => ?_)
      unfold kMeth2 at h
      split at h
      · rename_i cn
        rw [List.append_nil]
        refine ⟨by rw [List.length_cons, ← reps.length r2, cn], m2, h2, x :: xs, hl2, ?_, h⟩
        simp only [reps]
        exact ⟨_, _, rfl, rep.ext x2 _ _ r1, r2⟩
      · exact h.elim
    · cases cnd
  · exact h.elim
end
/-- how a def without defaults binds n values and the keywords ks, all in the parameters' order -/
theorem kbA {K : PySem.W.Frag} {x qual : Str} {st : Stmt} {f : Addr} {fd : FuncData} {ps : List Str} (F : Fun K x qual st f fd) (n : Nat) (ks : List Str)
    (h : ∀ (kV doc pm : Value) (an : Option Addr) (cdv ct : Value) (us ws : List Value), us.length = n → ws.length = ks.length → bindArgs (PySem.W.fnOf x qual (defArgs st) (defBody st) (defScope st) .none kV doc pm an cdv ct) ⟨us, ks.zip ws⟩ = pure (ps.zip (us ++ ws))) :
    KBn K fd ps n ks (fun us ws => us ++ ws) (fun vs zs => vs ++ zs) := by
  obtain ⟨oc, od, kV, doc, pm, an, cdv, ct, osl, rfl, lk, hcd⟩ := F.ex
  exact ⟨fun s us ws X l1 l2 => .of_eq (h kV doc pm an cdv ct us ws l1 l2), fun r1 r2 => r1.append r2⟩
end
end Ev
namespace Ev
open PySem PySem.Spec PyProof.Rows L2
/-- the law's own promise: no class is named in it -/
def spL (K : PySem.W.Frag) (F : FA) : Sp := fun vs H Q _ => ∃ (a : Addr) (ns : List Int), vs = [.ref a] ∧ SqL K H a (ns.map V.int) ∧ F [.klst (ns.map D.int)] [] = .ok (.bl true) [] ∧ ∀ H', Q (.bl true) H'
theorem spL_imp {g : G} {F : FA} {vs : List V} {H : Hp} {Q : VK} {E : XK} (h : spL g.K F vs H Q E) : spF g 1 F vs H Q E := by
  obtain ⟨a, ns, rfl, hS, e, k⟩ := h
  refine ⟨rfl, [], [], [.klst (ns.map D.int)], ⟨rfl, fun i j a e => by simp at e, fun i o e => by simp at e⟩, ?_, ?_⟩
  · simp only [reps]
    exact ⟨_, [], rfl, rep_script hS (by simp), rfl⟩
  · rw [e]
    intro m' H' v x hl r
    have : v = .bl true := by simpa [rep] using r
    rw [this]
    exact k H'
end Ev
namespace Ev
open PySem PySem.Spec PyProof.Rows L2
section
variable {g : G} {X : Cx} {E : XK}
@[simp] def bStr : List D → HP → R D
  | [.int i], h => if i.natAbs.log2 < 1920 then .ok (.str (toString i)) h else .stuck
  | _, _ => .stuck
theorem cv_str : CV X g E (.type "str") bStr := by
  refine ⟨_, call_str_int, fun m H hp ds vs Q hl r h => ?_⟩
  unfold bStr at h
  split at h
  · obtain ⟨v, rfl, rr⟩ := reps1 r
    obtain rfl := rInt rr
    split at h
    · rename_i c
      exact ⟨_, rfl, c, PO.here hl h (by simp [rep])⟩
    · exact h.elim
  · exact h.elim
end
end Ev
namespace Lib
open PySem PySem.Spec PyProof.Rows L2 Ev
@[simp] theorem nb_dims_speed : (("dims" : Str) == ("speed" : Str)) = false := by decide +kernel
@[simp] theorem ne_dims_speed : (("dims" : Str) = ("speed" : Str)) = False := eq_false (by decide +kernel)
@[simp] theorem nb_dims_drift : (("dims" : Str) == ("drift" : Str)) = false := by decide +kernel
@[simp] theorem ne_dims_drift : (("dims" : Str) = ("drift" : Str)) = False := eq_false (by decide +kernel)
@[simp] theorem nb_dims_per : (("dims" : Str) == ("per" : Str)) = false := by decide +kernel
@[simp] theorem ne_dims_per : (("dims" : Str) = ("per" : Str)) = False := eq_false (by decide +kernel)
@[simp] theorem nb_speed_dims : (("speed" : Str) == ("dims" : Str)) = false := by decide +kernel
@[simp] theorem ne_speed_dims : (("speed" : Str) = ("dims" : Str)) = False := eq_false (by decide +kernel)
@[simp] theorem nb_speed_drift : (("speed" : Str) == ("drift" : Str)) = false := by decide +kernel
@[simp] theorem ne_speed_drift : (("speed" : Str) = ("drift" : Str)) = False := eq_false (by decide +kernel)
@[simp] theorem nb_speed_per : (("speed" : Str) == ("per" : Str)) = false := by decide +kernel
@[simp] theorem ne_speed_per : (("speed" : Str) = ("per" : Str)) = False := eq_false (by decide +kernel)
@[simp] theorem nb_drift_dims : (("drift" : Str) == ("dims" : Str)) = false := by decide +kernel
@[simp] theorem ne_drift_dims : (("drift" : Str) = ("dims" : Str)) = False := eq_false (by decide +kernel)
@[simp] theorem nb_drift_speed : (("drift" : Str) == ("speed" : Str)) = false := by decide +kernel
@[simp] theorem ne_drift_speed : (("drift" : Str) = ("speed" : Str)) = False := eq_false (by decide +kernel)
@[simp] theorem nb_drift_per : (("drift" : Str) == ("per" : Str)) = false := by decide +kernel
@[simp] theorem ne_drift_per : (("drift" : Str) = ("per" : Str)) = False := eq_false (by decide +kernel)
@[simp] theorem nb_per_dims : (("per" : Str) == ("dims" : Str)) = false := by decide +kernel
@[simp] theorem ne_per_dims : (("per" : Str) = ("dims" : Str)) = False := eq_false (by decide +kernel)
@[simp] theorem nb_per_speed : (("per" : Str) == ("speed" : Str)) = false := by decide +kernel
@[simp] theorem ne_per_speed : (("per" : Str) = ("speed" : Str)) = False := eq_false (by decide +kernel)
@[simp] theorem nb_per_drift : (("per" : Str) == ("drift" : Str)) = false := by decide +kernel
@[simp] theorem ne_per_drift : (("per" : Str) = ("drift" : Str)) = False := eq_false (by decide +kernel)
@[simp] theorem nb_source_moment : (("source" : Str) == ("moment" : Str)) = false := by decide +kernel
@[simp] theorem ne_source_moment : (("source" : Str) = ("moment" : Str)) = False := eq_false (by decide +kernel)
@[simp] theorem nb_source_kind : (("source" : Str) == ("kind" : Str)) = false := by decide +kernel
@[simp] theorem ne_source_kind : (("source" : Str) = ("kind" : Str)) = False := eq_false (by decide +kernel)
@[simp] theorem nb_source_low : (("source" : Str) == ("low" : Str)) = false := by decide +kernel
@[simp] theorem ne_source_low : (("source" : Str) = ("low" : Str)) = False := eq_false (by decide +kernel)
@[simp] theorem nb_source_high : (("source" : Str) == ("high" : Str)) = false := by decide +kernel
@[simp] theorem ne_source_high : (("source" : Str) = ("high" : Str)) = False := eq_false (by decide +kernel)
@[simp] theorem nb_source_late : (("source" : Str) == ("late" : Str)) = false := by decide +kernel
@[simp] theorem ne_source_late : (("source" : Str) = ("late" : Str)) = False := eq_false (by decide +kernel)
@[simp] theorem nb_source_near : (("source" : Str) == ("near" : Str)) = false := by decide +kernel
@[simp] theorem ne_source_near : (("source" : Str) = ("near" : Str)) = False := eq_false (by decide +kernel)
@[simp] theorem nb_moment_source : (("moment" : Str) == ("source" : Str)) = false := by decide +kernel
@[simp] theorem ne_moment_source : (("moment" : Str) = ("source" : Str)) = False := eq_false (by decide +kernel)
@[simp] theorem nb_moment_kind : (("moment" : Str) == ("kind" : Str)) = false := by decide +kernel
@[simp] theorem ne_moment_kind : (("moment" : Str) = ("kind" : Str)) = False := eq_false (by decide +kernel)
@[simp] theorem nb_moment_low : (("moment" : Str) == ("low" : Str)) = false := by decide +kernel
@[simp] theorem ne_moment_low : (("moment" : Str) = ("low" : Str)) = False := eq_false (by decide +kernel)
@[simp] theorem nb_moment_high : (("moment" : Str) == ("high" : Str)) = false := by decide +kernel
@[simp] theorem ne_moment_high : (("moment" : Str) = ("high" : Str)) = False := eq_false (by decide +kernel)
@[simp] theorem nb_moment_late : (("moment" : Str) == ("late" : Str)) = false := by decide +kernel
@[simp] theorem ne_moment_late : (("moment" : Str) = ("late" : Str)) = False := eq_false (by decide +kernel)
@[simp] theorem nb_moment_near : (("moment" : Str) == ("near" : Str)) = false := by decide +kernel
@[simp] theorem ne_moment_near : (("moment" : Str) = ("near" : Str)) = False := eq_false (by decide +kernel)
@[simp] theorem nb_kind_source : (("kind" : Str) == ("source" : Str)) = false := by decide +kernel
@[simp] theorem ne_kind_source : (("kind" : Str) = ("source" : Str)) = False := eq_false (by decide +kernel)
@[simp] theorem nb_kind_moment : (("kind" : Str) == ("moment" : Str)) = false := by decide +kernel
@[simp] theorem ne_kind_moment : (("kind" : Str) = ("moment" : Str)) = False := eq_false (by decide +kernel)
@[simp] theorem nb_kind_low : (("kind" : Str) == ("low" : Str)) = false := by decide +kernel
@[simp] theorem ne_kind_low : (("kind" : Str) = ("low" : Str)) = False := eq_false (by decide +kernel)
@[simp] theorem nb_kind_high : (("kind" : Str) == ("high" : Str)) = false := by decide +kernel
@[simp] theorem ne_kind_high : (("kind" : Str) = ("high" : Str)) = False := eq_false (by decide +kernel)
@[simp] theorem nb_kind_late : (("kind" : Str) == ("late" : Str)) = false := by decide +kernel
@[simp] theorem ne_kind_late : (("kind" : Str) = ("late" : Str)) = False := eq_false (by decide +kernel)
@[simp] theorem nb_kind_near : (("kind" : Str) == ("near" : Str)) = false := by decide +kernel
@[simp] theorem ne_kind_near : (("kind" : Str) = ("near" : Str)) = False := eq_false (by decide +kernel)
@[simp] theorem nb_low_source : (("low" : Str) == ("source" : Str)) = false := by decide +kernel
@[simp] theorem ne_low_source : (("low" : Str) = ("source" : Str)) = False := eq_false (by decide +kernel)
@[simp] theorem nb_low_moment : (("low" : Str) == ("moment" : Str)) = false := by decide +kernel
@[simp] theorem ne_low_moment : (("low" : Str) = ("moment" : Str)) = False := eq_false (by decide +kernel)
@[simp] theorem nb_low_kind : (("low" : Str) == ("kind" : Str)) = false := by decide +kernel
@[simp] theorem ne_low_kind : (("low" : Str) = ("kind" : Str)) = False := eq_false (by decide +kernel)
@[simp] theorem nb_low_high : (("low" : Str) == ("high" : Str)) = false := by decide +kernel
@[simp] theorem ne_low_high : (("low" : Str) = ("high" : Str)) = False := eq_false (by decide +kernel)
@[simp] theorem nb_low_late : (("low" : Str) == ("late" : Str)) = false := by decide +kernel
@[simp] theorem ne_low_late : (("low" : Str) = ("late" : Str)) = False := eq_false (by decide +kernel)
@[simp] theorem nb_low_near : (("low" : Str) == ("near" : Str)) = false := by decide +kernel
@[simp] theorem ne_low_near : (("low" : Str) = ("near" : Str)) = False := eq_false (by decide +kernel)
@[simp] theorem nb_high_source : (("high" : Str) == ("source" : Str)) = false := by decide +kernel
@[simp] theorem ne_high_source : (("high" : Str) = ("source" : Str)) = False := eq_false (by decide +kernel)
@[simp] theorem nb_high_moment : (("high" : Str) == ("moment" : Str)) = false := by decide +kernel
@[simp] theorem ne_high_moment : (("high" : Str) = ("moment" : Str)) = False := eq_false (by decide +kernel)
@[simp] theorem nb_high_kind : (("high" : Str) == ("kind" : Str)) = false := by decide +kernel
@[simp] theorem ne_high_kind : (("high" : Str) = ("kind" : Str)) = False := eq_false (by decide +kernel)
@[simp] theorem nb_high_low : (("high" : Str) == ("low" : Str)) = false := by decide +kernel
@[simp] theorem ne_high_low : (("high" : Str) = ("low" : Str)) = False := eq_false (by decide +kernel)
@[simp] theorem nb_high_late : (("high" : Str) == ("late" : Str)) = false := by decide +kernel
@[simp] theorem ne_high_late : (("high" : Str) = ("late" : Str)) = False := eq_false (by decide +kernel)
@[simp] theorem nb_high_near : (("high" : Str) == ("near" : Str)) = false := by decide +kernel
@[simp] theorem ne_high_near : (("high" : Str) = ("near" : Str)) = False := eq_false (by decide +kernel)
@[simp] theorem nb_late_source : (("late" : Str) == ("source" : Str)) = false := by decide +kernel
@[simp] theorem ne_late_source : (("late" : Str) = ("source" : Str)) = False := eq_false (by decide +kernel)
@[simp] theorem nb_late_moment : (("late" : Str) == ("moment" : Str)) = false := by decide +kernel
@[simp] theorem ne_late_moment : (("late" : Str) = ("moment" : Str)) = False := eq_false (by decide +kernel)
@[simp] theorem nb_late_kind : (("late" : Str) == ("kind" : Str)) = false := by decide +kernel
@[simp] theorem ne_late_kind : (("late" : Str) = ("kind" : Str)) = False := eq_false (by decide +kernel)
@[simp] theorem nb_late_low : (("late" : Str) == ("low" : Str)) = false := by decide +kernel
@[simp] theorem ne_late_low : (("late" : Str) = ("low" : Str)) = False := eq_false (by decide +kernel)
@[simp] theorem nb_late_high : (("late" : Str) == ("high" : Str)) = false := by decide +kernel
@[simp] theorem ne_late_high : (("late" : Str) = ("high" : Str)) = False := eq_false (by decide +kernel)
@[simp] theorem nb_late_near : (("late" : Str) == ("near" : Str)) = false := by decide +kernel
@[simp] theorem ne_late_near : (("late" : Str) = ("near" : Str)) = False := eq_false (by decide +kernel)
@[simp] theorem nb_near_source : (("near" : Str) == ("source" : Str)) = false := by decide +kernel
@[simp] theorem ne_near_source : (("near" : Str) = ("source" : Str)) = False := eq_false (by decide +kernel)
@[simp] theorem nb_near_moment : (("near" : Str) == ("moment" : Str)) = false := by decide +kernel
@[simp] theorem ne_near_moment : (("near" : Str) = ("moment" : Str)) = False := eq_false (by decide +kernel)
@[simp] theorem nb_near_kind : (("near" : Str) == ("kind" : Str)) = false := by decide +kernel
@[simp] theorem ne_near_kind : (("near" : Str) = ("kind" : Str)) = False := eq_false (by decide +kernel)
@[simp] theorem nb_near_low : (("near" : Str) == ("low" : Str)) = false := by decide +kernel
@[simp] theorem ne_near_low : (("near" : Str) = ("low" : Str)) = False := eq_false (by decide +kernel)
@[simp] theorem nb_near_high : (("near" : Str) == ("high" : Str)) = false := by decide +kernel
@[simp] theorem ne_near_high : (("near" : Str) = ("high" : Str)) = False := eq_false (by decide +kernel)
@[simp] theorem nb_near_late : (("near" : Str) == ("late" : Str)) = false := by decide +kernel
@[simp] theorem ne_near_late : (("near" : Str) = ("late" : Str)) = False := eq_false (by decide +kernel)
@[simp] theorem nb_moment_root : (("moment" : Str) == ("root" : Str)) = false := by decide +kernel
@[simp] theorem ne_moment_root : (("moment" : Str) = ("root" : Str)) = False := eq_false (by decide +kernel)
@[simp] theorem nb_moment_liars : (("moment" : Str) == ("liars" : Str)) = false := by decide +kernel
@[simp] theorem ne_moment_liars : (("moment" : Str) = ("liars" : Str)) = False := eq_false (by decide +kernel)
@[simp] theorem nb_moment_share : (("moment" : Str) == ("share" : Str)) = false := by decide +kernel
@[simp] theorem ne_moment_share : (("moment" : Str) = ("share" : Str)) = False := eq_false (by decide +kernel)
@[simp] theorem nb_moment_earliest : (("moment" : Str) == ("earliest" : Str)) = false := by decide +kernel
@[simp] theorem ne_moment_earliest : (("moment" : Str) = ("earliest" : Str)) = False := eq_false (by decide +kernel)
@[simp] theorem nb_moment_latest : (("moment" : Str) == ("latest" : Str)) = false := by decide +kernel
@[simp] theorem ne_moment_latest : (("moment" : Str) = ("latest" : Str)) = False := eq_false (by decide +kernel)
@[simp] theorem nb_root_moment : (("root" : Str) == ("moment" : Str)) = false := by decide +kernel
@[simp] theorem ne_root_moment : (("root" : Str) = ("moment" : Str)) = False := eq_false (by decide +kernel)
@[simp] theorem nb_root_liars : (("root" : Str) == ("liars" : Str)) = false := by decide +kernel
@[simp] theorem ne_root_liars : (("root" : Str) = ("liars" : Str)) = False := eq_false (by decide +kernel)
@[simp] theorem nb_root_share : (("root" : Str) == ("share" : Str)) = false := by decide +kernel
@[simp] theorem ne_root_share : (("root" : Str) = ("share" : Str)) = False := eq_false (by decide +kernel)
@[simp] theorem nb_root_earliest : (("root" : Str) == ("earliest" : Str)) = false := by decide +kernel
@[simp] theorem ne_root_earliest : (("root" : Str) = ("earliest" : Str)) = False := eq_false (by decide +kernel)
@[simp] theorem nb_root_latest : (("root" : Str) == ("latest" : Str)) = false := by decide +kernel
@[simp] theorem ne_root_latest : (("root" : Str) = ("latest" : Str)) = False := eq_false (by decide +kernel)
@[simp] theorem nb_liars_moment : (("liars" : Str) == ("moment" : Str)) = false := by decide +kernel
@[simp] theorem ne_liars_moment : (("liars" : Str) = ("moment" : Str)) = False := eq_false (by decide +kernel)
@[simp] theorem nb_liars_root : (("liars" : Str) == ("root" : Str)) = false := by decide +kernel
@[simp] theorem ne_liars_root : (("liars" : Str) = ("root" : Str)) = False := eq_false (by decide +kernel)
@[simp] theorem nb_liars_share : (("liars" : Str) == ("share" : Str)) = false := by decide +kernel
@[simp] theorem ne_liars_share : (("liars" : Str) = ("share" : Str)) = False := eq_false (by decide +kernel)
@[simp] theorem nb_liars_earliest : (("liars" : Str) == ("earliest" : Str)) = false := by decide +kernel
@[simp] theorem ne_liars_earliest : (("liars" : Str) = ("earliest" : Str)) = False := eq_false (by decide +kernel)
@[simp] theorem nb_liars_latest : (("liars" : Str) == ("latest" : Str)) = false := by decide +kernel
@[simp] theorem ne_liars_latest : (("liars" : Str) = ("latest" : Str)) = False := eq_false (by decide +kernel)
@[simp] theorem nb_share_moment : (("share" : Str) == ("moment" : Str)) = false := by decide +kernel
@[simp] theorem ne_share_moment : (("share" : Str) = ("moment" : Str)) = False := eq_false (by decide +kernel)
@[simp] theorem nb_share_root : (("share" : Str) == ("root" : Str)) = false := by decide +kernel
@[simp] theorem ne_share_root : (("share" : Str) = ("root" : Str)) = False := eq_false (by decide +kernel)
@[simp] theorem nb_share_liars : (("share" : Str) == ("liars" : Str)) = false := by decide +kernel
@[simp] theorem ne_share_liars : (("share" : Str) = ("liars" : Str)) = False := eq_false (by decide +kernel)
@[simp] theorem nb_share_earliest : (("share" : Str) == ("earliest" : Str)) = false := by decide +kernel
@[simp] theorem ne_share_earliest : (("share" : Str) = ("earliest" : Str)) = False := eq_false (by decide +kernel)
@[simp] theorem nb_share_latest : (("share" : Str) == ("latest" : Str)) = false := by decide +kernel
@[simp] theorem ne_share_latest : (("share" : Str) = ("latest" : Str)) = False := eq_false (by decide +kernel)
@[simp] theorem nb_earliest_moment : (("earliest" : Str) == ("moment" : Str)) = false := by decide +kernel
@[simp] theorem ne_earliest_moment : (("earliest" : Str) = ("moment" : Str)) = False := eq_false (by decide +kernel)
@[simp] theorem nb_earliest_root : (("earliest" : Str) == ("root" : Str)) = false := by decide +kernel
@[simp] theorem ne_earliest_root : (("earliest" : Str) = ("root" : Str)) = False := eq_false (by decide +kernel)
@[simp] theorem nb_earliest_liars : (("earliest" : Str) == ("liars" : Str)) = false := by decide +kernel
@[simp] theorem ne_earliest_liars : (("earliest" : Str) = ("liars" : Str)) = False := eq_false (by decide +kernel)
@[simp] theorem nb_earliest_share : (("earliest" : Str) == ("share" : Str)) = false := by decide +kernel
@[simp] theorem ne_earliest_share : (("earliest" : Str) = ("share" : Str)) = False := eq_false (by decide +kernel)
@[simp] theorem nb_earliest_latest : (("earliest" : Str) == ("latest" : Str)) = false := by decide +kernel
@[simp] theorem ne_earliest_latest : (("earliest" : Str) = ("latest" : Str)) = False := eq_false (by decide +kernel)
@[simp] theorem nb_latest_moment : (("latest" : Str) == ("moment" : Str)) = false := by decide +kernel
@[simp] theorem ne_latest_moment : (("latest" : Str) = ("moment" : Str)) = False := eq_false (by decide +kernel)
@[simp] theorem nb_latest_root : (("latest" : Str) == ("root" : Str)) = false := by decide +kernel
@[simp] theorem ne_latest_root : (("latest" : Str) = ("root" : Str)) = False := eq_false (by decide +kernel)
@[simp] theorem nb_latest_liars : (("latest" : Str) == ("liars" : Str)) = false := by decide +kernel
@[simp] theorem ne_latest_liars : (("latest" : Str) = ("liars" : Str)) = False := eq_false (by decide +kernel)
@[simp] theorem nb_latest_share : (("latest" : Str) == ("share" : Str)) = false := by decide +kernel
@[simp] theorem ne_latest_share : (("latest" : Str) = ("share" : Str)) = False := eq_false (by decide +kernel)
@[simp] theorem nb_latest_earliest : (("latest" : Str) == ("earliest" : Str)) = false := by decide +kernel
@[simp] theorem ne_latest_earliest : (("latest" : Str) = ("earliest" : Str)) = False := eq_false (by decide +kernel)
@[simp] theorem nb_moment_cover : (("moment" : Str) == ("cover" : Str)) = false := by decide +kernel
@[simp] theorem ne_moment_cover : (("moment" : Str) = ("cover" : Str)) = False := eq_false (by decide +kernel)
@[simp] theorem nb_moment_used : (("moment" : Str) == ("used" : Str)) = false := by decide +kernel
@[simp] theorem ne_moment_used : (("moment" : Str) = ("used" : Str)) = False := eq_false (by decide +kernel)
@[simp] theorem nb_cover_moment : (("cover" : Str) == ("moment" : Str)) = false := by decide +kernel
@[simp] theorem ne_cover_moment : (("cover" : Str) = ("moment" : Str)) = False := eq_false (by decide +kernel)
@[simp] theorem nb_cover_used : (("cover" : Str) == ("used" : Str)) = false := by decide +kernel
@[simp] theorem ne_cover_used : (("cover" : Str) = ("used" : Str)) = False := eq_false (by decide +kernel)
@[simp] theorem nb_used_moment : (("used" : Str) == ("moment" : Str)) = false := by decide +kernel
@[simp] theorem ne_used_moment : (("used" : Str) = ("moment" : Str)) = False := eq_false (by decide +kernel)
@[simp] theorem nb_used_cover : (("used" : Str) == ("cover" : Str)) = false := by decide +kernel
@[simp] theorem ne_used_cover : (("used" : Str) = ("cover" : Str)) = False := eq_false (by decide +kernel)
@[simp] theorem nb_setting_table : (("setting" : Str) == ("table" : Str)) = false := by decide +kernel
@[simp] theorem ne_setting_table : (("setting" : Str) = ("table" : Str)) = False := eq_false (by decide +kernel)
@[simp] theorem nb_setting_held : (("setting" : Str) == ("held" : Str)) = false := by decide +kernel
@[simp] theorem ne_setting_held : (("setting" : Str) = ("held" : Str)) = False := eq_false (by decide +kernel)
@[simp] theorem nb_setting_keep : (("setting" : Str) == ("keep" : Str)) = false := by decide +kernel
@[simp] theorem ne_setting_keep : (("setting" : Str) = ("keep" : Str)) = False := eq_false (by decide +kernel)
@[simp] theorem nb_setting_moment : (("setting" : Str) == ("moment" : Str)) = false := by decide +kernel
@[simp] theorem ne_setting_moment : (("setting" : Str) = ("moment" : Str)) = False := eq_false (by decide +kernel)
@[simp] theorem nb_table_setting : (("table" : Str) == ("setting" : Str)) = false := by decide +kernel
@[simp] theorem ne_table_setting : (("table" : Str) = ("setting" : Str)) = False := eq_false (by decide +kernel)
@[simp] theorem nb_table_held : (("table" : Str) == ("held" : Str)) = false := by decide +kernel
@[simp] theorem ne_table_held : (("table" : Str) = ("held" : Str)) = False := eq_false (by decide +kernel)
@[simp] theorem nb_table_keep : (("table" : Str) == ("keep" : Str)) = false := by decide +kernel
@[simp] theorem ne_table_keep : (("table" : Str) = ("keep" : Str)) = False := eq_false (by decide +kernel)
@[simp] theorem nb_table_moment : (("table" : Str) == ("moment" : Str)) = false := by decide +kernel
@[simp] theorem ne_table_moment : (("table" : Str) = ("moment" : Str)) = False := eq_false (by decide +kernel)
@[simp] theorem nb_held_setting : (("held" : Str) == ("setting" : Str)) = false := by decide +kernel
@[simp] theorem ne_held_setting : (("held" : Str) = ("setting" : Str)) = False := eq_false (by decide +kernel)
@[simp] theorem nb_held_table : (("held" : Str) == ("table" : Str)) = false := by decide +kernel
@[simp] theorem ne_held_table : (("held" : Str) = ("table" : Str)) = False := eq_false (by decide +kernel)
@[simp] theorem nb_held_keep : (("held" : Str) == ("keep" : Str)) = false := by decide +kernel
@[simp] theorem ne_held_keep : (("held" : Str) = ("keep" : Str)) = False := eq_false (by decide +kernel)
@[simp] theorem nb_held_moment : (("held" : Str) == ("moment" : Str)) = false := by decide +kernel
@[simp] theorem ne_held_moment : (("held" : Str) = ("moment" : Str)) = False := eq_false (by decide +kernel)
@[simp] theorem nb_keep_setting : (("keep" : Str) == ("setting" : Str)) = false := by decide +kernel
@[simp] theorem ne_keep_setting : (("keep" : Str) = ("setting" : Str)) = False := eq_false (by decide +kernel)
@[simp] theorem nb_keep_table : (("keep" : Str) == ("table" : Str)) = false := by decide +kernel
@[simp] theorem ne_keep_table : (("keep" : Str) = ("table" : Str)) = False := eq_false (by decide +kernel)
@[simp] theorem nb_keep_held : (("keep" : Str) == ("held" : Str)) = false := by decide +kernel
@[simp] theorem ne_keep_held : (("keep" : Str) = ("held" : Str)) = False := eq_false (by decide +kernel)
@[simp] theorem nb_keep_moment : (("keep" : Str) == ("moment" : Str)) = false := by decide +kernel
@[simp] theorem ne_keep_moment : (("keep" : Str) = ("moment" : Str)) = False := eq_false (by decide +kernel)
@[simp] theorem nb_moment_setting : (("moment" : Str) == ("setting" : Str)) = false := by decide +kernel
@[simp] theorem ne_moment_setting : (("moment" : Str) = ("setting" : Str)) = False := eq_false (by decide +kernel)
@[simp] theorem nb_moment_table : (("moment" : Str) == ("table" : Str)) = false := by decide +kernel
@[simp] theorem ne_moment_table : (("moment" : Str) = ("table" : Str)) = False := eq_false (by decide +kernel)
@[simp] theorem nb_moment_held : (("moment" : Str) == ("held" : Str)) = false := by decide +kernel
@[simp] theorem ne_moment_held : (("moment" : Str) = ("held" : Str)) = False := eq_false (by decide +kernel)
@[simp] theorem nb_moment_keep : (("moment" : Str) == ("keep" : Str)) = false := by decide +kernel
@[simp] theorem ne_moment_keep : (("moment" : Str) = ("keep" : Str)) = False := eq_false (by decide +kernel)
@[simp] theorem nb_liars_points : (("liars" : Str) == ("points" : Str)) = false := by decide +kernel
@[simp] theorem ne_liars_points : (("liars" : Str) = ("points" : Str)) = False := eq_false (by decide +kernel)
@[simp] theorem nb_points_liars : (("points" : Str) == ("liars" : Str)) = false := by decide +kernel
@[simp] theorem ne_points_liars : (("points" : Str) = ("liars" : Str)) = False := eq_false (by decide +kernel)
noncomputable def F_root_up : FA := fnP 2 (sSeq (sAsg (mCall bIsqrt (aCons (mVar 0) aNil)) (gNm 1))
  (sSeq (sIf (mB (mBin fLt (mBin fMul (mVar 1) (mVar 1)) (mVar 0))) (sRet (mBin fAdd (mVar 1) (mCst (.int 1)))) sNil)
  (sRet (mVar 1))))
noncomputable abbrev C_is_name_1 (live : Bool) : M D := mLc live (iAny (mVar 0)) [1] (gNm 1) cYes (mBin (fIn false) (mVar 1) (mCst (.str "abcdefghijklmnopqrstuvwxyz0123456789_-")))
noncomputable def F_is_name : FA := fnP 2 (sRet (mAnd (mCh2 fLe fLe (mCst (.int 1)) (mCall bLen (aCons (mVar 0) aNil)) (mCst (.int 64))) (mCall bAll (aCons (C_is_name_1 false) aNil))))
noncomputable abbrev C_all_within_1 (live : Bool) : M D := mLc live (iAny (mVar 0)) [3] (gNm 3) cYes (mCh2 fLe fLe (mVar 1) (mVar 3) (mVar 2))
noncomputable def F_all_within : FA := fnP 4 (sRet (mCall bAll (aCons (C_all_within_1 false) aNil)))
noncomputable abbrev C_sides_within_1 (live : Bool) : M D := mLc live (iAny (mVar 0)) [2, 3] (gTp 2 (gsCons (gNm 2) (gsCons (gNm 3) gsNil))) cYes (mCh3 fLe fLe fLe (mNeg (mVar 1)) (mVar 2) (mVar 3) (mVar 1))
noncomputable def F_sides_within : FA := fnP 4 (sRet (mCall bAll (aCons (C_sides_within_1 false) aNil)))
noncomputable abbrev C__direction_holds_1 (live : Bool) : M D := mLc live (iAny (mVar 0)) [1] (gNm 1) cYes (mBin fNe (mVar 1) (mCst (.int 0)))
noncomputable def F__direction_holds : FA := fnP 2 (sRet (mAnd (mFn 3 F_all_within (aCons (mVar 0) (aCons (mNeg (mCst (.int 1000))) (aCons (mCst (.int 1000)) aNil)))) (mCall bAny (aCons (C__direction_holds_1 false) aNil))))
noncomputable abbrev C__boxes_hold_1 (live : Bool) : M D := mLc live (iAny (mVar 0)) [1] (gNm 1) cYes (mFn 2 F_sides_within (aCons (mVar 1) (aCons (mCst (.int 1000000000000)) aNil)))
noncomputable def F__boxes_hold : FA := fnP 2 (sRet (mAnd (mCh2 fLe fLe (mCst (.int 1)) (mCall bLen (aCons (mVar 0) aNil)) (mCst (.int 16))) (mCall bAll (aCons (C__boxes_hold_1 false) aNil))))
noncomputable abbrev C__kind_holds_1 (live : Bool) : M D := mLc live (iAny (mSl (mVar 0) (pYes (mCst (.int 1))) pNo)) [1] (gNm 1) cYes (mFn 3 F_all_within (aCons (mVar 1) (aCons (mNeg (mCst (.int 1000000000000))) (aCons (mCst (.int 1000000000000)) aNil))))
noncomputable def F__kind_holds : FA := fnP 2 (sSeq (sIf (mB (mBin (fIn false) (mBin fIx (mVar 0) (mCst (.int 0))) (mTup (aCons (mCst (.str "range")) (aCons (mCst (.str "clocked")) (aCons (mCst (.str "differ")) (aCons (mCst (.str "piece")) aNil))))))) (sRet (mCall bAll (aCons (C__kind_holds_1 false) aNil))) sNil)
  (sSeq (sIf (mB (mBin fEq (mBin fIx (mVar 0) (mCst (.int 0))) (mCst (.str "side")))) (sRet (mFn 1 F__direction_holds (aCons (mBin fIx (mVar 0) (mCst (.int 1))) aNil))) sNil)
  (sRet (mAnd (mBin fEq (mBin fIx (mVar 0) (mCst (.int 0))) (mCst (.str "boxes"))) (mFn 1 F__boxes_hold (aCons (mBin fIx (mVar 0) (mCst (.int 1))) aNil))))))
noncomputable def F_Reading__init__ : FA := fnR 8 (sSeq (sIf (tmNot (mTru (mFn 1 F_is_name (aCons (mVar 1) aNil)))) sStuck sNil)
  (sSeq (sIf (tmNot (mB (mCh2 fLe fLe (mNeg (mCst (.int 1000000000000))) (mVar 2) (mCst (.int 1000000000000))))) sStuck sNil)
  (sSeq (sIf (tmNot (mTru (mFn 1 F__kind_holds (aCons (mVar 3) aNil)))) sStuck sNil)
  (sSeq (sIf (tmNot (mB (mCh3 fLe fLe fLe (mNeg (mCst (.int 1000000000000000))) (mVar 4) (mVar 5) (mCst (.int 1000000000000000))))) sStuck sNil)
  (sSeq (sIf (tmNot (mTru (mFn 3 F_all_within (aCons (mTup (aCons (mVar 6) (aCons (mVar 7) aNil))) (aCons (mCst (.int 0)) (aCons (mCst (.int 1000000000000)) aNil)))))) sStuck sNil)
  (sSeq (sPut "source" (mVar 1) (mVar 0))
  (sSeq (sPut "moment" (mVar 2) (mVar 0))
  (sSeq (sPut "kind" (mVar 3) (mVar 0))
  (sSeq (sPut "low" (mVar 4) (mVar 0))
  (sSeq (sPut "high" (mVar 5) (mVar 0))
  (sSeq (sPut "late" (mVar 6) (mVar 0))
  (sPut "near" (mVar 7) (mVar 0)))))))))))))
noncomputable def F_Reading__eq__ : FA := fnP 2 (sRet (mAnd (mIsi "Reading" (mVar 1)) (mAnd (mBin fEq (mFld "source" (mVar 0)) (mFld "source" (mVar 1))) (mAnd (mBin fEq (mFld "moment" (mVar 0)) (mFld "moment" (mVar 1))) (mAnd (mBin fEq (mFld "kind" (mVar 0)) (mFld "kind" (mVar 1))) (mAnd (mBin fEq (mFld "low" (mVar 0)) (mFld "low" (mVar 1))) (mAnd (mBin fEq (mFld "high" (mVar 0)) (mFld "high" (mVar 1))) (mAnd (mBin fEq (mFld "late" (mVar 0)) (mFld "late" (mVar 1))) (mBin fEq (mFld "near" (mVar 0)) (mFld "near" (mVar 1)))))))))))
noncomputable abbrev C_dot_1 (live : Bool) : M D := mLc live (iZip2 (aCons (mVar 0) (aCons (mVar 1) aNil))) [2, 3] (gTp 2 (gsCons (gNm 2) (gsCons (gNm 3) gsNil))) cYes (mBin fMul (mVar 2) (mVar 3))
noncomputable def F_dot : FA := fnP 4 (sRet (mCall bSum (aCons (C_dot_1 false) aNil)))
noncomputable def F_rate : FA := fnP 1 (sSeq (sIf (mB (mBin fEq (mBin fIx (mVar 0) (mCst (.int 0))) (mCst (.str "differ")))) (sRet (mCst (.int 2))) sNil)
  (sSeq (sIf (mB (mBin fEq (mBin fIx (mVar 0) (mCst (.int 0))) (mCst (.str "side")))) (sRet (mFn 1 F_root_up (aCons (mFn 2 F_dot (aCons (mBin fIx (mVar 0) (mCst (.int 1))) (aCons (mBin fIx (mVar 0) (mCst (.int 1))) aNil))) aNil))) sNil)
  (sRet (mCst (.int 1)))))
noncomputable abbrev B__law_rows_1 : SM := (sSeq (sAsg (mCst (.int 0)) (gNm 4))
  (sSeq (sIf (mB (mBin fGt (mCall bLen (aCons (mVar 0) aNil)) (mCst (.int 0)))) (sAsg (mCall bInt (aCons (mBin fIx (mVar 0) (mBin fMod (mCall bInt (aCons (mVar 3) aNil)) (mCall bLen (aCons (mVar 0) aNil)))) aNil)) (gNm 4)) sNil)
  (sSeq (sIf (mB (mBin fLt (mVar 4) (mCst (.int 0)))) (sAsg (mBin fSub (mCst (.int 1)) (mBin fMul (mCst (.int 2)) (mVar 4))) (gNm 4)) sNil)
  (sSeq (sIf (tmOr (mB (mBin fGe (mVar 3) (mCall bLen (aCons (mVar 0) aNil)))) (mB (mBin fLt (mVar 4) (mCst (.int 1000000000))))) (sSeq (sAsg (mBin fMod (mCall bInt (aCons (mBin fAdd (mBin fMul (mBin fAdd (mBin fAdd (mVar 4) (mBin fMul (mCst (.int 131)) (mVar 3))) (mCst (.int 7))) (mCst (.int 48271))) (mBin fMul (mBin fMul (mVar 3) (mVar 3)) (mCst (.int 69621)))) aNil)) (mCst (.int 1000000007))) (gNm 4))
  (sAsg (mBin fMod (mCall bInt (aCons (mBin fMul (mBin fAdd (mBin fAdd (mVar 4) (mBin fMul (mCst (.int 17)) (mVar 3))) (mCst (.int 3))) (mCst (.int 2862933555777941757))) aNil)) (mCst (.int 18446744073709551557))) (gNm 4))) sNil)
  (sExp (mBm tyL lAppend (mVar 2) (aCons (mVar 4) aNil)))))))
noncomputable def F__law_rows : FA := fnP 5 (sSeq (sAsg (mLst true aNil) (gNm 2))
  (sSeq (sFor (iRange1 (aCons (mVar 1) aNil)) (gNm 3) B__law_rows_1)
  (sRet (mVar 2))))
end Lib
namespace Lib
open PySem PySem.Spec PyProof.Rows L2 Ev
theorem sz64 {i : Int} (h : i.natAbs < 18446744073709551616) : sz i ≤ 64 := sz_small (n := 64) (by omega) h
/-- the k-th cell of the script -/
def cell0 (ns : List Int) (k : Nat) : Int := if k < ns.length then ns.getD k 0 else 104729 * k + 7919
def cell1 (ns : List Int) (k : Nat) : Int := if cell0 ns k < 0 then 1 - 2 * cell0 ns k else cell0 ns k
def numC (k : Int) (c : Int) : Int := if c < 1000000000 then ((c * 48271 + k * 69621 + 7) % 2147483647) * 2147483563 + ((((c * 48271 + k * 69621 + 7) % 2147483647) * 16807 + k * 40692 + 13) % 2147483563) else c
def num (ns : List Int) (k : Nat) : Int := numC k (cell1 ns k)
def Sc (ns : List Int) : D := .klst (ns.map D.int)
/-- scripts of the law -/
def Okn (ns : List Int) : Prop := ns.length ≤ 63 ∧ ∀ z ∈ ns, sz z ≤ 1048576
theorem lit2 : sz 2 = 1 := by decide
theorem lit1 : sz 1 = 0 := by decide
theorem bits_sz {z : Int} (h : Builtin.Int.intBits z ≤ 1048576) : sz z ≤ 1048576 := by
  unfold Builtin.Int.intBits at h
  unfold sz
  split at h
  · rename_i c
    have : z.natAbs = 0 := by
      first | omega | simpa using c
    rw [this]
    decide
  · omega
theorem l2 : Nat.log2 2 < 9000 := by decide
theorem lg {n : Nat} (h : n < 18446744073709551616) : Nat.log2 n < 9000 := by
  have := sz64 (i := (n : Int)) (by omega)
  unfold sz at this
  simp at this
  omega
/-- sides, boxes -/
def sideD (s : Int × Int) : D := .tup [.int s.1, .int s.2]
def boxD (b : List (Int × Int)) : D := .tup (b.map sideD)
theorem clean_side (s : Int × Int) : clean (sideD s) := clean_tup (by simp [clean_int])
theorem clean_box (b : List (Int × Int)) : clean (boxD b) := clean_tup fun d hd => by
  obtain ⟨s, _, rfl⟩ := List.mem_map.mp hd
  exact clean_side s
theorem rng_get {n i : Nat} (h : i < (rngD 0 n).length) : (rngD 0 n)[i] = .int (i : Nat) := by simp [rngD]
theorem lcE_ty {α : Type} (asg : TF) (cond : M Bool) (elt : M D) (envw : EN) (h : HP) (f G : α → D) (p : α → Bool) : ∀ (xs : List α) (acc : List D), acc.length + xs.length ≤ sizeLine →
    (∀ x ∈ xs, ∀ h' : HP, ∃ e, asg (f x) envw h' = some e ∧ cond e h' = .ok (p x) h' ∧ (p x = true → elt e h' = .ok (G x) h')) →
    lcE asg cond elt envw h.length [] (xs.map f) (h ++ [.lst acc]) = .ok () (h ++ [.lst (acc ++ (xs.filter p).map G)])
  | [], acc, _, _ => by
    rw [List.map_nil]
    unfold lcE
    rw [if_pos (by simp [Gd])]
    simp
  | d :: ds, acc, hz, H => by
    rw [List.map_cons]
    unfold lcE
    rw [if_pos (by simp [Gd])]
    obtain ⟨e, e1, e2, e3⟩ := H d (List.mem_cons_self ..) (h ++ [.lst acc])
    simp only [e1, e2, R.nx, R.bind]
    cases q : p d with
    | true =>
      have hz' : acc.length < sizeLine := by simp only [List.length_cons] at hz; omega
      simp only [if_true, e3 q, R.nx, R.bind, appL_last h hz']
      rw [lcE_ty asg cond elt envw h f G p ds (acc ++ [G d]) (by simp only [List.length_append, List.length_cons, List.length_nil] at hz ⊢; omega) fun d' hd h' => H d' (List.mem_cons_of_mem _ hd) h']
      simp [List.filter_cons, q]
    | false =>
      simp only [if_neg Bool.false_ne_true]
      rw [lcE_ty asg cond elt envw h f G p ds acc (by simp only [List.length_cons] at hz; omega) fun d' hd h' => H d' (List.mem_cons_of_mem _ hd) h']
      simp [List.filter_cons, q]
theorem mLc_tyF {α : Type} {it : IM} {own : List Nat} {asg : TF} {cond : M Bool} {elt : M D} {env : EN} {h h1 : HP} (xs : List α) (f G : α → D) (p : α → Bool) (hi : it env h = .ok (xs.map f, []) h1) (hz : xs.length ≤ 16000000)
    (H : ∀ x ∈ xs, ∀ h' : HP, ∃ e, asg (f x) (wipeE env own) h' = some e ∧ cond e h' = .ok (p x) h' ∧ (p x = true → elt e h' = .ok (G x) h')) (c : ∀ x ∈ xs, p x = true → clean (G x)) :
    mLc false it own asg cond elt env h = .ok (.lst ((xs.filter p).map G)) h1 := by
  unfold mLc
  rw [hi]
  simp only [R.bind]
  rw [lcE_ty asg cond elt _ h1 f G p xs [] (by have := sizeLine_eq; simp only [List.length_nil]; omega) H]
  simp only [List.nil_append, outL, if_neg Bool.false_ne_true]
  exact pure_list h1 (by
    intro d hd
    obtain ⟨x, hx, rfl⟩ := List.mem_map.mp hd
    obtain ⟨h1, h2⟩ := List.mem_filter.mp hx
    exact c x h1 h2)
theorem mLc_ty {α : Type} {it : IM} {own : List Nat} {asg : TF} {elt : M D} {env : EN} {h h1 : HP} (xs : List α) (f G : α → D) (hi : it env h = .ok (xs.map f, []) h1) (hz : xs.length ≤ 16000000)
    (H : ∀ x ∈ xs, ∀ h' : HP, ∃ e, asg (f x) (wipeE env own) h' = some e ∧ elt e h' = .ok (G x) h') (c : ∀ x ∈ xs, clean (G x)) :
    mLc false it own asg cYes elt env h = .ok (.lst (xs.map G)) h1 := by
  have := mLc_tyF (cond := cYes) xs f G (fun _ => true) hi hz (fun d hd h' => let ⟨e, e1, e2⟩ := H d hd h'; ⟨e, e1, rfl, fun _ => e2⟩) fun d hd _ => c d hd
  rw [this, List.filter_eq_self.mpr (fun _ _ => rfl)]
/-- a loop over a range -/
theorem for_rng {asg : TF} {body : SM} (I : Nat → EN → HP → Prop) {n : Nat}
    (hs : ∀ i env h, i < n → I i env h → ∃ e, asg (.int (i : Nat)) env h = some e ∧ ∃ env' h', (body e h = .nx env' h' ∨ body e h = .ct env' h') ∧ I (i + 1) env' h')
    {env : EN} {h : HP} (h0 : I 0 env h) : ∃ env' h', forE asg body [] (rngD 0 n) env h = .nx env' h' ∧ I n env' h' := by
  obtain ⟨env', h', e, H⟩ := forE_inv (gd := []) (asg := asg) (items := rngD 0 n) (body := body) I (fun i env h _ => by simp) (fun i env h hi hI => by
    rw [rngD_len] at hi
    obtain ⟨e, e1, e2⟩ := hs i env h hi hI
    exact ⟨e, by rw [rng_get]; exact e1, e2⟩) h0
  rw [rngD_len] at H
  exact ⟨env', h', e, H⟩
/-- a loop over a typed list -/
theorem for_ty {α : Type} {asg : TF} {body : SM} {gd : GdL} (I : Nat → EN → HP → Prop) (xs : List α) (f : α → D) (hg : ∀ i env h, I i env h → Gd gd h)
    (hs : ∀ i env h (hi : i < xs.length), I i env h → ∃ e, asg (f xs[i]) env h = some e ∧ ∃ env' h', (body e h = .nx env' h' ∨ body e h = .ct env' h') ∧ I (i + 1) env' h')
    {env : EN} {h : HP} (h0 : I 0 env h) : ∃ env' h', forE asg body gd (xs.map f) env h = .nx env' h' ∧ I xs.length env' h' := by
  obtain ⟨env', h', e, H⟩ := forE_inv (gd := gd) (asg := asg) (items := xs.map f) (body := body) I hg (fun i env h hi hI => by
    have hi' : i < xs.length := by simpa using hi
    obtain ⟨e, e1, e2⟩ := hs i env h hi' hI
    exact ⟨e, by simpa using e1, e2⟩) h0
  rw [List.length_map] at H
  exact ⟨env', h', e, H⟩
theorem sh_int (k : Int) : SeqAt.shaped (.int k) = true := by simp [SeqAt.shaped, PyData.canLay0, PyData.depth]
theorem at_int {b : List Int} {i : Nat} (hi : i < b.length) : atI (b.map D.int) (i : Int) = some (.int b[i]) := by
  simp [atI, ixN, hi]
@[simp] theorem at2_0 (x y : D) : atI [x, y] 0 = some x := by simp [atI, ixN]
@[simp] theorem at2_1 (x y : D) : atI [x, y] 1 = some y := by simp [atI, ixN]
def Shp (n : Nat) (p : PyData) : Prop := p.canLay0 = true ∧ p.depth ≤ n
theorem Shp.int (n : Nat) (i : Int) : Shp n (.int i) := ⟨by simp [PyData.canLay0], by simp [PyData.depth]⟩
theorem Shp.bool (n : Nat) (i : Bool) : Shp n (.bool i) := ⟨by simp [PyData.canLay0], by simp [PyData.depth]⟩
theorem Shp.none (n : Nat) : Shp n .none := ⟨by simp [PyData.canLay0], by simp [PyData.depth]⟩
theorem Shp.all {n : Nat} : ∀ {ps : List PyData}, (∀ p ∈ ps, Shp n p) → PyData.canLayAll0 ps = true ∧ PyData.depthAll ps ≤ n
  | [], _ => ⟨by simp [PyData.canLayAll0], by simp [PyData.depthAll]⟩
  | p :: ps, h => by
    have h1 := h p (List.mem_cons_self ..)
    have h2 := Shp.all (ps := ps) fun q hq => h q (List.mem_cons_of_mem _ hq)
    refine ⟨by simp [PyData.canLayAll0, h1.1, h2.1], ?_⟩
    simp only [PyData.depthAll]
    have := h1.2
    have := h2.2
    omega
theorem Shp.tup {n : Nat} {ps : List PyData} (h : ∀ p ∈ ps, Shp n p) : Shp (n + 1) (.tuple ps) := by
  have := Shp.all h
  exact ⟨by simp [PyData.canLay0, this.1], by simp only [PyData.depth]; omega⟩
theorem Shp.list {n : Nat} {ps : List PyData} (h : ∀ p ∈ ps, Shp n p) : Shp (n + 1) (.list ps) := by
  have := Shp.all h
  exact ⟨by simp [PyData.canLay0, this.1], by simp only [PyData.depth]; omega⟩
theorem Shp.ok {n : Nat} {p : PyData} (h : Shp n p) (hn : n ≤ 64) : SeqAt.shaped p = true := by
  unfold SeqAt.shaped
  rw [h.1, decide_eq_true (by have := h.2; omega)]
  rfl
theorem Shp.self {n : Nat} {p : PyData} (h : Shp n p) : PyData.eqv p p = true := PySem.SeqAt.eqv_refl p h.1
theorem toPs_map {α : Type} (f : α → D) (q : α → PyData) : ∀ (xs : List α), (∀ x ∈ xs, toP (f x) = some (q x)) → toPs (xs.map f) = some (xs.map q)
  | [], _ => by simp
  | x :: xs, h => by
    have h1 := h x (List.mem_cons_self ..)
    have h2 := toPs_map f q xs fun y hy => h y (List.mem_cons_of_mem _ hy)
    simp [h1, h2]
def sidePy (s : Int × Int) : PyData := .tuple [.int s.1, .int s.2]
def boxPy (b : List (Int × Int)) : PyData := .tuple (b.map sidePy)
theorem toP_side (s : Int × Int) : toP (sideD s) = some (sidePy s) := by simp [sideD, sidePy]
theorem toP_box (b : List (Int × Int)) : toP (boxD b) = some (boxPy b) := by
  have := toPs_map sideD sidePy b fun s _ => toP_side s
  simp [boxD, boxPy, this]
theorem Shp.side (s : Int × Int) : Shp 1 (sidePy s) := Shp.tup fun p hp => by
  simp only [List.mem_cons, List.not_mem_nil, or_false] at hp
  rcases hp with rfl | rfl <;> exact Shp.int _ _
theorem Shp.box (b : List (Int × Int)) : Shp 2 (boxPy b) := Shp.tup fun p hp => by
  obtain ⟨s, _, rfl⟩ := List.mem_map.mp hp
  exact Shp.side s
theorem cut_from {xs : List D} {i : Nat} (hi : i ≤ xs.length) : Ev.cutD xs (some (i : Int)) none = xs.drop i := by
  unfold Ev.cutD
  rw [HT.sIx_none, HT.sIx_nat, Nat.min_eq_left hi]
  exact List.take_of_length_le (by simp)
end Lib
namespace EvQ
open PySem PySem.SeqAt GQ
open AutoSeq1 (wpAny_loadPart')
open MeetsSeq MeetsSeq2 MeetsSeq3 SeqRoads2
section
variable {prog : Program} {w : World} {A : Around} {R : Result → Shared → Prop}
theorem ne_loopG (l b : Addr) (N : Nat) (I : Nat → Shared → Prop) (hl : ListI prog w A (fun e s' => R (.error e) s') l b N I)
    (fin : ∀ s, I N s → R (.ok (.ret (.bool false))) s) (k : Nat) :
    ∀ i : Nat, N - i = k → i ≤ N → ∀ s, I i s →
      wpAny (model prog w) A.in1 (Builtin.«list.__eq__.loop» ⟨[.ref l, .ref b, rawInt i, rawInt 3], []⟩) (FinOf prog w A R) (fun e s' => R (.error e) s') s := by
  induction k with
  | zero =>
    intro i hk hi s h
    obtain ⟨items, items2, n, n2, hl1, hb1, hs1, hs2, _⟩ := hl _ _ h
    have hi' : i = N := by omega
    have hR : R (.ok (.ret (.bool false))) s := fin s (hi' ▸ h)
    obtain ⟨hp, g, d, tk, os⟩ := s
    wp_walk using wpAny_loadPart' hl1, wpAny_loadPart' hb1
    have hi1 : items[((i : Nat) : Int).toNat]? = none := by simp; omega
    have hi2 : items2[((i : Nat) : Int).toNat]? = none := by simp; omega
    rw [hi1, hi2]
    wp_walk using wpAny_loadPart' hl1, wpAny_loadPart' hb1
    show R (.ok (.ret (.bool (items.size != items2.size)))) _
    rw [hs1, hs2]
    simpa using hR
  | succ k ih =>
    intro i hk hi s h
    obtain ⟨items, items2, n, n2, hl1, hb1, hs1, hs2, turn⟩ := hl _ _ h
    have hlt : i < items.size := by omega
    have hlt2 : i < items2.size := by omega
    have ht := turn hlt hlt2
    obtain ⟨hp, g, d, tk, os⟩ := s
    wp_walk using wpAny_loadPart' hl1, wpAny_loadPart' hb1
    have hi1 : items[((i : Nat) : Int).toNat]? = some items[i] := by simp [hlt]
    have hi2 : items2[((i : Nat) : Int).toNat]? = some items2[i] := by simp [hlt2]
    have hc : ((i : Int) + 1) = ((i + 1 : Nat) : Int) := by omega
    rw [hi1, hi2]
    refine wpAny_bind (wpAny_mono ht (fun r s2 h2 => ?_) fun _ _ x => x)
    obtain ⟨hr, h2⟩ := h2
    subst hr
    have hrec := ih (i + 1) (by omega) (by omega) s2 h2
    obtain ⟨hp2, g2, d2, tk2, os2⟩ := s2
    wp_walk
    rw [hc]
    exact ⟨plainId_quiet plain_eq_loop _, codeAny_builtin entry_eq_loop (by
      rw [Around.under_plainId plain_eq_loop _]
      exact hrec)⟩
theorem list_neG (l b : Addr) (N : Nat) (I : Nat → Shared → Prop) (hl : ListI prog w A (fun e s' => R (.error e) s') l b N I)
    (fin : ∀ s, I N s → R (.ok (.ret (.bool false))) s) {s : Shared} (h : I 0 s) :
    wpAny (model prog w) A.in1 (Builtin.«list.__ne__» ⟨[.ref l, .ref b], []⟩) (FinOf prog w A R) (fun e s' => R (.error e) s') s := by
  obtain ⟨items, items2, n, n2, hl1, hb1, hs1, hs2, _⟩ := hl _ _ h
  have hrec := ne_loopG (A := A) (R := R) l b N I hl fin _ 0 rfl (Nat.zero_le _) s h
  obtain ⟨hp, g, d, tk, os⟩ := s
  have f3 := AutoSeq1.sub_list_list
  have hne : ¬ (items.size != items2.size) = true := by simp [hs1, hs2]
  wp_walk using wpAny_loadPart' hl1, wpAny_loadPart' hb1
  exact ⟨plainId_quiet plain_eq_loop _, codeAny_builtin entry_eq_loop (by
    rw [Around.under_plainId plain_eq_loop _]
    exact hrec)⟩
end
section
variable {prog : Program} {w : World} {A : Around} {E : Value → Shared → Prop} {s : Shared}
theorem rc_neG {l b : Addr} {N : Nat} {Q : Value → Shared → Prop} (hu : A.units < cLine) (I : Nat → Shared → Prop) (hl : ListI prog w A E l b N I)
    (fin : ∀ s, I N s → Q (.bool false) s) (h : I 0 s) : wpAny (model prog w) A (richCompare .NotEq (.ref l) (.ref b)) Q E s := by
  obtain ⟨items, items2, n, n2, hl1, hb1, _, _, _⟩ := hl _ _ h
  refine wpAny_richCompare_same_room (op := .NotEq) ⟨_, hl1, rfl⟩ ⟨_, hb1, rfl⟩ F.slot_list_ne (call_here F.slot_list_ne ⟨_, hl1, rfl⟩ F.entry_list_ne (F.args_list_ne_2 _ _) ?_) hu
  exact list_neG (R := wants (fun v s' => v ≠ .notImplemented ∧ Q v s') E) l b N I hl (fun s' q => ⟨(fun x => nomatch x), fin s' q⟩) h
end
end EvQ
namespace Ev
open PySem PySem.Spec PyProof.Rows L2
section
variable {g : G} {X : Cx} {n : Nat} {hp : HP}
/-- the state has grown, the live objects say what they said -/
def Grown (X : Cx) (g : G) (hp : HP) (pins : List (Addr × Obj)) (σ : L2.St) (m : AM) (H : Hp) (s' : Shared) : Prop := ∃ m' H', Inv X pins σ H' s' ∧ Ex m H m' H' ∧ HL g m' H' hp
/-- two copies of d are seen to be equal -/
def EqN (X : Cx) (g : G) (n : Nat) (hp : HP) (d : D) : Prop :=
  ∀ (A : Around) (pins : List (Addr × Obj)) (s : Shared) (σ : L2.St) (m : AM) (H : Hp) (x y : V) (u v : Value), Sub X n A → Inv X pins σ H s → HL g m H hp → rep g m H d x → rep g m H d y → RelV x u → RelV y v →
    wpAny (model X.prog X.w) A (eqBool u v) (fun r s' => r = true ∧ Grown X g hp pins σ m H s') X.xe s
theorem EqN.mono {n k : Nat} {d : D} (h : EqN X g n hp d) (l : n ≤ k) : EqN X g k hp d := fun A pins s σ m H x y u v sb => h A pins s σ m H x y u v (sb.mono l)
theorem eqN_flat {d : D} (hf : ∀ m H v, rep g m H d v → (flatV v = true ∧ eqV v v = true) ∧ ∀ w, rep g m H d w → w = v) : EqN X g n hp d := by
  intro A pins s σ m H x y u v sb I hl rx ry ru rv
  obtain ⟨⟨f, e⟩, q⟩ := hf m H x rx
  obtain rfl := q y ry
  have z := eqAt_V (A := A) (s := s) ru rv f f
  rw [e] at z
  exact z X.prog X.w X.xe _ ⟨rfl, m, H, I, Ex.refl _ _, hl⟩
theorem eqN_int {i : Int} : EqN X g n hp (.int i) := eqN_flat fun m H v r => by
  simp only [rep] at r
  subst r
  exact ⟨⟨rfl, by simp [eqV]⟩, fun w r => by simpa [rep] using r⟩
theorem eqN_str {i : Str} : EqN X g n hp (.str i) := eqN_flat fun m H v r => by
  simp only [rep] at r
  subst r
  exact ⟨⟨rfl, by simp [eqV]⟩, fun w r => by simpa [rep] using r⟩
theorem eqN_bl {i : Bool} : EqN X g n hp (.bl i) := eqN_flat fun m H v r => by
  simp only [rep] at r
  subst r
  exact ⟨⟨rfl, by simp [eqV]⟩, fun w r => by simpa [rep] using r⟩
theorem eqN_non : EqN X g n hp .non := eqN_flat fun m H v r => by
  simp only [rep] at r
  subst r
  exact ⟨⟨rfl, by simp [eqV]⟩, fun w r => by simpa [rep] using r⟩
theorem turnN (hK : X.K = g.K) {ds : List D} (hd : ∀ d ∈ ds, EqN X g n hp d) {A : Around} (sb : Sub X (n + 1) A) {pins : List (Addr × Obj)} {σ : L2.St} {m m1 : AM} {H H1 : Hp} {xs ys : List V} {its its2 : List Value}
    (r1 : reps g m1 H1 ds xs) (r2 : reps g m1 H1 ds ys) (q1 : Vals xs its) (q2 : Vals ys its2) (s' : Shared) (I1 : Inv X pins σ H1 s') (e1 : Ex m H m1 H1) (hl : HL g m1 H1 hp)
    (i : Nat) (h1 : i < its.toArray.size) (h2 : i < its2.toArray.size) :
    wpAny (model X.prog X.w) A.in1 (eqBool its.toArray[i] its2.toArray[i]) (fun r s2 => r = true ∧ Grown X g hp pins σ m H s2) X.xe s' := by
  have g1 : its[i]? = some its.toArray[i] := by
    have h1' : i < its.length := by simpa using h1
    rw [List.getElem?_eq_getElem h1'] <;> simp
  have g2 : its2[i]? = some its2.toArray[i] := by
    have h2' : i < its2.length := by simpa using h2
    rw [List.getElem?_eq_getElem h2'] <;> simp
  have k1 : i < xs.length := by rw [q1.length]; simpa using h1
  have kd : i < ds.length := by rw [r1.length]; exact k1
  obtain ⟨x, ex, rx⟩ := r1.get (List.getElem?_eq_getElem kd)
  obtain ⟨y, ey, ry⟩ := r2.get (List.getElem?_eq_getElem kd)
  obtain ⟨u, hu, ru⟩ := q1.get ex
  obtain ⟨v, hv, rv⟩ := q2.get ey
  rw [g1] at hu
  rw [g2] at hv
  rw [Option.some.inj hu, Option.some.inj hv]
  refine wpAny_mono (hd _ (List.getElem_mem kd) A.in1 pins s' σ m1 H1 x y u v sb.in1 I1 hl rx ry ru rv) (fun r s2 q => ?_) fun _ _ x => x
  obtain ⟨hr, m2, H2, I2, x2, hl2⟩ := q
  exact ⟨hr, m2, H2, I2, e1.trans x2, hl2⟩
theorem eqN_tup (hK : X.K = g.K) {ds : List D} (hd : ∀ d ∈ ds, EqN X g n hp d) : EqN X g (n + 1) hp (.tup ds) := by
  intro A pins s σ m H x y u v sb I hl rx ry ru rv
  obtain ⟨a, xs, rfl, fa, ra⟩ := rTup rx
  obtain ⟨b, ys, rfl, fb, rb⟩ := rTup ry
  rw [← hK] at fa fb
  cases ru
  cases rv
  by_cases hab : a = b
  · subst hab
    exact SeqAt.EqAt.same (A := A) (s := s) (.ref a) X.prog X.w X.xe _ ⟨rfl, m, H, I, Ex.refl _ _, hl⟩
  · refine GQ.eqBool_refG hab ?_
    obtain ⟨its, r, e, z⟩ := I.tuple fa
    obtain ⟨its2, r2, e2, z2⟩ := I.tuple fb
    have hsz : its.toArray.size = its2.toArray.size := by
      rw [List.size_toArray, List.size_toArray, ← r.length, ← r2.length, ← ra.length, ← rb.length]
    refine GQ.rc_tupG hsz sb.room.units0 (fun _ s' => Grown X g hp pins σ m H s') e e2 (fun i h1 h2 s' q => ?_) (fun s' q => ⟨true, rfl, rfl, q⟩) ⟨m, H, I, Ex.refl _ _, hl⟩
    obtain ⟨m1, H1, I1, e1, hl1⟩ := q
    exact turnN hK hd sb (reps.ext e1 _ _ ra) (reps.ext e1 _ _ rb) r r2 s' I1 e1 hl1 i h1 h2
/-- the own == of a class, at these fields -/
structure OwnQ (X : Cx) (g : G) (CX : CXT) (E : XK) (c n : Nat) (F : FA) (f : Addr) (fd : FuncData) (ps : List Str) : Prop where
  ok : FnOk X.prog X.w X.K X.mg X.base CX n f fd ps (spF g 2 F)
  at_ : PySem.W.findIn X.K (.ref (g.cA c)) "__eq__" = some (some (.ref f))
  fn : PySem.W.isFn X.K (.ref f) = true
  bind : Binds X.K fd ps []
  pass : Passes CX X E
theorem eqN_ins {CX : CXT} {c : Nat} {F : FA} {f : Addr} {fd : FuncData} {ps : List Str} (O : OwnQ X g CX (fun _ _ _ => False) c n F f fd ps) {fs : List (Str × D)} (hF : F [.ins c fs, .ins c fs] hp = .ok (.bl true) hp) : EqN X g n hp (.ins c fs) := by
  intro A pins s σ m H x y u v sb I hl rx ry ru rv
  have rx' := rx
  have ry' := ry
  simp only [rep] at rx ry
  obtain ⟨a, dx, xs, rfl, ha, _, _⟩ := rx
  obtain ⟨b, dy, ys, rfl, hb, _, _⟩ := ry
  cases ru
  cases rv
  by_cases hab : a = b
  · subst hab
    exact SeqAt.EqAt.same (A := A) (s := s) (.ref a) X.prog X.w X.xe _ ⟨rfl, m, H, I, Ex.refl _ _, hl⟩
  · refine GQ.eqBool_refG hab ?_
    obtain ⟨mA, J, _⟩ := ins_get I.hok ha
    obtain ⟨mB, J', _⟩ := ins_get I.hok hb
    obtain ⟨od, J, _⟩ := J.look
    obtain ⟨od', J', _⟩ := J'.look
    obtain ⟨mm, hF'⟩ := I.fr
    refine PySem.W.cmp_K (op := .Eq) (tb := .ref (g.cA c)) sb.room.units0 hF' I.ok.mod.kin J J'.type (by simp [PySem.W.notFirst]) O.at_ O.fn ?_
    have hsp : spF g 2 F [.ref a, .ref b] H (fun v H' => v = .bl true ∧ ∃ m', Ex m H m' H' ∧ HL g m' H' hp) (fun _ _ _ => False) := by
      refine ⟨rfl, m, hp, [.ins c fs, .ins c fs], hl, ?_, ?_⟩
      · exact ⟨_, _, rfl, rx', _, _, rfl, ry', rfl⟩
      · rw [hF]
        intro m' H' v x' hl' rv
        simp only [rep] at rv
        exact ⟨rv, m', x', hl'⟩
    have e0 : Env0 X.prog X.w X.K X.mg X.base A X.stack s H := by
      have e := I.env0
      exact ⟨by rw [sb.fr]; exact e.frames, e.mod, e.bs, e.bsz, e.funs, e.frf, e.hok, e.bare⟩
    have hl2 := O.ok.len _ _ _ _ hsp
    have r2 : Vals [V.ref a, V.ref b] [Value.ref a, Value.ref b] := .cons rfl (.cons rfl .nil)
    refine wpAny_call (codeAny_mono (O.ok.run A X.stack s H ⟨[.ref a, .ref b], []⟩ [.ref a, .ref b] [.ref a, .ref b] _ _ sb.room e0 (by
      have := O.bind s [.ref a, .ref b] I.kIn (by simpa using hl2)
      simpa using this) r2 hsp) fun r s' hq => ?_)
    cases r with
    | error e => exact O.pass pins σ H s e s' I hq
    | ok fl =>
      cases fl with
      | ret w =>
        obtain ⟨z, H', I', rz, ez, m', ex, hl'⟩ := I.after hq
        subst ez
        cases rz
        exact ⟨true, rfl, rfl, m', H', I', ex, hl'⟩
      | next => exact False.elim hq
      | brk => exact False.elim hq
      | cont => exact False.elim hq
/-- what the own == says is equal to itself; F: the classes' own == -/
def owD (F : Nat → FA) (h : HP) : Nat → D → Prop
  | 0, _ => False
  | n + 1, .tup ds => ∀ d ∈ ds, owD F h n d
  | _ + 1, .ins c fs => F c [.ins c fs, .ins c fs] h = .ok (.bl true) h
  | _ + 1, .int _ => True
  | _ + 1, .str _ => True
  | _ + 1, .bl _ => True
  | _ + 1, .non => True
  | _ + 1, _ => False
/-- the classes' own ==, those that are known -/
def Owns (X : Cx) (g : G) (n : Nat) (F : Nat → FA) : Prop := ∀ c, (∃ CX f fd ps, OwnQ X g CX (fun _ _ _ => False) c n (F c) f fd ps) ∨ ∀ ds h, F c ds h = .stuck
theorem owD_ok {F : Nat → FA} {n0 : Nat} (hK : X.K = g.K) (O : Owns X g n0 F) : ∀ (k : Nat) (d : D), owD F hp k d → EqN X g (n0 + k) hp d
  | 0, _, h => (show False from h).elim
  | k + 1, .tup ds, h => eqN_tup hK fun d hd => owD_ok hK O k d (by
      simp only [owD] at h
      exact h d hd)
  | k + 1, .ins c fs, h => by
    simp only [owD] at h
    rcases O c with ⟨CX, f, fd, ps, o⟩ | o
    · exact (eqN_ins o h).mono (by omega)
    · rw [o] at h
      cases h
  | _ + 1, .int _, _ => eqN_int
  | _ + 1, .str _, _ => eqN_str
  | _ + 1, .bl _, _ => eqN_bl
  | _ + 1, .non, _ => eqN_non
  | _ + 1, .lst _, h => by simp [owD] at h
  | _ + 1, .klst _, h => by simp [owD] at h
  | _ + 1, .dic _, h => by simp [owD] at h
  | _ + 1, .set _, h => by simp [owD] at h
  | _ + 1, .ref _, h => by simp [owD] at h
  | _ + 1, .xcp _ _, h => by simp [owD] at h
/-- the items of a list -/
@[simp] def lsD (h : HP) : D → Option (List D)
  | .lst ds => some ds
  | .ref i => match h[i]? with
    | some (.lst ds) => some ds
    | _ => none
  | _ => none
theorem lsD_ok {m : AM} {H : Hp} {d : D} {v : V} {ds : List D} (hl : HL g m H hp) (r : rep g m H d v) (e : lsD hp d = some ds) : ∃ a vs, v = .ref a ∧ H a = some (.lst vs) ∧ reps g m H ds vs := by
  cases d with
  | lst es =>
    simp only [lsD, Option.some.injEq] at e
    subst e
    simp only [rep] at r
    obtain ⟨a, vs, rfl, e, _, rr⟩ := r
    exact ⟨a, vs, rfl, e, rr⟩
  | ref i =>
    simp only [lsD] at e
    split at e
    · rename_i es q
      cases e
      obtain ⟨a, ea, vs, ha, rv⟩ := hl.at q (by simp)
      simp only [rep] at r
      exact ⟨a, vs, r.2 a ea, ha, rv⟩
    · cases e
  | _ => simp [lsD] at e
open Classical in
/-- two lists that say the same -/
@[simp] noncomputable def sameLs (F : Nat → FA) (b : Bool) : Option (List D) → Option (List D) → HP → R D
  | some ds, some es, h => if ds = es ∧ ∀ d ∈ ds, owD F h 6 d then .ok (.bl b) h else .stuck
  | _, _, _ => .stuck
@[simp] noncomputable def sameL (F : Nat → FA) (b : Bool) (x y : D) (h : HP) : R D := sameLs F b (lsD h x) (lsD h y) h
def rSameL (g : G) (F : Nat → FA) (b : Bool) : R2 := fun x y H Q => ∃ m hp d e ds, HL g m H hp ∧ rep g m H d x ∧ rep g m H e y ∧ lsD hp d = some ds ∧ lsD hp e = some ds ∧ (∀ d ∈ ds, owD F hp 6 d) ∧
  ∀ m' H', Ex m H m' H' → HL g m' H' hp → Q (.bl b) H'
theorem ok2_same {F : Nat → FA} {b : Bool} {E : XK} : OK2 g E (rSameL g F b) (sameL F b) := by
  intro m H hp x y v u Q hl rx ry h
  unfold sameL sameLs at h
  split at h
  · split at h
    · rename_i _ _ _ ds es _ e1 e2 c
      obtain ⟨rfl, c⟩ := c
      exact ⟨m, _, x, y, _, hl, rx, ry, e1, e2, c, fun m' H' ex hl' => h m' H' _ ex hl' (by simp [rep])⟩
    · exact h.elim
  · exact h.elim
theorem listI_same {F : Nat → FA} {n0 : Nat} (hK : X.K = g.K) (O : Owns X g n0 F) {A : Around} (sb : Sub X (n0 + 7) A) {pins : List (Addr × Obj)} {σ : L2.St} {m : AM} {H : Hp} {d e : D} {ds : List D} {a b : Addr}
    (r1 : rep g m H d (.ref a)) (r2 : rep g m H e (.ref b)) (e1 : lsD hp d = some ds) (e2 : lsD hp e = some ds) (hd : ∀ d ∈ ds, owD F hp 6 d) :
    GQ.ListI X.prog X.w A X.xe a b ds.length (fun _ s' => Grown X g hp pins σ m H s') := by
  intro i' s' q
  obtain ⟨m1, H1, I1, x1, hl1⟩ := q
  obtain ⟨a', xs, qa, ha, ra⟩ := lsD_ok hl1 (rep.ext x1 _ _ r1) e1
  obtain ⟨b', ys, qb, hb, rb⟩ := lsD_ok hl1 (rep.ext x1 _ _ r2) e2
  cases qa
  cases qb
  obtain ⟨z, its, k, r, e⟩ := I1.hok a _ ha
  obtain ⟨z2, its2, k2, r2, e2'⟩ := I1.hok b _ hb
  refine ⟨its.toArray, its2.toArray, k, k2, e, e2', by rw [List.size_toArray, ← r.length, ← ra.length], by rw [List.size_toArray, ← r2.length, ← rb.length], fun h1 h2 => ?_⟩
  exact turnN hK (fun d m => owD_ok hK O 6 d (hd d m)) sb ra rb r r2 s' I1 x1 hl1 i' h1 h2
theorem op_neSame {F : Nat → FA} {n0 : Nat} (hK : X.K = g.K) (O : Owns X g n0 F) (hr : Room (n0 + 7) X.A) : OpR X (compareOp .NotEq) (rSameL g F false) := by
  intro pins s σ H x y v u Q I rx ry h
  obtain ⟨m, hp, d, e, ds, hl, r1, r2, e1, e2, hd, q⟩ := h
  obtain ⟨a, vs, rfl, ha, rv⟩ := lsD_ok hl r1 e1
  obtain ⟨b, ws, rfl, hb, rw'⟩ := lsD_ok hl r2 e2
  cases rx
  cases ry
  show wpAny (model X.prog X.w) X.A (richCompare .NotEq (.ref a) (.ref b)) (EP X pins σ Q) X.xe s
  refine EvQ.rc_neG hr.units0 (fun _ s' => Grown X g hp pins σ m H s') (listI_same hK O ⟨hr, rfl⟩ r1 r2 e1 e2 hd) (fun s' q' => ?_) ⟨m, H, I, Ex.refl _ _, hl⟩
  obtain ⟨m', H', I', ex, hl'⟩ := q'
  exact ⟨.bl false, H', I', rfl, q m' H' ex hl'⟩
theorem ok_neO {F : Nat → FA} {n0 : Nat} {E : XK} (hK : X.K = g.K) (O : Owns X g n0 F) (hr : Room (n0 + 7) X.A) : OKS X g E (compareOp .NotEq) (sameL F false) := ⟨_, op_neSame hK O hr, ok2_same⟩
def own1 (c0 : Nat) (F0 : FA) : Nat → FA := fun c => if c = c0 then F0 else fun _ _ => .stuck
@[simp] theorem own1_at (c0 : Nat) (F0 : FA) : own1 c0 F0 c0 = F0 := if_pos rfl
theorem owns1 {c0 n : Nat} {F0 : FA} {f : Addr} {fd : FuncData} {ps : List Str} (me : Meth X.K (g.cA c0) "__eq__" f) (o : FnOk X.prog X.w X.K X.mg X.base CX0 n f fd ps (spF g 2 F0)) (b : Binds X.K fd ps []) : Owns X g n (own1 c0 F0) := fun c => by
  by_cases h : c = c0
  · subst h
    exact .inl ⟨CX0, f, fd, ps, by rw [own1_at]; exact o, me.1, me.2, b, fun _ _ _ _ _ _ _ h => h.elim⟩
  · exact .inr fun ds hp => by rw [own1, if_neg h]
structure Isi (K : PySem.W.Frag) (C : Addr) : Prop where
  ha : PySem.W.findIn K (.ref C) "__class__" = some (some (.builtin "object.__class__"))
  hn : PySem.W.specialIn K (.builtin "object.__class__") "__get__" = some (some (.builtin "getset_descriptor.__get__"))
  ht : PySem.W.takesIn K (.builtin "object.__class__") = some true
  hm : PySem.W.mroIn K C (.type "object") = some true
@[simp] def kIsC (c : Nat) : D → HP → R D
  | .ins c' _, h => if c' = c then .ok (.bl true) h else .stuck
  | _, _ => .stuck
@[simp] def mIsC (c : Nat) (a : M D) (env : EN) (hp : HP) : R D := (a env hp).bind (kIsC c)
theorem EV.isC {E : XK} {c : Nat} {t isi : Str} {a : Expr} {p p2 pos : Pos} {fa : M D} (hK : X.K = g.K) (he0 : isi = "isinstance") (hm : X.mg isi = none) (hmt : X.mg t = some (.ref (g.cA c))) (tc : Cls X.K (g.cA c)) (ui : Isi X.K (g.cA c)) (ha : EV g X E a fa) (hg : Gl X isi) (hgt : Gl X t) (hd : (t == ("__debug__" : Str)) = false)
    (he : starEach [a, .Name t p2] X.env = (false, eval a X.env) :: starEach [.Name t p2] X.env) : EV g X E (.Call (.Name isi p) [a, .Name t p2] [] pos) (mIsC c fa) := by
  subst he0
  obtain ⟨ta, pa, qa⟩ := ha
  refine ⟨_, pe_callB call_isi hg hm (by decide +kernel) (pa_cons pa (pa_cons (pe_glob (v := .ref (g.cA c)) hgt hmt rfl hd) pa_nil rfl) he) (by decide) (by decide) he rfl, fun σ H Q m env hp hl er h => ?_⟩
  refine qa σ H _ m env hp hl er (PO.bind h fun x h1 m1 H1 v x1 hl1 r1 h => ?_)
  cases x with
  | ins c' fs =>
    simp only [kIsC] at h
    by_cases e : c' = c
    · subst e
      rw [if_pos rfl] at h
      simp only [rep] at r1
      obtain ⟨a, dx, vs, rfl, e, _⟩ := r1
      exact ⟨_, .ref (g.cA c'), .ref (g.cA c'), .ref (g.cA c'), true, rfl, .own _, .base (.ins e tc ui.ha ui.hn ui.ht ui.hm), by simp [PySem.W.kitOne], PO.here hl1 h (by simp [rep])⟩
    · rw [if_neg e] at h
      exact h.elim
  | _ => exact h.elim
end
end Ev
namespace Ev
open PySem PySem.Spec PyProof.Rows L2
section
variable {g : G} {X : Cx} {n : Nat} {hp : HP}
@[simp] def boR : R D → R D
  | .ok (.bl b) h => .ok (.bl b) h
  | _ => .stuck
/-- the other side: an object of the class, of another one, or a value of a built-in type -/
@[simp] def othC (dp : Nat → Nat → Bool) (c : Nat) (h : HP) : D → Bool
  | .ins c' _ => c' == c || dp c' c
  | d => (tyD h d).isSome
@[simp] def fEqI (dp : Nat → Nat → Bool) (F : Nat → FA) (x y : D) (h : HP) : R D := match x with
  | .ins c fs => if othC dp c h y = true then boR (F c [.ins c fs, y] h) else .stuck
  | _ => .stuck
@[simp] def bNo : Option String → HP → R D
  | some _, h => .ok (.bl false) h
  | none, _ => .stuck
@[simp] def kIsD (dp : Nat → Nat → Bool) (c : Nat) : D → HP → R D
  | .ins c' _, h => if c' = c then .ok (.bl true) h else if dp c' c = true then .ok (.bl false) h else .stuck
  | d, h => bNo (tyD h d) h
@[simp] def mIsD (dp : Nat → Nat → Bool) (c : Nat) (a : M D) (env : EN) (hp : HP) : R D := (a env hp).bind (kIsD dp c)
end
end Ev
namespace EvQ
open PySem PySem.W PySem.Calls PyProof.Rows
section
end
end EvQ
namespace Ev
open PySem PySem.Spec PyProof.Rows L2
section
variable {g : G} {X : Cx} {n : Nat} {hp : HP}
@[simp] def noR : R D → R D
  | .ok (.bl b) h => .ok (.bl (!b)) h
  | _ => .stuck
/-- x != y by the class's own == -/
@[simp] def fNeI (dp : Nat → Nat → Bool) (F : Nat → FA) (x y : D) (h : HP) : R D := match x with
  | .ins c fs => if othC dp c h y = true then noR (F c [.ins c fs, y] h) else .stuck
  | _ => .stuck
end
end Ev
namespace Ev
open PySem PySem.Spec PyProof.Rows L2
section
variable {g : G} {X : Cx} {E : XK} {prog : Program} {w : World} {A : Around}
@[simp] def maxDn (z : D) : Option (List Int) → HP → R D
  | some ns, h => if 0 < ns.length then .ok (.int (maxL ns)) h else .ok z h
  | none, _ => .stuck
@[simp] def maxDo (z : D) : Option (List D) → HP → R D
  | some es, h => maxDn z (intsD es) h
  | none, _ => .stuck
@[simp] def maxDk (z : D) (x : D) (h : HP) : R D := maxDo z (asL h x) h
@[simp] def maxDk1 (b : M D) (env : EN) (x : D) (h : HP) : R D := (b env h).bind fun z h2 => maxDk z x h2
@[simp] def mmaxD (a b : M D) (env : EN) (hp : HP) : R D := (a env hp).bind (maxDk1 b env)
@[simp] def minDn (z : D) : Option (List Int) → HP → R D
  | some ns, h => if 0 < ns.length then .ok (.int (minL ns)) h else .ok z h
  | none, _ => .stuck
@[simp] def minDo (z : D) : Option (List D) → HP → R D
  | some es, h => minDn z (intsD es) h
  | none, _ => .stuck
@[simp] def minDk (z : D) (x : D) (h : HP) : R D := minDo z (asL h x) h
@[simp] def minDk1 (b : M D) (env : EN) (x : D) (h : HP) : R D := (b env h).bind fun z h2 => minDk z x h2
@[simp] def mminD (a b : M D) (env : EN) (hp : HP) : R D := (a env hp).bind (minDk1 b env)
theorem reps.reverse {m : AM} {H : Hp} {ds : List D} {vs : List V} (r : reps g m H ds vs) : reps g m H ds.reverse vs.reverse := by
  induction ds generalizing vs with
  | nil => simp only [reps] at r; subst r; simp [reps]
  | cons d ds ih =>
    simp only [reps] at r
    obtain ⟨v, us, rfl, h1, h2⟩ := r
    rw [List.reverse_cons, List.reverse_cons]
    exact (ih h2).append (by simp only [reps]; exact ⟨v, [], rfl, h1, rfl⟩)
@[simp] def revO : Option (List D) → HP → R D
  | some es, h => .ok (.lst es.reverse) h
  | none, _ => .stuck
@[simp] def kRevS (x : D) (h : HP) : R D := revO (asL h x) h
@[simp] def mRevS (a : M D) (env : EN) (hp : HP) : R D := (a env hp).bind kRevS
end
end Ev
namespace Ev
open PySem PySem.Spec PyProof.Rows L2
section
variable {g : G} {X : Cx} {E : XK}
@[simp] def kPar2 (i j : Nat) (env : EN) : List D → HP → SR
  | [x, y], h => .nx ((env.set i (some x)).set j (some y)) h
  | _, _ => .stuck
@[simp] def sPar2 (i j : Nat) (a : M (List D)) (env : EN) (hp : HP) : SR := (a env hp).sbind (kPar2 i j env)
@[simp] def kPar3 (i j l : Nat) (env : EN) : List D → HP → SR
  | [x, y, z], h => .nx (((env.set i (some x)).set j (some y)).set l (some z)) h
  | _, _ => .stuck
@[simp] def sPar3 (i j l : Nat) (a : M (List D)) (env : EN) (hp : HP) : SR := (a env hp).sbind (kPar3 i j l env)
@[simp] def fIsB : D → D → HP → R D
  | .bl a, .bl b, h => .ok (.bl (decide (a = b))) h
  | _, _, _ => .stuck
@[simp] def fNotB : D → D → HP → R D
  | .bl a, .bl b, h => .ok (.bl (!decide (a = b))) h
  | _, _, _ => .stuck
end
end Ev
namespace Ev
open PySem PySem.Spec PyProof.Rows L2
section
variable {g : G} {X : Cx} {E : XK}
@[simp] def kAug2 (i : Nat) (f : Int → Int → Int) (env : EN) (a : Int) : D → HP → SR
  | .int b, h => .nx (env.set i (some (.int (f a b)))) h
  | _, _ => .stuck
@[simp] def kAug (i : Nat) (f : Int → Int → Int) (fa : M D) (env : EN) (hp : HP) : Option (Option D) → SR
  | some (some (.int a)) => (fa env hp).sbind (kAug2 i f env a)
  | _ => .stuck
@[simp] def sAug (i : Nat) (f : Int → Int → Int) (fa : M D) (env : EN) (hp : HP) : SR := kAug i f fa env hp env[i]?
end
end Ev
namespace EvQ
open PySem PySem.SeqAt GQ
open AutoSeq1 (wpAny_loadPart')
open MeetsSeq MeetsSeq2 MeetsSeq3 SeqRoads2
section
end
section
end
end EvQ
namespace Ev
open PySem PySem.Spec PyProof.Rows L2
section
variable {g : G} {X : Cx} {E : XK}
open Classical in
@[simp] noncomputable def sameT (F : Nat → FA) (b : Bool) : D → D → HP → R D
  | .tup ds, .tup es, h => if ds = es ∧ ∀ d ∈ ds, owD F h 6 d then .ok (.bl b) h else if ds.isEmpty = es.isEmpty then .stuck else .ok (.bl (!b)) h
  | _, _, _ => .stuck
end
end Ev
namespace Ev
open PySem PySem.Spec PyProof.Rows L2
def valT : List (Key × D) → Key → Option D
  | [], _ => none
  | p :: r, k => if p.1 = k then some p.2 else valT r k
def putT (ks : List (Key × D)) (k : Key) (y : D) : List (Key × D) := if (ks.any fun p => decide (p.1 = k)) = true then ks.map (fun p => if p.1 = k then (p.1, y) else p) else ks ++ [(k, y)]
theorem valT_any (k : Key) : ∀ ks : List (Key × D), (ks.any fun p => decide (p.1 = k)) = (valT ks k).isSome
  | [] => rfl
  | p :: r => by
    have := valT_any k r
    by_cases e : p.1 = k
    · simp [valT, e]
    · simp [valT, e, this]
section
variable {g : G} {X : Cx} {E : XK} {m : AM} {H : Hp}
theorem repk.val {k : Key} : ∀ {ks : List (Key × D)} {vs : List (Key × V)}, repk g m H ks vs → (∀ d, valT ks k = some d → ∃ v, valV vs k = some v ∧ rep g m H d v) ∧ (valT ks k = none → valV vs k = none)
  | [], vs, h => by
    simp only [repk] at h
    subst h
    exact ⟨fun d e => by simp [valT] at e, fun _ => valV_nil⟩
  | (k', d') :: ks, vs, h => by
    simp only [repk] at h
    obtain ⟨v, r, rfl, h1, h2⟩ := h
    obtain ⟨i1, i2⟩ := repk.val h2
    by_cases e : k' = k
    · subst e
      refine ⟨fun d q => ?_, fun q => by simp [valT] at q⟩
      simp [valT] at q
      subst q
      exact ⟨v, valV_pos rfl, h1⟩
    · refine ⟨fun d q => ?_, fun q => ?_⟩
      · rw [valV_neg (by exact e)]
        exact i1 d (by simpa [valT, e] using q)
      · rw [valV_neg (by exact e)]
        exact i2 (by simpa [valT, e] using q)
theorem repk.isSome {k : Key} {ks : List (Key × D)} {vs : List (Key × V)} (h : repk g m H ks vs) : (valV vs k).isSome = (valT ks k).isSome := by
  obtain ⟨i1, i2⟩ := h.val (k := k)
  cases e : valT ks k with
  | none => rw [i2 e]; rfl
  | some d =>
    obtain ⟨v, q, _⟩ := i1 d e
    rw [q]
    rfl
theorem repk.snoc {k : Key} {y : D} {v : V} (hy : rep g m H y v) : ∀ {ks : List (Key × D)} {vs : List (Key × V)}, repk g m H ks vs → repk g m H (ks ++ [(k, y)]) (vs ++ [(k, v)])
  | [], vs, h => by
    simp only [repk] at h
    subst h
    simp only [List.nil_append, repk]
    exact ⟨v, [], rfl, hy, rfl⟩
  | (k', d') :: ks, vs, h => by
    simp only [repk] at h
    obtain ⟨w, r, rfl, h1, h2⟩ := h
    simp only [List.cons_append, repk]
    exact ⟨w, r ++ [(k, v)], rfl, h1, repk.snoc hy h2⟩
theorem repk.repl {k : Key} {y : D} {v : V} (hy : rep g m H y v) : ∀ {ks : List (Key × D)} {vs : List (Key × V)}, repk g m H ks vs → repk g m H (ks.map fun p => if p.1 = k then (p.1, y) else p) (vs.map fun p => if p.1 = k then (p.1, v) else p)
  | [], vs, h => by
    simp only [repk] at h
    subst h
    simp [repk]
  | (k', d') :: ks, vs, h => by
    simp only [repk] at h
    obtain ⟨w, r, rfl, h1, h2⟩ := h
    have ih := repk.repl (k := k) hy h2
    simp only [List.map_cons]
    by_cases e : k' = k
    · simp only [e, if_true, repk]
      exact ⟨v, _, rfl, hy, ih⟩
    · simp only [e, if_false, repk]
      exact ⟨w, _, rfl, h1, ih⟩
theorem repk.put {k : Key} {y : D} {v : V} (hy : rep g m H y v) {ks : List (Key × D)} {vs : List (Key × V)} (h : repk g m H ks vs) : repk g m H (putT ks k y) (putK vs k v) := by
  unfold putT putK
  rw [valT_any, valV_any, h.isSome]
  split
  · exact h.repl hy
  · exact h.snoc hy
@[simp] def dKey : D → Option Key
  | .int i => some (.inl i)
  | .str x => some (.inr x)
  | _ => none
theorem dKey_ok {d : D} {v : V} {k : Key} (r : rep g m H d v) (e : dKey d = some k) : v = kV k := by
  cases d with
  | int i => simp only [dKey, Option.some.injEq] at e; subst e; exact rInt r
  | str i => simp only [dKey, Option.some.injEq] at e; subst e; exact rStr r
  | _ => simp at e
@[simp] def dicO (h : HP) : D → Option (List (Key × D))
  | .ref n => match h[n]? with
    | some (.dic ks) => some ks
    | _ => none
  | _ => none
theorem dicO_ok {hp : HP} {d : D} {v : V} {ks : List (Key × D)} (hl : HL g m H hp) (r : rep g m H d v) (e : dicO hp d = some ks) : ∃ n a vs, d = .ref n ∧ hp[n]? = some (.dic ks) ∧ m[n]? = some (some a) ∧ v = .ref a ∧ H a = some (.dK vs) ∧ repk g m H ks vs := by
  cases d with
  | ref n =>
    simp only [dicO] at e
    split at e
    · rename_i ks' q
      cases e
      obtain ⟨a, ea, vs, ha, rr⟩ := hl.at q (by simp)
      simp only [rep] at r
      exact ⟨n, a, vs, rfl, q, ea, r.2 a ea, ha, rr⟩
    · cases e
  | _ => simp at e
@[simp] def dinO (neg : Bool) : Option Key → Option (List (Key × D)) → HP → R D
  | some k, some ks, h => .ok (.bl (if neg = true then !(valT ks k).isSome else (valT ks k).isSome)) h
  | _, _, _ => .stuck
@[simp] def fDIn (neg : Bool) (x y : D) (h : HP) : R D := dinO neg (dKey x) (dicO h y) h
theorem fDIn_ok {hp : HP} {neg : Bool} {x y : D} {v u : V} {Q : V → Hp → Prop} (hl : HL g m H hp) (rx : rep g m H x v) (ry : rep g m H y u) (h : PO g m H E (rep g) Q (fDIn neg x y hp)) :
    ∃ a o, u = .ref a ∧ DGet H a v o ∧ Q (.bl (if neg = true then !o.isSome else o.isSome)) H := by
  unfold fDIn dinO at h
  split at h
  · rename_i k ks e1 e2
    obtain ⟨n, a, vs, rfl, _, _, rfl, ha, rr⟩ := dicO_ok hl ry e2
    obtain rfl := dKey_ok rx e1
    refine ⟨a, valV vs k, rfl, .k ha, ?_⟩
    rw [rr.isSome]
    exact PO.here hl h (by simp [rep])
  · exact h.elim
theorem ok_dnotin (hu : X.A.units + 64 < cLine) : OKS X g E (compareOp .NotIn) (fDIn true) := by
  refine ⟨fun x y H Q => ∃ a o, y = .ref a ∧ DGet H a x o ∧ Q (.bl (!o.isSome)) H, fun pins s σ H x y v u Q I rx ry h => ?_, fun m H hp x y v u Q hl rx ry h => by simpa using fDIn_ok hl rx ry h⟩
  obtain ⟨a, o, rfl, d, q⟩ := h
  obtain rfl : u = Value.ref a := ry
  exact d_notIn (by omega) I d rx fun s3 I3 => ⟨.bl (!o.isSome), H, I3, rfl, q⟩
@[simp] def dgetV : Option D → HP → R D
  | some y, h => .ok y h
  | none, _ => .stuck
@[simp] def dgetO : Option Key → Option (List (Key × D)) → HP → R D
  | some k, some ks, h => dgetV (valT ks k) h
  | _, _, _ => .stuck
theorem dgetO_inv {Q : V → Hp → Prop} {hp : HP} : ∀ {a : Option Key} {b : Option (List (Key × D))}, PO g m H E (rep g) Q (dgetO a b hp) → ∃ k ks y, a = some k ∧ b = some ks ∧ valT ks k = some y ∧ PO g m H E (rep g) Q (.ok y hp)
  | some k, some ks, h => by
    simp only [dgetO] at h
    cases e : valT ks k with
    | none => rw [e] at h; exact h.elim
    | some y => rw [e] at h; exact ⟨k, ks, y, rfl, rfl, e, h⟩
  | none, _, h => (show False from h).elim
  | some _, none, h => (show False from h).elim
@[simp] def kDGet (d k : D) (h : HP) : R D := dgetO (dKey k) (dicO h d) h
@[simp] def kDGet1 (fk : M D) (env : EN) (d : D) (h : HP) : R D := (fk env h).bind (kDGet d)
@[simp] def mDGet (fd fk : M D) (env : EN) (h : HP) : R D := (fd env h).bind (kDGet1 fk env)
theorem EV.dget {o i : Expr} {pos : Pos} {fd fk : M D} (hu : X.A.units + 64 < cLine) (ho : EV g X E o fd) (hi : EV g X E i fk) (hs : NoSl i) : EV g X E (.Subscript o i pos) (mDGet fd fk) := by
  obtain ⟨to, po, qo⟩ := ho
  obtain ⟨ti, pi, qi⟩ := hi
  refine ⟨_, pe_dget (by omega) po pi hs, fun σ H Q m env hp hl er h => ?_⟩
  refine qo σ H _ m env hp hl er (PO.bind h fun x h1 m1 H1 v x1 hl1 r1 h => ?_)
  refine qi σ H1 _ m1 env h1 hl1 (er.ext x1) (PO.bind h fun y h2 m2 H2 u x2 hl2 r2 h => ?_)
  obtain ⟨k, ks, d, e1, e2, e, hd⟩ := dgetO_inv h
  obtain ⟨n, a, vs, rfl, _, _, rfl, ha, rr⟩ := dicO_ok hl2 (rep.ext x2 _ _ r1) e2
  obtain rfl := dKey_ok r2 e1
  obtain ⟨w, ew, rw'⟩ := (rr.val (k := k)).1 d e
  exact ⟨a, w, rfl, by rw [← ew]; exact .k ha, PO.here hl2 hd rw'⟩
@[simp] def dgetE (z : D) : Option D → HP → R D
  | some y, h => .ok y h
  | none, h => .ok z h
@[simp] def dgetP (z : D) : Option Key → Option (List (Key × D)) → HP → R D
  | some k, some ks, h => dgetE z (valT ks k) h
  | _, _, _ => .stuck
@[simp] def kDGet23 (d k z : D) (h : HP) : R D := dgetP z (dKey k) (dicO h d) h
@[simp] def kDGet22 (fz : M D) (env : EN) (d k : D) (h : HP) : R D := (fz env h).bind (kDGet23 d k)
@[simp] def kDGet21 (fk fz : M D) (env : EN) (d : D) (h : HP) : R D := if (dicO h d).isSome = true then (fk env h).bind (kDGet22 fz env d) else .stuck
@[simp] def mDGet2 (fd fk fz : M D) (env : EN) (h : HP) : R D := (fd env h).bind (kDGet21 fk fz env)
@[simp] def kDisp3 (n : Nat) (y : D) : Option Key → Option O → HP → R D
  | some k, some (.dic []), h => .ok (.ref n) (h.set n (.dic [(k, y)]))
  | _, _, _ => .stuck
@[simp] def kDisp2 (n : Nat) (kd y : D) (h : HP) : R D := kDisp3 n y (dKey kd) h[n]? h
@[simp] def kDisp1 (fv : M D) (env : EN) (n : Nat) (kd : D) (h : HP) : R D := (fv env h).bind (kDisp2 n kd)
@[simp] def mDisp1 (fk fv : M D) (env : EN) (h : HP) : R D := (fk env (h ++ [.dic []])).bind (kDisp1 fv env h.length)
@[simp] def dputL (n : Nat) (k : Key) (y : D) (env : EN) : Option O → HP → SR
  | some (.dic ks), h => if ks.length < sizeLine then .nx env (h.set n (.dic (putT ks k y))) else .stuck
  | _, _ => .stuck
@[simp] def dputK (n : Nat) (y : D) (env : EN) : Option Key → HP → SR
  | some k, h => dputL n k y env h[n]? h
  | none, _ => .stuck
@[simp] def kDPut2 (env : EN) (y : D) : D → D → HP → SR
  | .ref n, k, h => dputK n y env (dKey k) h
  | _, _, _ => .stuck
@[simp] def kDPut1 (fi : M D) (env : EN) (y o : D) (h : HP) : SR := (fi env h).sbind (kDPut2 env y o)
@[simp] def kDPut (fo fi : M D) (env : EN) (y : D) (h : HP) : SR := (fo env h).sbind (kDPut1 fi env y)
@[simp] def sDPut (fv fo fi : M D) (env : EN) (h : HP) : SR := (fv env h).sbind (kDPut fo fi env)
theorem SV.dput {o i e : Expr} {pos pos' : Pos} {fv fo fi : M D} (hu : X.A.units + 64 < cLine) (hv : EV g X E e fv) (ho : EV g X E o fo) (hi : EV g X E i fi)
    (hs : swapsWith e (some (.Subscript o i pos')) pos.line X.env = pure false) : SV g X E (.Assign [.Subscript o i pos'] e pos) (sDPut fv fo fi) := by
  obtain ⟨tv, pv, qv⟩ := hv
  obtain ⟨to, po, qo⟩ := ho
  obtain ⟨ti, pi, qi⟩ := hi
  refine ⟨_, ps_dput (by omega) po pi pv hs, fun K σ H m env hp hl er h => ?_⟩
  refine qv σ H _ m env hp hl er (SPO.bind h fun y h1 m1 H1 v x1 hl1 r1 h => ?_)
  refine qo σ H1 _ m1 env h1 hl1 (er.ext x1) (SPO.bind h fun od h2 m2 H2 u x2 hl2 r2 h => ?_)
  refine qi σ H2 _ m2 env h2 hl2 ((er.ext x1).ext x2) (SPO.bind h fun kd h3 m3 H3 w x3 hl3 r3 h => ?_)
  unfold kDPut2 at h
  split at h
  · rename_i n
    unfold dputK at h
    split at h
    · rename_i k ek
      unfold dputL at h
      split at h
      · rename_i ks eo
        split at h
        · rename_i lk
          obtain ⟨a, ea, us, hA, rr⟩ := hl3.at eo (by simp)
          have r2' := rep.ext x3 _ _ r2
          simp only [rep] at r2'
          have ry := rep.ext (x2.trans x3) _ _ r1
          obtain rfl := dKey_ok r3 ek
          obtain ⟨x6, hl6⟩ := hl3.write (u := .dK (putK us k v)) (ob' := .dic (putT ks k y)) ea eo (by simp) fun x6 => ⟨putK us k v, upd_same, repk.ext x6 _ _ (rr.put ry)⟩
          exact ⟨a, _, r2'.2 a ea, .k hA (by rw [← rr.length]; exact lk), h m3 _ σ x6 hl6 (((er.ext x1).ext x2).ext x3 |>.ext x6)⟩
        · exact h.elim
      · exact h.elim
    · exact h.elim
  · exact h.elim
end
end Ev
namespace EvZ
open PySem PySem.Spec PyProof.Rows L2
def ItB (k : Bool) (h : Heap) (it a : Addr) (i : Nat) : Prop := if k = true then h.IsListIter it a i else h.IsTupleIter it a i
def HasB (k : Bool) (h : Heap) (a : Addr) (its : Array Value) : Prop := if k = true then h.IsList a its else h.IsTuple a its
theorem ItB.at {k : Bool} {h h' : Heap} {it a : Addr} {i : Nat} (x : ItB k h it a i) (e : ∀ o, h.get? it = some o → h'.get? it = some o) : ItB k h' it a i := by
  cases k with
  | true => exact Heap.IsListIter.at (show h.IsListIter it a i from x) e
  | false => exact Heap.IsTupleIter.at (show h.IsTupleIter it a i from x) e
section
end
end EvZ
namespace Ev
open PySem PySem.Spec PyProof.Rows L2 EvZ
section
variable {g : G} {X : Cx} {E : XK}
@[simp] def srcD (h : HP) : D → Option (List D × GdL)
  | .tup ds => some (ds, [])
  | d => lview h d
@[simp] def zipS : Option (List D × GdL) → Option (List D × GdL) → HP → R (List D × GdL)
  | some p, some q, h => .ok (zipD p.1 q.1, p.2 ++ q.2) h
  | _, _, _ => .stuck
@[simp] def kZipS : List D → HP → R (List D × GdL)
  | [x, y], h => zipS (srcD h x) (srcD h y) h
  | _, _ => .stuck
@[simp] def iZipS (a : M (List D)) (env : EN) (hp : HP) : R (List D × GdL) := (a env hp).bind kZipS
end
end Ev
namespace Ev
open PySem PySem.Spec PyProof.Rows L2
@[simp] def gPreD (ds : List D) (xs ys : List D) : List D := xs ++ (ds ++ ys)
end Ev
namespace EvZ
open PySem PySem.Spec PyProof.Rows L2
section
end
end EvZ
namespace Ev
open PySem PySem.Spec PyProof.Rows L2 EvZ
section
variable {g : G} {X : Cx} {E : XK}
def enumD (xs : List D) : List D := xs.mapIdx fun i d => .tup [.int (i : Nat), d]
@[simp] def enumS : Option (List D × GdL) → HP → R (List D × GdL)
  | some p, h => .ok (enumD p.1, p.2) h
  | none, _ => .stuck
@[simp] def kEnumS : List D → HP → R (List D × GdL)
  | [x], h => enumS (srcD h x) h
  | _, _ => .stuck
@[simp] def iEnumS (a : M (List D)) (env : EN) (hp : HP) : R (List D × GdL) := (a env hp).bind kEnumS
end
end Ev
namespace Ev
open PySem PySem.Spec PyProof.Rows L2
section
variable {g : G} {X : Cx} {E : XK}
@[simp] def kTupR : D → HP → R D
  | .int n, h => if 0 ≤ n ∧ n ≤ 16000000 then .ok (.tup (rngD 0 n.toNat)) h else .stuck
  | _, _ => .stuck
@[simp] def mTupR (f : M D) (env : EN) (h : HP) : R D := (f env h).bind kTupR
end
end Ev
namespace Ev
open PySem PySem.Spec PyProof.Rows L2
section
end
end Ev
namespace EvS
open PySem PySem.Spec PyProof.Rows L2
section
end
section
end
section
end
end EvS
namespace EvS
open PySem PySem.Spec PyProof.Rows L2 EvZ
def ins1 (k : Int) : List Int → List Int
  | [] => [k]
  | x :: xs => if k < x then k :: x :: xs else if k = x then x :: xs else x :: ins1 k xs
def srt : List Int → List Int
  | [] => []
  | k :: ks => ins1 k (srt ks)
section
end
end EvS
namespace Ev
open PySem PySem.Spec PyProof.Rows L2 EvS
section
variable {g : G} {X : Cx} {E : XK}
@[simp] def setN : Option (List Int) → HP → R D
  | some ns, h => if ns.length ≤ 1000 then .ok (.set ns) h else .stuck
  | none, _ => .stuck
@[simp] def setD1 : Option (List D) → HP → R D
  | some es, h => setN (intsD es) h
  | none, _ => .stuck
@[simp] def bSet : List D → HP → R D
  | [x], h => setD1 (seqD h x) h
  | _, _ => .stuck
@[simp] def fSIn (neg : Bool) : D → D → HP → R D
  | .int k, .set ks, h => .ok (.bl (if neg then !(decide (k ∈ ks)) else decide (k ∈ ks))) h
  | _, _, _ => .stuck
@[simp] def srtN : Option (List Int) → HP → R D
  | some ns, h => if ns.length ≤ 1000 ∧ (srt ns).length < 64 then .ok (.lst ((srt ns).map D.int)) h else .stuck
  | none, _ => .stuck
@[simp] def srtD1 : Option (List D) → HP → R D
  | some es, h => srtN (intsD es) h
  | none, _ => .stuck
@[simp] def kSortSet (x : D) (h : HP) : R D := srtD1 (asL h x) h
@[simp] def mSortSet (a : M D) (env : EN) (hp : HP) : R D := (a env hp).bind kSortSet
@[simp] def neT : D → Option Bool
  | .tup ds => some (!ds.isEmpty)
  | _ => none
@[simp] def nesT : List D → Option (List Bool)
  | [] => some []
  | d :: ds => (neT d).bind fun b => (nesT ds).map (b :: ·)
@[simp] def allT2 : Option (List Bool) → HP → R D
  | some bs, h => .ok (.bl (bs.all id)) h
  | none, _ => .stuck
@[simp] def allT1 : Option (List D) → HP → R D
  | some es, h => allT2 (nesT es) h
  | none, _ => .stuck
@[simp] def bAllT : List D → HP → R D
  | [x], h => allT1 (asL h x) h
  | _, _ => .stuck
end
end Ev
namespace Ev
open PySem PySem.Spec PyProof.Rows L2
section
variable {g : G} {X : Cx} {E : XK}
@[simp] def slLL (lo hi : Option Int) : Option (List D) → HP → R D
  | some ds, h => newL true (cutD ds lo hi) h
  | none, _ => .stuck
@[simp] def kSlL2 (hi : M (Option Int)) (env : EN) (x : D) (l : Option Int) (h : HP) : R D := (hi env h).bind fun r h2 => slLL l r (asL h2 x) h2
@[simp] def kSlL1 (lo hi : M (Option Int)) (env : EN) (x : D) (h : HP) : R D := (lo env h).bind (kSlL2 hi env x)
@[simp] def mSlL (a : M D) (lo hi : M (Option Int)) (env : EN) (hp : HP) : R D := (a env hp).bind (kSlL1 lo hi env)
theorem EV.slL {e : Expr} {lo hi : Option Expr} {p2 pos : Pos} {f : M D} {fl fh : M (Option Int)} (hK : X.K = g.K) (he : EV g X E e f) (hl : PV g X E lo fl) (hh : PV g X E hi fh) : EV g X E (.Subscript e (.Slice lo hi none p2) pos) (mSlL f fl fh) := by
  obtain ⟨t, p, q⟩ := he
  obtain ⟨tl, pl, ql⟩ := hl
  obtain ⟨th, ph, qh⟩ := hh
  refine ⟨_, pe_slice sl_list p pl ph, fun σ H Q m env hp hl er h => ?_⟩
  refine q σ H _ m env hp hl er (PO.bind h fun x h1 m1 H1 v x1 hl1 r1 h => ?_)
  refine ql σ H1 _ m1 env h1 hl1 (er.ext x1) (PO.bind h fun y h2 m2 H2 u x2 hl2 r2 h => ?_)
  refine qh σ H2 _ m2 env h2 hl2 ((er.ext x1).ext x2) (PO.bind h fun z h3 m3 H3 w x3 hl3 r3 h => ?_)
  subst r2
  subst r3
  have r1 := rep.ext (x2.trans x3) _ _ r1
  rw [hK]
  unfold slLL at h
  split at h
  · rename_i ds e
    obtain ⟨a, vs, rfl, hs, rs⟩ := asL_ok hl3 r1 e
    exact ⟨a, vs, rfl, hs, (PO.newL hl3 rs.cut h).2⟩
  · exact h.elim
end
end Ev
namespace EvQ
open PySem PySem.Spec PyProof.Rows L2 EvZ
abbrev T4 (h : Heap) (T : Addr) (a b c d : Value) : Prop := h.get? T = some { cls := .type "tuple", data := .seq #[a, b, c, d] }
def J (k : Bool) (h : Heap) (it a : Addr) (i : Nat) (its : Array Value) : Prop := ItB k h it a i ∧ HasB k h a its
theorem HasB.at {k : Bool} {h h' : Heap} {a : Addr} {its : Array Value} (x : HasB k h a its) (e : ∀ o, h.get? a = some o → h'.get? a = some o) : HasB k h' a its := by
  cases k with
  | true =>
    obtain ⟨o, e1, r⟩ := (show h.IsList a its from x)
    exact ⟨o, e _ e1, r⟩
  | false =>
    obtain ⟨o, e1, r⟩ := (show h.IsTuple a its from x)
    exact ⟨o, e _ e1, r⟩
theorem J.at {k : Bool} {h h' : Heap} {it a : Addr} {i : Nat} {its : Array Value} (x : J k h it a i its) (e1 : ∀ o, h.get? it = some o → h'.get? it = some o) (e2 : ∀ o, h.get? a = some o → h'.get? a = some o) : J k h' it a i its := ⟨ItB.at x.1 e1, HasB.at x.2 e2⟩
/-- all but the zip's cells is kept -/
def Kp (N : Nat) (h h' : Heap) : Prop := ∀ (b : Nat) o, (b < N ∨ N + 6 < b) → h.get? b = some o → h'.get? b = some o
theorem Kp.trans {N : Nat} {a b c : Heap} (x : Kp N a b) (y : Kp N b c) : Kp N a c := fun p o h e => y p o h (x p o h e)
theorem Kp.same {N x : Nat} {h h' : Heap} (s : Heap.SameBut x h h') (h1 : N ≤ x) (h2 : x ≤ N + 6) : Kp N h h' := fun b o c e => s.extBut b o (by rcases c with c | c; exact Nat.ne_of_lt (by omega); exact Nat.ne_of_gt (by omega)) e
theorem Kp.ext {N x : Nat} {h h' : Heap} (s : Heap.ExtBut x h h') (h1 : N ≤ x) (h2 : x ≤ N + 6) : Kp N h h' := fun b o c e => s b o (by rcases c with c | c; exact Nat.ne_of_lt (by omega); exact Nat.ne_of_gt (by omega)) e
section
end
end EvQ
namespace EvQ
open PySem PySem.Spec PyProof.Rows L2 EvZ
section
end
structure Z4 (N : Nat) (k1 k2 k3 k4 : Bool) (l1 l2 l3 l4 : Nat) (x1 x2 x3 x4 : Array Value) (S : Nat) (i : Nat) (h : Heap) : Prop where
  z : (IsZip h (N + 6) (N + 4) (N + 5) .none ∧ ∃ a b c d, T4 h (N + 5) a b c d) ∨ ∃ (T : Nat) (f : Bool) (oT : Obj), N + 6 < T ∧ T ≠ S ∧ IsZipHeld h (N + 6) (N + 4) (N + 5) T f ∧ h.get? T = some oT
  ti : T4 h (N + 4) (.ref N) (.ref (N + 1)) (.ref (N + 2)) (.ref (N + 3))
  j1 : J k1 h N l1 i x1
  j2 : J k2 h (N + 1) l2 i x2
  j3 : J k3 h (N + 2) l3 i x3
  j4 : J k4 h (N + 3) l4 i x4
theorem Z4.at {N : Nat} {k1 k2 k3 k4 : Bool} {l1 l2 l3 l4 : Nat} {x1 x2 x3 x4 : Array Value} {S i : Nat} {h h' : Heap} (q1 : l1 < N) (q2 : l2 < N) (q3 : l3 < N) (q4 : l4 < N) (hS : N + 6 < S) (x : Z4 N k1 k2 k3 k4 l1 l2 l3 l4 x1 x2 x3 x4 S i h) (k : ∀ (b : Nat) o, b ≠ S → h.get? b = some o → h'.get? b = some o) : Z4 N k1 k2 k3 k4 l1 l2 l3 l4 x1 x2 x3 x4 S i h' := by
  refine ⟨?_, k _ _ (by omega) x.ti, x.j1.at (fun o e => k _ o (by omega) e) fun o e => k _ o (by omega) e, x.j2.at (fun o e => k _ o (by omega) e) fun o e => k _ o (by omega) e, x.j3.at (fun o e => k _ o (by omega) e) fun o e => k _ o (by omega) e, x.j4.at (fun o e => k _ o (by omega) e) fun o e => k _ o (by omega) e⟩
  rcases x.z with ⟨z, a, b, c, d, t⟩ | ⟨T, f, oT, t1, t2, z, t⟩
  · exact .inl ⟨k _ _ (by omega) z, a, b, c, d, k _ _ (by omega) t⟩
  · exact .inr ⟨T, f, oT, t1, t2, k _ _ (by omega) z, k _ _ t2 t⟩
section
end
end EvQ
namespace EvQ
open PySem PySem.Spec PyProof.Rows L2 EvZ
section
end
def zr4 {α : Type} : List α → List α → List α → List α → List (List α)
  | a :: as, b :: bs, c :: cs, d :: ds => [a, b, c, d] :: zr4 as bs cs ds
  | _, _, _, _ => []
section
end
section
end
end EvQ
namespace Ev
open PySem PySem.Spec PyProof.Rows L2 EvZ EvQ
section
variable {g : G} {X : Cx} {E : XK}
def repL (g : G) (m : AM) (H : Hp) : List (List D) → List (List V) → Prop
  | [], [] => True
  | d :: ds, r :: rs => reps g m H d r ∧ repL g m H ds rs
  | _, _ => False
theorem repL.ext {m m' : AM} {H H' : Hp} (x : Ex m H m' H') : ∀ {ds : List (List D)} {rs : List (List V)}, repL g m H ds rs → repL g m' H' ds rs
  | [], [], _ => trivial
  | d :: ds, r :: rs, h => ⟨reps.ext x _ _ h.1, repL.ext x h.2⟩
  | [], _ :: _, h => h.elim
  | _ :: _, [], h => h.elim
def zip4D (as bs cs ds : List D) : List D := (EvQ.zr4 as bs cs ds).map D.tup
@[simp] def lz4S : Option (List D × GdL) → Option (List D × GdL) → Option (List D × GdL) → Option (List D × GdL) → HP → R D
  | some p, some q, some r, some s, h => .ok (.lst (zip4D p.1 q.1 r.1 s.1)) h
  | _, _, _, _, _ => .stuck
@[simp] def kLz4 : List D → HP → R D
  | [x, y, u, w], h => lz4S (srcD h x) (srcD h y) (srcD h u) (srcD h w) h
  | _, _ => .stuck
@[simp] def mLz4 (a : M (List D)) (env : EN) (hp : HP) : R D := (a env hp).bind kLz4
end
end Ev
namespace Ev
open PySem PySem.Spec PyProof.Rows L2
section
variable {g : G} {X : Cx} {E : XK}
@[simp] def apF (n k : Nat) : Option O → HP → R D
  | some (.lst ds), h => if n = k then .stuck else (appL n (.lst ds) (h.set k .dead)).bind kUnit
  | _, _ => .stuck
@[simp] def lAppendF : D → List D → HP → R D
  | .ref n, [.ref k], h => apF n k h[k]? h
  | _, _, _ => .stuck
end
end Ev
namespace Ev
open PySem PySem.Spec PyProof.Rows L2
section
variable {g : G} {X : Cx} {E : XK}
@[simp] def addJ (k : Str → HP → R D) (out : Str) : D → HP → R D
  | .str y, h => if (out ++ y).length ≤ sizeLine then k (out ++ y) h else .stuck
  | _, _ => .stuck
@[simp] def mJs : List (M D) → Str → M D
  | [], out, _, h => .ok (.str out) h
  | f :: fs, out, env, h => (f env h).bind (addJ (fun o h' => mJs fs o env h') out)
structure JV (g : G) (X : Cx) (E : XK) (es : List Expr) (fs : List (M D)) : Prop where
  ex : ∃ ts, PJ X es ts ∧ ∀ out σ H Q m env hp, HL g m H hp → ER g m H σ env → PO g m H E (rep g) (fun v H' => ∀ o, v = V.str o → Q o H') (mJs fs out env hp) → tJs ts out σ H Q
theorem JV.nil : JV g X E [] [] := ⟨[], .nil, fun out σ H Q m env hp hl er h => by
  exact h m H (.str out) (.refl _ _) hl (by simp [rep]) out rfl⟩
theorem JV.cons {e : Expr} {es : List Expr} {f : M D} {fs : List (M D)} (he : EV g X E e f) (hr : JV g X E es fs) : JV g X E (e :: es) (f :: fs) := by
  obtain ⟨t, p, q⟩ := he
  obtain ⟨ts, ps, qs⟩ := hr
  refine ⟨t :: ts, .cons p ps, fun out σ H Q m env hp hl er h => ?_⟩
  unfold tJs
  unfold mJs at h
  refine q σ H _ m env hp hl er (PO.bind h fun x h1 m1 H1 v x1 hl1 r1 h => ?_)
  unfold addJ at h
  split at h
  · rename_i y
    split at h
    · rename_i c
      exact ⟨y, rStr r1, c, qs _ σ H1 _ m1 env h1 hl1 (er.ext x1) h⟩
    · exact h.elim
  · exact h.elim
@[simp] def kFmt : D → HP → R D
  | .str y, h => if y.length ≤ sizeLine then .ok (.str y) h else .stuck
  | .int i, h => if i.natAbs.log2 < 1920 then .ok (.str (Str.ofString (toString i))) h else .stuck
  | _, _ => .stuck
@[simp] def mFmt (f : M D) (env : EN) (hp : HP) : R D := (f env hp).bind kFmt
@[simp] def padO (a : Str) (i : Int) (h : HP) : R D := if PadOk i = true then .ok (.str (Txt.rjust a i)) h else .stuck
@[simp] def kRj2 : D → D → HP → R D
  | .str a, .int i, h => padO a i h
  | _, _, _ => .stuck
@[simp] def isSD : D → Bool
  | .str _ => true
  | _ => false
@[simp] def kRj1 (f : M D) (env : EN) (x : D) (h : HP) : R D := if isSD x = true then (f env h).bind (kRj2 x) else .stuck
@[simp] def mRjust (fo f : M D) (env : EN) (hp : HP) : R D := (fo env hp).bind (kRj1 f env)
theorem EV.rjust {o e : Expr} {apos pos : Pos} {fo f : M D} (slot : Slot "str" "rjust" "str.rjust") (ty : typeOf (.builtin "str.rjust") = pure (.type "method_descriptor")) (ho : EV g X E o fo) (he : EV g X E e f)
    (h1 : starEach [e] X.env = [(false, eval e X.env)]) (h2 : attributeBase o "rjust" X.env (eval o X.env) = eval o X.env) (h3 : (apos.endLine == pos.line) = true) : EV g X E (.Call (.Attribute o "rjust" apos) [e] [] pos) (mRjust fo f) := by
  obtain ⟨to, po, qo⟩ := ho
  obtain ⟨t, p, q⟩ := he
  refine ⟨_, pe_m1 slot ty mt_rjust po p h1 h2 h3, fun σ H Q m env hp hl er h => ?_⟩
  refine qo σ H _ m env hp hl er (PO.bind h fun x k1 m1 H1 v x1 hl1 r1 h => ?_)
  unfold kRj1 at h
  split at h
  · rename_i c
    unfold isSD at c
    split at c
    · rename_i a
      refine ⟨⟨a, rStr r1⟩, ?_⟩
      refine q σ H1 _ m1 env k1 hl1 (er.ext x1) (PO.bind h fun y k2 m2 H2 u x2 hl2 r2 h => ?_)
      unfold kRj2 at h
      split at h
      · rename_i b i e
        cases e
        unfold padO at h
        split at h
        · rename_i ok
          exact ⟨a, i, rStr r1, by rw [rInt r2], ok, PO.here hl2 h (by simp [rep])⟩
        · exact h.elim
      · exact h.elim
    · cases c
  · exact h.elim
def strsD : List D → Option (List Str)
  | [] => some []
  | .str x :: r => (strsD r).map (x :: ·)
  | _ => none
theorem strsD_ok {m : AM} {H : Hp} : ∀ {ds : List D} {vs : List V} {ys : List Str}, reps g m H ds vs → strsD ds = some ys → vs = ys.map V.str
  | [], vs, ys, r, e => by
    simp only [reps] at r
    simp only [strsD, Option.some.injEq] at e
    subst r
    subst e
    rfl
  | d :: ds, vs, ys, r, e => by
    simp only [reps] at r
    obtain ⟨v, us, rfl, h1, h2⟩ := r
    cases d with
    | str x =>
      simp only [strsD, Option.map_eq_some_iff] at e
      obtain ⟨zs, e1, rfl⟩ := e
      rw [strsD_ok h2 e1, rStr h1]
      rfl
    | _ => simp [strsD] at e
@[simp] def joinO (a : Str) : Option (List Str) → HP → R D
  | some ys, h => if (ys.map fun x => x.length).sum + ys.length * a.length ≤ 16777216 then .ok (.str (Txt.join a ys)) h else .stuck
  | none, _ => .stuck
@[simp] def kJo3 (a : Str) : Option (List D) → HP → R D
  | some ds, h => joinO a (strsD ds) h
  | none, _ => .stuck
@[simp] def kJo2 : D → D → HP → R D
  | .str a, y, h => kJo3 a (seqD h y) h
  | _, _, _ => .stuck
@[simp] def kJo1 (f : M D) (env : EN) (x : D) (h : HP) : R D := if isSD x = true then (f env h).bind (kJo2 x) else .stuck
@[simp] def mJoin (fo f : M D) (env : EN) (hp : HP) : R D := (fo env hp).bind (kJo1 f env)
theorem EV.join {o e : Expr} {apos pos : Pos} {fo f : M D} (hK : X.K = g.K) (ho : EV g X E o fo) (he : EV g X E e f)
    (h1 : starEach [e] X.env = [(false, eval e X.env)]) (h2 : attributeBase o "join" X.env (eval o X.env) = eval o X.env) (h3 : (apos.endLine == pos.line) = true) : EV g X E (.Call (.Attribute o "join" apos) [e] [] pos) (mJoin fo f) := by
  obtain ⟨to, po, qo⟩ := ho
  obtain ⟨t, p, q⟩ := he
  refine ⟨_, pe_join po p h1 h2 h3, fun σ H Q m env hp hl er h => ?_⟩
  refine qo σ H _ m env hp hl er (PO.bind h fun x k1 m1 H1 v x1 hl1 r1 h => ?_)
  unfold kJo1 at h
  split at h
  · rename_i c
    unfold isSD at c
    split at c
    · rename_i a
      refine ⟨⟨a, rStr r1⟩, ?_⟩
      refine q σ H1 _ m1 env k1 hl1 (er.ext x1) (PO.bind h fun y k2 m2 H2 u x2 hl2 r2 h => ?_)
      simp only [kJo2] at h
      unfold kJo3 at h
      split at h
      · rename_i ds e
        obtain ⟨p, vs, rfl, hs, rs⟩ := seqD_ok hl2 r2 e
        unfold joinO at h
        split at h
        · rename_i ys ey
          split at h
          · rename_i c
            have ev := strsD_ok rs ey
            subst ev
            exact ⟨a, p, ys, rStr r1, rfl, by rw [hK]; exact hs, c, PO.here hl2 h (by simp [rep])⟩
          · exact h.elim
        · exact h.elim
      · exact h.elim
    · cases c
  · exact h.elim
end
end Ev
namespace Ev
open PySem PySem.Spec PyProof.Rows L2
section
variable {g : G} {X : Cx} {E : XK}
@[simp] def keyD : Key → D
  | .inl i => .int i
  | .inr x => .str x
@[simp] def keysO : Option (List (Key × D)) → HP → R D
  | some ks, h => .ok (.lst (ks.map fun kv => keyD kv.1)) h
  | none, _ => .stuck
@[simp] def bListD : List D → HP → R D
  | [x], h => keysO (dicO h x) h
  | _, _ => .stuck
theorem repsKeys {m : AM} {H : Hp} : ∀ {ks : List (Key × D)} {vs : List (Key × V)}, repk g m H ks vs → reps g m H (ks.map fun kv => keyD kv.1) (vs.map fun kv => kV kv.1)
  | [], vs, r => by
    simp only [repk] at r
    subst r
    simp [reps]
  | (k, d) :: ks, vs, r => by
    simp only [repk] at r
    obtain ⟨v, us, rfl, h1, h2⟩ := r
    simp only [List.map_cons, reps]
    refine ⟨_, _, rfl, ?_, repsKeys h2⟩
    cases k <;> simp [keyD, rep, kV]
theorem cv_listD (hK : X.K = g.K) (hc : X.calm = true) : CV X g E (.type "list") bListD := by
  refine ⟨_, call_list_dK hc, fun m H hp ds vs Q hl r h => ?_⟩
  unfold bListD at h
  split at h
  · obtain ⟨v, rfl, rr⟩ := reps1 r
    unfold keysO at h
    split at h
    · rename_i ks e
      obtain ⟨n, a, us, rfl, _, _, rfl, ha, rk⟩ := dicO_ok hl rr e
      exact ⟨a, us, rfl, ha, fun q hq => PO.newF hl (repsKeys rk) h q hq⟩
    · exact h.elim
  · exact h.elim
end
end Ev
set_option maxHeartbeats 4000000
namespace EvR
open PySem PySem.Spec PyProof.Rows L2
section
end
end EvR
namespace Ev
open PySem PySem.Spec PyProof.Rows L2
section
variable {g : G} {X : Cx} {E : XK}
def repO (k : Int) : Option (List D) → HP → R D
  | some ds, h => if ds ≠ [] ∧ 0 ≤ k ∧ k ≤ 1000 ∧ ds.length ≤ 1000 then .ok (.tup (List.replicate k.toNat ds).flatten) h else .stuck
  | none, _ => .stuck
@[simp] def asTD : D → Option (List D)
  | .tup ds => some ds
  | _ => none
@[simp] def fRep : D → D → HP → R D
  | x, .int k, h => repO k (asTD x) h
  | _, _, _ => .stuck
theorem reps.app {m : AM} {H : Hp} : ∀ {ds : List D} {vs : List V} {es : List D} {us : List V}, reps g m H ds vs → reps g m H es us → reps g m H (ds ++ es) (vs ++ us)
  | [], vs, es, us, r, r2 => by
    simp only [reps] at r
    subst r
    simpa using r2
  | d :: ds, vs, es, us, r, r2 => by
    simp only [reps] at r
    obtain ⟨v, w, rfl, h1, h2⟩ := r
    simp only [List.cons_append, reps]
    exact ⟨v, w ++ us, rfl, h1, reps.app h2 r2⟩
theorem reps.rep {m : AM} {H : Hp} {ds : List D} {vs : List V} (r : reps g m H ds vs) : ∀ k : Nat, reps g m H (List.replicate k ds).flatten (List.replicate k vs).flatten
  | 0 => by simp [reps]
  | k + 1 => by
    rw [List.replicate_succ, List.replicate_succ, List.flatten_cons, List.flatten_cons]
    exact r.app (reps.rep r k)
@[simp] def catLL : Option (List D) → Option (List D) → HP → R D
  | some xs, some ys, h => if xs.length + ys.length ≤ sizeLine then newL true (xs ++ ys) h else .stuck
  | _, _, _ => .stuck
@[simp] def fAddL (x y : D) (h : HP) : R D := catLL (asLx h x) (asLx h y) h
end
end Ev
namespace Ev
open PySem PySem.Spec PyProof.Rows L2
section
variable {g : G} {X : Cx} {E : XK}
@[simp] def mDisp0 (_ : EN) (h : HP) : R D := .ok (.ref h.length) (h ++ [.dic []])
theorem EV.disp0 {pos : Pos} : EV g X E (.Dict [] [] pos) mDisp0 := by
  refine ⟨_, pe_dnewK, fun σ H Q m env hp hl er h p np => ?_⟩
  obtain ⟨x0, hl0⟩ := hl.push (o := .dK []) (ob := .dic []) np (by simp) fun x => ⟨[], upd_same, by simp [repk]⟩
  refine h _ _ _ x0 hl0 ?_
  simp only [rep]
  refine ⟨by simp [hl.len], fun a ea => ?_⟩
  rw [← hl.len, List.getElem?_append_right (Nat.le_refl _)] at ea
  simp at ea
  rw [ea]
@[simp] def kDGet12 (d k : D) (h : HP) : R D := dgetP .non (dKey k) (dicO h d) h
@[simp] def kDGet11 (fk : M D) (env : EN) (d : D) (h : HP) : R D := if (dicO h d).isSome = true then (fk env h).bind (kDGet12 d) else .stuck
@[simp] def mDGet1 (fd fk : M D) (env : EN) (h : HP) : R D := (fd env h).bind (kDGet11 fk env)
end
end Ev
set_option maxHeartbeats 4000000
namespace EvT
open PySem PySem.Spec PyProof.Rows L2 PySem.W
section
end
end EvT
namespace Ev
open PySem PySem.Spec PyProof.Rows L2
section
variable {g : G} {X : Cx} {E : XK}
@[simp] def keysT : Option (List (Key × D)) → HP → R D
  | some ks, h => .ok (.tup (ks.map fun kv => keyD kv.1)) h
  | none, _ => .stuck
@[simp] def bTupD : List D → HP → R D
  | [x], h => keysT (dicO h x) h
  | _, _ => .stuck
end
end Ev
namespace Ev
open PySem PySem.Spec PyProof.Rows L2
section
variable {g : G} {X : Cx} {E : XK}
def repLO (live : Bool) (k : Int) : Option (List D) → HP → R D
  | some ds, h => if 0 ≤ k ∧ k ≤ 1000 ∧ ds.length ≤ 1000 then newL live (List.replicate k.toNat ds).flatten h else .stuck
  | none, _ => .stuck
@[simp] def fRepL (live : Bool) : D → D → HP → R D
  | x, .int k, h => repLO live k (asLx h x) h
  | _, _, _ => .stuck
end
end Ev
namespace Ev
open PySem PySem.Spec PyProof.Rows L2
section
variable {g : G} {X : Cx} {E : XK}
variable {CX : CXT} {k n np : Nat} {f : Addr} {fd : FuncData} {ps ks : List Str} {Fa : FA} {x : Str} {p pos : Pos} {e : Expr} {es : List Expr} {kws : List Keyword} {fs fk : M (List D)} {gv : List Value → List Value → List Value} {gV : List V → List V → List V} {gD : List D → List D → List D}
def mkL (h0 : HP) : R D → R D
  | .ok .non h => .ok (.ref h0.length) h
  | _ => .stuck
@[simp] theorem mkL_ok (h0 h : HP) : mkL h0 (.ok .non h) = .ok (.ref h0.length) h := rfl
theorem mk_spL {c : Nat} {m : AM} {H : Hp} {hp : HP} {xs ys : List D} {vs ws : List V} {Q : VK} (hl : HL g m H hp) (r1 : reps g m H xs vs) (r2 : reps g m H ys ws) (hD : ArgO g gD gV) (hnp : (gMk gD hp xs ys).length = np)
    (h : PO g m H E (rep g) Q (mkL hp (Fa (gMk gD hp xs ys) (hp ++ [.ins c []])))) :
    ∀ x dx, H x = none → H dx = none → dx ≠ x → spF g np Fa (gV (.ref x :: vs) ws) (upd (upd H dx (.own x)) x (.ins (g.cA c) dx [])) (fun v H3 => v = .non ∧ Q (.ref x) H3) E := by
  intro x dx nx ndx ne
  obtain ⟨x1, hl1, _⟩ := hl.new (o := .own x) ndx
  have nx1 : (upd H dx (.own x)) x = none := by rw [upd_ne (Ne.symm ne)]; exact nx
  obtain ⟨x2, hl2⟩ := hl1.push (o := .ins (g.cA c) dx []) (ob := .ins c []) nx1 (by simp) fun x2 => ⟨dx, [], upd_same, by simp [repf]⟩
  have rx : rep g (m ++ [some x]) (upd (upd H dx (.own x)) x (.ins (g.cA c) dx [])) (.ref hp.length) (.ref x) := by
    simp only [rep]
    refine ⟨by simp [hl.len], fun a e => ?_⟩
    rw [← hl.len, List.getElem?_append_right (Nat.le_refl _)] at e
    simp at e
    rw [e]
  have rr := hD _ _ (.ref hp.length :: xs) (.ref x :: vs) ys ws (by simp only [reps]; exact ⟨_, _, rfl, rx, reps.ext (x1.trans x2) _ _ r1⟩) (reps.ext (x1.trans x2) _ _ r2)
  refine ⟨by rw [← reps.length rr]; exact hnp, _, _, _, hl2, rr, ?_⟩
  have e : gD (.ref hp.length :: xs) ys = gMk gD hp xs ys := rfl
  rw [e]
  revert h
  cases Fa (gMk gD hp xs ys) (hp ++ [.ins c []]) with
  | ok d h' =>
    cases d with
    | non =>
      intro h m' H' v x3 hl3 rv
      refine ⟨by simpa [rep] using rv, ?_⟩
      exact h m' H' (.ref x) ((x1.trans x2).trans x3) hl3 (rep.ext x3 _ _ rx)
    | _ => exact fun h => h.elim
  | exc _ _ _ => exact fun h => h.elim
  | stuck => exact fun h => h.elim
@[simp] def kMkL (c n : Nat) (F : FA) (xs : List D) (h : HP) : R D := if xs.length = n then mkL h (F (gMk gApp h xs []) (h ++ [.ins c []])) else .stuck
@[simp] def mMkL (c n : Nat) (F : FA) (a : M (List D)) (env : EN) (hp : HP) : R D := (a env hp).bind (kMkL c n F)
end
end Ev
namespace Ev
open PySem PySem.Spec PyProof.Rows L2
structure FunT (K : PySem.W.Frag) (x qual : Str) (st : Stmt) (f : Addr) (fd : FuncData) : Prop where
  ex : ∃ (oc : Value) (od : Option Addr) (dV kV doc pm : Value) (an : Option Addr) (cdv ct : Value) (osl : Array (Option Value)),
    fd = PySem.W.fnOf x qual (defArgs st) (defBody st) (defScope st) dV kV doc pm an cdv ct ∧ K.lookup f = some ⟨oc, od, .func fd, osl⟩ ∧ PySem.W.codeIn K cdv qual = true
  kp : PySem.W.keepIn K (.ref f) = true
section
variable {P : Program} {w : World} {K : PySem.W.Frag} {mg : Str → Option Value} {base : Heap} {g : G}
theorem FunT.ok {x qual : Str} {st : Stmt} {f : Addr} {fd : FuncData} {N ps : List Str} {k : Nat} {sp : Sp} (F : FunT K x qual st f fd) (S : FnScope N ps (defScope st)) (len : ∀ vs H Q E, sp vs H Q E → vs.length = ps.length)
    (hbody : ∀ (cdv : Value) (A : Around) (outer : List Env) (s : Shared) (H : Hp) (vs : List V) (Q : VK) (E : XK), Room k (A.deeper (envOfC qual (defScope st) s.heap.objs.size f cdv)) → sp vs H Q E →
      ∃ t, PSs (cxOf CX0 P w K mg base N qual (defScope st) f cdv A outer s H E).nox (defBody st) t ∧ t { nx := fun _ H' => Q .non H', rt := Q } (start N vs) H) : FnOk P w K mg base CX0 (k + 1) f fd ps sp := by
  obtain ⟨oc, od, dV, kV, doc, pm, an, cdv, ct, osl, rfl, lk, hcd⟩ := F.ex
  refine fn_of lk hcd S len fun A outer s H vs Q E hr hsp => ?_
  obtain ⟨t, h, q⟩ := hbody cdv A outer s H vs Q E hr hsp
  exact ⟨t, h.nox, q⟩
end
end Ev
namespace Ev
open PySem PySem.Spec PyProof.Rows L2
section
variable {X : Cx} {g : G} {E : XK}
@[simp] def insL (n : Nat) (i : Int) (y : D) : Option O → HP → R D
  | some (.lst ds), h => if ds.length < 100000 ∧ 0 ≤ i ∧ i < 1000000 then .ok .non (h.set n (.lst (ds.take i.toNat ++ [y] ++ ds.drop i.toNat))) else .stuck
  | _, _ => .stuck
@[simp] def lInsert : D → List D → HP → R D
  | .ref n, [.int i, y], h => insL n i y h[n]? h
  | _, _, _ => .stuck
end
end Ev
namespace EvS
open PySem PySem.Spec PyProof.Rows L2 EvZ
section
end
end EvS
namespace Ev
open PySem PySem.Spec PyProof.Rows L2 EvS
section
variable {g : G} {X : Cx} {E : XK}
@[simp] def lenSN : Option (List Int) → HP → R D
  | some ns, h => if ns.length ≤ 1000 then .ok (.int (srt ns).length) h else .stuck
  | none, _ => .stuck
@[simp] def lenSD : Option (List D) → HP → R D
  | some es, h => lenSN (intsD es) h
  | none, _ => .stuck
@[simp] def kLenSet (x : D) (h : HP) : R D := lenSD (asL h x) h
@[simp] def mLenSet (a : M D) (env : EN) (hp : HP) : R D := (a env hp).bind kLenSet
end
end Ev
namespace Ev
open PySem PySem.Spec PyProof.Rows L2 EvS
section
variable {g : G} {X : Cx} {E : XK}
def isrt (ns : List Int) : List Int := ns.mergeSort fun a b => decide (a ≤ b)
@[simp] def sortN : Option (List Int) → HP → R D
  | some ns, h => if ns.length < 64 then .ok (.lst ((isrt ns).map D.int)) h else .stuck
  | none, _ => .stuck
@[simp] def sortO : Option (List D) → HP → R D
  | some es, h => sortN (intsD es) h
  | none, _ => .stuck
@[simp] def bSort : List D → HP → R D
  | [x], h => sortO (asL h x) h
  | _, _ => .stuck
end
end Ev
namespace Ev
open PySem PySem.Spec PyProof.Rows L2 EvZ EvS
section
variable {g : G} {X : Cx} {E : XK}
@[simp] def revS : D → HP → R (List D × GdL)
  | .tup ds, h => .ok (ds.reverse, []) h
  | x, h => match lview h x with
    | some p => .ok (p.1.reverse, p.2) h
    | none => .stuck
@[simp] def iRevS (a : M D) (env : EN) (hp : HP) : R (List D × GdL) := (a env hp).bind revS
end
end Ev
namespace Ev
open PySem PySem.Spec PyProof.Rows L2
@[simp] def gRev (xs ys : List D) : List D := xs ++ ys.reverse
end Ev
namespace Ev
open PySem PySem.Spec PyProof.Rows L2
section
variable {g : G} {X : Cx} {E : XK}
variable {CX : CXT} {k n : Nat} {f : Addr} {fd : FuncData} {ps : List Str} {Fa : FA} {x : Str} {p pos : Pos}
@[simp] def kMeth0 (c : Nat) (nm : Str) (F : FA) (x : D) (h : HP) : R D := if methI c nm (asI h x) = true then F [x] h else .stuck
@[simp] def mMeth0 (c : Nat) (nm : Str) (F : FA) (o : M D) (env : EN) (hp : HP) : R D := (o env hp).bind (kMeth0 c nm F)
theorem EV.meth0 {c : Nat} {nm : Str} {o : Expr} {apos : Pos} {fo : M D} {pl : Sem Bool} (t : Cls X.K (g.cA c)) (hmt : Meth X.K (g.cA c) nm f) (F : FnOk X.prog X.w X.K X.mg X.base CX k f fd ps (spF g 1 Fa)) (hr : Room k X.A) (hb : Binds X.K fd ps []) (hx : Passes CX X E)
    (ho : EV g X E o fo)
    (ht : eval (.Call (.Attribute o nm apos) [] [] pos) X.env = (do
      let ov ← eval o X.env
      standAt apos.atName
      let (f, first) ← holding [ov] (getMethod ov nm pl)
      callWith pos f first (backTo pos (starEach [] X.env)) (backToKw pos (keywordEach [] X.env)))) :
    EV g X E (.Call (.Attribute o nm apos) [] [] pos) (mMeth0 c nm Fa fo) := by
  obtain ⟨to, po, qo⟩ := ho
  refine ⟨_, pe_meth0 po t hmt F hr hb .nil hx ht, fun σ H Q m env hp hl er h => ?_⟩
  refine qo σ H _ m env hp hl er (PO.bind h fun x h1 m1 H1 v x1 hl1 r1 h => ?_)
  unfold kMeth0 at h
  split at h
  · rename_i cnd
    unfold methI at cnd
    split at cnd
    · rename_i c' fs' e
      rw [Bool.and_eq_true] at cnd
      obtain ⟨a, dx, vs, rfl, ea, rf⟩ := asI_ok hl1 r1 e
      have ec := of_decide_eq_true cnd.1
      rw [ec] at ea
      refine ⟨a, dx, vs, rfl, ea, rf.lookup.2 (Option.isNone_iff_eq_none.mp cnd.2), ?_⟩
      refine ⟨rfl, m1, h1, [x], hl1, ?_, h⟩
      simp only [reps]
      exact ⟨_, _, rfl, r1, rfl⟩
    · cases cnd
  · exact h.elim
@[simp] def mMkL0 (c : Nat) (F : FA) (env : EN) (hp : HP) : R D := mkL hp (F [.ref hp.length] (hp ++ [.ins c []]))
theorem EV.mkL0 {c : Nat} (M : Mk X.K (g.cA c) f) (F : FnOk X.prog X.w X.K X.mg X.base CX k f fd ps (spF g 1 Fa)) (hr : Room (k + 1) X.A) (hm : X.mg x = some (.ref (g.cA c))) (hb : Binds X.K fd ps []) (hx : Passes CX X E)
    (hg : Gl X x) (hdb : (x == ("__debug__" : Str)) = false) : EV g X E (.Call (.Name x p) [] [] pos) (mMkL0 c Fa) := by
  refine ⟨_, pe_make0 M F hr hg hm hb .nil hx hdb, fun σ H Q m env hp hl er h => ?_⟩
  have := mk_spL (xs := []) (vs := []) (gV := fun vs ws => vs ++ ws) (gD := gApp) (ys := []) (ws := []) (np := 1) (Fa := Fa) (c := c) (Q := Q) hl (by simp [reps]) (by simp [reps]) ArgO.app (by simp) h
  intro y dy n1 n2 n3
  have := this y dy n1 n2 n3
  simpa using this
@[simp] def sameC (c : Nat) : Option (Nat × List (Str × D)) → Bool
  | some (c', _) => decide (c' = c)
  | none => false
@[simp] def kFA3 (f : Str) (env : EN) (o : D) (c : Nat) (a : Int) : D → HP → SR
  | .int b, h => if sameC c (asI h o) = true then (putR f (.int (a + b)) o h).sbind (kNx env) else .stuck
  | _, _ => .stuck
@[simp] def kFA2 (f : Str) (fv : M D) (env : EN) (o : D) (c : Nat) : D → HP → SR
  | .int a, h => (fv env h).sbind (kFA3 f env o c a)
  | _, _ => .stuck
@[simp] def kFA0 (f : Str) (fv : M D) (env : EN) (o : D) : Option (Nat × List (Str × D)) → HP → SR
  | some (c, fs), h => (optR (fs.lookup f) h).sbind (kFA2 f fv env o c)
  | none, _ => .stuck
@[simp] def kFA1 (f : Str) (fv : M D) (env : EN) (o : D) (h : HP) : SR := kFA0 f fv env o (asI h o) h
@[simp] def sFldAdd (f : Str) (fo fv : M D) (env : EN) (hp : HP) : SR := (fo env hp).sbind (kFA1 f fv env)
theorem SV.fldAdd {o e : Expr} {f : Str} {pos tpos : Pos} {fo fv : M D} (hK : X.K = g.K) (hcs : CsOk g f) (ho : EV g X E o fo) (hv : EV g X E e fv) : SV g X E (.AugAssign (.Attribute o f tpos) .Add e pos) (sFldAdd f fo fv) := by
  obtain ⟨to, po, qo⟩ := ho
  obtain ⟨tv, pv, qv⟩ := hv
  refine ⟨_, ps_fldaug po pv in_add, fun K σ H m env hp hl er h => ?_⟩
  refine qo σ H _ m env hp hl er (SPO.bind h fun od h1 m1 H1 u x1 hl1 r1 h => ?_)
  unfold kFA1 at h
  cases ea : asI h1 od with
  | none => rw [ea] at h; exact h.elim
  | some cf =>
    obtain ⟨c, fs⟩ := cf
    rw [ea] at h
    simp only [kFA0] at h
    cases el : fs.lookup f with
    | none => rw [el] at h; exact h.elim
    | some d0 =>
      rw [el] at h
      simp only [optR, R.sbind] at h
      obtain ⟨a, dx, vs, rfl, hA, rf⟩ := asI_ok hl1 r1 ea
      obtain ⟨v, ev, rv⟩ := rf.lookup.1 d0 el
      rw [hK]
      refine ⟨a, _, dx, vs, v, rfl, hA, (hcs c).1, (hcs c).2, ev, ?_⟩
      cases d0 with
      | int i =>
        simp only [kFA2] at h
        refine qv σ H1 _ m1 env h1 hl1 (er.ext x1) (SPO.bind h fun y h2 m2 H2 w x2 hl2 r2 h => ?_)
        cases y with
        | int j =>
          simp only [kFA3] at h
          split at h
          case isFalse => exact h.elim
          rename_i csame
          have e1 := rInt rv
          have e2 := rInt r2
          subst e1
          subst e2
          refine ⟨i, j, rfl, rfl, ?_⟩
          cases od with
          | ref n =>
            simp only [putR] at h
            cases eo : h2[n]? with
            | none => rw [eo] at h; exact h.elim
            | some ob =>
              rw [eo] at h
              cases ob with
              | ins c2 fs2 =>
                simp only [putI] at h
                split at h
                · rename_i hc
                  simp only [R.sbind, kNx] at h
                  have r1' := rep.ext x2 _ _ r1
                  simp only [rep] at r1'
                  obtain ⟨a2, ea2, dx2, vs2, hA2, rr2⟩ := hl2.at eo (by simp)
                  have e3 := r1'.2 a2 ea2
                  cases e3
                  -- the same object, the same class
                  have cc : g.cA c2 = g.cA c := by
                    simp only [asI_ref, eo, insO, sameC] at csame
                    rw [of_decide_eq_true csame]
                  obtain ⟨x6, hl6⟩ := hl2.write (u := .ins (g.cA c2) dx2 (putF f (.int (i + j)) vs2)) (ob' := .ins c2 (putD f (.int (i + j)) fs2)) ea2 eo (by simp) fun x6 => ⟨dx2, _, upd_same, repf.ext x6 _ _ (repf.put (by simp [rep]) rr2)⟩
                  rw [cc] at hA2 hl6 x6
                  exact ⟨dx2, vs2, hA2, by rw [← repf.length rr2]; exact hc, h m2 _ σ x6 hl6 ((er.ext x1).ext x2 |>.ext x6)⟩
                · exact h.elim
              | _ => exact h.elim
          | _ => exact h.elim
        | _ => exact h.elim
      | _ => exact h.elim
end
end Ev
namespace Ev
open PySem PySem.Spec PyProof.Rows L2
section
variable {g : G} {X : Cx} {E : XK}
def dropT (ks : List (Key × D)) (k : Key) : List (Key × D) := ks.filter fun p => decide (p.1 ≠ k)
theorem repk.drop {m : AM} {H : Hp} {k : Key} : ∀ {ks : List (Key × D)} {vs : List (Key × V)}, repk g m H ks vs → repk g m H (dropT ks k) (dropK vs k)
  | [], vs, h => by
    simp only [repk] at h
    subst h
    simp [dropT, dropK, repk]
  | (k', d') :: ks, vs, h => by
    simp only [repk] at h
    obtain ⟨w, r, rfl, h1, h2⟩ := h
    have ih := repk.drop (k := k) h2
    unfold dropT dropK at ih ⊢
    by_cases e : k' = k
    · simp only [List.filter_cons, e, ne_eq, not_true_eq_false, decide_false, Bool.false_eq_true, if_false]
      exact ih
    · simp only [List.filter_cons, e, ne_eq, not_false_eq_true, decide_true, if_true, repk]
      exact ⟨w, _, rfl, h1, ih⟩
@[simp] def ddelL (n : Nat) (k : Key) (env : EN) : Option O → HP → SR
  | some (.dic ks), h => if (valT ks k).isSome = true then .nx env (h.set n (.dic (dropT ks k))) else .stuck
  | _, _ => .stuck
@[simp] def ddelK (n : Nat) (env : EN) : Option Key → HP → SR
  | some k, h => ddelL n k env h[n]? h
  | none, _ => .stuck
@[simp] def kDDel2 (env : EN) : D → D → HP → SR
  | .ref n, k, h => ddelK n env (dKey k) h
  | _, _, _ => .stuck
@[simp] def kDDel1 (fi : M D) (env : EN) (o : D) (h : HP) : SR := (fi env h).sbind (kDDel2 env o)
@[simp] def sDDelS (fo fi : M D) (env : EN) (h : HP) : SR := (fo env h).sbind (kDDel1 fi env)
theorem SV.ddel {o i : Expr} {pos tpos : Pos} {fo fi : M D} (ho : EV g X E o fo) (hi : EV g X E i fi) : SV g X E (.Delete [.Subscript o i tpos] pos) (sDDelS fo fi) := by
  obtain ⟨to, po, qo⟩ := ho
  obtain ⟨ti, pi, qi⟩ := hi
  refine ⟨_, ps_ddel po pi, fun K σ H m env hp hl er h => ?_⟩
  refine qo σ H _ m env hp hl er (SPO.bind h fun od h2 m2 H2 u x2 hl2 r2 h => ?_)
  refine qi σ H2 _ m2 env h2 hl2 (er.ext x2) (SPO.bind h fun kd h3 m3 H3 w x3 hl3 r3 h => ?_)
  unfold kDDel2 at h
  split at h
  · rename_i n
    unfold ddelK at h
    split at h
    · rename_i k ek
      unfold ddelL at h
      split at h
      · rename_i ks eo
        split at h
        · rename_i lk
          obtain ⟨a, ea, us, hA, rr⟩ := hl3.at eo (by simp)
          have r2' := rep.ext x3 _ _ r2
          simp only [rep] at r2'
          obtain rfl := dKey_ok r3 ek
          obtain ⟨x6, hl6⟩ := hl3.write (u := .dK (dropK us k)) (ob' := .dic (dropT ks k)) ea eo (by simp) fun x6 => ⟨dropK us k, upd_same, repk.ext x6 _ _ rr.drop⟩
          exact ⟨a, us, k, r2'.2 a ea, hA, rfl, by rw [rr.isSome]; exact lk, h m3 _ σ x6 hl6 ((er.ext x2).ext x3 |>.ext x6)⟩
        · exact h.elim
      · exact h.elim
    · exact h.elim
  · exact h.elim
theorem reps_is {m : AM} {H : Hp} : ∀ ns : List Int, reps g m H (ns.map D.int) (ns.map V.int)
  | [] => by simp [reps]
  | n :: ns => by
    simp only [List.map_cons, reps]
    exact ⟨_, _, rfl, by simp [rep], reps_is ns⟩
@[simp] def remL (n : Nat) (k : Int) : Option O → HP → R D
  | some (.lst ds), h => (match intsD ds with | some ns => if k ∈ ns then .ok .non (h.set n (.lst ((ns.erase k).map D.int))) else .stuck | none => .stuck)
  | _, _ => .stuck
@[simp] def kRem2 : D → D → HP → R D
  | .ref n, .int k, h => remL n k h[n]? h
  | _, _, _ => .stuck
@[simp] def kRem1 (fi : M D) (env : EN) (o : D) (h : HP) : R D := if tyL h o = true then (fi env h).bind (kRem2 o) else .stuck
@[simp] def mRem (fo fi : M D) (env : EN) (hp : HP) : R D := (fo env hp).bind (kRem1 fi env)
theorem EV.rem {o e : Expr} {apos cpos : Pos} {fo fe : M D} (hK : X.K = g.K) (hc : X.calm = true) (ho : EV g X E o fo) (he : EV g X E e fe) (hbase : attributeBase o "remove" X.env (eval o X.env) = eval o X.env)
    (hfew : ((backTo cpos (starEach [e] X.env)).all (fun x => !x.1) && (backToKw cpos (keywordEach [] X.env)).all (fun x => x.1.isSome)
      && decide (([e] : List Expr).length + ([] : List Keyword).length + (if ([] : List Keyword).isEmpty then 0 else 1) < 30)) = true)
    (hline : (apos.endLine == cpos.line) = true) (hs : starEach [e] X.env = (false, eval e X.env) :: starEach [] X.env) (hplain : (backTo cpos (starEach [] X.env)).any (·.1) = false) :
    EV g X E (.Call (.Attribute o "remove" apos) [e] [] cpos) (mRem fo fe) := by
  obtain ⟨to, po, qo⟩ := ho
  obtain ⟨te, pe, qe⟩ := he
  refine ⟨_, pe_remX hc (W := fun _ _ _ _ => False) (fun _ _ h => by
    obtain ⟨_, _, _, _, _, _, _, _, _, _, _, _, _, _, _, _, z⟩ := h
    exact z.elim) po pe hbase hfew hline hs hplain, fun σ H Q m env hp hl er h => ?_⟩
  refine qo σ H _ m env hp hl er (PO.bind h fun x h1 m1 H1 v x1 hl1 r1 h => ?_)
  unfold kRem1 at h
  split at h
  · rename_i ty
    refine ⟨by rw [hK]; exact tyL_ok hl1 r1 ty, ?_⟩
    refine qe σ H1 _ m1 env h1 hl1 (er.ext x1) (PO.bind h fun y h2 m2 H2 w x2 hl2 r2 h => ?_)
    cases x with
    | ref n =>
      cases y with
      | int i =>
        simp only [kRem2] at h
        unfold remL at h
        split at h
        · rename_i ds eo
          split at h
          · rename_i ns en
            by_cases hk : i ∈ ns
            · rw [if_pos hk] at h
              have r1' := rep.ext x2 _ _ r1
              simp only [rep] at r1'
              obtain ⟨a, ea, us, hA, rr⟩ := hl2.at eo (by simp)
              obtain rfl := intsD_ok rr en
              have e2 := rInt r2
              subst e2
              obtain ⟨x6, hl6⟩ := hl2.write (u := .lst ((ns.erase i).map V.int)) (ob' := .lst ((ns.erase i).map D.int)) ea eo (by simp) fun x6 => ⟨(ns.erase i).map V.int, upd_same, reps_is _⟩
              exact ⟨a, ns, i, r1'.2 a ea, rfl, hA, fun _ => h m2 _ _ x6 hl6 (by simp [rep]), fun z => absurd hk z⟩
            · rw [if_neg hk] at h
              exact h.elim
          · exact h.elim
        · exact h.elim
      | _ => exact h.elim
    | _ => exact h.elim
  · exact h.elim
end
end Ev
set_option maxHeartbeats 4000000
namespace EvD
open PySem PySem.Spec PyProof.Rows L2
section
end
end EvD
set_option maxHeartbeats 4000000
namespace EvD
open PySem PySem.Spec PyProof.Rows L2
section
end
section
end
end EvD
set_option maxHeartbeats 4000000
namespace EvD
open PySem PySem.Spec PyProof.Rows L2
section
variable {X : Cx}
abbrev Bx (X : Cx) (scope : Scope) (s : Shared) (H : Hp) (C : Addr) (cl : List (Str × Addr)) (fp : List Addr) : Cx := X.blk s H scope (compEnvC scope cl C X.env) fp
end
end EvD
set_option maxHeartbeats 4000000
namespace EvD
open PySem PySem.Spec PyProof.Rows L2
end EvD
set_option maxHeartbeats 4000000
namespace Ev
open PySem PySem.Spec PyProof.Rows L2
section
variable {g : G} {X : Cx} {E : XK}
section
end
@[simp] def dKeys : List D → Option (List Key)
  | [] => some []
  | d :: ds => (dKey d).bind fun k => (dKeys ds).map fun ks => k :: ks
@[simp] def dKeyT : D → Option (List Key)
  | .tup ds => dKeys ds
  | _ => none
abbrev Ks := List (List Key × Addr × Value)
end
end Ev
set_option maxHeartbeats 4000000
namespace Ev
open PySem PySem.Spec PyProof.Rows L2 EvD
section
end
end Ev
set_option maxHeartbeats 4000000
namespace Ev
open PySem PySem.Spec PyProof.Rows L2 EvD
section
end
end Ev
set_option maxHeartbeats 4000000
namespace Ev
open PySem PySem.Spec PyProof.Rows L2 EvD
section
variable {g : G} {X : Cx} {E : XK}
theorem HL.live_at {m : AM} {H : Hp} {hp : HP} (hl : HL g m H hp) {a : Addr} (z : some a ∈ m) : ∃ (i : Nat) (o : O), hp[i]? = some o ∧ m[i]? = some (some a) ∧ liveO g m H a o := by
  obtain ⟨i, hi, e⟩ := List.getElem_of_mem z
  have em : m[i]? = some (some a) := by rw [List.getElem?_eq_getElem hi, e]
  obtain ⟨o, e1, lv⟩ := hl.lookup em
  exact ⟨i, o, e1, em, lv⟩
section
end
def okRf : O → Bool
  | .lst ds => rlt.rlts 0 ds
  | .dic ks => rlt.rltk 0 ks
  | .dicT ks => rltT 0 ks
  | .ins _ fs => rlt.rltf 0 fs
  | .dead => true
  | .dX => true
end
end Ev
set_option maxHeartbeats 4000000
namespace Ev
open PySem PySem.Spec PyProof.Rows L2 EvD
section
variable {g : G} {X : Cx} {E : XK}
/-- the same, with the iterator at one state alone -/
theorem lc_semA {wi : TI} {gt : TG} {tt : TT} {te : TE} {fi : IM} {own is : List Nat} {asg : TF} {cond : M Bool} {elt : M D} (live : Bool)
    (hg : ∀ v σ H Q m env hp d, HL g m H hp → ER g m H σ env → rep g m H d v → (∃ env', asg d env hp = some env' ∧ ∀ σ', Turned is σ σ' → ER g m H σ' env' → Q σ' H) → gt v σ H Q)
    (ht : ∀ σ H Q m env hp, HL g m H hp → ER g m H σ env → PO g m H E0 rB Q (cond env hp) → tt σ H Q)
    (he : ∀ σ H Q m env hp, HL g m H hp → ER g m H σ env → PO g m H E0 (rep g) Q (elt env hp) → te σ H Q)
    (hsub : ∀ i ∈ is, i ∈ own)
    {σ : L2.St} {H : Hp} {Q : VK} {m : AM} {env : EN} {hp : HP} (hi : ∀ Rr, IPO g m H E Rr (fi env hp) → wi σ H Rr) (hl : HL g m H hp) (er : ER g m H σ env) (h : PO g m H E (rep g) Q (mLc live fi own asg cond elt env hp)) : tLc wi gt tt te own σ H Q := by
  unfold mLc at h
  refine hi _ ?_
  revert h
  cases fi env hp with
  | exc c fs h1 => exact fun h => h
  | stuck => exact fun h => h
  | ok p h1 =>
    obtain ⟨items, gd⟩ := p
    intro h m1 H1 J x1 hl1 fo D hD
    have h : PO g m H E (rep g) Q ((lcE asg cond elt (wipeE env own) h1.length gd items (h1 ++ [.lst []])).bind fun _ h' => outL live h1 h') := h
    obtain ⟨x2, hl2⟩ := hl1.push (o := .lst []) (ob := .lst []) hD (by simp) fun x => ⟨[], upd_same, by simp [reps]⟩
    have er1 := (er.ext x1).wipe own
    have eD : ∀ {m' : AM} {H' : Hp} {b : Addr}, Ex (m1 ++ [some D]) (upd H1 D (.lst [])) m' H' → m'[h1.length]? = some (some b) → b = D := fun {m' H' b} x e => by
      have := x.mp h1.length b e (by simp [hl1.len])
      rw [← hl1.len, List.getElem?_append_right (Nat.le_refl _)] at this
      simp at this
      exact this.symm
    refine ⟨fun i k H' => k = items.length - i ∧ i ≤ items.length ∧ ∃ m' hp', Ex (m1 ++ [some D]) (upd H1 D (.lst [])) m' H' ∧ HL g m' H' hp' ∧
        PO g m1 H1 E (rep g) Q ((lcE asg cond elt (wipeE env own) h1.length gd (items.drop i) hp').bind fun _ h' => outL live h1 h'),
      ⟨items.length, rfl, Nat.zero_le _, m1 ++ [some D], h1 ++ [.lst []], .refl _ _, hl2, by rw [List.drop_zero]; exact PO.mono x1 h⟩, ?_⟩
    rintro i k H' ⟨rfl, hi', m', hp', x', hl', po⟩
    have xm1 : Ex m1 H1 m' H' := x2.trans x'
    by_cases hlt : i < items.length
    · have ed : items.drop i = items[i] :: items.drop (i + 1) := List.drop_eq_getElem_cons hlt
      rw [ed] at po
      unfold lcE at po
      by_cases hgd : Gd gd hp'
      · rw [if_pos hgd] at po
        refine .inr ⟨fo.go i m' H' hp' hlt xm1 hl' hgd, fun H'' => ∃ k', k' < items.length - i ∧ (k' = items.length - (i + 1) ∧ i + 1 ≤ items.length ∧ ∃ m' hp', Ex (m1 ++ [some D]) (upd H1 D (.lst [])) m' H'' ∧ HL g m' H'' hp' ∧
          PO g m1 H1 E (rep g) Q ((lcE asg cond elt (wipeE env own) h1.length gd (items.drop (i + 1)) hp').bind fun _ h' => outL live h1 h')), fun H'' z => z, fun x H'' y => ?_⟩
        obtain ⟨d, ed', xe, hl3, rd⟩ := fo.yld i m' H' hp' x H'' hlt xm1 hl' hgd y
        rw [List.getElem?_eq_getElem hlt] at ed'
        cases ed'
        split at po
        · rename_i env' easg
          have erw : ER g m' H'' (L2.wipe σ own) (wipeE env own) := er1.ext (xm1.trans xe)
          refine hg x (L2.wipe σ own) H'' _ m' (wipeE env own) hp' _ hl3 erw rd ⟨env', easg, fun σ' tn er' => ?_⟩
          refine ⟨by rw [wipe_turned tn hsub, wipe_wipe], ?_⟩
          rw [R.bind_assoc] at po
          refine ht σ' H'' _ m' env' hp' hl3 er' (PO.nx (E := E) (PO.bindB po (xm1.trans xe) fun b h4 m4 H4 v4 x4 hl4 r4 po => ?_))
          cases (show b = v4 from r4)
          cases b with
          | true =>
            rw [if_pos rfl] at po ⊢
            rw [R.bind_assoc] at po
            refine he σ' H4 _ m4 env' h4 hl4 (er'.ext x4) (PO.nx (E := E) (PO.bindB po ((xm1.trans xe).trans x4) fun y' h5 m5 H5 v5 x5 hl5 r5 po => ?_))
            rw [R.bind_assoc] at po
            unfold appL at po
            split at po
            · rename_i acc eacc
              split at po
              · rename_i hz
                obtain ⟨b, eb, vs, hb, rs⟩ := hl5.at eacc (by simp)
                have x5' := ((x'.trans xe).trans (x4.trans x5))
                obtain rfl := eD x5' eb
                refine ⟨vs, hb, by rw [← reps.length rs]; exact hz, ?_⟩
                obtain ⟨x6, hl6⟩ := hl5.write (u := .lst (vs ++ [v5])) (ob' := .lst (acc ++ [y'])) eb eacc (by simp) fun x6 => ⟨vs ++ [v5], upd_same, reps.ext x6 _ _ (reps.append rs (by simp only [reps]; exact ⟨v5, [], rfl, r5, rfl⟩))⟩
                exact ⟨items.length - (i + 1), by omega, rfl, hlt, m5, _, x5'.trans x6, hl6, po⟩
              · exact po.elim
            · exact po.elim
          | false =>
            rw [if_neg Bool.false_ne_true] at po ⊢
            exact ⟨items.length - (i + 1), by omega, rfl, hlt, m4, h4, (x'.trans xe).trans x4, hl4, po⟩
        · exact po.elim
      · rw [if_neg hgd] at po
        exact po.elim
    · have e : i = items.length := by omega
      subst e
      rw [List.drop_length] at po
      unfold lcE at po
      by_cases hgd : Gd gd hp'
      · rw [if_pos hgd] at po
        refine .inl ⟨fo.stop m' H' hp' xm1 hl' hgd, ?_⟩
        have po : PO g m1 H1 E (rep g) Q (outL live h1 hp') := po
        have rr : rep g m' H' (.ref h1.length) (.ref D) := by
          simp only [rep]
          refine ⟨Nat.lt_of_lt_of_le (by simp [hl1.len]) x'.le, fun a ea => ?_⟩
          rw [eD x' ea]
        unfold outL at po
        cases live with
        | true =>
          rw [if_pos rfl] at po
          exact po m' H' _ xm1 hl' rr
        | false =>
          rw [if_neg Bool.false_ne_true] at po
          exact PO.pure_ hl1 xm1 hl' rr po
      · rw [if_neg hgd] at po
        exact po.elim
theorem repkT.get {m : AM} {H : Hp} : ∀ {ks : List (List Key × D)} {vs : List (List Key × V)}, repkT g m H ks vs → ∀ {i : Nat} {k : List Key} {v : V}, vs[i]? = some (k, v) → ∃ d, ks[i]? = some (k, d) ∧ rep g m H d v
  | [], vs, r, i, k, v, e => by simp only [repkT] at r; subst r; simp at e
  | (k0, d0) :: ks, vs, r, i, k, v, e => by
    simp only [repkT] at r
    obtain ⟨v0, us, rfl, h1, h2⟩ := r
    cases i with
    | zero => simp at e; obtain ⟨rfl, rfl⟩ := e; exact ⟨d0, rfl, h1⟩
    | succ j => simpa using h2.get (by simpa using e)
end
end Ev
set_option maxHeartbeats 4000000
namespace Ev
open PySem PySem.Spec PyProof.Rows L2 EvD
section
variable {g : G} {X : Cx} {E : XK}
def NF : HO → Prop
  | .frz _ (.dK _) => False
  | .frz _ (.ins _ _ _) => False
  | _ => True
section
variable {m m' : AM} {H H' : Hp} (F : ∀ a o, H a = some o → some a ∉ m → NF o → H' a = some o ∧ some a ∉ m')
include F
theorem xg_at {a : Addr} {o : HO} (e : H a = some o) (n : some a ∉ m) (q : NF o) : H' a = some o ∧ some a ∉ m' := F a o e n q
theorem xg_rd {a : Addr} {o : HO} (e : Rd H a o) (n : some a ∉ m) (q : NF o) (q2 : ∀ od, NF (.frz od o)) : Rd H' a o ∧ some a ∉ m' := by
  rcases e with e | ⟨b, e⟩
  · obtain ⟨h1, h2⟩ := F a _ e n q
    exact ⟨.inl h1, h2⟩
  · obtain ⟨h1, h2⟩ := F a _ e n (q2 b)
    exact ⟨.inr ⟨b, h1⟩, h2⟩
mutual
theorem rep.xg : ∀ (d : D) (v : V), rlt 0 d = true → rep g m H d v → rep g m' H' d v
  | .non, v, _, h => by simpa [rep] using h
  | .bl b, v, _, h => by simpa [rep] using h
  | .int i, v, _, h => by simpa [rep] using h
  | .str s, v, _, h => by simpa [rep] using h
  | .tup ds, v, k, h => by
    simp only [rlt] at k
    simp only [rep] at h ⊢
    obtain ⟨a, vs, e, f, r⟩ := h
    exact ⟨a, vs, e, f.imp (fun q => xg_rd F q.1 q.2 trivial fun _ => trivial) id, reps.xg ds vs k r⟩
  | .lst ds, v, k, h => by
    simp only [rlt] at k
    simp only [rep] at h ⊢
    obtain ⟨a, vs, e, f, n, r⟩ := h
    obtain ⟨h1, h2⟩ := xg_at F f n trivial
    exact ⟨a, vs, e, h1, h2, reps.xg ds vs k r⟩
  | .klst ds, v, k, h => by
    simp only [rlt] at k
    simp only [rep] at h ⊢
    obtain ⟨a, vs, e, f, r⟩ := h
    exact ⟨a, vs, e, f.imp (fun q => xg_rd F q.1 q.2 trivial fun _ => trivial) id, reps.xg ds vs k r⟩
  | .dic ks, v, k, h => by
    simp only [rlt] at k
    simp only [rep] at h ⊢
    obtain ⟨a, vs, e, f, n, r⟩ := h
    obtain ⟨h1, h2⟩ := xg_at F f n trivial
    exact ⟨a, vs, e, h1, h2, repk.xg ks vs k r⟩
  | .set ks, v, k, h => by
    simp only [rep] at h ⊢
    obtain ⟨a, n, e, f, q⟩ := h
    obtain ⟨h1, h2⟩ := xg_at F f q trivial
    exact ⟨a, n, e, h1, h2⟩
  | .ins j fs, v, k, h => by
    simp only [rlt] at k
    simp only [rep] at h ⊢
    obtain ⟨a, dx, vs, e, f, n, r⟩ := h
    obtain ⟨h1, h2⟩ := xg_at F f n trivial
    exact ⟨a, dx, vs, e, h1, h2, repf.xg fs vs k r⟩
  | .ref n, v, k, h => by simp [rlt] at k
  | .xcp j fs, v, k, h => by
    simp only [rlt] at k
    simp only [rep] at h ⊢
    obtain ⟨a, oe, e, f, n, h1, h2, r⟩ := h
    obtain ⟨k1, k2⟩ := xg_at F f n (by unfold XO; trivial)
    refine ⟨a, oe, e, k1, k2, h1, h2, ?_⟩
    rcases r with r | ⟨d, ws, e1, e2, n2, r⟩
    · exact .inl r
    · obtain ⟨l1, l2⟩ := xg_at F e2 n2 trivial
      exact .inr ⟨d, ws, e1, l1, l2, repf.xg fs ws k r⟩
theorem reps.xg : ∀ (ds : List D) (vs : List V), rlt.rlts 0 ds = true → reps g m H ds vs → reps g m' H' ds vs
  | [], vs, _, h => by simpa [reps] using h
  | d :: ds, vs, k, h => by
    simp only [rlt.rlts, Bool.and_eq_true] at k
    simp only [reps] at h ⊢
    obtain ⟨v, r, e, h1, h2⟩ := h
    exact ⟨v, r, e, rep.xg d v k.1 h1, reps.xg ds r k.2 h2⟩
theorem repk.xg : ∀ (ds : List (Key × D)) (vs : List (Key × V)), rlt.rltk 0 ds = true → repk g m H ds vs → repk g m' H' ds vs
  | [], vs, _, h => by simpa [repk] using h
  | (q, d) :: ds, vs, k, h => by
    simp only [rlt.rltk, Bool.and_eq_true] at k
    simp only [repk] at h ⊢
    obtain ⟨v, r, e, h1, h2⟩ := h
    exact ⟨v, r, e, rep.xg d v k.1 h1, repk.xg ds r k.2 h2⟩
theorem repf.xg : ∀ (ds : List (Str × D)) (vs : List (Str × V)), rlt.rltf 0 ds = true → repf g m H ds vs → repf g m' H' ds vs
  | [], vs, _, h => by simpa [repf] using h
  | (q, d) :: ds, vs, k, h => by
    simp only [rlt.rltf, Bool.and_eq_true] at k
    simp only [repf] at h ⊢
    obtain ⟨v, r, e, h1, h2⟩ := h
    exact ⟨v, r, e, rep.xg d v k.1 h1, repf.xg ds r k.2 h2⟩
end
theorem repkT.xg : ∀ (ds : List (List Key × D)) (vs : List (List Key × V)), rltT 0 ds = true → repkT g m H ds vs → repkT g m' H' ds vs
  | [], vs, _, h => by simpa [repkT] using h
  | (q, d) :: ds, vs, k, h => by
    unfold rltT at k
    rw [List.all_cons, Bool.and_eq_true] at k
    simp only [repkT] at h ⊢
    obtain ⟨v, r, e, h1, h2⟩ := h
    exact ⟨v, r, e, rep.xg F d v k.1 h1, repkT.xg ds r k.2 h2⟩
end
theorem lock1 {m : AM} {H : Hp} {hp : HP} (hl : HL g m H hp) {n : Nat} {a : Addr} {o : O} (en : hp[n]? = some o) (ea : m[n]? = some (some a)) (u : HO) :
    Ex m H (m.set n none) (upd H a u) ∧ HL g (m.set n none) (upd H a u) (hp.set n .dead) ∧ some a ∉ m.set n none := by
  have ln : n < m.length := (List.getElem?_eq_some_iff.mp ea).1
  have am : some a ∈ m := List.mem_of_getElem? ea
  have get : ∀ i (b : Addr), (m.set n none)[i]? = some (some b) → i ≠ n ∧ m[i]? = some (some b) := fun i b e => by
    by_cases z : n = i
    · subst z; rw [List.getElem?_set_self ln] at e; cases e
    · rw [List.getElem?_set_ne z] at e; exact ⟨fun q => z q.symm, e⟩
  have out : ∀ b, some b ∉ m → some b ∉ m.set n none := fun b hb z => by
    obtain ⟨i, hi, e⟩ := List.getElem_of_mem z
    exact hb (List.mem_of_getElem? (get i b (by rw [List.getElem?_eq_getElem hi, e])).2)
  have na : some a ∉ m.set n none := fun z => by
    obtain ⟨i, hi, e⟩ := List.getElem_of_mem z
    obtain ⟨h1, h2⟩ := get i a (by rw [List.getElem?_eq_getElem hi, e])
    exact h1 (hl.nd i n a h2 ea)
  have x : Ex m H (m.set n none) (upd H a u) := ⟨by rw [List.length_set]; exact Nat.le_refl _, fun i b e _ => (get i b e).2, fun b o e q => ⟨by rw [upd_ne (fun z => by subst z; exact q am)]; exact e, out b q⟩⟩
  refine ⟨x, ⟨by simp [hl.len], fun i j b e1 e2 => hl.nd i j b (get i b e1).2 (get j b e2).2, fun i o e => ?_⟩, na⟩
  by_cases hi : n = i
  · subst hi
    rw [List.getElem?_set_self (by rw [← hl.len]; exact ln)] at e
    cases e
    exact .inl ⟨rfl, List.getElem?_set_self ln⟩
  · rw [List.getElem?_set_ne hi] at e
    rcases hl.live i o e with ⟨z1, z2⟩ | ⟨b, eb, lv⟩
    · exact .inl ⟨z1, by rw [List.getElem?_set_ne hi]; exact z2⟩
    · refine .inr ⟨b, by rw [List.getElem?_set_ne hi]; exact eb, lv.ext x ?_⟩
      rw [upd_ne (fun z => by subst z; exact hi (hl.nd n i b ea eb))]
/-- a live dict and the instance that holds it -/
structure Two (g : G) (m : AM) (H : Hp) (hp : HP) (n k : Nat) (a b : Addr) (ks : List (Key × D)) (vs : List (Key × V)) (c : Nat) (fs : List (Str × D)) (dx : Addr) (fv : List (Str × V)) : Prop where
  en : hp[n]? = some (.dic ks)
  ea : m[n]? = some (some a)
  ha : H a = some (.dK vs)
  rk : repk g m H ks vs
  ek : hp[k]? = some (.ins c fs)
  eb : m[k]? = some (some b)
  hb : H b = some (.ins (g.cA c) dx fv)
  rf : repf g m H fs fv
abbrev ded (n k : Nat) (hp : HP) : HP := (hp.set n .dead).set k .dead
abbrev H2 (g : G) (H : Hp) (a b : Addr) (vs : List (Key × V)) (c : Nat) (dx : Addr) (fv : List (Str × V)) (o1 o2 : Obj) : Hp := upd (upd H a (.frz o1 (.dK vs))) b (.frz o2 (.ins (g.cA c) dx fv))
variable {m : AM} {H : Hp} {hp : HP} {n k : Nat} {a b : Addr} {ks : List (Key × D)} {vs : List (Key × V)} {c : Nat} {fs : List (Str × D)} {dx : Addr} {fv : List (Str × V)}
theorem Two.ab (T : Two g m H hp n k a b ks vs c fs dx fv) : a ≠ b := fun z => by have h := T.ha; rw [z, T.hb] at h; cases h
theorem Two.nk (T : Two g m H hp n k a b ks vs c fs dx fv) : n ≠ k := fun z => by have h := T.en; rw [z, T.ek] at h; cases h
theorem lock2 (hl : HL g m H hp) (T : Two g m H hp n k a b ks vs c fs dx fv) (o1 o2 : Obj) :
    Ex m H ((m.set n none).set k none) (H2 g H a b vs c dx fv o1 o2) ∧ HL g ((m.set n none).set k none) (H2 g H a b vs c dx fv o1 o2) (ded n k hp) ∧ some a ∉ (m.set n none).set k none ∧ some b ∉ (m.set n none).set k none := by
  obtain ⟨x1, l1, n1⟩ := lock1 hl T.en T.ea (.frz o1 (.dK vs))
  obtain ⟨x2, l2, n2⟩ := lock1 l1 (n := k) (o := .ins c fs) (by rw [List.getElem?_set_ne T.nk]; exact T.ek) (by rw [List.getElem?_set_ne T.nk]; exact T.eb) (.frz o2 (.ins (g.cA c) dx fv))
  refine ⟨x1.trans x2, l2, ?_, n2⟩
  exact (x2.fz a (.frz o1 (.dK vs)) upd_same n1).2
theorem unlock2 (hl : HL g m H hp) (T : Two g m H hp n k a b ks vs c fs dx fv) {o1 o2 : Obj} (ok : (ded n k hp).all okRf = true)
    {m' : AM} {H' : Hp} (x' : Ex ((m.set n none).set k none) (H2 g H a b vs c dx fv o1 o2) m' H') (hl' : HL g m' H' (ded n k hp)) {d : D} {v : V} (kd : rlt 0 d = true) (r : rep g m' H' d v) :
    H' a = some (.frz o1 (.dK vs)) ∧ H' b = some (.frz o2 (.ins (g.cA c) dx fv)) ∧ ∃ m4, Ex m H m4 (upd (upd H' b (.ins (g.cA c) dx fv)) a (.dK vs)) ∧ HL g m4 (upd (upd H' b (.ins (g.cA c) dx fv)) a (.dK vs)) hp ∧ rep g m4 (upd (upd H' b (.ins (g.cA c) dx fv)) a (.dK vs)) d v := by
  obtain ⟨x, hl2, na, nb⟩ := lock2 hl T o1 o2
  have nk := T.nk
  have ab := T.ab
  have ln : n < m.length := (List.getElem?_eq_some_iff.mp T.ea).1
  have lk : k < m.length := (List.getElem?_eq_some_iff.mp T.eb).1
  have am : some a ∈ m := List.mem_of_getElem? T.ea
  have bm : some b ∈ m := List.mem_of_getElem? T.eb
  obtain ⟨fa, na'⟩ := x'.fz a (.frz o1 (.dK vs)) (by unfold H2; rw [upd_ne ab]; exact upd_same) na
  obtain ⟨fb, nb'⟩ := x'.fz b _ upd_same nb
  have lm : m'.length = m.length := by rw [hl'.len, List.length_set, List.length_set, hl.len]
  have dn : m'[n]? = some none := by
    rcases hl'.live n .dead (by rw [List.getElem?_set_ne (Ne.symm nk)]; exact List.getElem?_set_self (by rw [← hl.len]; exact ln)) with ⟨_, z⟩ | ⟨_, _, z⟩
    · exact z
    · exact z.elim
  have dk : m'[k]? = some none := by
    rcases hl'.live k .dead (List.getElem?_set_self (by rw [List.length_set, ← hl.len]; exact lk)) with ⟨_, z⟩ | ⟨_, _, z⟩
    · exact z
    · exact z.elim
  have old : ∀ i (y : Addr), m'[i]? = some (some y) → i ≠ n ∧ i ≠ k ∧ m[i]? = some (some y) := fun i y e => by
    have li : i < m'.length := (List.getElem?_eq_some_iff.mp e).1
    have := x'.mp i y e (by rw [List.length_set, List.length_set]; omega)
    have ne : i ≠ n := fun z => by subst z; rw [dn] at e; cases e
    have ne2 : i ≠ k := fun z => by subst z; rw [dk] at e; cases e
    rw [List.getElem?_set_ne (fun z => ne2 z.symm), List.getElem?_set_ne (fun z => ne z.symm)] at this
    exact ⟨ne, ne2, this⟩
  have get : ∀ i (y : Addr), ((m'.set n (some a)).set k (some b))[i]? = some (some y) → (i = n ∧ y = a) ∨ (i = k ∧ y = b) ∨ (i ≠ n ∧ i ≠ k ∧ m'[i]? = some (some y)) := fun i y e => by
    by_cases z2 : k = i
    · subst z2; rw [List.getElem?_set_self (by rw [List.length_set]; omega)] at e; cases e; exact .inr (.inl ⟨rfl, rfl⟩)
    · rw [List.getElem?_set_ne z2] at e
      by_cases z : n = i
      · subst z; rw [List.getElem?_set_self (by omega)] at e; cases e; exact .inl ⟨rfl, rfl⟩
      · rw [List.getElem?_set_ne z] at e; exact .inr (.inr ⟨fun q => z q.symm, fun q => z2 q.symm, e⟩)
  have out : ∀ y, y ≠ a → y ≠ b → some y ∉ m' → some y ∉ (m'.set n (some a)).set k (some b) := fun y hy hy2 hm z => by
    obtain ⟨i, hi, e⟩ := List.getElem_of_mem z
    rcases get i y (by rw [List.getElem?_eq_getElem hi, e]) with ⟨_, q⟩ | ⟨_, q⟩ | ⟨_, _, q⟩
    · exact hy q
    · exact hy2 q
    · exact hm (List.mem_of_getElem? q)
  have F : ∀ y o, H' y = some o → some y ∉ m' → NF o → (upd (upd H' b (.ins (g.cA c) dx fv)) a (.dK vs)) y = some o ∧ some y ∉ (m'.set n (some a)).set k (some b) := fun y o e q nf => by
    have n1 : y ≠ a := fun z => by subst z; rw [fa] at e; cases e; exact nf
    have n2 : y ≠ b := fun z => by subst z; rw [fb] at e; cases e; exact nf
    exact ⟨by rw [upd_ne n1, upd_ne n2]; exact e, out y n1 n2 q⟩
  have x4 : Ex m H ((m'.set n (some a)).set k (some b)) (upd (upd H' b (.ins (g.cA c) dx fv)) a (.dK vs)) := by
    refine ⟨by rw [List.length_set, List.length_set]; omega, fun i y e _ => ?_, fun y o e q => ?_⟩
    · rcases get i y e with ⟨rfl, rfl⟩ | ⟨rfl, rfl⟩ | ⟨_, _, q⟩
      · exact T.ea
      · exact T.eb
      · exact (old i y q).2.2
    · obtain ⟨h1, h2⟩ := (x.trans x').fz y o e q
      have n1 : y ≠ a := fun z => by subst z; exact q am
      have n2 : y ≠ b := fun z => by subst z; exact q bm
      exact ⟨by rw [upd_ne n1, upd_ne n2]; exact h1, out y n1 n2 h2⟩
  refine ⟨fa, fb, (m'.set n (some a)).set k (some b), x4, ⟨by rw [List.length_set, List.length_set]; have := hl.len; omega, fun i j y e1 e2 => ?_, fun i o e => ?_⟩, rep.xg F d v kd r⟩
  · rcases get i y e1 with ⟨rfl, rfl⟩ | ⟨rfl, rfl⟩ | ⟨_, _, q1⟩ <;> rcases get j _ e2 with ⟨rfl, q2⟩ | ⟨rfl, q2⟩ | ⟨_, _, q2⟩
    · rfl
    · exact absurd q2 ab
    · exact absurd (List.mem_of_getElem? q2) na'
    · exact absurd q2.symm ab
    · rfl
    · exact absurd (List.mem_of_getElem? q2) nb'
    · subst q2; exact absurd (List.mem_of_getElem? q1) na'
    · subst q2; exact absurd (List.mem_of_getElem? q1) nb'
    · exact hl'.nd i j y q1 q2
  · by_cases hi : n = i
    · subst hi
      have e2 := T.en
      rw [e] at e2
      cases e2
      exact .inr ⟨a, by rw [List.getElem?_set_ne (Ne.symm nk)]; exact List.getElem?_set_self (by omega), vs, upd_same, repk.ext x4 _ _ T.rk⟩
    · by_cases hk : k = i
      · subst hk
        have e2 := T.ek
        rw [e] at e2
        cases e2
        exact .inr ⟨b, List.getElem?_set_self (by rw [List.length_set]; omega), dx, fv, by rw [upd_ne (Ne.symm ab)]; exact upd_same, repf.ext x4 _ _ T.rf⟩
      · have em : (ded n k hp)[i]? = some o := by rw [List.getElem?_set_ne hk, List.getElem?_set_ne hi]; exact e
        have ko : okRf o = true := by rw [List.all_eq_true] at ok; exact ok o (List.mem_of_getElem? em)
        rcases hl'.live i o em with ⟨z1, z2⟩ | ⟨y, ey, lv⟩
        · exact .inl ⟨z1, by rw [List.getElem?_set_ne hk, List.getElem?_set_ne hi]; exact z2⟩
        · have n1 : y ≠ a := fun z => by subst z; exact na' (List.mem_of_getElem? ey)
          have n2 : y ≠ b := fun z => by subst z; exact nb' (List.mem_of_getElem? ey)
          refine .inr ⟨y, by rw [List.getElem?_set_ne hk, List.getElem?_set_ne hi]; exact ey, ?_⟩
          cases o with
          | lst ds => obtain ⟨us, h1, r⟩ := lv; exact ⟨us, by rw [upd_ne n1, upd_ne n2]; exact h1, reps.xg F _ _ ko r⟩
          | dic ds => obtain ⟨us, h1, r⟩ := lv; exact ⟨us, by rw [upd_ne n1, upd_ne n2]; exact h1, repk.xg F _ _ ko r⟩
          | dicT ds => obtain ⟨us, h1, r⟩ := lv; exact ⟨us, by rw [upd_ne n1, upd_ne n2]; exact h1, repkT.xg F _ _ ko r⟩
          | dX => obtain ⟨ψ, h1⟩ := lv; exact ⟨ψ, by rw [upd_ne n1, upd_ne n2]; exact h1⟩
          | ins c fs => obtain ⟨dx, us, h1, r⟩ := lv; exact ⟨dx, us, by rw [upd_ne n1, upd_ne n2]; exact h1, repf.xg F _ _ ko r⟩
          | dead => exact lv.elim
end
end Ev
set_option maxHeartbeats 4000000
namespace Ev
open PySem PySem.Spec PyProof.Rows L2 EvD
section
variable {g : G} {X : Cx} {E : XK}
def tFldF (K : PySem.W.Frag) (ta : TE) (f : Str) : TE := fun σ H Q => ta σ H fun x H1 => ∃ a od C dx fs v, x = .ref a ∧ H1 a = some (.frz od (.ins C dx fs)) ∧ Cls K C ∧ NoAttr K C f ∧ fs.lookup f = some v ∧ Q v H1
theorem pe_fldF {e : Expr} {f : Str} {pos : Pos} {ta : TE} (he : PE X e ta) (hb : attributeBase e f X.env (eval e X.env) = eval e X.env) : PE X (.Attribute e f pos) (tFldF X.K ta f) := by
  refine ⟨fun pins s σ H Q I h => ?_⟩
  refine attr_of hb (thn (he.run pins s σ H _ I h) fun u s1 ⟨x, H1, I1, rx, a, od, C, dx, fs, v, ex, ea, c, n, l, q⟩ => ?_)
  subst ex
  obtain rfl : u = Value.ref a := rx
  obtain ⟨_, d, z, ne, ob, mA, n', r, _⟩ := (show ObjOk X.prog X.w H1 s1.heap a (.frz od (.ins C dx fs)) from I1.hok a _ ea)
  obtain ⟨u', hu, ru⟩ := RelO.some_of (v := v) (o := mA f) (by rw [← l]; exact r f)
  exact get_map I1.kIn ⟨ob, n', ne⟩ (c.get f) c.hd n hu (handed_of ru) ⟨v, H1, I1.tok _, ru, q⟩
theorem repk.get {m : AM} {H : Hp} : ∀ {ks : List (Key × D)} {vs : List (Key × V)}, repk g m H ks vs → ∀ {i : Nat} {k : Key} {v : V}, vs[i]? = some (k, v) → ∃ d, ks[i]? = some (k, d) ∧ rep g m H d v
  | [], vs, r, i, k, v, e => by simp only [repk] at r; subst r; simp at e
  | (k0, d0) :: ks, vs, r, i, k, v, e => by
    simp only [repk] at r
    obtain ⟨v0, us, rfl, h1, h2⟩ := r
    cases i with
    | zero => simp at e; obtain ⟨rfl, rfl⟩ := e; exact ⟨d0, rfl, h1⟩
    | succ j => simpa using h2.get (by simpa using e)
/-- what is walked: the pairs, the values -/
def wkD (vals : Bool) (ks : List (Key × D)) : List D := ks.map fun p => if vals = true then p.2 else .tup [keyD p.1, p.2]
theorem foll_items {m0 : AM} {H0 : Hp} {a : Addr} {od : Obj} {ks : List (Key × D)} {vs : List (Key × V)} (ha : H0 a = some (.frz od (.dK vs))) (na : some a ∉ m0) (rk : repk g m0 H0 ks vs) : Foll g m0 H0 (Iti a od vs) (wkD false ks) [] := by
  have len : (wkD false ks).length = vs.length := by unfold wkD; rw [List.length_map, rk.length]
  refine ⟨fun i m1 H1 hp hi x hl gd => ⟨(x.fz _ _ ha na).1, by omega⟩, fun i m1 H1 hp v H' hi x hl gd y => ?_, fun m1 H1 hp x hl gd => ⟨(x.fz _ _ ha na).1, by rw [len]; exact Nat.le_refl _⟩⟩
  obtain ⟨T, k, u, e, rfl, nT, rfl⟩ := y
  obtain ⟨d, e2, r⟩ := rk.get e
  obtain ⟨x', hl2, rr⟩ := new_pair hl nT (a := keyD k) (x := kV k) (by cases k <;> simp [rep, keyD, kV]) (rep.ext x _ _ r)
  exact ⟨.tup [keyD k, d], by unfold wkD; rw [List.getElem?_map, e2]; rfl, x', hl2, rr⟩
open Classical in
noncomputable def doneW (hp : HP) (n k : Nat) (d : D) (h' : HP) : R D := if h' = ded n k hp ∧ (ded n k hp).all okRf = true ∧ rlt 0 d = true then .ok d hp else .stuck
noncomputable def kLcW3 (vals : Bool) (own : List Nat) (asg : TF) (cond : M Bool) (elt : M D) (env : EN) (hp : HP) (k n : Nat) : Option O → R D
  | some (.dic ks) => (mLc false (fun _ h => .ok (wkD vals ks, []) h) own asg cond elt env (ded n k hp)).bind (doneW hp n k)
  | _ => .stuck
noncomputable def kLcW2 (vals : Bool) (own : List Nat) (asg : TF) (cond : M Bool) (elt : M D) (env : EN) (hp : HP) (k : Nat) : Option D → R D
  | some (.ref n) => kLcW3 vals own asg cond elt env hp k n hp[n]?
  | _ => .stuck
noncomputable def kLcW1 (vals : Bool) (f : Str) (own : List Nat) (asg : TF) (cond : M Bool) (elt : M D) (env : EN) (hp : HP) (k : Nat) : Option O → R D
  | some (.ins _ fs) => kLcW2 vals own asg cond elt env hp k (fs.lookup f)
  | _ => .stuck
noncomputable def kLcW (vals : Bool) (f : Str) (own : List Nat) (asg : TF) (cond : M Bool) (elt : M D) (env : EN) (hp : HP) : Option (Option D) → R D
  | some (some (.ref k)) => kLcW1 vals f own asg cond elt env hp k hp[k]?
  | _ => .stuck
noncomputable def mLcW (vals : Bool) (i : Nat) (f : Str) (own : List Nat) (asg : TF) (cond : M Bool) (elt : M D) : M D := fun env hp => kLcW vals f own asg cond elt env hp env[i]?
theorem lcW_core {vals : Bool} {i : Nat} {f : Str} {own is : List Nat} {asg : TF} {cond : M Bool} {fe : M D} {gt : TG} {tt : TT} {te : TE} {JJ : Addr → Obj → List (Key × V) → It} {x : Str} (hK : X.K = g.K) (hcs : CsOk g f)
    (fo : ∀ {m0 : AM} {H0 : Hp} {a : Addr} {od : Obj} {ks : List (Key × D)} {vs : List (Key × V)}, H0 a = some (.frz od (.dK vs)) → some a ∉ m0 → repk g m0 H0 ks vs → Foll g m0 H0 (JJ a od vs) (wkD vals ks) [])
    (hg : ∀ v σ H Q m env hp d, HL g m H hp → ER g m H σ env → rep g m H d v → (∃ env', asg d env hp = some env' ∧ ∀ σ', Turned is σ σ' → ER g m H σ' env' → Q σ' H) → gt v σ H Q)
    (ht : ∀ σ H Q m env hp, HL g m H hp → ER g m H σ env → PO g m H E0 rB Q (cond env hp) → tt σ H Q)
    (he : ∀ σ H Q m env hp, HL g m H hp → ER g m H σ env → PO g m H E0 (rep g) Q (fe env hp) → te σ H Q)
    (hs : ∀ j ∈ is, j ∈ own) {σ : L2.St} {H : Hp} {Q : VK} {m : AM} {env : EN} {hp : HP} (hl : HL g m H hp) (er : ER g m H σ env) (h : PO g m H E (rep g) Q (mLcW vals i f own asg cond fe env hp)) :
    tLockE (tLockE (tLc (fun σ H R => tFldF X.K (tVar i) f σ H fun x H1 => ∃ d o kvs, x = .ref d ∧ H1 d = some (.frz o (.dK kvs)) ∧ R (JJ d o kvs) H1) gt tt te own)) σ H Q := by
  unfold mLcW kLcW at h
  split at h
  · rename_i k ek
    unfold kLcW1 at h
    split at h
    · rename_i c fs eo
      unfold kLcW2 at h
      split at h
      · rename_i n en
        unfold kLcW3 at h
        split at h
        · rename_i ks ed
          obtain ⟨a, ea, vs, ha, rk⟩ := hl.at ed (by simp)
          obtain ⟨b, eb, dx, fv, hb, rf⟩ := hl.at eo (by simp)
          have T : Two g m H hp n k a b ks vs c fs dx fv := ⟨ed, ea, ha, rk, eo, eb, hb, rf⟩
          obtain ⟨v, ev, rv⟩ := er.at_ i _ ek
          simp only [rep] at rv
          obtain rfl := rv.2 b eb
          obtain ⟨w, ew, rw1⟩ := rf.lookup.1 _ en
          simp only [rep] at rw1
          obtain rfl := rw1.2 a ea
          refine ⟨a, .dK vs, ha, trivial, fun o1 => ⟨b, .ins (g.cA c) dx fv, by rw [upd_ne (Ne.symm T.ab)]; exact hb, trivial, fun o2 => ?_⟩⟩
          obtain ⟨xl, hl2, na, nb⟩ := lock2 hl T o1 o2
          have hA : (H2 g H a b vs c dx fv o1 o2) a = some (.frz o1 (.dK vs)) := by unfold H2; rw [upd_ne T.ab]; exact upd_same
          refine lc_semA (E := E) (is := is) (fi := fun _ h => .ok (wkD vals ks, []) h) false hg ht he hs (fun Rr ipo => ⟨.ref b, ev, b, o2, g.cA c, dx, fv, .ref a, rfl, upd_same, by rw [hK]; exact (hcs c).1, by rw [hK]; exact (hcs c).2, ew, a, o1, vs, rfl, hA, ipo _ _ _ (.refl _ _) hl2 (fo hA na (repk.ext xl _ _ rk))⟩) hl2 (er.ext xl) (PO.bindB h xl fun d h' m' H' v x' hl' r po => ?_)
          unfold doneW at po
          split at po
          · rename_i cnd
            obtain ⟨rfl, ok, kd⟩ := cnd
            obtain ⟨fa, fb, m4, x4, hl4, r4⟩ := unlock2 hl T ok x' hl' kd r
            exact ⟨fb, by rw [upd_ne T.ab]; exact fa, po m4 _ v x4 hl4 r4⟩
          · exact po.elim
        · exact h.elim
      · exact h.elim
    · exact h.elim
  · exact h.elim
variable {i : Nat} {x f : Str} {px pf pa pc : Pos} {elt : Expr} {ifs : List Expr} {scope : Scope} {own : List (Str × Nat)} {is : List Nat} {pos : Pos} {asg : TF} {cond : M Bool} {fe : M D}
theorem SV.setLcItems {j : Nat} {y : Str} {py spos : Pos} {elts : List Expr} {kk : Nat} {tp : Pos} (hK : X.K = g.K) (hcs : CsOk g f) (hc : X.calm = true) (hN : X.N.Nodup) (hx : X.N[i]? = some x) (hv : Vis X.env.scope x) (hd : (x == ("__debug__" : Str)) = false) (hcd : (x == ("__classdict__" : Str)) = false)
    (hb1 : attributeBase (.Name x px) f X.env (eval (.Name x px) X.env) = eval (.Name x px) X.env) (hb2 : attributeBase (.Attribute (.Name x px) f pf) "items" X.env (eval (.Attribute (.Name x px) f pf) X.env) = eval (.Attribute (.Name x px) f pf) X.env) (hline : (pa.endLine == pc.line) = true)
    (ok : blkC X.N X.env.scope scope own = true) (hg : ∀ s H C cl fp, GV g (Blk X scope s H C cl fp) (.Tuple elts kk tp) is asg) (ht : ∀ s H C cl fp, CV1 g (Blk X scope s H C cl fp) ifs cond) (he : ∀ s H C cl fp, EV g (Blk X scope s H C cl fp) E0 elt fe) (hs : ∀ j ∈ is, j ∈ own.map (·.2))
    (hsf : ∀ z, foldedSetIterable (.Call (.Attribute (.Attribute (.Name x px) f pf) "items" pa) [] [] pc) X.env z = pure z)
    (hy : X.N[j]? = some y) (hyl : X.env.scope.names.lookup y = some .local) (hsw : swapsWith (.ListComp elt [⟨.Tuple elts kk tp, .Call (.Attribute (.Attribute (.Name x px) f pf) "items" pa) [] [] pc, ifs, 0⟩] scope pos) (some (.Name y py)) spos.line X.env = pure true) :
    SV g X E (.Assign [.Name y py] (.ListComp elt [⟨.Tuple elts kk tp, .Call (.Attribute (.Attribute (.Name x px) f pf) "items" pa) [] [] pc, ifs, 0⟩] scope pos) spos) (sAsg (mLcW false i f (own.map (·.2)) asg cond fe) (gNm j)) := by
  refine ⟨_, ps_lock (ps_lock (ps_setLc hc hN hy hyl hsw (pi_items (pe_fldF (pe_var hx hv hd hcd) hb1) hb2 hline) (blkOk_by ok)
    (g := fun v σ H Q => ∀ s H' C cl fp, Classical.choose (hg s H' C cl fp).ex v σ H Q) (fun s H C cl fp => PG.weak (Classical.choose_spec (hg s H C cl fp).ex).1 fun v σ H' Q q => q s H C cl fp)
    (tt := fun σ H Q => ∀ s H' C cl fp, Classical.choose (ht s H' C cl fp).ex σ H Q) (fun s H C cl fp => PTs.weak (Classical.choose_spec (ht s H C cl fp).ex).1 fun σ H' Q q => q s H C cl fp)
    (te := fun σ H Q => ∀ s H' C cl fp, Classical.choose (he s H' C cl fp).ex σ H Q) (fun s H C cl fp => PE.weak (Classical.choose_spec (he s H C cl fp).ex).1 fun σ H' Q q => q s H C cl fp) hsf)), fun K σ H m env hp hl er h => ?_⟩
  exact lcW_core (x := x) (JJ := Iti) hK hcs foll_items (fun v σ H Q m env hp d hl er r h s H' C cl fp => (Classical.choose_spec (hg s H' C cl fp).ex).2 v σ H Q m env hp d hl er r h) (fun σ H Q m env hp hl er h s H' C cl fp => (Classical.choose_spec (ht s H' C cl fp).ex).2 σ H Q m env hp hl er h)
    (fun σ H Q m env hp hl er h s H' C cl fp => (Classical.choose_spec (he s H' C cl fp).ex).2 σ H Q m env hp hl er h) hs hl er (SPO.bind h fun x h1 m1 H1 v x1 hl1 r1 h => h m1 H1 _ (.refl _ _) hl1 ((er.ext x1).set r1))
end
end Ev
set_option maxHeartbeats 4000000
namespace Ev
open PySem PySem.Spec PyProof.Rows L2 EvD
section
variable {g : G} {X : Cx} {E : XK}
theorem HL.kept {m : AM} {H H' : Hp} {hp : HP} (hl : HL g m H hp) (k : ∀ b o, H b = some o → H' b = some o) : Ex m H m H' ∧ HL g m H' hp := by
  have x : Ex m H m H' := ⟨Nat.le_refl _, fun _ _ e _ => e, fun a o e n => ⟨k a o e, n⟩⟩
  refine ⟨x, hl.len, hl.nd, fun i o e => ?_⟩
  rcases hl.live i o e with z | ⟨b, eb, lv⟩
  · exact .inl z
  · refine .inr ⟨b, eb, ?_⟩
    cases o with
    | lst ds => obtain ⟨us, h1, r⟩ := lv; exact ⟨us, k _ _ h1, reps.ext x _ _ r⟩
    | dic ds => obtain ⟨us, h1, r⟩ := lv; exact ⟨us, k _ _ h1, repk.ext x _ _ r⟩
    | dicT ds => obtain ⟨us, h1, r⟩ := lv; exact ⟨us, k _ _ h1, repkT.ext x _ _ r⟩
    | dX => obtain ⟨ψ, h1⟩ := lv; exact ⟨ψ, k _ _ h1⟩
    | ins c fs => obtain ⟨dx, us, h1, r⟩ := lv; exact ⟨dx, us, k _ _ h1, repf.ext x _ _ r⟩
    | dead => exact lv.elim
theorem HL.fresh {m : AM} {H : Hp} {hp : HP} (hl : HL g m H hp) {p : Addr} (n : H p = none) : some p ∉ m := fun z => by
  obtain ⟨i, o, _, _, lv⟩ := hl.live_at z
  cases o with
  | lst ds => obtain ⟨vs, h1, _⟩ := lv; rw [n] at h1; cases h1
  | dic ds => obtain ⟨vs, h1, _⟩ := lv; rw [n] at h1; cases h1
  | dicT ds => obtain ⟨vs, h1, _⟩ := lv; rw [n] at h1; cases h1
  | dX => obtain ⟨vs, h1⟩ := lv; rw [n] at h1; cases h1
  | ins c fs => obtain ⟨dx, vs, h1, _⟩ := lv; rw [n] at h1; cases h1
  | dead => exact lv.elim
theorem reps_items {m : AM} {H : Hp} : ∀ {ts : List Addr} {ks : List (Key × D)} {vs : List (Key × V)}, repk g m H ks vs → Paired (fun (t : Addr) (q : Key × V) => H t = some (.tup [kV q.1, q.2])) ts vs → (∀ t ∈ ts, some t ∉ m) → reps g m H (wkD false ks) (ts.map V.ref)
  | [], ks, vs, rk, pr, n => by
    cases pr
    cases ks with
    | nil => simp [wkD, reps]
    | cons k ks => obtain ⟨k, d⟩ := k; simp only [repk] at rk; obtain ⟨_, _, z, _⟩ := rk; cases z
  | t :: ts, ks, vs, rk, pr, n => by
    cases pr with
    | cons h pr =>
      rename_i q qs
      cases ks with
      | nil => simp only [repk] at rk; cases rk
      | cons k ks =>
        obtain ⟨k, d⟩ := k
        simp only [repk] at rk
        obtain ⟨v, us, z, r1, r2⟩ := rk
        cases z
        simp only [wkD, List.map_cons, reps]
        refine ⟨.ref t, _, rfl, ?_, reps_items r2 pr fun t ht => n t (List.mem_cons_of_mem _ ht)⟩
        simp only [rep, if_neg Bool.false_ne_true]
        refine ⟨t, [kV k, v], rfl, .inl ⟨.inl h, n t List.mem_cons_self⟩, ?_⟩
        simp only [reps]
        exact ⟨_, _, rfl, by cases k <;> simp [rep, keyD, kV], _, _, rfl, r1, rfl⟩
def listIO (live : Bool) : Option (List (Key × D)) → HP → R D
  | some ks, h => if live = true then .ok (.ref h.length) (h ++ [.lst (wkD false ks)]) else .ok (.lst (wkD false ks)) h
  | none, _ => .stuck
@[simp] def mListI (live : Bool) (a : M D) (env : EN) (hp : HP) : R D := (a env hp).bind fun x h => listIO live (dicO h x) h
theorem EV.listItems {e : Expr} {p apos cpos pos : Pos} {fe : M D} (live : Bool) (hK : X.K = g.K) (hc : X.calm = true) (hm : X.mg "list" = none) (he : EV g X E e fe) (hg : Gl X "list") (hbase : attributeBase e "items" X.env (eval e X.env) = eval e X.env) (hline : (apos.endLine == cpos.line) = true)
    (hs : starEach [.Call (.Attribute e "items" apos) [] [] cpos] X.env = (false, eval (.Call (.Attribute e "items" apos) [] [] cpos) X.env) :: starEach [] X.env) :
    EV g X E (.Call (.Name "list" p) [.Call (.Attribute e "items" apos) [] [] cpos] [] pos) (mListI live fe) := by
  obtain ⟨t, pe, q⟩ := he
  refine ⟨_, LiI.pe_listItems hc pe hg hm (by decide +kernel) hbase hline hs, fun σ H Q m env hp hl er h => ?_⟩
  refine q σ H _ m env hp hl er (PO.bind h fun x h1 m1 H1 v x1 hl1 r1 h => ?_)
  cases e : dicO h1 x with
  | none => rw [e] at h; exact h.elim
  | some ks =>
    rw [e] at h
    have h : PO g m1 H1 E (rep g) Q (if live = true then .ok (.ref h1.length) (h1 ++ [.lst (wkD false ks)]) else .ok (.lst (wkD false ks)) h1) := h
    obtain ⟨n, a, vs, rfl, en, em, rfl, ha, rk⟩ := dicO_ok hl1 r1 e
    refine ⟨a, vs, rfl, ha, fun H' p ts k1 np nt npt hp' pr => ?_⟩
    obtain ⟨x2, hl2⟩ := hl1.kept k1
    have np1 : some p ∉ m1 := hl1.fresh np
    have nt1 : ∀ t ∈ ts, some t ∉ m1 := fun t ht => hl1.fresh (nt t ht)
    have rs := reps_items (repk.ext x2 _ _ rk) pr nt1
    cases live with
    | false =>
      rw [if_neg Bool.false_ne_true] at h
      exact h m1 H' _ x2 hl2 (by simp only [rep]; exact ⟨p, _, rfl, hp', np1, rs⟩)
    | true =>
      rw [if_pos rfl] at h
      have x3 : Ex m1 H1 (m1 ++ [some p]) H' := by
        refine ⟨by simp, fun i b e l => ?_, fun b o e z => ⟨k1 b o e, fun q => ?_⟩⟩
        · rw [List.getElem?_append_left l] at e; exact e
        · rcases List.mem_append.mp q with q | q
          · exact z q
          · simp only [List.mem_cons, List.not_mem_nil, or_false, Option.some.injEq] at q
            subst q
            rw [np] at e; cases e
      -- values are known by the longer list of live things too
      have rk3 := repk.ext x3 _ _ rk
      have nt3 : ∀ t ∈ ts, some t ∉ m1 ++ [some p] := fun t ht q => by
        rcases List.mem_append.mp q with q | q
        · exact nt1 t ht q
        · simp only [List.mem_cons, List.not_mem_nil, or_false, Option.some.injEq] at q
          subst q
          exact npt ht
      have rs3 := reps_items rk3 pr nt3
      have hl3 : HL g (m1 ++ [some p]) H' (h1 ++ [.lst (wkD false ks)]) := by
        refine ⟨by simp [hl1.len], fun i j b e1 e2 => ?_, fun i o e => ?_⟩
        · have c1 : ∀ i b, (m1 ++ [some p])[i]? = some (some b) → (i = m1.length ∧ b = p) ∨ m1[i]? = some (some b) := fun i b e => by
            by_cases l : i < m1.length
            · rw [List.getElem?_append_left l] at e; exact .inr e
            · rw [List.getElem?_append_right (by omega)] at e
              obtain ⟨z1, z2⟩ := List.getElem?_eq_some_iff.mp e
              simp at z1 z2
              exact .inl ⟨by omega, z2.symm⟩
          rcases c1 i b e1 with ⟨p1, p2⟩ | p1 <;> rcases c1 j b e2 with ⟨q1, q2⟩ | q1
          · omega
          · rw [p2] at q1; exact absurd (List.mem_of_getElem? q1) np1
          · rw [q2] at p1; exact absurd (List.mem_of_getElem? p1) np1
          · exact hl1.nd i j b p1 q1
        · by_cases l : i < h1.length
          · rw [List.getElem?_append_left l] at e
            rcases hl1.live i o e with ⟨z1, z2⟩ | ⟨b, eb, lv⟩
            · exact .inl ⟨z1, by rw [List.getElem?_append_left (by rw [hl1.len]; exact l)]; exact z2⟩
            · refine .inr ⟨b, by rw [List.getElem?_append_left (by rw [hl1.len]; exact l)]; exact eb, ?_⟩
              cases o with
              | lst ds => obtain ⟨us, e1, r⟩ := lv; exact ⟨us, k1 _ _ e1, reps.ext x3 _ _ r⟩
              | dic ds => obtain ⟨us, e1, r⟩ := lv; exact ⟨us, k1 _ _ e1, repk.ext x3 _ _ r⟩
              | dicT ds => obtain ⟨us, e1, r⟩ := lv; exact ⟨us, k1 _ _ e1, repkT.ext x3 _ _ r⟩
              | dX => obtain ⟨ψ, e1⟩ := lv; exact ⟨ψ, k1 _ _ e1⟩
              | ins c fs => obtain ⟨dx, us, e1, r⟩ := lv; exact ⟨dx, us, k1 _ _ e1, repf.ext x3 _ _ r⟩
              | dead => exact lv.elim
          · rw [List.getElem?_append_right (by omega)] at e
            obtain ⟨z1, z2⟩ := List.getElem?_eq_some_iff.mp e
            simp at z1 z2
            subst z2
            refine .inr ⟨p, ?_, _, hp', rs3⟩
            rw [List.getElem?_append_right (by rw [hl1.len]; omega), hl1.len]
            have : i - h1.length = 0 := by omega
            rw [this]; rfl
      exact h (m1 ++ [some p]) H' _ x3 hl3 (by
        simp only [rep]
        refine ⟨by simp [hl1.len], fun b e => ?_⟩
        rw [← hl1.len, List.getElem?_append_right (Nat.le_refl _)] at e
        simp at e
        rw [e])
theorem EV.prop {CX : CXT} {k : Nat} {f p : Addr} {fd : FuncData} {ps : List Str} {Fa : FA} {c : Nat} {nm : Str} {o : Expr} {pos : Pos} {fo : M D} (t : Cls X.K (g.cA c)) (hp : PropOf X.K (g.cA c) nm p f) (F : FnOk X.prog X.w X.K X.mg X.base CX k f fd ps (spF g 1 Fa)) (hr : Room (k + 1) X.A) (hb : Binds X.K fd ps []) (hx : Passes CX X.nox E)
    (ho : EV g X E o fo) (hab : attributeBase o nm X.env (eval o X.env) = eval o X.env) : EV g X E (.Attribute o nm pos) (mMeth0 c nm Fa fo) := by
  obtain ⟨to, po, qo⟩ := ho
  refine ⟨_, pe_prop po t hp F hr hb .nil hx hab, fun σ H Q m env hp hl er h => ?_⟩
  refine qo σ H _ m env hp hl er (PO.bind h fun x h1 m1 H1 v x1 hl1 r1 h => ?_)
  unfold kMeth0 at h
  split at h
  · rename_i cnd
    unfold methI at cnd
    split at cnd
    · rename_i c' fs' e
      rw [Bool.and_eq_true] at cnd
      obtain ⟨a, dx, vs, rfl, ea, rf⟩ := asI_ok hl1 r1 e
      have ec := of_decide_eq_true cnd.1
      rw [ec] at ea
      refine ⟨a, dx, vs, rfl, ea, ?_⟩
      refine ⟨rfl, m1, h1, [x], hl1, ?_, h⟩
      simp only [reps]
      exact ⟨_, _, rfl, r1, rfl⟩
    · cases cnd
  · exact h.elim
end
end Ev
namespace Ev
open PySem PySem.Spec PyProof.Rows L2
/-- EV.var, its side conditions found by themselves -/
theorem EV.vr {g : G} {X : Cx} {E : XK} {i : Nat} {x : Str} {pos : Pos} {e : Expr} (he : e = .Name x pos) (hN : X.N[i]? = some x) (hv : Vis X.env.scope x := by first | exact Or.inl rfl | exact Or.inr (Or.inl rfl) | exact Or.inr (Or.inr rfl)) (hd : (x == ("__debug__" : Str)) = false := by decide) (hcd : (x == ("__classdict__" : Str)) = false := by decide) : EV g X E e (mVar i) := .var he hN hv hd hcd
end Ev
namespace Lib
open PySem PySem.Spec PyProof.Rows L2 Ev
def rd (n : Int) : Int := (Float64.isqrt n.toNat : Nat)
def ru (n : Int) : Int := if rd n * rd n < n then rd n + 1 else rd n
def hf (s : Int × Int) : Int := (s.2 - s.1 + 1) / 2
def hq (s : Int × Int) : Int := hf s * hf s
def sq (b : List (Int × Int)) : Int := (b.map hq).sum
end Lib
namespace Lib
open PySem PySem.Spec PyProof.Rows L2 Ev
def vec (n : Nat) (p : Nat → Int) : D := .tup ((List.range n).map fun i => .int (p i))
def sg (n : Nat) (f : Nat → Int) : Int := ((List.range n).map f).sum
theorem sg_zero (f : Nat → Int) : sg 0 f = 0 := rfl
theorem sg_succ (n : Nat) (f : Nat → Int) : sg (n + 1) f = sg n f + f n := by
  unfold sg
  rw [List.range_succ, List.map_append, List.sum_append]
  simp
theorem sg_nn {f : Nat → Int} : ∀ {n : Nat}, (∀ i < n, 0 ≤ f i) → 0 ≤ sg n f
  | 0, _ => by simp [sg_zero]
  | n + 1, h => by
    have h1 := sg_nn (n := n) fun i hi => h i (by omega)
    have h2 := h n (by omega)
    rw [sg_succ]
    omega
theorem clean_vec (n : Nat) (p : Nat → Int) : clean (vec n p) := clean_tup fun d hd => by
  obtain ⟨i, _, rfl⟩ := List.mem_map.mp hd
  exact clean_int _
theorem at_vec {n : Nat} {p : Nat → Int} {i : Nat} (hi : i < n) : atI ((List.range n).map fun i => D.int (p i)) (i : Int) = some (.int (p i)) := by
  simp [atI, ixN, hi]
theorem mul64 {x y : Int} (hx : x.natAbs < 18446744073709551616) (hy : y.natAbs < 18446744073709551616) : CMulE x y := mulX 64 64 (sz64 hx) (sz64 hy) (by decide)
def sub (p q : Nat → Int) : Nat → Int := fun i => p i - q i
def dt (n : Nat) (p q : Nat → Int) : Int := sg n fun i => p i * q i
theorem dt_self (n : Nat) (p : Nat → Int) : 0 ≤ dt n p p := sg_nn fun i _ => by
  by_cases c : 0 ≤ p i
  · exact Int.mul_nonneg c c
  · exact Int.le_of_lt (Int.mul_pos_of_neg_of_neg (by omega) (by omega))
/-- square, whole -/
def pc1 (n : Nat) (x a t : Nat → Int) : Int × Int :=
  if dt n (sub x a) (sub t a) ≤ 0 then (dt n (sub x a) (sub x a), 1) else if dt n (sub t a) (sub t a) ≤ dt n (sub x a) (sub t a) then (dt n (sub x t) (sub x t), 1)
  else (dt n (sub x a) (sub x a) * dt n (sub t a) (sub t a) - dt n (sub x a) (sub t a) * dt n (sub x a) (sub t a), dt n (sub t a) (sub t a))
/-- the greatest whole number that is not more, the least that is not less -/
def pc2 (n : Nat) (x a t : Nat → Int) : Int × Int := ((pc1 n x a t).1 / (pc1 n x a t).2, -(-(pc1 n x a t).1 / (pc1 n x a t).2))
end Lib
namespace Lib
open PySem PySem.Spec PyProof.Rows L2 Ev
inductive Kd where
  | range (p : Nat → Int)
  | clocked (p : Nat → Int)
  | differ (p q : Nat → Int)
  | piece (p q : Nat → Int)
  | side (p : Nat → Int)
  | boxes (bs : List (List (Int × Int)))
def boxesD (bs : List (List (Int × Int))) : D := .tup (bs.map boxD)
def kdD (n : Nat) : Kd → D
  | .range p => .tup [.str "range", vec n p]
  | .clocked p => .tup [.str "clocked", vec n p]
  | .differ p q => .tup [.str "differ", vec n p, vec n q]
  | .piece p q => .tup [.str "piece", vec n p, vec n q]
  | .side p => .tup [.str "side", vec n p]
  | .boxes bs => .tup [.str "boxes", boxesD bs]
theorem clean_boxes (bs : List (List (Int × Int))) : clean (boxesD bs) := clean_tup fun d hd => by
  obtain ⟨s, _, rfl⟩ := List.mem_map.mp hd
  exact clean_box s
theorem clean_kd (n : Nat) (K : Kd) : clean (kdD n K) := by
  cases K <;> exact clean_tup (by simp [clean_str, clean_vec, clean_boxes])
@[simp] theorem shs_range : SeqAt.shaped (.str "range") = true := by decide +kernel
@[simp] theorem eqs_range_range : PyData.eqv (.str "range") (.str "range") = true := by decide +kernel
@[simp] theorem eqs_range_clocked : PyData.eqv (.str "range") (.str "clocked") = false := by decide +kernel
@[simp] theorem eqs_range_differ : PyData.eqv (.str "range") (.str "differ") = false := by decide +kernel
@[simp] theorem eqs_range_piece : PyData.eqv (.str "range") (.str "piece") = false := by decide +kernel
@[simp] theorem eqs_range_side : PyData.eqv (.str "range") (.str "side") = false := by decide +kernel
@[simp] theorem eqs_range_boxes : PyData.eqv (.str "range") (.str "boxes") = false := by decide +kernel
@[simp] theorem shs_clocked : SeqAt.shaped (.str "clocked") = true := by decide +kernel
@[simp] theorem eqs_clocked_range : PyData.eqv (.str "clocked") (.str "range") = false := by decide +kernel
@[simp] theorem eqs_clocked_clocked : PyData.eqv (.str "clocked") (.str "clocked") = true := by decide +kernel
@[simp] theorem eqs_clocked_differ : PyData.eqv (.str "clocked") (.str "differ") = false := by decide +kernel
@[simp] theorem eqs_clocked_piece : PyData.eqv (.str "clocked") (.str "piece") = false := by decide +kernel
@[simp] theorem eqs_clocked_side : PyData.eqv (.str "clocked") (.str "side") = false := by decide +kernel
@[simp] theorem eqs_clocked_boxes : PyData.eqv (.str "clocked") (.str "boxes") = false := by decide +kernel
@[simp] theorem shs_differ : SeqAt.shaped (.str "differ") = true := by decide +kernel
@[simp] theorem eqs_differ_range : PyData.eqv (.str "differ") (.str "range") = false := by decide +kernel
@[simp] theorem eqs_differ_clocked : PyData.eqv (.str "differ") (.str "clocked") = false := by decide +kernel
@[simp] theorem eqs_differ_differ : PyData.eqv (.str "differ") (.str "differ") = true := by decide +kernel
@[simp] theorem eqs_differ_piece : PyData.eqv (.str "differ") (.str "piece") = false := by decide +kernel
@[simp] theorem eqs_differ_side : PyData.eqv (.str "differ") (.str "side") = false := by decide +kernel
@[simp] theorem eqs_differ_boxes : PyData.eqv (.str "differ") (.str "boxes") = false := by decide +kernel
@[simp] theorem shs_piece : SeqAt.shaped (.str "piece") = true := by decide +kernel
@[simp] theorem eqs_piece_range : PyData.eqv (.str "piece") (.str "range") = false := by decide +kernel
@[simp] theorem eqs_piece_clocked : PyData.eqv (.str "piece") (.str "clocked") = false := by decide +kernel
@[simp] theorem eqs_piece_differ : PyData.eqv (.str "piece") (.str "differ") = false := by decide +kernel
@[simp] theorem eqs_piece_piece : PyData.eqv (.str "piece") (.str "piece") = true := by decide +kernel
@[simp] theorem eqs_piece_side : PyData.eqv (.str "piece") (.str "side") = false := by decide +kernel
@[simp] theorem eqs_piece_boxes : PyData.eqv (.str "piece") (.str "boxes") = false := by decide +kernel
@[simp] theorem shs_side : SeqAt.shaped (.str "side") = true := by decide +kernel
@[simp] theorem eqs_side_range : PyData.eqv (.str "side") (.str "range") = false := by decide +kernel
@[simp] theorem eqs_side_clocked : PyData.eqv (.str "side") (.str "clocked") = false := by decide +kernel
@[simp] theorem eqs_side_differ : PyData.eqv (.str "side") (.str "differ") = false := by decide +kernel
@[simp] theorem eqs_side_piece : PyData.eqv (.str "side") (.str "piece") = false := by decide +kernel
@[simp] theorem eqs_side_side : PyData.eqv (.str "side") (.str "side") = true := by decide +kernel
@[simp] theorem eqs_side_boxes : PyData.eqv (.str "side") (.str "boxes") = false := by decide +kernel
@[simp] theorem shs_boxes : SeqAt.shaped (.str "boxes") = true := by decide +kernel
@[simp] theorem eqs_boxes_range : PyData.eqv (.str "boxes") (.str "range") = false := by decide +kernel
@[simp] theorem eqs_boxes_clocked : PyData.eqv (.str "boxes") (.str "clocked") = false := by decide +kernel
@[simp] theorem eqs_boxes_differ : PyData.eqv (.str "boxes") (.str "differ") = false := by decide +kernel
@[simp] theorem eqs_boxes_piece : PyData.eqv (.str "boxes") (.str "piece") = false := by decide +kernel
@[simp] theorem eqs_boxes_side : PyData.eqv (.str "boxes") (.str "side") = false := by decide +kernel
@[simp] theorem eqs_boxes_boxes : PyData.eqv (.str "boxes") (.str "boxes") = true := by decide +kernel
@[simp] theorem at3_0 (x y z : D) : atI [x, y, z] 0 = some x := by simp [atI, ixN]
@[simp] theorem at3_1 (x y z : D) : atI [x, y, z] 1 = some y := by simp [atI, ixN]
@[simp] theorem at3_2 (x y z : D) : atI [x, y, z] 2 = some z := by simp [atI, ixN]
def rateK (n : Nat) : Kd → Int
  | .differ _ _ => 2
  | .side p => ru (dt n p p)
  | _ => 1
def clockK : Kd → Int
  | .clocked _ => 1
  | _ => 0
def movedK : Kd → Int
  | .differ _ _ => 2
  | .side _ => 0
  | _ => 1
end Lib
namespace Lib
open PySem PySem.Spec PyProof.Rows L2 Ev
theorem lcE_tyG {α : Type} (asg : TF) (cond : M Bool) (elt : M D) (envw : EN) (h : HP) (gd : GdL) (hg : ∀ x, Gd gd (h ++ x)) (f G : α → D) (p : α → Bool) : ∀ (xs : List α) (acc : List D), acc.length + xs.length ≤ sizeLine →
    (∀ x ∈ xs, ∀ y : HP, ∃ e, asg (f x) envw (h ++ y) = some e ∧ cond e (h ++ y) = .ok (p x) (h ++ y) ∧ (p x = true → elt e (h ++ y) = .ok (G x) (h ++ y))) →
    lcE asg cond elt envw h.length gd (xs.map f) (h ++ [.lst acc]) = .ok () (h ++ [.lst (acc ++ (xs.filter p).map G)])
  | [], acc, _, _ => by
    rw [List.map_nil]
    unfold lcE
    rw [if_pos (hg _)]
    simp
  | d :: ds, acc, hz, H => by
    rw [List.map_cons]
    unfold lcE
    rw [if_pos (hg _)]
    obtain ⟨e, e1, e2, e3⟩ := H d (List.mem_cons_self ..) [.lst acc]
    simp only [e1, e2, R.nx, R.bind]
    cases q : p d with
    | true =>
      have hz' : acc.length < sizeLine := by simp only [List.length_cons] at hz; omega
      simp only [if_true, e3 q, R.nx, R.bind, appL_last h hz']
      rw [lcE_tyG asg cond elt envw h gd hg f G p ds (acc ++ [G d]) (by simp only [List.length_append, List.length_cons, List.length_nil] at hz ⊢; omega) fun d' hd y => H d' (List.mem_cons_of_mem _ hd) y]
      simp [List.filter_cons, q]
    | false =>
      simp only [if_neg Bool.false_ne_true]
      rw [lcE_tyG asg cond elt envw h gd hg f G p ds acc (by simp only [List.length_cons] at hz; omega) fun d' hd y => H d' (List.mem_cons_of_mem _ hd) y]
      simp [List.filter_cons, q]
def sd (b : List (Int × Int)) (i : Nat) : Int × Int := b.getD i (0, 0)
theorem sd_get {b : List (Int × Int)} {i : Nat} (hi : i < b.length) : sd b i = b[i] := by simp [sd, hi]
end Lib
namespace Lib
open PySem PySem.Spec PyProof.Rows L2 Ev
def mx (a b : Int) : Int := if b > a then b else a
def gapS (s o : Int × Int) : Int := mx (mx 0 (o.1 - s.2)) (s.1 - o.2)
/-- sides of a size for squares -/
def Sm (s : Int × Int) : Prop := s.1.natAbs < 4611686018427387904 ∧ s.2.natAbs < 4611686018427387904
theorem sd_sm {b : List (Int × Int)} (h : ∀ s ∈ b, Sm s) {i : Nat} (hi : i < b.length) : Sm (sd b i) := by
  rw [sd_get hi]
  exact h _ (List.getElem_mem hi)
def nearS (p : Nat → Int) (b : List (Int × Int)) (i : Nat) : Int := gapS (p i, p i) (sd b i)
def betS (a b : List (Int × Int)) (i : Nat) : Int := gapS (sd a i) (sd b i)
end Lib
namespace Lib
open PySem PySem.Spec PyProof.Rows L2 Ev
def two (s : Int × Int) (c : List Int) : List (List Int) := [c ++ [s.1], c ++ [s.2]]
theorem pure_ref {h x : HP} {n : Nat} {ds : List D} (hn : h.length ≤ n) (e : (h ++ x)[n]? = some (.lst ds)) (c : ∀ d ∈ ds, clean d) : pure_ h (.ref n) (h ++ x) = .ok (.lst ds) h := by
  unfold pure_
  rw [if_pos (by simp)]
  have : rlt.rlts h.length ds = true := by
    rw [rlts_eq, List.all_eq_true]
    exact fun d hd => c d hd _
  have n' : ¬ n < h.length := by omega
  simp [fz, rlt, this, e, n']
def gsq (p : Int) (o : Int × Int) : Int := gapS (p, p) o * gapS (p, p) o
def cf (o : List (Int × Int)) (c : List Int) (i : Nat) : Int := gsq (c.getD i 0) (sd o i)
theorem sq_le_sq {x y : Int} (hx : 0 ≤ x) (h : x ≤ y) : x * x ≤ y * y := Int.mul_le_mul h h hx (by omega)
end Lib
namespace Lib
open PySem PySem.Spec PyProof.Rows L2 Ev
end Lib
namespace Lib
open PySem PySem.Spec PyProof.Rows L2 Ev
theorem clean_ins {c : Nat} {fs : List (Str × D)} (h : ∀ p ∈ fs, clean p.2) : clean (.ins c fs) := fun n => by
  simp only [rlt]
  induction fs with
  | nil => rfl
  | cons p fs ih =>
    simp only [rlt.rltf, Bool.and_eq_true]
    exact ⟨h p List.mem_cons_self n, ih fun q hq => h q (List.mem_cons_of_mem _ hq)⟩
theorem pure_ins {h : HP} {c : Nat} {fs : List (Str × D)} (k : ∀ p ∈ fs, clean p.2) : pure_ h (.ref h.length) (h ++ [.ins c fs]) = .ok (.ins c fs) h := by
  unfold pure_
  rw [if_pos (by simp)]
  have := clean_ins (c := c) k h.length
  simp only [rlt] at this
  simp [fz, rlt, this]
structure SetV where
  d : Int
  s : Int
  r : Int
  p : Int
def SetV.ok (S : SetV) : Prop := 2 ≤ S.d ∧ S.d ≤ 3 ∧ 0 ≤ S.s ∧ S.s ≤ 1000000000000 ∧ 0 ≤ S.r ∧ S.r ≤ 1000000000000 ∧ 1 ≤ S.p ∧ S.p ≤ 1000000000000
@[simp] def setF (S : SetV) : List (Str × D) := [("dims", .int S.d), ("speed", .int S.s), ("drift", .int S.r), ("per", .int S.p)]
def setD (S : SetV) : D := .ins 0 (setF S)
@[simp] theorem asI_set (S : SetV) (h : HP) : asI h (setD S) = some (0, setF S) := rfl
def wIn (lo hi x : Int) : Bool := decide (lo ≤ x) && decide (x ≤ hi)
theorem F_allw (xs : List Int) (lo hi : Int) (hz : xs.length ≤ 1000) (h : HP) : F_all_within [.tup (xs.map D.int), .int lo, .int hi] h = .ok (.bl ((xs.map (wIn lo hi)).all id)) h := by
  have lc : C_all_within_1 false [some (.tup (xs.map D.int)), some (.int lo), some (.int hi), none] h = _ :=
    mLc_ty (h1 := h) xs D.int (fun x => .bl (wIn lo hi x)) (by simp) (by omega) (fun i hi' h' => ⟨[some (.tup (xs.map D.int)), some (.int lo), some (.int hi), some (.int i)], by simp, by
      by_cases q : lo ≤ i <;> simp [q, wIn]⟩) fun i _ => clean_bl _
  have pb : ∀ b, pure_ h (.bl b) h = .ok (.bl b) h := fun b => pure_clean h (clean_bl b)
  have e : (xs.map fun x => D.bl (wIn lo hi x)) = (xs.map (wIn lo hi)).map D.bl := by simp
  rw [e] at lc
  have k := blsD_map (xs.map (wIn lo hi))
  generalize (xs.map (wIn lo hi)).map D.bl = ys at *
  generalize xs.map D.int = zs at *
  simp [F_all_within, lc, k, pb]
theorem F_allwT {xs : List Int} {lo hi : Int} (hz : xs.length ≤ 1000) (k : ∀ x ∈ xs, lo ≤ x ∧ x ≤ hi) (h : HP) : F_all_within [.tup (xs.map D.int), .int lo, .int hi] h = .ok (.bl true) h := by
  rw [F_allw xs lo hi hz h]
  congr 2
  rw [List.all_eq_true]
  intro b hb
  obtain ⟨x, hx, rfl⟩ := List.mem_map.mp hb
  have := k x hx
  simp [wIn, this]
def qup (n d : Int) : Int := -(-n / d)
def rchS (S : SetV) (t : Int) : Int := qup (S.s * t) S.p
def slpS (S : SetV) (t : Int) : Int := qup (S.r * t) S.p
end Lib
namespace Lib
open PySem PySem.Spec PyProof.Rows L2 Ev
def betQ (n : Nat) (a b : List (Int × Int)) : Int := sg n fun i => betS a b i * betS a b i
def farB (S : SetV) (n : Nat) (t : Int) (a : List (Int × Int)) (c : Int × Int) (b : List (Int × Int)) (e : Int × Int) : Bool :=
  decide (S.s * t * (S.s * t) < S.p * S.p * betQ n a b) || decide (S.r * t < S.p * gapS c e)
end Lib
namespace Lib
open PySem PySem.Spec PyProof.Rows L2 Ev
def W (x : Int) : Prop := sz x ≤ 500
def WS (s : Int × Int) : Prop := W s.1 ∧ W s.2
theorem W.of {x : Int} (h : x.natAbs < 18446744073709551616) : W x := Nat.le_trans (sz64 h) (by decide)
theorem sz0 : sz 0 = 0 := by decide
def WP (n : Nat) (p : Nat → Int) : Prop := ∀ i < n, W (p i)
section
variable {n : Nat} {p : Nat → Int} {a b : List (Int × Int)}
def nearQ (n : Nat) (p : Nat → Int) (b : List (Int × Int)) : Int := sg n fun i => nearS p b i * nearS p b i
theorem dt_lin : ∀ (n : Nat) (p q : Nat → Int) (u v : Int), u * u * dt n p p + 2 * u * v * dt n p q + v * v * dt n q q = dt n (fun i => u * p i + v * q i) (fun i => u * p i + v * q i)
  | 0, p, q, u, v => by simp [dt, sg_zero]
  | n + 1, p, q, u, v => by
    have ih := dt_lin n p q u v
    unfold dt at ih ⊢
    rw [sg_succ, sg_succ, sg_succ, sg_succ, ← ih]
    grind
theorem cauchy (n : Nat) (p q : Nat → Int) : dt n p q * dt n p q ≤ dt n p p * dt n q q := by
  have lin := fun u v => (dt_lin n p q u v).symm ▸ dt_self n (fun i => u * p i + v * q i)
  have hW := dt_self n q
  have hH := dt_self n p
  generalize dt n p q = L at *
  generalize dt n p p = H at *
  generalize dt n q q = V at *
  by_cases c : V = 0
  · subst c
    have := lin 1 (-((H + 1) * L))
    have l0 : L = 0 := by
      apply Decidable.byContradiction
      intro z
      have sq : 1 ≤ L * L := by
        by_cases z2 : 0 < L
        · have := Int.mul_le_mul (show 1 ≤ L by omega) (show 1 ≤ L by omega) (by omega) (by omega)
          omega
        · have := Int.mul_le_mul (show 1 ≤ -L by omega) (show 1 ≤ -L by omega) (by omega) (by omega)
          rw [Int.neg_mul_neg] at this
          omega
      have e : 1 * 1 * H + 2 * 1 * -((H + 1) * L) * L + -((H + 1) * L) * -((H + 1) * L) * 0 = H - 2 * ((H + 1) * (L * L)) := by grind
      rw [e] at this
      have := Int.mul_le_mul_of_nonneg_left sq (show 0 ≤ H + 1 by omega)
      omega
    subst l0
    simp
  · have := lin V (-L)
    have e : V * V * H + 2 * V * -L * L + -L * -L * V = (H * V - L * L) * V := by grind
    rw [e] at this
    have := Int.le_of_mul_le_mul_right (a := V) (b := 0) (c := H * V - L * L) (by rw [Int.zero_mul]; exact this) (by omega)
    omega
def Sz (k n : Nat) (p : Nat → Int) : Prop := ∀ i < n, sz (p i) ≤ k
end
end Lib
namespace Lib
open PySem PySem.Spec PyProof.Rows L2 Ev
section
variable {n : Nat} {p : Nat → Int} {b : List (Int × Int)}
theorem Sz.mono {j k : Nat} {p : Nat → Int} (h : Sz j n p) (l : j ≤ k) : Sz k n p := fun i hi => Nat.le_trans (h i hi) l
/-- a box's numbers of at most 480 bits, points as well -/
def V (x : Int) : Prop := sz x ≤ 480
def VS (s : Int × Int) : Prop := V s.1 ∧ V s.2
def VP (n : Nat) (p : Nat → Int) : Prop := ∀ i < n, V (p i)
theorem VS.w {s : Int × Int} (h : VS s) : WS s := ⟨Nat.le_trans h.1 (by decide), Nat.le_trans h.2 (by decide)⟩
theorem VP.w (h : VP n p) : WP n p := fun i hi => Nat.le_trans (h i hi) (by decide)
/-- boxes of a kind -/
def BsOk (n : Nat) (bs : List (List (Int × Int))) : Prop := 0 < bs.length ∧ bs.length ≤ 1000 ∧ ∀ b ∈ bs, b.length = n ∧ ∀ s ∈ b, VS s
/-- kinds with numbers of a size -/
def KdV (n : Nat) : Kd → Prop
  | .range p => VP n p
  | .clocked p => VP n p
  | .differ p q => VP n p ∧ VP n q
  | .piece p q => VP n p ∧ VP n q
  | .side p => VP n p
  | .boxes bs => BsOk n bs
end
end Lib
namespace Lib
open PySem PySem.Spec PyProof.Rows L2 Ev
def adv (u v : Nat → Int) : Nat → Int := fun i => u i + v i
theorem dt_add (n : Nat) (u v : Nat → Int) : dt n (adv u v) (adv u v) = dt n u u + 2 * dt n u v + dt n v v := by
  have := dt_lin n u v 1 1
  have e : (fun i => 1 * u i + 1 * v i) = adv u v := by funext i; simp [adv]
  rw [e] at this
  rw [← this]
  omega
theorem dt_le {n : Nat} {u v : Nat → Int} {α β : Int} (ha : 0 ≤ α) (hb : 0 ≤ β) (h1 : dt n u u ≤ α * α) (h2 : dt n v v ≤ β * β) : dt n u v ≤ α * β := by
  have c := cauchy n u v
  have m : dt n u u * dt n v v ≤ α * α * (β * β) := Int.mul_le_mul h1 h2 (dt_self n v) (Int.mul_nonneg ha ha)
  have e : α * α * (β * β) = α * β * (α * β) := by grind
  apply Decidable.byContradiction
  intro z
  have q := Int.mul_nonneg ha hb
  have := sq_le_sq (x := α * β + 1) (y := dt n u v) (by omega) (by omega)
  have e2 : (α * β + 1) * (α * β + 1) = α * β * (α * β) + 2 * (α * β) + 1 := by grind
  omega
theorem tri {n : Nat} {u v : Nat → Int} {α β : Int} (ha : 0 ≤ α) (hb : 0 ≤ β) (h1 : dt n u u ≤ α * α) (h2 : dt n v v ≤ β * β) : dt n (adv u v) (adv u v) ≤ (α + β) * (α + β) := by
  have := dt_le ha hb h1 h2
  rw [dt_add]
  have e : (α + β) * (α + β) = α * α + 2 * (α * β) + β * β := by grind
  omega
/-- the way from a place of the piece, times P -/
def pv (x a t : Nat → Int) (P q : Int) : Nat → Int := fun i => P * sub x a i + -q * sub t a i
end Lib
namespace Lib
open PySem PySem.Spec PyProof.Rows L2 Ev
section
variable {asg : TF} {body : SM} {d : D} {ds : List D} {env e e' : EN} {h h' : HP}
theorem for_nx (ha : asg d env h = some e) (hb : body e h = .nx e' h') : forE asg body [] (d :: ds) env h = forE asg body [] ds e' h' := by
  conv => lhs; unfold forE
  rw [if_pos (by simp), ha]
  simp only [hb]
end
section
end
end Lib
namespace Lib
open PySem PySem.Spec PyProof.Rows L2 Ev
def lvec (n : Nat) (p : Nat → Int) : D := .lst ((List.range n).map fun i => .int (p i))
section
end
end Lib
namespace Lib
open PySem PySem.Spec PyProof.Rows L2 Ev
section
end
end Lib
namespace Lib
open PySem PySem.Spec PyProof.Rows L2 Ev
abbrev goodS : Str := "abcdefghijklmnopqrstuvwxyz0123456789_-"
def inG (c : Nat) : Bool := !(Builtin.Str.occurrences goodS ⟨#[c]⟩ 0 goodS.length 1).isEmpty
theorem in_good (c : Nat) (h : HP) : fIn false (.str ⟨#[c]⟩) (.str goodS) h = .ok (.bl (inG c)) h := rfl
def inAll (z : Str) : Bool := (z.cps.toList.map inG).all id
def isn (z : Str) : Bool := (decide (1 ≤ z.length) && decide (z.length ≤ 64)) && inAll z
theorem F_name (z : Str) (hz : z.length ≤ 1000) (h : HP) : F_is_name [.str z] h = .ok (.bl (isn z)) h := by
  have p : ∀ b : Bool, pure_ h (.bl b) h = .ok (.bl b) h := fun b => pure_clean h (clean_bl b)
  have lz : z.cps.toList.length = z.length := by simp [Str.length]
  have zl : z.length ≤ sizeLine := by rw [sizeLine_eq]; omega
  have lc : C_is_name_1 false [some (.str z), none] h = _ :=
    mLc_ty (h1 := h) z.cps.toList (fun c => .str ⟨#[c]⟩) (fun c => .bl (inG c)) (by simp) (by omega)
      (fun c _ h' => ⟨[some (.str z), some (.str ⟨#[c]⟩)], by simp, by simp [-fIn, in_good]⟩) fun c _ => clean_bl _
  have k := blsD_map (z.cps.toList.map inG)
  simp only [List.map_map] at k
  have e : D.bl ∘ inG = fun c => D.bl (inG c) := rfl
  rw [e] at k
  have e2 : (z.cps.toList.map inG).all id = inAll z := rfl
  generalize z.cps.toList.map (fun c => D.bl (inG c)) = xs at *
  generalize z.cps.toList.map inG = ys at *
  unfold isn
  by_cases c1 : 1 ≤ z.length
  · have c1i : (1 : Int) ≤ (z.length : Int) := by omega
    by_cases c2 : z.length ≤ 64
    · have c2i : (z.length : Int) ≤ 64 := by omega
      simp [F_is_name, zl, c1, c2, c1i, c2i, lc, k, e2, p]
    · have c2i : ¬ (z.length : Int) ≤ 64 := by omega
      simp [F_is_name, zl, c1, c2, p, c1i, c2i]
  · have c1i : ¬ (1 : Int) ≤ (z.length : Int) := by omega
    simp [F_is_name, zl, c1, c1i, p]
def In12 (x : Int) : Prop := -1000000000000 ≤ x ∧ x ≤ 1000000000000
def SideOk (s : Int × Int) : Prop := -1000000000000 ≤ s.1 ∧ s.1 ≤ s.2 ∧ s.2 ≤ 1000000000000
def KdH (n : Nat) : Kd → Prop
  | .range p => ∀ i < n, In12 (p i)
  | .clocked p => ∀ i < n, In12 (p i)
  | .differ p q => (∀ i < n, In12 (p i)) ∧ ∀ i < n, In12 (q i)
  | .piece p q => (∀ i < n, In12 (p i)) ∧ ∀ i < n, In12 (q i)
  | .side p => (∀ i < n, -1000 ≤ p i ∧ p i ≤ 1000) ∧ ∃ i < n, p i ≠ 0
  | .boxes bs => 1 ≤ bs.length ∧ bs.length ≤ 16 ∧ ∀ b ∈ bs, b.length ≤ 1000 ∧ ∀ s ∈ b, SideOk s
section
variable {n : Nat}
theorem F_allwV (hn : n ≤ 10) {p : Nat → Int} {lo hi : Int} (hp : ∀ i < n, lo ≤ p i ∧ p i ≤ hi) (h : HP) : F_all_within [vec n p, .int lo, .int hi] h = .ok (.bl true) h := by
  have e : vec n p = .tup (((List.range n).map p).map D.int) := by simp [vec]
  rw [e]
  exact F_allwT (by simp; omega) (fun x hx => by
    obtain ⟨i, hi, rfl⟩ := List.mem_map.mp hx
    exact hp i (List.mem_range.mp hi)) h
theorem alltrue (k : Nat) : ((List.replicate k true).all id) = true := by
  rw [List.all_eq_true]
  intro x hx
  exact (List.mem_replicate.mp hx).2
theorem map_true {α : Type} (xs : List α) : xs.map (fun _ => D.bl true) = (List.replicate xs.length true).map D.bl := by
  rw [List.map_replicate]
  exact List.map_const' ..
theorem F_sides_within' {b : List (Int × Int)} (hb : b.length ≤ 1000) (hs : ∀ s ∈ b, SideOk s) (h : HP) : F_sides_within [boxD b, .int 1000000000000] h = .ok (.bl true) h := by
  have p := pure_clean h (clean_bl true)
  have lc : C_sides_within_1 false [some (boxD b), some (.int 1000000000000), none, none] h = _ :=
    mLc_ty (h1 := h) b sideD (fun _ => .bl true) (by simp [boxD]) (by omega)
      (fun s hS h' => ⟨[some (boxD b), some (.int 1000000000000), some (.int s.1), some (.int s.2)], by simp [sideD], by
        obtain ⟨h1, h2, h3⟩ := hs s hS
        simp [h1, h2, h3]⟩) fun s _ => clean_bl _
  rw [map_true] at lc
  have k := blsD_map (List.replicate b.length true)
  have e := alltrue b.length
  generalize (List.replicate b.length true).map D.bl = ys at *
  generalize List.replicate b.length true = zs at *
  simp [F_sides_within, lc, k, e, p]
theorem F_boxes_hold' {bs : List (List (Int × Int))} (h0 : 1 ≤ bs.length) (h1 : bs.length ≤ 16) (hs : ∀ b ∈ bs, b.length ≤ 1000 ∧ ∀ s ∈ b, SideOk s) (h : HP) : F__boxes_hold [boxesD bs] h = .ok (.bl true) h := by
  have p := pure_clean h (clean_bl true)
  have lc : C__boxes_hold_1 false [some (boxesD bs), none] h = _ :=
    mLc_ty (h1 := h) bs boxD (fun _ => .bl true) (by simp [boxesD]) (by omega)
      (fun b hB h' => ⟨[some (boxesD bs), some (boxD b)], by simp, by
        have := F_sides_within' (hs b hB).1 (hs b hB).2 h'
        simp [this]⟩) fun s _ => clean_bl _
  rw [map_true] at lc
  have k := blsD_map (List.replicate bs.length true)
  have e := alltrue bs.length
  have i1 : (1 : Int) ≤ (bs.length : Int) := by omega
  have i2 : (bs.length : Int) ≤ 16 := by omega
  have l : (bs.map boxD).length = bs.length := by simp
  unfold boxesD at *
  generalize (List.replicate bs.length true).map D.bl = ys at *
  generalize List.replicate bs.length true = zs at *
  generalize bs.map boxD = us at *
  simp [F__boxes_hold, l, i1, i2, lc, k, e, p]
theorem F_direction' (hn : n ≤ 10) {p : Nat → Int} (hp : ∀ i < n, -1000 ≤ p i ∧ p i ≤ 1000) (h0 : ∃ i < n, p i ≠ 0) (h : HP) : F__direction_holds [vec n p] h = .ok (.bl true) h := by
  have pr := pure_clean h (clean_bl true)
  have a : ∀ h, F_all_within [vec n p, .int (-1000), .int 1000] h = .ok (.bl true) h := fun h => F_allwV hn hp h
  have lc : C__direction_holds_1 false [some (vec n p), none] h = _ :=
    mLc_ty (h1 := h) (List.range n) (fun i => .int (p i)) (fun i => .bl (decide (p i ≠ 0))) (by simp [vec]) (by simp; omega)
      (fun i hi h' => ⟨[some (vec n p), some (.int (p i))], by simp, by
        simp [sh_int, PyData.eqv]
        by_cases q : p i = 0 <;> simp [q]⟩) fun s _ => clean_bl _
  have e : (List.range n).map (fun i => D.bl (decide (p i ≠ 0))) = ((List.range n).map fun i => decide (p i ≠ 0)).map D.bl := by simp
  rw [e] at lc
  have k := blsD_map ((List.range n).map fun i => decide (p i ≠ 0))
  have e2 : ((List.range n).map fun i => decide (p i ≠ 0)).any id = true := by
    rw [List.any_eq_true]
    obtain ⟨i, hi, q⟩ := h0
    exact ⟨true, List.mem_map.mpr ⟨i, List.mem_range.mpr hi, by simp [q]⟩, rfl⟩
  generalize ((List.range n).map fun i => decide (p i ≠ 0)).map D.bl = ys at *
  generalize ((List.range n).map fun i => decide (p i ≠ 0)) = zs at *
  simp [F__direction_holds, a, lc, k, e2, pr]
@[simp] theorem eqd_range_range : eqD (.str "range") (.str "range") = true := by unfold eqD; decide +kernel
@[simp] theorem eqd_range_clocked : eqD (.str "range") (.str "clocked") = false := by unfold eqD; decide +kernel
@[simp] theorem eqd_range_differ : eqD (.str "range") (.str "differ") = false := by unfold eqD; decide +kernel
@[simp] theorem eqd_range_piece : eqD (.str "range") (.str "piece") = false := by unfold eqD; decide +kernel
@[simp] theorem eqd_range_side : eqD (.str "range") (.str "side") = false := by unfold eqD; decide +kernel
@[simp] theorem eqd_range_boxes : eqD (.str "range") (.str "boxes") = false := by unfold eqD; decide +kernel
@[simp] theorem eqd_clocked_range : eqD (.str "clocked") (.str "range") = false := by unfold eqD; decide +kernel
@[simp] theorem eqd_clocked_clocked : eqD (.str "clocked") (.str "clocked") = true := by unfold eqD; decide +kernel
@[simp] theorem eqd_clocked_differ : eqD (.str "clocked") (.str "differ") = false := by unfold eqD; decide +kernel
@[simp] theorem eqd_clocked_piece : eqD (.str "clocked") (.str "piece") = false := by unfold eqD; decide +kernel
@[simp] theorem eqd_clocked_side : eqD (.str "clocked") (.str "side") = false := by unfold eqD; decide +kernel
@[simp] theorem eqd_clocked_boxes : eqD (.str "clocked") (.str "boxes") = false := by unfold eqD; decide +kernel
@[simp] theorem eqd_differ_range : eqD (.str "differ") (.str "range") = false := by unfold eqD; decide +kernel
@[simp] theorem eqd_differ_clocked : eqD (.str "differ") (.str "clocked") = false := by unfold eqD; decide +kernel
@[simp] theorem eqd_differ_differ : eqD (.str "differ") (.str "differ") = true := by unfold eqD; decide +kernel
@[simp] theorem eqd_differ_piece : eqD (.str "differ") (.str "piece") = false := by unfold eqD; decide +kernel
@[simp] theorem eqd_differ_side : eqD (.str "differ") (.str "side") = false := by unfold eqD; decide +kernel
@[simp] theorem eqd_differ_boxes : eqD (.str "differ") (.str "boxes") = false := by unfold eqD; decide +kernel
@[simp] theorem eqd_piece_range : eqD (.str "piece") (.str "range") = false := by unfold eqD; decide +kernel
@[simp] theorem eqd_piece_clocked : eqD (.str "piece") (.str "clocked") = false := by unfold eqD; decide +kernel
@[simp] theorem eqd_piece_differ : eqD (.str "piece") (.str "differ") = false := by unfold eqD; decide +kernel
@[simp] theorem eqd_piece_piece : eqD (.str "piece") (.str "piece") = true := by unfold eqD; decide +kernel
@[simp] theorem eqd_piece_side : eqD (.str "piece") (.str "side") = false := by unfold eqD; decide +kernel
@[simp] theorem eqd_piece_boxes : eqD (.str "piece") (.str "boxes") = false := by unfold eqD; decide +kernel
@[simp] theorem eqd_side_range : eqD (.str "side") (.str "range") = false := by unfold eqD; decide +kernel
@[simp] theorem eqd_side_clocked : eqD (.str "side") (.str "clocked") = false := by unfold eqD; decide +kernel
@[simp] theorem eqd_side_differ : eqD (.str "side") (.str "differ") = false := by unfold eqD; decide +kernel
@[simp] theorem eqd_side_piece : eqD (.str "side") (.str "piece") = false := by unfold eqD; decide +kernel
@[simp] theorem eqd_side_side : eqD (.str "side") (.str "side") = true := by unfold eqD; decide +kernel
@[simp] theorem eqd_side_boxes : eqD (.str "side") (.str "boxes") = false := by unfold eqD; decide +kernel
@[simp] theorem eqd_boxes_range : eqD (.str "boxes") (.str "range") = false := by unfold eqD; decide +kernel
@[simp] theorem eqd_boxes_clocked : eqD (.str "boxes") (.str "clocked") = false := by unfold eqD; decide +kernel
@[simp] theorem eqd_boxes_differ : eqD (.str "boxes") (.str "differ") = false := by unfold eqD; decide +kernel
@[simp] theorem eqd_boxes_piece : eqD (.str "boxes") (.str "piece") = false := by unfold eqD; decide +kernel
@[simp] theorem eqd_boxes_side : eqD (.str "boxes") (.str "side") = false := by unfold eqD; decide +kernel
@[simp] theorem eqd_boxes_boxes : eqD (.str "boxes") (.str "boxes") = true := by unfold eqD; decide +kernel
theorem cut1_2 (a b : D) : Ev.cutD [a, b] (some 1) none = [b] := cut_from (i := 1) (by simp)
theorem cut1_3 (a b c : D) : Ev.cutD [a, b, c] (some 1) none = [b, c] := cut_from (i := 1) (by simp)
theorem F_kind_holds' (hn : n ≤ 10) {K : Kd} (hK : KdH n K) (h : HP) : F__kind_holds [kdD n K] h = .ok (.bl true) h := by
  have pr := pure_clean h (clean_bl true)
  have pt : ∀ {p : Nat → Int}, (∀ i < n, In12 (p i)) → ∀ h, F_all_within [vec n p, .int (-1000000000000), .int 1000000000000] h = .ok (.bl true) h := fun hp h => F_allwV hn hp h
  cases K with
  | range p =>
    have lc : C__kind_holds_1 false [some (.tup [.str "range", vec n p]), none] h = _ :=
      mLc_ty (h1 := h) [p] (vec n) (fun _ => .bl true) (by simp [cut1_2]) (by simp)
        (fun q hq h' => ⟨[some (.tup [.str "range", vec n p]), some (vec n q)], by simp, by
          simp only [List.mem_singleton] at hq
          subst hq
          simp [pt hK]⟩) fun s _ => clean_bl _
    simp only [kdD]
    simp [F__kind_holds, lc, pr]
  | clocked p =>
    have lc : C__kind_holds_1 false [some (.tup [.str "clocked", vec n p]), none] h = _ :=
      mLc_ty (h1 := h) [p] (vec n) (fun _ => .bl true) (by simp [cut1_2]) (by simp)
        (fun q hq h' => ⟨[some (.tup [.str "clocked", vec n p]), some (vec n q)], by simp, by
          simp only [List.mem_singleton] at hq
          subst hq
          simp [pt hK]⟩) fun s _ => clean_bl _
    simp only [kdD]
    simp [F__kind_holds, lc, pr]
  | differ p t =>
    have lc : C__kind_holds_1 false [some (.tup [.str "differ", vec n p, vec n t]), none] h = _ :=
      mLc_ty (h1 := h) [p, t] (vec n) (fun _ => .bl true) (by simp [cut1_3]) (by simp)
        (fun q hq h' => ⟨[some (.tup [.str "differ", vec n p, vec n t]), some (vec n q)], by simp, by
          simp only [List.mem_cons, List.not_mem_nil, or_false] at hq
          rcases hq with rfl | rfl
          · simp [pt hK.1]
          · simp [pt hK.2]⟩) fun s _ => clean_bl _
    simp only [kdD]
    simp [F__kind_holds, lc, pr]
  | piece p t =>
    have lc : C__kind_holds_1 false [some (.tup [.str "piece", vec n p, vec n t]), none] h = _ :=
      mLc_ty (h1 := h) [p, t] (vec n) (fun _ => .bl true) (by simp [cut1_3]) (by simp)
        (fun q hq h' => ⟨[some (.tup [.str "piece", vec n p, vec n t]), some (vec n q)], by simp, by
          simp only [List.mem_cons, List.not_mem_nil, or_false] at hq
          rcases hq with rfl | rfl
          · simp [pt hK.1]
          · simp [pt hK.2]⟩) fun s _ => clean_bl _
    simp only [kdD]
    simp [F__kind_holds, lc, pr]
  | side p =>
    have d := fun h => F_direction' hn hK.1 hK.2 h
    simp only [kdD]
    simp [F__kind_holds, d, pr]
  | boxes bs =>
    have d := fun h => F_boxes_hold' hK.1 hK.2.1 hK.2.2 h
    simp only [kdD]
    simp [F__kind_holds, d, pr]
end
end Lib
namespace Lib
open PySem PySem.Spec PyProof.Rows L2 Ev
structure RdV where
  src : Str
  mo : Int
  kd : Kd
  lo : Int
  hi : Int
  la : Int
  ne : Int
@[simp] def rdF (n : Nat) (R : RdV) : List (Str × D) := [("source", .str R.src), ("moment", .int R.mo), ("kind", kdD n R.kd), ("low", .int R.lo), ("high", .int R.hi), ("late", .int R.la), ("near", .int R.ne)]
def rdD (n : Nat) (R : RdV) : D := .ins 1 (rdF n R)
@[simp] theorem asI_rd (n : Nat) (R : RdV) (h : HP) : asI h (rdD n R) = some (1, rdF n R) := rfl
theorem clean_rd (n : Nat) (R : RdV) : clean (rdD n R) := clean_ins (by simp [clean_int, clean_str, clean_kd])
structure RdOk (n : Nat) (R : RdV) : Prop where
  ln : R.src.length ≤ 1000
  nm : isn R.src = true
  mo : In12 R.mo
  kd : KdH n R.kd
  lh : -1000000000000000 ≤ R.lo ∧ R.lo ≤ R.hi ∧ R.hi ≤ 1000000000000000
  la : 0 ≤ R.la ∧ R.la ≤ 1000000000000
  ne : 0 ≤ R.ne ∧ R.ne ≤ 1000000000000
theorem F_read_init {n : Nat} (hn : n ≤ 10) {R : RdV} (k : RdOk n R) (h : HP) : F_Reading__init__ [.ref h.length, .str R.src, .int R.mo, kdD n R.kd, .int R.lo, .int R.hi, .int R.la, .int R.ne] (h ++ [.ins 1 []]) = .ok .non (h ++ [.ins 1 (rdF n R)]) := by
  have a : ∀ h, F_all_within [.tup [.int R.la, .int R.ne], .int 0, .int 1000000000000] h = .ok (.bl true) h := fun h => F_allwT (xs := [R.la, R.ne]) (by simp) (by simp [k.la, k.ne]) h
  have nm := fun h => F_name R.src k.ln h
  rw [k.nm] at nm
  have kh := fun h => F_kind_holds' hn k.kd h
  obtain ⟨m1, m2⟩ := k.mo
  obtain ⟨l1, l2, l3⟩ := k.lh
  generalize hK : kdD n R.kd = kk at *
  simp [F_Reading__init__, nm, m1, m2, kh, l1, l2, l3, a, hK]
theorem mk_read {n : Nat} (hn : n ≤ 10) {R : RdV} (k : RdOk n R) (h : HP) : mkR h (F_Reading__init__ [.ref h.length, .str R.src, .int R.mo, kdD n R.kd, .int R.lo, .int R.hi, .int R.la, .int R.ne] (h ++ [.ins 1 []])) = .ok (rdD n R) h := by
  rw [F_read_init hn k h]
  exact pure_ins (by simp [clean_int, clean_str, clean_kd])
end Lib
namespace Lib
open PySem PySem.Spec PyProof.Rows L2 Ev
def absI (x : Int) : Int := if x < 0 then -x else x
def carK (S : SetV) (n : Nat) (K : Kd) (ne t : Int) : Int := movedK K * ne + rateK n K * rchS S t + clockK K * slpS S t
end Lib
namespace Lib
open PySem PySem.Spec PyProof.Rows L2 Ev
section
variable {n : Nat} {p q w x : Nat → Int} {b o : List (Int × Int)}
def vq (n : Nat) (w p : Nat → Int) : Int := dt n (sub w p) (sub w p)
/-- what the law works out of a kind at a place -/
def lawV (n : Nat) (K : Kd) (w : Nat → Int) (c : Int) : Int × Int := match K with
  | .range p => (rd (vq n w p), ru (vq n w p))
  | .clocked p => (rd (vq n w p) + c, ru (vq n w p) + c)
  | .differ p q => (rd (vq n w p) - ru (vq n w q), ru (vq n w p) - rd (vq n w q))
  | .side p => (dt n p w, dt n p w)
  | .piece a t => (rd (pc2 n w a t).1, ru (pc2 n w a t).2)
  | .boxes bs => (rd (minL (bs.map (nearQ n w))), ru (minL (bs.map (nearQ n w))))
end
end Lib
namespace Lib
open PySem PySem.Spec PyProof.Rows L2 Ev
theorem eqvI (a b : Int) : PyData.eqv (.int a) (.int b) = (a == b) := by simp [PyData.eqv]
theorem seq_nx {a b : SM} {e e' : EN} {h h' : HP} (ha : a e h = .nx e' h') : (sSeq a b) e h = b e' h' := by simp [sSeq, ha]
def rC0 (ns : List Int) (k : Nat) : Int := if ns.length = 0 then 0 else ns.getD (k % ns.length) 0
def rC1 (ns : List Int) (k : Nat) : Int := if rC0 ns k < 0 then 1 - 2 * rC0 ns k else rC0 ns k
def rC2 (ns : List Int) (k : Nat) : Int := if ns.length ≤ k ∨ rC1 ns k < 1000000000 then ((((rC1 ns k + 131 * k + 7) * 48271 + (k : Int) * k * 69621) % 1000000007) + 17 * k + 3) * 2862933555777941757 % 18446744073709551557 else rC1 ns k
theorem rC0_sz {ns : List Int} (hn : Okn ns) (k : Nat) : sz (rC0 ns k) ≤ 1048576 := by
  unfold rC0
  split
  · rw [sz0]; omega
  · rename_i c
    have hk : k % ns.length < ns.length := Nat.mod_lt _ (by omega)
    rw [List.getD_eq_getElem?_getD, List.getElem?_eq_getElem hk]
    exact hn.2 _ (List.getElem_mem hk)
theorem rC1_sz {ns : List Int} (hn : Okn ns) (k : Nat) : sz (rC1 ns k) ≤ 1048580 := by
  have h0 := rC0_sz hn k
  unfold rC1
  split
  · have h1 := sz_mul 2 (rC0 ns k)
    have h2 := sz_sub 1 (2 * rC0 ns k)
    rw [lit2] at h1
    rw [lit1] at h2
    omega
  · omega
theorem rC1_nn (ns : List Int) (k : Nat) : 0 ≤ rC1 ns k := by unfold rC1; split <;> omega
theorem row_turn {ns : List Int} (hn : Okn ns) {k : Nat} (hk : k ≤ 1000) (z1 z4 : Option D) (h : HP) (acc : List D) (ha : acc.length ≤ 1000) :
    ∃ y4, B__law_rows_1 [some (Sc ns), z1, some (.ref h.length), some (.int k), z4] (h ++ [.lst acc]) = .nx [some (Sc ns), z1, some (.ref h.length), some (.int k), y4] (h ++ [.lst (acc ++ [.int (rC2 ns k)])]) := by
  have ap := fun y => appL_last (y := y) (ds := acc) h (by rw [sizeLine_eq]; omega)
  have hz : ns.length ≤ sizeLine := by have := hn.1; rw [sizeLine_eq]; omega
  have c0 := rC0_sz hn k
  have c1 := rC1_sz hn k
  have n1 := rC1_nn ns k
  have ll : (ns.map D.int).length = ns.length := by simp
  have m1 : CMulE 2 (rC0 ns k) := mulX 64 1048576 (sz64 (by decide)) c0 (by decide)
  have m2 : CMulE 131 (k : Int) := mul64 (by decide) (by omega)
  have m3 : CMulE (k : Int) (k : Int) := mul64 (by omega) (by omega)
  have kk : (k : Int) * k ≤ 1000 * 1000 := Int.mul_le_mul (by omega) (by omega) (by omega) (by omega)
  have kk0 : 0 ≤ (k : Int) * k := Int.mul_nonneg (by omega) (by omega)
  have m4 : CMulE ((k : Int) * k) 69621 := mul64 (by omega) (by decide)
  have s1 := sz_add (rC1 ns k) (131 * (k : Int))
  have s2 := sz_add (rC1 ns k + 131 * (k : Int)) 7
  have s3 := sz64 (i := 131 * (k : Int)) (by omega)
  have s4 := sz64 (i := 7) (by decide)
  have m5 : CMulE (rC1 ns k + 131 * (k : Int) + 7) 48271 := mulX 1048590 64 (by omega) (sz64 (by decide)) (by decide)
  have m6 : CMulE 17 (k : Int) := mul64 (by decide) (by omega)
  have e1 := Int.emod_lt_of_pos ((rC1 ns k + 131 * k + 7) * 48271 + (k : Int) * k * 69621) (show (0 : Int) < 1000000007 by decide)
  have e2 := Int.emod_nonneg ((rC1 ns k + 131 * k + 7) * 48271 + (k : Int) * k * 69621) (show (1000000007 : Int) ≠ 0 by decide)
  have m7 : CMulE (((rC1 ns k + 131 * k + 7) * 48271 + (k : Int) * k * 69621) % 1000000007 + 17 * k + 3) 2862933555777941757 := mul64 (by omega) (by decide)
  refine ⟨some (.int (rC2 ns k)), ?_⟩
  have c4 : ¬ rC1 ns k < 0 := by omega
  by_cases a0 : ns.length = 0
  · have e0 : rC0 ns k = 0 := by unfold rC0; rw [if_pos a0]
    have er1 : rC1 ns k = 0 := by unfold rC1; rw [e0]; rfl
    have er2 : rC2 ns k = ((((rC1 ns k + 131 * k + 7) * 48271 + (k : Int) * k * 69621) % 1000000007) + 17 * k + 3) * 2862933555777941757 % 18446744073709551557 := by unfold rC2; rw [if_pos (.inl (by omega))]
    rw [er2, er1]
    rw [er1] at m5 m7
    have nil : ns = [] := List.length_eq_zero_iff.mp a0
    subst nil
    simp [Sc] at *
    simp [lg, m2, m3, m4, m5, m6, m7, ap]
  · have pl : 0 < ns.length := by omega
    have pl2 : (0 : Int) < (ns.length : Int) := by omega
    have hk2 : k % ns.length < ns.length := Nat.mod_lt _ (by omega)
    have e0 : ns[k % ns.length] = rC0 ns k := by unfold rC0; rw [if_neg a0, List.getD_eq_getElem?_getD, List.getElem?_eq_getElem hk2]; rfl
    have lgn : Nat.log2 (ns.length : Int).natAbs < 9000 := lg (by have := hn.1; omega)
    have ix : atI (ns.map D.int) ((k : Int) % (ns.length : Int)) = some (.int (rC0 ns k)) := by
      have e : (k : Int) % (ns.length : Int) = ((k % ns.length : Nat) : Int) := by omega
      rw [e, at_int hk2, e0]
    have tail : ∀ x : Int, x = rC1 ns k → True := fun _ _ => trivial
    by_cases a1 : rC0 ns k < 0
    · have er1 : 1 - 2 * rC0 ns k = rC1 ns k := by unfold rC1; rw [if_pos a1]
      by_cases a2 : ns.length ≤ k
      · have er2 : rC2 ns k = ((((rC1 ns k + 131 * k + 7) * 48271 + (k : Int) * k * 69621) % 1000000007) + 17 * k + 3) * 2862933555777941757 % 18446744073709551557 := by unfold rC2; rw [if_pos (.inl a2)]
        rw [er2]
        unfold Sc
        generalize ns.map D.int = xs at *
        simp [ll, hz, pl, pl2, lgn, ix, a1, m1, er1, a2, lg, m2, m3, m4, m5, m6, m7, ap]
      · by_cases a3 : rC1 ns k < 1000000000
        · have er2 : rC2 ns k = ((((rC1 ns k + 131 * k + 7) * 48271 + (k : Int) * k * 69621) % 1000000007) + 17 * k + 3) * 2862933555777941757 % 18446744073709551557 := by unfold rC2; rw [if_pos (.inr a3)]
          rw [er2]
          unfold Sc
          generalize ns.map D.int = xs at *
          simp [ll, hz, pl, pl2, lgn, ix, a1, m1, er1, a2, a3, lg, m2, m3, m4, m5, m6, m7, ap]
        · have er2 : rC2 ns k = rC1 ns k := by unfold rC2; rw [if_neg (by omega)]
          rw [er2]
          unfold Sc
          generalize ns.map D.int = xs at *
          simp [ll, hz, pl, pl2, lgn, ix, a1, m1, er1, a2, a3, lg, ap]
    · have er1 : rC0 ns k = rC1 ns k := by unfold rC1; rw [if_neg a1]
      rw [er1] at ix
      by_cases a2 : ns.length ≤ k
      · have er2 : rC2 ns k = ((((rC1 ns k + 131 * k + 7) * 48271 + (k : Int) * k * 69621) % 1000000007) + 17 * k + 3) * 2862933555777941757 % 18446744073709551557 := by unfold rC2; rw [if_pos (.inl a2)]
        rw [er2]
        unfold Sc
        generalize ns.map D.int = xs at *
        simp [ll, hz, pl, pl2, lgn, ix, c4, a2, lg, m2, m3, m4, m5, m6, m7, ap]
      · by_cases a3 : rC1 ns k < 1000000000
        · have er2 : rC2 ns k = ((((rC1 ns k + 131 * k + 7) * 48271 + (k : Int) * k * 69621) % 1000000007) + 17 * k + 3) * 2862933555777941757 % 18446744073709551557 := by unfold rC2; rw [if_pos (.inr a3)]
          rw [er2]
          unfold Sc
          generalize ns.map D.int = xs at *
          simp [ll, hz, pl, pl2, lgn, ix, c4, a2, a3, lg, m2, m3, m4, m5, m6, m7, ap]
        · have er2 : rC2 ns k = rC1 ns k := by unfold rC2; rw [if_neg (by omega)]
          rw [er2]
          unfold Sc
          generalize ns.map D.int = xs at *
          simp [ll, hz, pl, pl2, lgn, ix, c4, a2, a3, lg, ap]
def rowsL (ns : List Int) (n : Nat) : D := .lst ((List.range n).map fun k => .int (rC2 ns k))
theorem F_rows {ns : List Int} (hn : Okn ns) {n : Nat} (hk : n ≤ 1000) (h : HP) : F__law_rows [Sc ns, .int n] h = .ok (rowsL ns n) h := by
  obtain ⟨_, h1, e, ⟨y3, y4, rfl⟩, rfl⟩ := for_rng (asg := gNm 3) (body := B__law_rows_1) (n := n)
    (fun i env h' => (∃ y3 y4, env = [some (Sc ns), some (.int n), some (.ref h.length), y3, y4]) ∧ h' = h ++ [.lst ((List.range i).map fun k => .int (rC2 ns k))])
    (fun i env h' hi hI => by
      obtain ⟨⟨y3, y4, rfl⟩, rfl⟩ := hI
      obtain ⟨w4, e⟩ := row_turn hn (k := i) (by omega) (some (.int n)) y4 h ((List.range i).map fun k => .int (rC2 ns k)) (by simp; omega)
      exact ⟨_, rfl, _, _, .inl e, ⟨_, _, rfl⟩, by simp [List.range_succ]⟩)
    (env := [some (Sc ns), some (.int n), some (.ref h.length), none, none]) (h := h ++ [.lst []]) ⟨⟨none, none, rfl⟩, by simp⟩
  have p := pure_ref (h := h) (x := [.lst ((List.range n).map fun k => .int (rC2 ns k))]) (n := h.length) (ds := (List.range n).map fun k => .int (rC2 ns k)) (Nat.le_refl _) (by simp) (fun d hd => by
    obtain ⟨i, _, rfl⟩ := List.mem_map.mp hd
    exact clean_int _)
  have rg : Rg (n : Int) := rg_nat (by omega)
  unfold rowsL
  generalize ((List.range n).map fun k => D.int (rC2 ns k)) = qs at *
  simp [F__law_rows, rg, e, p]
end Lib
namespace Lib
open PySem PySem.Spec PyProof.Rows L2 Ev
def mm (ns : List Int) : Int := if 0 < ns.length then maxL ns else 0
theorem at_map {α : Type} (f : α → D) {xs : List α} {i : Nat} (hi : i < xs.length) : atI (xs.map f) (i : Int) = some (f xs[i]) := by
  have := hi
  simp [atI, ixN, hi]
theorem mLc_tyN {α : Type} {it : IM} {own : List Nat} {asg : TF} {elt : M D} {env : EN} {h h1 : HP} {gd : GdL} (xs : List α) (f G : α → D) (hi : it env h = .ok (xs.map f, gd) h1) (hg : ∀ x, Gd gd (h1 ++ x)) (hz : xs.length ≤ 16000000)
    (H : ∀ x ∈ xs, ∀ y : HP, ∃ e, asg (f x) (wipeE env own) (h1 ++ y) = some e ∧ elt e (h1 ++ y) = .ok (G x) (h1 ++ y)) (c : ∀ x ∈ xs, clean (G x)) :
    mLc false it own asg cYes elt env h = .ok (.lst (xs.map G)) h1 := by
  unfold mLc
  rw [hi]
  simp only [R.bind]
  rw [lcE_tyG asg cYes elt _ h1 gd hg f G (fun _ => true) xs [] (by have := sizeLine_eq; simp only [List.length_nil]; omega) fun x hx y => let ⟨e, e1, e2⟩ := H x hx y; ⟨e, e1, rfl, fun _ => e2⟩, List.filter_eq_self.mpr (fun _ _ => rfl)]
  simp only [List.nil_append, outL, if_neg Bool.false_ne_true]
  exact pure_list h1 (by
    intro d hd
    obtain ⟨x, hx, rfl⟩ := List.mem_map.mp hd
    exact c x hx)
end Lib
namespace LibT
open PySem PySem.Spec PyProof.Rows L2 Ev Lib
@[simp] theorem nb_moment_boxes : (("moment" : Str) == ("boxes" : Str)) = false := by decide +kernel
@[simp] theorem ne_moment_boxes : (("moment" : Str) = ("boxes" : Str)) = False := eq_false (by decide +kernel)
@[simp] theorem nb_boxes_moment : (("boxes" : Str) == ("moment" : Str)) = false := by decide +kernel
@[simp] theorem ne_boxes_moment : (("boxes" : Str) = ("moment" : Str)) = False := eq_false (by decide +kernel)
end LibT
namespace LibW
open PySem PySem.Spec PyProof.Rows L2 Ev Lib LibT
@[simp] theorem nb_setting_question : (("setting" : Str) == ("question" : Str)) = false := by decide +kernel
@[simp] theorem ne_setting_question : (("setting" : Str) = ("question" : Str)) = False := eq_false (by decide +kernel)
@[simp] theorem nb_setting_slack : (("setting" : Str) == ("slack" : Str)) = false := by decide +kernel
@[simp] theorem ne_setting_slack : (("setting" : Str) = ("slack" : Str)) = False := eq_false (by decide +kernel)
@[simp] theorem nb_setting_asks : (("setting" : Str) == ("asks" : Str)) = false := by decide +kernel
@[simp] theorem ne_setting_asks : (("setting" : Str) = ("asks" : Str)) = False := eq_false (by decide +kernel)
@[simp] theorem nb_question_setting : (("question" : Str) == ("setting" : Str)) = false := by decide +kernel
@[simp] theorem ne_question_setting : (("question" : Str) = ("setting" : Str)) = False := eq_false (by decide +kernel)
@[simp] theorem nb_question_slack : (("question" : Str) == ("slack" : Str)) = false := by decide +kernel
@[simp] theorem ne_question_slack : (("question" : Str) = ("slack" : Str)) = False := eq_false (by decide +kernel)
@[simp] theorem nb_question_asks : (("question" : Str) == ("asks" : Str)) = false := by decide +kernel
@[simp] theorem ne_question_asks : (("question" : Str) = ("asks" : Str)) = False := eq_false (by decide +kernel)
@[simp] theorem nb_slack_setting : (("slack" : Str) == ("setting" : Str)) = false := by decide +kernel
@[simp] theorem ne_slack_setting : (("slack" : Str) = ("setting" : Str)) = False := eq_false (by decide +kernel)
@[simp] theorem nb_slack_question : (("slack" : Str) == ("question" : Str)) = false := by decide +kernel
@[simp] theorem ne_slack_question : (("slack" : Str) = ("question" : Str)) = False := eq_false (by decide +kernel)
@[simp] theorem nb_slack_asks : (("slack" : Str) == ("asks" : Str)) = false := by decide +kernel
@[simp] theorem ne_slack_asks : (("slack" : Str) = ("asks" : Str)) = False := eq_false (by decide +kernel)
@[simp] theorem nb_asks_setting : (("asks" : Str) == ("setting" : Str)) = false := by decide +kernel
@[simp] theorem ne_asks_setting : (("asks" : Str) = ("setting" : Str)) = False := eq_false (by decide +kernel)
@[simp] theorem nb_asks_question : (("asks" : Str) == ("question" : Str)) = false := by decide +kernel
@[simp] theorem ne_asks_question : (("asks" : Str) = ("question" : Str)) = False := eq_false (by decide +kernel)
@[simp] theorem nb_asks_slack : (("asks" : Str) == ("slack" : Str)) = false := by decide +kernel
@[simp] theorem ne_asks_slack : (("asks" : Str) = ("slack" : Str)) = False := eq_false (by decide +kernel)
end LibW
namespace LibT
open PySem PySem.Spec PyProof.Rows L2 Ev Lib
abbrev Bx := List (Int × Int)
structure Ly where
  m : Int
  bs : List Bx
@[simp] def layF (L : Ly) : List (Str × D) := [("moment", .int L.m), ("boxes", .tup (L.bs.map boxD))]
def layD (L : Ly) : D := .ins 17 (layF L)
@[simp] theorem asI_lay (L : Ly) (h : HP) : asI h (layD L) = some (17, layF L) := rfl
theorem clean_boxes (bs : List Bx) : clean (.tup (bs.map boxD)) := clean_tup fun d hd => by
  obtain ⟨b, _, rfl⟩ := List.mem_map.mp hd
  exact clean_box b
@[simp] def paF (S : SetV) : List (Str × D) := [("speed", .int S.s), ("drift", .int S.r), ("per", .int S.p)]
def paD (S : SetV) : D := .ins 18 (paF S)
@[simp] theorem asI_pa (S : SetV) (h : HP) : asI h (paD S) = some (18, paF S) := rfl
/-- a box of n directions and a clock, its numbers small -/
def BO (n : Nat) (b : Bx) : Prop := b.length = n + 1 ∧ ∀ s ∈ b, Sm s
def farX (S : SetV) (n : Nat) (t : Int) (a b : Bx) : Bool := farB S n t (a.take n) (sd a n) (b.take n) (sd b n)
/-- layers of such boxes, one after the other -/
structure LsO (n : Nat) (Ls : List Ly) : Prop where
  few : Ls.length ≤ 4
  asc : Ls.Pairwise fun a b => a.m < b.m
  each : ∀ L ∈ Ls, L.m.natAbs ≤ 100000 ∧ L.bs.length ≤ 9 ∧ ∀ b ∈ L.bs, BO n b
def ab (i : Int) : Int := if i < 0 then -i else i
def tk (L O : Ly) : Int := ab (O.m - L.m)
/-- the places of os that are linked with b -/
def lk (S : SetV) (n : Nat) (t : Int) (b : Bx) (os : List Bx) : List Int := ((List.range os.length).filter fun k => !farX S n t b (os.getD k [])).map fun k : Nat => (k : Int)
end LibT
namespace LibT
open PySem PySem.Spec PyProof.Rows L2 Ev Lib
theorem at_last {xs : List D} {d : D} : atI (xs ++ [d]) (-1) = some d := by
  have e : ixN (xs.length + 1) (-1) = some xs.length := by unfold ixN; simp; omega
  simp [atI, e]
end LibT
namespace LibT
open PySem PySem.Spec PyProof.Rows L2 Ev Lib
def d2 (i : Nat) : Int := [9261, 27783, 83349].getD i 1
def mo (ns : List Int) (k : Nat) : Nat → Int
  | 0 => num ns k % 9 - 4
  | i + 1 => mo ns k i + 1 + num ns (k + 1 + 4 * i) / 8 % 6
end LibT
namespace LibT
open PySem PySem.Spec PyProof.Rows L2 Ev Lib
/-- what the laws' layers are like -/
structure LsS (n : Nat) (Ls : List Ly) : Prop where
  few : Ls.length ≤ 4
  asc : Ls.Pairwise fun a b => a.m < b.m
  each : ∀ L ∈ Ls, L.m.natAbs ≤ 100 ∧ L.bs.length ≤ 9 ∧ ∀ b ∈ L.bs, b.length = n + 1 ∧ ∀ s ∈ b, s.1.natAbs ≤ 100 ∧ s.2.natAbs ≤ 100
theorem LsS.o {n : Nat} {Ls : List Ly} (h : LsS n Ls) : LsO n Ls := ⟨h.few, h.asc, fun L hL => by
  obtain ⟨h1, h2, h3⟩ := h.each L hL
  refine ⟨by omega, h2, fun b hb => ⟨(h3 b hb).1, fun s hs => ?_⟩⟩
  have := (h3 b hb).2 s hs
  unfold Sm
  omega⟩
end LibT
namespace LibT
open PySem PySem.Spec PyProof.Rows L2 Ev Lib
theorem BO.sm {n : Nat} {b : Bx} (h : BO n b) {i : Nat} (hi : i ≤ n) : Sm (sd b i) := sd_sm h.2 (by have := h.1; omega)
def lyA (Ls : List Ly) (i : Nat) : Ly := Ls.getD i ⟨0, []⟩
def szI (Ls : List Ly) (i : Nat) : Nat := (lyA Ls i).bs.length
def lkI (S : SetV) (n : Nat) (Ls : List Ly) (i p q : Nat) : Bool := !farX S n (tk (lyA Ls i) (lyA Ls (i + 1))) ((lyA Ls i).bs.getD p []) ((lyA Ls (i + 1)).bs.getD q [])
def inI (Ls : List Ly) (c : List Int) (i : Nat) : Bool := decide (0 ≤ c.getD i 0) && decide (c.getD i 0 < szI Ls i)
def lkc (S : SetV) (n : Nat) (Ls : List Ly) (c : List Int) : Nat → Bool
  | 0 => true
  | j + 1 => lkI S n Ls j (c.getD j 0).toNat (c.getD (j + 1) 0).toNat
def okAt (S : SetV) (n : Nat) (Ls : List Ly) (c : List Int) (i : Nat) : Bool := inI Ls c i && lkc S n Ls c i
def isC (S : SetV) (n : Nat) (Ls : List Ly) (c : List Int) : Bool := decide (c.length = Ls.length) && (List.range Ls.length).all (okAt S n Ls c)
end LibT
namespace LibT
open PySem PySem.Spec PyProof.Rows L2 Ev Lib
theorem LsO.take {n : Nat} {Ls : List Ly} (h : LsO n Ls) (i : Nat) : LsO n (Ls.take i) :=
  ⟨by have := h.few; rw [List.length_take]; omega, h.asc.sublist (List.take_sublist ..), fun L hL => h.each L (List.mem_of_mem_take hL)⟩
end LibT
namespace LibT
open PySem PySem.Spec PyProof.Rows L2 Ev Lib
def Ch (S : SetV) (n : Nat) (Ls : List Ly) (N : Nat) (c : List Int) : Prop := c.length = N ∧ ∀ j < N, okAt S n Ls c j = true
section
variable {S : SetV} {n : Nat} {Ls : List Ly}
theorem getD_app {α : Type} {xs ys : List α} {i : Nat} {d : α} (h : i < xs.length) : (xs ++ ys).getD i d = xs.getD i d := by
  rw [List.getD_eq_getElem?_getD, List.getD_eq_getElem?_getD, List.getElem?_append_left h]
theorem getD_end {α : Type} {xs : List α} {y d : α} {i : Nat} (h : i = xs.length) : (xs ++ [y]).getD i d = y := by
  subst h
  simp
theorem lkc_succ {c : List Int} {j : Nat} : lkc S n Ls c (j + 1) = lkI S n Ls j (c.getD j 0).toNat (c.getD (j + 1) 0).toNat := rfl
theorem okAt_app {row : List Int} {y : Int} {j : Nat} (h : j < row.length) : okAt S n Ls (row ++ [y]) j = okAt S n Ls row j := by
  unfold okAt inI
  rw [getD_app h]
  cases j with
  | zero => rfl
  | succ j =>
    rw [lkc_succ, lkc_succ, getD_app h, getD_app (by omega)]
theorem Ch.bd {N : Nat} {c : List Int} (h : Ch S n Ls N c) {j : Nat} (hj : j < N) : 0 ≤ c.getD j 0 ∧ c.getD j 0 < szI Ls j := by
  have := h.2 j hj
  unfold okAt inI at this
  rw [Bool.and_eq_true, Bool.and_eq_true, decide_eq_true_eq, decide_eq_true_eq] at this
  exact this.1
theorem Ch.lk {N : Nat} {c : List Int} (h : Ch S n Ls N c) {j : Nat} (hj : j + 1 < N) : lkI S n Ls j (c.getD j 0).toNat (c.getD (j + 1) 0).toNat = true := by
  have := h.2 (j + 1) hj
  unfold okAt at this
  rw [Bool.and_eq_true] at this
  exact this.2
theorem Ch.zero : Ch S n Ls 0 [] := ⟨rfl, fun j hj => absurd hj (by omega)⟩
theorem Ch.snoc {i : Nat} {row : List Int} {p : Int} : Ch S n Ls (i + 1) (row ++ [p]) ↔ Ch S n Ls i row ∧ 0 ≤ p ∧ p < szI Ls i ∧ (∀ j, i = j + 1 → lkI S n Ls j (row.getD j 0).toNat p.toNat = true) := by
  constructor
  · intro h
    have hl : row.length = i := by have := h.1; simpa using this
    have b := h.bd (j := i) (by omega)
    rw [getD_end hl.symm] at b
    refine ⟨⟨hl, fun j hj => by rw [← okAt_app (y := p) (by omega)]; exact h.2 j (by omega)⟩, b.1, b.2, fun j e => ?_⟩
    subst e
    have := h.lk (j := j) (by omega)
    rw [getD_app (by omega), getD_end hl.symm] at this
    exact this
  · rintro ⟨h, p0, p1, hk⟩
    have hl := h.1
    refine ⟨by simp [hl], fun j hj => ?_⟩
    by_cases z : j < i
    · rw [okAt_app (by omega)]
      exact h.2 j z
    · have e : j = i := by omega
      subst e
      unfold okAt inI
      rw [getD_end hl.symm, decide_eq_true p0, decide_eq_true p1]
      cases j with
      | zero => rfl
      | succ j =>
        rw [lkc_succ, getD_app (by omega), getD_end hl.symm]
        simpa using hk j rfl
theorem Ch.take {N : Nat} {c : List Int} (h : Ch S n Ls N c) {i : Nat} (hi : i ≤ N) : Ch S n Ls i (c.take i) := by
  have hl := h.1
  refine ⟨by rw [List.length_take]; omega, fun j hj => ?_⟩
  have e : c = c.take i ++ c.drop i := (List.take_append_drop i c).symm
  have k := h.2 j (by omega)
  have g : ∀ m, m < i → (c.take i).getD m 0 = c.getD m 0 := fun m hm => by
    rw [List.getD_eq_getElem?_getD, List.getD_eq_getElem?_getD, List.getElem?_take, if_pos hm]
  unfold okAt inI at k ⊢
  rw [g j hj]
  cases j with
  | zero => exact k
  | succ j =>
    rw [lkc_succ] at k ⊢
    rw [g (j + 1) hj, g j (by omega)]
    exact k
end
end LibT
namespace LibT
open PySem PySem.Spec PyProof.Rows L2 Ev Lib
section
end
end LibT
namespace LibT
open PySem PySem.Spec PyProof.Rows L2 Ev Lib
end LibT
namespace LibU
open PySem PySem.Spec PyProof.Rows L2 Ev Lib LibT
end LibU
namespace LibX
open LibW
open PySem PySem.Spec PyProof.Rows L2 Ev Lib LibT
@[simp] theorem nb_moment_tree : (("moment" : Str) == ("tree" : Str)) = false := by decide +kernel
@[simp] theorem ne_moment_tree : (("moment" : Str) = ("tree" : Str)) = False := eq_false (by decide +kernel)
@[simp] theorem nb_cover_tree : (("cover" : Str) == ("tree" : Str)) = false := by decide +kernel
@[simp] theorem ne_cover_tree : (("cover" : Str) = ("tree" : Str)) = False := eq_false (by decide +kernel)
@[simp] theorem nb_tree_moment : (("tree" : Str) == ("moment" : Str)) = false := by decide +kernel
@[simp] theorem ne_tree_moment : (("tree" : Str) = ("moment" : Str)) = False := eq_false (by decide +kernel)
@[simp] theorem nb_tree_cover : (("tree" : Str) == ("cover" : Str)) = false := by decide +kernel
@[simp] theorem ne_tree_cover : (("tree" : Str) = ("cover" : Str)) = False := eq_false (by decide +kernel)
@[simp] theorem nb_question_table : (("question" : Str) == ("table" : Str)) = false := by decide +kernel
@[simp] theorem ne_question_table : (("question" : Str) = ("table" : Str)) = False := eq_false (by decide +kernel)
@[simp] theorem nb_question_held : (("question" : Str) == ("held" : Str)) = false := by decide +kernel
@[simp] theorem ne_question_held : (("question" : Str) = ("held" : Str)) = False := eq_false (by decide +kernel)
@[simp] theorem nb_table_question : (("table" : Str) == ("question" : Str)) = false := by decide +kernel
@[simp] theorem ne_table_question : (("table" : Str) = ("question" : Str)) = False := eq_false (by decide +kernel)
@[simp] theorem nb_held_question : (("held" : Str) == ("question" : Str)) = false := by decide +kernel
@[simp] theorem ne_held_question : (("held" : Str) = ("question" : Str)) = False := eq_false (by decide +kernel)
@[simp] theorem nb_moment_rows : (("moment" : Str) == ("rows" : Str)) = false := by decide +kernel
@[simp] theorem ne_moment_rows : (("moment" : Str) = ("rows" : Str)) = False := eq_false (by decide +kernel)
@[simp] theorem nb_rows_moment : (("rows" : Str) == ("moment" : Str)) = false := by decide +kernel
@[simp] theorem ne_rows_moment : (("rows" : Str) = ("moment" : Str)) = False := eq_false (by decide +kernel)
@[simp] theorem nb_names_before : (("names" : Str) == ("before" : Str)) = false := by decide +kernel
@[simp] theorem ne_names_before : (("names" : Str) = ("before" : Str)) = False := eq_false (by decide +kernel)
@[simp] theorem nb_names_after : (("names" : Str) == ("after" : Str)) = false := by decide +kernel
@[simp] theorem ne_names_after : (("names" : Str) = ("after" : Str)) = False := eq_false (by decide +kernel)
@[simp] theorem nb_before_names : (("before" : Str) == ("names" : Str)) = false := by decide +kernel
@[simp] theorem ne_before_names : (("before" : Str) = ("names" : Str)) = False := eq_false (by decide +kernel)
@[simp] theorem nb_before_after : (("before" : Str) == ("after" : Str)) = false := by decide +kernel
@[simp] theorem ne_before_after : (("before" : Str) = ("after" : Str)) = False := eq_false (by decide +kernel)
@[simp] theorem nb_after_names : (("after" : Str) == ("names" : Str)) = false := by decide +kernel
@[simp] theorem ne_after_names : (("after" : Str) = ("names" : Str)) = False := eq_false (by decide +kernel)
@[simp] theorem nb_after_before : (("after" : Str) == ("before" : Str)) = false := by decide +kernel
@[simp] theorem ne_after_before : (("after" : Str) = ("before" : Str)) = False := eq_false (by decide +kernel)
@[simp] theorem nb_setting_plan : (("setting" : Str) == ("plan" : Str)) = false := by decide +kernel
@[simp] theorem ne_setting_plan : (("setting" : Str) = ("plan" : Str)) = False := eq_false (by decide +kernel)
@[simp] theorem nb_setting_known : (("setting" : Str) == ("known" : Str)) = false := by decide +kernel
@[simp] theorem ne_setting_known : (("setting" : Str) = ("known" : Str)) = False := eq_false (by decide +kernel)
@[simp] theorem nb_question_plan : (("question" : Str) == ("plan" : Str)) = false := by decide +kernel
@[simp] theorem ne_question_plan : (("question" : Str) = ("plan" : Str)) = False := eq_false (by decide +kernel)
@[simp] theorem nb_question_known : (("question" : Str) == ("known" : Str)) = false := by decide +kernel
@[simp] theorem ne_question_known : (("question" : Str) = ("known" : Str)) = False := eq_false (by decide +kernel)
@[simp] theorem nb_plan_setting : (("plan" : Str) == ("setting" : Str)) = false := by decide +kernel
@[simp] theorem ne_plan_setting : (("plan" : Str) = ("setting" : Str)) = False := eq_false (by decide +kernel)
@[simp] theorem nb_plan_question : (("plan" : Str) == ("question" : Str)) = false := by decide +kernel
@[simp] theorem ne_plan_question : (("plan" : Str) = ("question" : Str)) = False := eq_false (by decide +kernel)
@[simp] theorem nb_plan_known : (("plan" : Str) == ("known" : Str)) = false := by decide +kernel
@[simp] theorem ne_plan_known : (("plan" : Str) = ("known" : Str)) = False := eq_false (by decide +kernel)
@[simp] theorem nb_plan_held : (("plan" : Str) == ("held" : Str)) = false := by decide +kernel
@[simp] theorem ne_plan_held : (("plan" : Str) = ("held" : Str)) = False := eq_false (by decide +kernel)
@[simp] theorem nb_known_setting : (("known" : Str) == ("setting" : Str)) = false := by decide +kernel
@[simp] theorem ne_known_setting : (("known" : Str) = ("setting" : Str)) = False := eq_false (by decide +kernel)
@[simp] theorem nb_known_question : (("known" : Str) == ("question" : Str)) = false := by decide +kernel
@[simp] theorem ne_known_question : (("known" : Str) = ("question" : Str)) = False := eq_false (by decide +kernel)
@[simp] theorem nb_known_plan : (("known" : Str) == ("plan" : Str)) = false := by decide +kernel
@[simp] theorem ne_known_plan : (("known" : Str) = ("plan" : Str)) = False := eq_false (by decide +kernel)
@[simp] theorem nb_known_held : (("known" : Str) == ("held" : Str)) = false := by decide +kernel
@[simp] theorem ne_known_held : (("known" : Str) = ("held" : Str)) = False := eq_false (by decide +kernel)
@[simp] theorem nb_held_plan : (("held" : Str) == ("plan" : Str)) = false := by decide +kernel
@[simp] theorem ne_held_plan : (("held" : Str) = ("plan" : Str)) = False := eq_false (by decide +kernel)
@[simp] theorem nb_held_known : (("held" : Str) == ("known" : Str)) = false := by decide +kernel
@[simp] theorem ne_held_known : (("held" : Str) = ("known" : Str)) = False := eq_false (by decide +kernel)
@[simp] theorem nb_moments_grain : (("moments" : Str) == ("grain" : Str)) = false := by decide +kernel
@[simp] theorem ne_moments_grain : (("moments" : Str) = ("grain" : Str)) = False := eq_false (by decide +kernel)
@[simp] theorem nb_moments_most : (("moments" : Str) == ("most" : Str)) = false := by decide +kernel
@[simp] theorem ne_moments_most : (("moments" : Str) = ("most" : Str)) = False := eq_false (by decide +kernel)
@[simp] theorem nb_moments_without : (("moments" : Str) == ("without" : Str)) = false := by decide +kernel
@[simp] theorem ne_moments_without : (("moments" : Str) = ("without" : Str)) = False := eq_false (by decide +kernel)
@[simp] theorem nb_grain_moments : (("grain" : Str) == ("moments" : Str)) = false := by decide +kernel
@[simp] theorem ne_grain_moments : (("grain" : Str) = ("moments" : Str)) = False := eq_false (by decide +kernel)
@[simp] theorem nb_grain_most : (("grain" : Str) == ("most" : Str)) = false := by decide +kernel
@[simp] theorem ne_grain_most : (("grain" : Str) = ("most" : Str)) = False := eq_false (by decide +kernel)
@[simp] theorem nb_grain_without : (("grain" : Str) == ("without" : Str)) = false := by decide +kernel
@[simp] theorem ne_grain_without : (("grain" : Str) = ("without" : Str)) = False := eq_false (by decide +kernel)
@[simp] theorem nb_most_moments : (("most" : Str) == ("moments" : Str)) = false := by decide +kernel
@[simp] theorem ne_most_moments : (("most" : Str) = ("moments" : Str)) = False := eq_false (by decide +kernel)
@[simp] theorem nb_most_grain : (("most" : Str) == ("grain" : Str)) = false := by decide +kernel
@[simp] theorem ne_most_grain : (("most" : Str) = ("grain" : Str)) = False := eq_false (by decide +kernel)
@[simp] theorem nb_most_without : (("most" : Str) == ("without" : Str)) = false := by decide +kernel
@[simp] theorem ne_most_without : (("most" : Str) = ("without" : Str)) = False := eq_false (by decide +kernel)
@[simp] theorem nb_without_moments : (("without" : Str) == ("moments" : Str)) = false := by decide +kernel
@[simp] theorem ne_without_moments : (("without" : Str) = ("moments" : Str)) = False := eq_false (by decide +kernel)
@[simp] theorem nb_without_grain : (("without" : Str) == ("grain" : Str)) = false := by decide +kernel
@[simp] theorem ne_without_grain : (("without" : Str) = ("grain" : Str)) = False := eq_false (by decide +kernel)
@[simp] theorem nb_without_most : (("without" : Str) == ("most" : Str)) = false := by decide +kernel
@[simp] theorem ne_without_most : (("without" : Str) = ("most" : Str)) = False := eq_false (by decide +kernel)
@[simp] theorem nb_known_trees : (("known" : Str) == ("trees" : Str)) = false := by decide +kernel
@[simp] theorem ne_known_trees : (("known" : Str) = ("trees" : Str)) = False := eq_false (by decide +kernel)
@[simp] theorem nb_known_steps : (("known" : Str) == ("steps" : Str)) = false := by decide +kernel
@[simp] theorem ne_known_steps : (("known" : Str) = ("steps" : Str)) = False := eq_false (by decide +kernel)
@[simp] theorem nb_trees_known : (("trees" : Str) == ("known" : Str)) = false := by decide +kernel
@[simp] theorem ne_trees_known : (("trees" : Str) = ("known" : Str)) = False := eq_false (by decide +kernel)
@[simp] theorem nb_trees_steps : (("trees" : Str) == ("steps" : Str)) = false := by decide +kernel
@[simp] theorem ne_trees_steps : (("trees" : Str) = ("steps" : Str)) = False := eq_false (by decide +kernel)
@[simp] theorem nb_steps_known : (("steps" : Str) == ("known" : Str)) = false := by decide +kernel
@[simp] theorem ne_steps_known : (("steps" : Str) = ("known" : Str)) = False := eq_false (by decide +kernel)
@[simp] theorem nb_steps_trees : (("steps" : Str) == ("trees" : Str)) = false := by decide +kernel
@[simp] theorem ne_steps_trees : (("steps" : Str) = ("trees" : Str)) = False := eq_false (by decide +kernel)
@[simp] theorem nb_cell_box : (("cell" : Str) == ("box" : Str)) = false := by decide +kernel
@[simp] theorem ne_cell_box : (("cell" : Str) = ("box" : Str)) = False := eq_false (by decide +kernel)
@[simp] theorem nb_cell_verdict : (("cell" : Str) == ("verdict" : Str)) = false := by decide +kernel
@[simp] theorem ne_cell_verdict : (("cell" : Str) = ("verdict" : Str)) = False := eq_false (by decide +kernel)
@[simp] theorem nb_cell_trees : (("cell" : Str) == ("trees" : Str)) = false := by decide +kernel
@[simp] theorem ne_cell_trees : (("cell" : Str) = ("trees" : Str)) = False := eq_false (by decide +kernel)
@[simp] theorem nb_cell_steps : (("cell" : Str) == ("steps" : Str)) = false := by decide +kernel
@[simp] theorem ne_cell_steps : (("cell" : Str) = ("steps" : Str)) = False := eq_false (by decide +kernel)
@[simp] theorem nb_cell_witness : (("cell" : Str) == ("witness" : Str)) = false := by decide +kernel
@[simp] theorem ne_cell_witness : (("cell" : Str) = ("witness" : Str)) = False := eq_false (by decide +kernel)
@[simp] theorem nb_cell_names : (("cell" : Str) == ("names" : Str)) = false := by decide +kernel
@[simp] theorem ne_cell_names : (("cell" : Str) = ("names" : Str)) = False := eq_false (by decide +kernel)
@[simp] theorem nb_box_cell : (("box" : Str) == ("cell" : Str)) = false := by decide +kernel
@[simp] theorem ne_box_cell : (("box" : Str) = ("cell" : Str)) = False := eq_false (by decide +kernel)
@[simp] theorem nb_box_verdict : (("box" : Str) == ("verdict" : Str)) = false := by decide +kernel
@[simp] theorem ne_box_verdict : (("box" : Str) = ("verdict" : Str)) = False := eq_false (by decide +kernel)
@[simp] theorem nb_box_trees : (("box" : Str) == ("trees" : Str)) = false := by decide +kernel
@[simp] theorem ne_box_trees : (("box" : Str) = ("trees" : Str)) = False := eq_false (by decide +kernel)
@[simp] theorem nb_box_steps : (("box" : Str) == ("steps" : Str)) = false := by decide +kernel
@[simp] theorem ne_box_steps : (("box" : Str) = ("steps" : Str)) = False := eq_false (by decide +kernel)
@[simp] theorem nb_box_witness : (("box" : Str) == ("witness" : Str)) = false := by decide +kernel
@[simp] theorem ne_box_witness : (("box" : Str) = ("witness" : Str)) = False := eq_false (by decide +kernel)
@[simp] theorem nb_box_names : (("box" : Str) == ("names" : Str)) = false := by decide +kernel
@[simp] theorem ne_box_names : (("box" : Str) = ("names" : Str)) = False := eq_false (by decide +kernel)
@[simp] theorem nb_verdict_cell : (("verdict" : Str) == ("cell" : Str)) = false := by decide +kernel
@[simp] theorem ne_verdict_cell : (("verdict" : Str) = ("cell" : Str)) = False := eq_false (by decide +kernel)
@[simp] theorem nb_verdict_box : (("verdict" : Str) == ("box" : Str)) = false := by decide +kernel
@[simp] theorem ne_verdict_box : (("verdict" : Str) = ("box" : Str)) = False := eq_false (by decide +kernel)
@[simp] theorem nb_verdict_trees : (("verdict" : Str) == ("trees" : Str)) = false := by decide +kernel
@[simp] theorem ne_verdict_trees : (("verdict" : Str) = ("trees" : Str)) = False := eq_false (by decide +kernel)
@[simp] theorem nb_verdict_steps : (("verdict" : Str) == ("steps" : Str)) = false := by decide +kernel
@[simp] theorem ne_verdict_steps : (("verdict" : Str) = ("steps" : Str)) = False := eq_false (by decide +kernel)
@[simp] theorem nb_verdict_witness : (("verdict" : Str) == ("witness" : Str)) = false := by decide +kernel
@[simp] theorem ne_verdict_witness : (("verdict" : Str) = ("witness" : Str)) = False := eq_false (by decide +kernel)
@[simp] theorem nb_verdict_names : (("verdict" : Str) == ("names" : Str)) = false := by decide +kernel
@[simp] theorem ne_verdict_names : (("verdict" : Str) = ("names" : Str)) = False := eq_false (by decide +kernel)
@[simp] theorem nb_trees_cell : (("trees" : Str) == ("cell" : Str)) = false := by decide +kernel
@[simp] theorem ne_trees_cell : (("trees" : Str) = ("cell" : Str)) = False := eq_false (by decide +kernel)
@[simp] theorem nb_trees_box : (("trees" : Str) == ("box" : Str)) = false := by decide +kernel
@[simp] theorem ne_trees_box : (("trees" : Str) = ("box" : Str)) = False := eq_false (by decide +kernel)
@[simp] theorem nb_trees_verdict : (("trees" : Str) == ("verdict" : Str)) = false := by decide +kernel
@[simp] theorem ne_trees_verdict : (("trees" : Str) = ("verdict" : Str)) = False := eq_false (by decide +kernel)
@[simp] theorem nb_trees_witness : (("trees" : Str) == ("witness" : Str)) = false := by decide +kernel
@[simp] theorem ne_trees_witness : (("trees" : Str) = ("witness" : Str)) = False := eq_false (by decide +kernel)
@[simp] theorem nb_trees_names : (("trees" : Str) == ("names" : Str)) = false := by decide +kernel
@[simp] theorem ne_trees_names : (("trees" : Str) = ("names" : Str)) = False := eq_false (by decide +kernel)
@[simp] theorem nb_steps_cell : (("steps" : Str) == ("cell" : Str)) = false := by decide +kernel
@[simp] theorem ne_steps_cell : (("steps" : Str) = ("cell" : Str)) = False := eq_false (by decide +kernel)
@[simp] theorem nb_steps_box : (("steps" : Str) == ("box" : Str)) = false := by decide +kernel
@[simp] theorem ne_steps_box : (("steps" : Str) = ("box" : Str)) = False := eq_false (by decide +kernel)
@[simp] theorem nb_steps_verdict : (("steps" : Str) == ("verdict" : Str)) = false := by decide +kernel
@[simp] theorem ne_steps_verdict : (("steps" : Str) = ("verdict" : Str)) = False := eq_false (by decide +kernel)
@[simp] theorem nb_steps_witness : (("steps" : Str) == ("witness" : Str)) = false := by decide +kernel
@[simp] theorem ne_steps_witness : (("steps" : Str) = ("witness" : Str)) = False := eq_false (by decide +kernel)
@[simp] theorem nb_steps_names : (("steps" : Str) == ("names" : Str)) = false := by decide +kernel
@[simp] theorem ne_steps_names : (("steps" : Str) = ("names" : Str)) = False := eq_false (by decide +kernel)
@[simp] theorem nb_witness_cell : (("witness" : Str) == ("cell" : Str)) = false := by decide +kernel
@[simp] theorem ne_witness_cell : (("witness" : Str) = ("cell" : Str)) = False := eq_false (by decide +kernel)
@[simp] theorem nb_witness_box : (("witness" : Str) == ("box" : Str)) = false := by decide +kernel
@[simp] theorem ne_witness_box : (("witness" : Str) = ("box" : Str)) = False := eq_false (by decide +kernel)
@[simp] theorem nb_witness_verdict : (("witness" : Str) == ("verdict" : Str)) = false := by decide +kernel
@[simp] theorem ne_witness_verdict : (("witness" : Str) = ("verdict" : Str)) = False := eq_false (by decide +kernel)
@[simp] theorem nb_witness_trees : (("witness" : Str) == ("trees" : Str)) = false := by decide +kernel
@[simp] theorem ne_witness_trees : (("witness" : Str) = ("trees" : Str)) = False := eq_false (by decide +kernel)
@[simp] theorem nb_witness_steps : (("witness" : Str) == ("steps" : Str)) = false := by decide +kernel
@[simp] theorem ne_witness_steps : (("witness" : Str) = ("steps" : Str)) = False := eq_false (by decide +kernel)
@[simp] theorem nb_witness_names : (("witness" : Str) == ("names" : Str)) = false := by decide +kernel
@[simp] theorem ne_witness_names : (("witness" : Str) = ("names" : Str)) = False := eq_false (by decide +kernel)
@[simp] theorem nb_names_cell : (("names" : Str) == ("cell" : Str)) = false := by decide +kernel
@[simp] theorem ne_names_cell : (("names" : Str) = ("cell" : Str)) = False := eq_false (by decide +kernel)
@[simp] theorem nb_names_box : (("names" : Str) == ("box" : Str)) = false := by decide +kernel
@[simp] theorem ne_names_box : (("names" : Str) = ("box" : Str)) = False := eq_false (by decide +kernel)
@[simp] theorem nb_names_verdict : (("names" : Str) == ("verdict" : Str)) = false := by decide +kernel
@[simp] theorem ne_names_verdict : (("names" : Str) = ("verdict" : Str)) = False := eq_false (by decide +kernel)
@[simp] theorem nb_names_trees : (("names" : Str) == ("trees" : Str)) = false := by decide +kernel
@[simp] theorem ne_names_trees : (("names" : Str) = ("trees" : Str)) = False := eq_false (by decide +kernel)
@[simp] theorem nb_names_steps : (("names" : Str) == ("steps" : Str)) = false := by decide +kernel
@[simp] theorem ne_names_steps : (("names" : Str) = ("steps" : Str)) = False := eq_false (by decide +kernel)
@[simp] theorem nb_names_witness : (("names" : Str) == ("witness" : Str)) = false := by decide +kernel
@[simp] theorem ne_names_witness : (("names" : Str) = ("witness" : Str)) = False := eq_false (by decide +kernel)
@[simp] theorem nb_known_told : (("known" : Str) == ("told" : Str)) = false := by decide +kernel
@[simp] theorem ne_known_told : (("known" : Str) = ("told" : Str)) = False := eq_false (by decide +kernel)
@[simp] theorem nb_known_left : (("known" : Str) == ("left" : Str)) = false := by decide +kernel
@[simp] theorem ne_known_left : (("known" : Str) = ("left" : Str)) = False := eq_false (by decide +kernel)
@[simp] theorem nb_told_known : (("told" : Str) == ("known" : Str)) = false := by decide +kernel
@[simp] theorem ne_told_known : (("told" : Str) = ("known" : Str)) = False := eq_false (by decide +kernel)
@[simp] theorem nb_told_left : (("told" : Str) == ("left" : Str)) = false := by decide +kernel
@[simp] theorem ne_told_left : (("told" : Str) = ("left" : Str)) = False := eq_false (by decide +kernel)
@[simp] theorem nb_left_known : (("left" : Str) == ("known" : Str)) = false := by decide +kernel
@[simp] theorem ne_left_known : (("left" : Str) = ("known" : Str)) = False := eq_false (by decide +kernel)
@[simp] theorem nb_left_told : (("left" : Str) == ("told" : Str)) = false := by decide +kernel
@[simp] theorem ne_left_told : (("left" : Str) = ("told" : Str)) = False := eq_false (by decide +kernel)
@[simp] theorem nb_setting_rows : (("setting" : Str) == ("rows" : Str)) = false := by decide +kernel
@[simp] theorem ne_setting_rows : (("setting" : Str) = ("rows" : Str)) = False := eq_false (by decide +kernel)
@[simp] theorem nb_setting_sight : (("setting" : Str) == ("sight" : Str)) = false := by decide +kernel
@[simp] theorem ne_setting_sight : (("setting" : Str) = ("sight" : Str)) = False := eq_false (by decide +kernel)
@[simp] theorem nb_setting_hearing : (("setting" : Str) == ("hearing" : Str)) = false := by decide +kernel
@[simp] theorem ne_setting_hearing : (("setting" : Str) = ("hearing" : Str)) = False := eq_false (by decide +kernel)
@[simp] theorem nb_setting_names : (("setting" : Str) == ("names" : Str)) = false := by decide +kernel
@[simp] theorem ne_setting_names : (("setting" : Str) = ("names" : Str)) = False := eq_false (by decide +kernel)
@[simp] theorem nb_question_rows : (("question" : Str) == ("rows" : Str)) = false := by decide +kernel
@[simp] theorem ne_question_rows : (("question" : Str) = ("rows" : Str)) = False := eq_false (by decide +kernel)
@[simp] theorem nb_question_sight : (("question" : Str) == ("sight" : Str)) = false := by decide +kernel
@[simp] theorem ne_question_sight : (("question" : Str) = ("sight" : Str)) = False := eq_false (by decide +kernel)
@[simp] theorem nb_question_hearing : (("question" : Str) == ("hearing" : Str)) = false := by decide +kernel
@[simp] theorem ne_question_hearing : (("question" : Str) = ("hearing" : Str)) = False := eq_false (by decide +kernel)
@[simp] theorem nb_question_names : (("question" : Str) == ("names" : Str)) = false := by decide +kernel
@[simp] theorem ne_question_names : (("question" : Str) = ("names" : Str)) = False := eq_false (by decide +kernel)
@[simp] theorem nb_held_rows : (("held" : Str) == ("rows" : Str)) = false := by decide +kernel
@[simp] theorem ne_held_rows : (("held" : Str) = ("rows" : Str)) = False := eq_false (by decide +kernel)
@[simp] theorem nb_held_sight : (("held" : Str) == ("sight" : Str)) = false := by decide +kernel
@[simp] theorem ne_held_sight : (("held" : Str) = ("sight" : Str)) = False := eq_false (by decide +kernel)
@[simp] theorem nb_held_hearing : (("held" : Str) == ("hearing" : Str)) = false := by decide +kernel
@[simp] theorem ne_held_hearing : (("held" : Str) = ("hearing" : Str)) = False := eq_false (by decide +kernel)
@[simp] theorem nb_held_names : (("held" : Str) == ("names" : Str)) = false := by decide +kernel
@[simp] theorem ne_held_names : (("held" : Str) = ("names" : Str)) = False := eq_false (by decide +kernel)
@[simp] theorem nb_rows_setting : (("rows" : Str) == ("setting" : Str)) = false := by decide +kernel
@[simp] theorem ne_rows_setting : (("rows" : Str) = ("setting" : Str)) = False := eq_false (by decide +kernel)
@[simp] theorem nb_rows_question : (("rows" : Str) == ("question" : Str)) = false := by decide +kernel
@[simp] theorem ne_rows_question : (("rows" : Str) = ("question" : Str)) = False := eq_false (by decide +kernel)
@[simp] theorem nb_rows_held : (("rows" : Str) == ("held" : Str)) = false := by decide +kernel
@[simp] theorem ne_rows_held : (("rows" : Str) = ("held" : Str)) = False := eq_false (by decide +kernel)
@[simp] theorem nb_rows_sight : (("rows" : Str) == ("sight" : Str)) = false := by decide +kernel
@[simp] theorem ne_rows_sight : (("rows" : Str) = ("sight" : Str)) = False := eq_false (by decide +kernel)
@[simp] theorem nb_rows_hearing : (("rows" : Str) == ("hearing" : Str)) = false := by decide +kernel
@[simp] theorem ne_rows_hearing : (("rows" : Str) = ("hearing" : Str)) = False := eq_false (by decide +kernel)
@[simp] theorem nb_rows_names : (("rows" : Str) == ("names" : Str)) = false := by decide +kernel
@[simp] theorem ne_rows_names : (("rows" : Str) = ("names" : Str)) = False := eq_false (by decide +kernel)
@[simp] theorem nb_sight_setting : (("sight" : Str) == ("setting" : Str)) = false := by decide +kernel
@[simp] theorem ne_sight_setting : (("sight" : Str) = ("setting" : Str)) = False := eq_false (by decide +kernel)
@[simp] theorem nb_sight_question : (("sight" : Str) == ("question" : Str)) = false := by decide +kernel
@[simp] theorem ne_sight_question : (("sight" : Str) = ("question" : Str)) = False := eq_false (by decide +kernel)
@[simp] theorem nb_sight_held : (("sight" : Str) == ("held" : Str)) = false := by decide +kernel
@[simp] theorem ne_sight_held : (("sight" : Str) = ("held" : Str)) = False := eq_false (by decide +kernel)
@[simp] theorem nb_sight_rows : (("sight" : Str) == ("rows" : Str)) = false := by decide +kernel
@[simp] theorem ne_sight_rows : (("sight" : Str) = ("rows" : Str)) = False := eq_false (by decide +kernel)
@[simp] theorem nb_sight_hearing : (("sight" : Str) == ("hearing" : Str)) = false := by decide +kernel
@[simp] theorem ne_sight_hearing : (("sight" : Str) = ("hearing" : Str)) = False := eq_false (by decide +kernel)
@[simp] theorem nb_sight_names : (("sight" : Str) == ("names" : Str)) = false := by decide +kernel
@[simp] theorem ne_sight_names : (("sight" : Str) = ("names" : Str)) = False := eq_false (by decide +kernel)
@[simp] theorem nb_hearing_setting : (("hearing" : Str) == ("setting" : Str)) = false := by decide +kernel
@[simp] theorem ne_hearing_setting : (("hearing" : Str) = ("setting" : Str)) = False := eq_false (by decide +kernel)
@[simp] theorem nb_hearing_question : (("hearing" : Str) == ("question" : Str)) = false := by decide +kernel
@[simp] theorem ne_hearing_question : (("hearing" : Str) = ("question" : Str)) = False := eq_false (by decide +kernel)
@[simp] theorem nb_hearing_held : (("hearing" : Str) == ("held" : Str)) = false := by decide +kernel
@[simp] theorem ne_hearing_held : (("hearing" : Str) = ("held" : Str)) = False := eq_false (by decide +kernel)
@[simp] theorem nb_hearing_rows : (("hearing" : Str) == ("rows" : Str)) = false := by decide +kernel
@[simp] theorem ne_hearing_rows : (("hearing" : Str) = ("rows" : Str)) = False := eq_false (by decide +kernel)
@[simp] theorem nb_hearing_sight : (("hearing" : Str) == ("sight" : Str)) = false := by decide +kernel
@[simp] theorem ne_hearing_sight : (("hearing" : Str) = ("sight" : Str)) = False := eq_false (by decide +kernel)
@[simp] theorem nb_hearing_names : (("hearing" : Str) == ("names" : Str)) = false := by decide +kernel
@[simp] theorem ne_hearing_names : (("hearing" : Str) = ("names" : Str)) = False := eq_false (by decide +kernel)
@[simp] theorem nb_names_setting : (("names" : Str) == ("setting" : Str)) = false := by decide +kernel
@[simp] theorem ne_names_setting : (("names" : Str) = ("setting" : Str)) = False := eq_false (by decide +kernel)
@[simp] theorem nb_names_question : (("names" : Str) == ("question" : Str)) = false := by decide +kernel
@[simp] theorem ne_names_question : (("names" : Str) = ("question" : Str)) = False := eq_false (by decide +kernel)
@[simp] theorem nb_names_held : (("names" : Str) == ("held" : Str)) = false := by decide +kernel
@[simp] theorem ne_names_held : (("names" : Str) = ("held" : Str)) = False := eq_false (by decide +kernel)
@[simp] theorem nb_names_rows : (("names" : Str) == ("rows" : Str)) = false := by decide +kernel
@[simp] theorem ne_names_rows : (("names" : Str) = ("rows" : Str)) = False := eq_false (by decide +kernel)
@[simp] theorem nb_names_sight : (("names" : Str) == ("sight" : Str)) = false := by decide +kernel
@[simp] theorem ne_names_sight : (("names" : Str) = ("sight" : Str)) = False := eq_false (by decide +kernel)
@[simp] theorem nb_names_hearing : (("names" : Str) == ("hearing" : Str)) = false := by decide +kernel
@[simp] theorem ne_names_hearing : (("names" : Str) = ("hearing" : Str)) = False := eq_false (by decide +kernel)
end LibX
namespace LibW
open PySem PySem.Spec PyProof.Rows L2 Ev Lib
section
variable {n : Nat}
def Sm20 (p : Nat → Int) : Prop := ∀ i, (p i).natAbs ≤ 20
def KdS (n : Nat) : Kd → Prop
  | .range p => Sm20 p
  | .clocked p => Sm20 p
  | .differ p q => Sm20 p ∧ Sm20 q
  | .piece p q => Sm20 p ∧ Sm20 q
  | .side p => Sm20 p ∧ ∃ i < n, p i ≠ 0
  | .boxes bs => 0 < bs.length ∧ bs.length ≤ 2 ∧ ∀ b ∈ bs, b.length = n ∧ ∀ s ∈ b, s.1.natAbs ≤ 20 ∧ s.2.natAbs ≤ 26 ∧ s.1 ≤ s.2
theorem KdS.v {K : Kd} (h : KdS n K) : KdV n K := by
  have pv : ∀ {p : Nat → Int}, Sm20 p → VP n p := fun {p} h i _ => by
    have := h i
    have := sz64 (i := p i) (by omega)
    unfold Lib.V
    omega
  cases K with
  | range p => exact pv h
  | clocked p => exact pv h
  | differ p q => exact ⟨pv h.1, pv h.2⟩
  | piece p q => exact ⟨pv h.1, pv h.2⟩
  | side p => exact pv h.1
  | boxes bs =>
    obtain ⟨h1, h2, h3⟩ := h
    refine ⟨h1, by omega, fun b hb => ⟨(h3 b hb).1, fun s hs => ?_⟩⟩
    obtain ⟨k2, k3, k4⟩ := (h3 b hb).2 s hs
    have := sz64 (i := s.1) (by omega)
    have := sz64 (i := s.2) (by omega)
    exact ⟨by unfold Lib.V; omega, by unfold Lib.V; omega⟩
def hlf (share : Int) : Int := (share + 1) / 2
def crd (n : Nat) (share : Int) : Int := ru ((n : Int) * hlf share * hlf share)
end
end LibW
namespace LibW
open PySem PySem.Spec PyProof.Rows L2 Ev Lib
end LibW
namespace LibW
open PySem PySem.Spec PyProof.Rows L2 Ev Lib
section
variable {n : Nat}
def hv (x : Int) : Int := absI x / 2 * (1 - 2 * (if x < 0 then 1 else 0))
structure WayV where
  pl : Nat → Int
  cl : Int
  tn : Int
  f1 : Nat → Int
  f2 : Nat → Int
  e1 : Int
  e2 : Int
def goW (W : WayV) (t : Int) : Nat → Int := if t - W.tn < 0 then W.f1 else W.f2
def rtW (W : WayV) (t : Int) : Int := if t - W.tn < 0 then W.e1 else W.e2
def plW (W : WayV) (t : Int) : Nat → Int := fun i => W.pl i + goW W t i * (t - W.tn)
def clW (W : WayV) (t : Int) : Int := W.cl + rtW W t * (t - W.tn)
def zP (n : Nat) (f : Nat → Int) (v : Int) : Nat → Int := fun i => if i < n then f i else v
theorem z_list (n : Nat) (f : Nat → Int) (v : Int) : ((List.range n).map fun i => D.int (f i)) ++ [.int v] = (List.range (n + 1)).map fun i => .int (zP n f v i) := by
  rw [List.range_succ, List.map_append]
  congr 1
  · refine List.map_congr_left fun i hi => ?_
    rw [zP, if_pos (List.mem_range.mp hi)]
  · simp [zP]
end
end LibW
namespace LibW
open PySem PySem.Spec PyProof.Rows L2 Ev Lib
def KdB (n : Nat) : Kd → Prop
  | .range p => ∀ i < n, -30 ≤ p i ∧ p i ≤ 30
  | .clocked p => ∀ i < n, -30 ≤ p i ∧ p i ≤ 30
  | .differ p q => (∀ i < n, -30 ≤ p i ∧ p i ≤ 30) ∧ ∀ i < n, -30 ≤ q i ∧ q i ≤ 30
  | .piece p q => (∀ i < n, -30 ≤ p i ∧ p i ≤ 30) ∧ ∀ i < n, -30 ≤ q i ∧ q i ≤ 30
  | .side p => ∀ i < n, -30 ≤ p i ∧ p i ≤ 30
  | .boxes bs => 0 < bs.length ∧ bs.length ≤ 1000 ∧ ∀ b ∈ bs, b.length = n ∧ ∀ i < n, (sd b i).1 ≤ (sd b i).2 ∧ -30 ≤ (sd b i).1 ∧ (sd b i).1 ≤ 30 ∧ (sd b i).2 ≤ 50
theorem KdB.v {n : Nat} {K : Kd} (h : KdB n K) : KdV n K := by
  have pv : ∀ {p : Nat → Int}, (∀ i < n, -30 ≤ p i ∧ p i ≤ 30) → VP n p := fun {p} h i hi => by
    have := h i hi
    have := sz64 (i := p i) (by omega)
    unfold Lib.V
    omega
  cases K with
  | range p => exact pv h
  | clocked p => exact pv h
  | differ p q => exact ⟨pv h.1, pv h.2⟩
  | piece p q => exact ⟨pv h.1, pv h.2⟩
  | side p => exact pv h
  | boxes bs =>
    obtain ⟨h1, h2, h3⟩ := h
    refine ⟨h1, by omega, fun b hb => ⟨(h3 b hb).1, fun s hs => ?_⟩⟩
    obtain ⟨l, q⟩ := h3 b hb
    obtain ⟨i, hi, rfl⟩ := List.getElem_of_mem hs
    have k := q i (by omega)
    rw [sd_get hi] at k
    have := sz64 (i := b[i].1) (by omega)
    have := sz64 (i := b[i].2) (by omega)
    exact ⟨by unfold Lib.V; omega, by unfold Lib.V; omega⟩
section
end
end LibW
namespace LibW
open PySem PySem.Spec PyProof.Rows L2 Ev Lib
section
end
end LibW
namespace LibW
open PySem PySem.Spec PyProof.Rows L2 Ev Lib
def adP (s p : Nat → Int) : Nat → Int := fun i => p i + s i
def adB (n : Nat) (s : Nat → Int) (o : List (Int × Int)) : List (Int × Int) := (List.range n).map fun i => ((sd o i).1 + s i, (sd o i).2 + s i)
def adK (n : Nat) (s : Nat → Int) : Kd → Kd
  | .range p => .range (adP s p)
  | .clocked p => .clocked (adP s p)
  | .differ p q => .differ (adP s p) (adP s q)
  | .piece p q => .piece (adP s p) (adP s q)
  | .side p => .side p
  | .boxes bs => .boxes (bs.map (adB n s))
section
variable {n : Nat}
/-- a list of numbers, frozen or live -/
def VLv (h : HP) (sv : D) (n : Nat) (s : Nat → Int) : Prop := sv = lvec n s ∨ ∃ m, sv = .ref m ∧ h[m]? = some (.lst ((List.range n).map fun i => D.int (s i)))
theorem VLv.app {h : HP} {sv : D} {s : Nat → Int} (k : VLv h sv n s) (x : HP) : VLv (h ++ x) sv n s := by
  rcases k with k | ⟨m, k, e⟩
  · exact .inl k
  · exact .inr ⟨m, k, by rw [List.getElem?_append_left (List.getElem?_eq_some_iff.mp e).1]; exact e⟩
theorem VLv.at {h : HP} {sv : D} {s : Nat → Int} (k : VLv h sv n s) {i : Nat} (hi : i < n) : fIx sv (.int (i : Int)) h = .ok (.int (s i)) h := by
  have a := at_vec (p := s) hi
  rcases k with rfl | ⟨m, rfl, e⟩
  · unfold lvec
    generalize ((List.range n).map fun i => D.int (s i)) = xs at *
    simp [a]
  · generalize ((List.range n).map fun i => D.int (s i)) = xs at *
    simp [e, a]
end
end LibW
namespace LibW
open PySem PySem.Spec PyProof.Rows L2 Ev Lib
section
variable {n : Nat}
theorem KdS.h (h0 : 0 < n) (hn : n ≤ 10) {K : Kd} (k : KdS n K) : KdH n K := by
  have pt : ∀ {p : Nat → Int}, Sm20 p → ∀ i < n, In12 (p i) := fun {p} h i _ => by have := h i; unfold In12; omega
  cases K with
  | range p => exact pt k
  | clocked p => exact pt k
  | differ p q => exact ⟨pt k.1, pt k.2⟩
  | piece p q => exact ⟨pt k.1, pt k.2⟩
  | side p => exact ⟨fun i _ => by have := k.1 i; omega, k.2⟩
  | boxes bs =>
    refine ⟨k.1, by have := k.2.1; omega, fun b hb => ⟨by have := (k.2.2 b hb).1; omega, fun s hs => ?_⟩⟩
    have := (k.2.2 b hb).2 s hs
    unfold SideOk
    omega
/-- what an honest reading says: at a time near its moment, of points near its own -/
def ToldW (n : Nat) (W : WayV) (R : RdV) : Prop := ∃ (ax : Nat) (st T : Int), ax < n ∧ (-R.ne ≤ st ∧ st ≤ R.ne) ∧ (-R.la ≤ T - R.mo ∧ T - R.mo ≤ R.la) ∧
  R.lo ≤ (lawV n (adK n (fun i => if i = ax then st else 0) R.kd) (plW W T) (clW W T)).1 ∧ (lawV n (adK n (fun i => if i = ax then st else 0) R.kd) (plW W T) (clW W T)).2 ≤ R.hi
structure RdW (n : Nat) (W : WayV) (name : Str) (lies : Bool) (R : RdV) : Prop where
  ok : RdOk n R
  kd : KdS n R.kd
  src : R.src = name
  mo : -12 ≤ R.mo ∧ R.mo ≤ 12
  la : 0 ≤ R.la ∧ R.la ≤ 2
  ne : R.ne = 0 ∨ R.ne = 1
  told : lies = false → ToldW n W R
end
end LibW
namespace LibW
open PySem PySem.Spec PyProof.Rows L2 Ev Lib
section
variable {n : Nat}
structure QV where
  mo : Int
  ro : List (Int × Int)
  li : Int
  sh : Int
  ea : Int
  la : Int
def qF (Q : QV) : List (Str × D) := [("moment", .int Q.mo), ("root", boxD Q.ro), ("liars", .int Q.li), ("share", .int Q.sh), ("earliest", .int Q.ea), ("latest", .int Q.la)]
def qD (Q : QV) : D := .ins 2 (qF Q)
@[simp] theorem asI_q (Q : QV) (h : HP) : asI h (qD Q) = some (2, qF Q) := rfl
end
end LibW
namespace LibV
open PySem PySem.Spec PyProof.Rows L2 Ev Lib
def sI (i : Int) : Str := Str.ofString (toString i)
theorem log19 {n : Nat} (h : n < 18446744073709551616) : n.log2 < 1920 := by
  have : n.log2 < 64 := PySem.Flt.log2_lt_of (by decide) (by omega)
  omega
theorem bStr_I {i : Int} (hi : i.natAbs < 18446744073709551616) (h : HP) : bStr [.int i] h = .ok (.str (sI i)) h := by
  show (if i.natAbs.log2 < 1920 then R.ok (D.str (sI i)) h else R.stuck) = _
  rw [if_pos (log19 hi)]
theorem sh_S {z : Str} (h : PyData.strOk z = true) : SeqAt.shaped (.str z) = true := by simp [SeqAt.shaped, PyData.canLay0, PyData.depth, h]
theorem eqv_S (x y : Str) : PyData.eqv (.str x) (.str y) = decide (x = y) := by
  by_cases h : x = y
  · subst h
    simp [PyData.eqv]
  · simp [PyData.eqv, h]
end LibV
namespace LibW
open PySem PySem.Spec PyProof.Rows L2 Ev Lib LibV EvS
section
variable {n : Nat}
def spdV (n : Nat) (K : Kd) (sh : Int) : Int := rateK n K * (2 * crd n sh + 2) + clockK K * sh
def marV (S : SetV) (n : Nat) (Q : QV) (R : RdV) : Int := movedK R.kd * R.ne + (rateK n R.kd * rchS S R.la + clockK R.kd * slpS S R.la) + spdV n R.kd Q.sh
def inQW (Q : QV) (r : Int × RdV) : Bool := decide (Q.ea ≤ r.2.mo) && decide (r.2.mo ≤ Q.la)
def momV (Q : QV) (rs : List (Int × RdV)) : List Int := Q.mo :: (rs.filter (inQW Q)).map (·.2.mo)
def strV (n : Nat) (Q : QV) (rs : List (Int × RdV)) : Int := 2 * crd n Q.sh * ((srt (momV Q rs)).length : Int)
theorem intsD_map : ∀ xs : List Int, intsD (xs.map D.int) = some xs
  | [] => rfl
  | x :: xs => by simp [intsD, intsD_map xs]
end
end LibW
namespace LibW
open PySem PySem.Spec PyProof.Rows L2 Ev Lib LibV EvS
abbrev Pt := Nat → Int
abbrev ptD (n : Nat) (q : Pt) : D := vec (n + 2) q
def ptsD (n : Nat) (ps : List Pt) : D := .tup (ps.map (ptD n))
def pt (ps : List Pt) (i : Nat) : Pt := ps.getD i fun _ => 0
@[simp] def witF (n : Nat) (ps : List Pt) : List (Str × D) := [("liars", .tup [.str "a"]), ("points", ptsD n ps)]
end LibW
namespace LibW
open PySem PySem.Spec PyProof.Rows L2 Ev Lib LibV EvS
section
end
end LibW
namespace LibW
open PySem PySem.Spec PyProof.Rows L2 Ev Lib LibV EvS
section
end
end LibW
namespace LibW
open PySem PySem.Spec PyProof.Rows L2 Ev Lib LibV EvS
section
end
end LibW
namespace LibW
open PySem PySem.Spec PyProof.Rows L2 Ev Lib LibV EvS
section
variable {n : Nat}
structure ReS (n : Nat) (R : RdV) : Prop where
  kd : KdS n R.kd
  mo : -12 ≤ R.mo ∧ R.mo ≤ 12
  la : 0 ≤ R.la ∧ R.la ≤ 1000
  ne : 0 ≤ R.ne ∧ R.ne ≤ 1000
theorem RdW.s {W : WayV} {name : Str} {l : Bool} {R : RdV} (h : RdW n W name l R) : ReS n R := ⟨h.kd, h.mo, by have := h.la; omega, by have := h.ne; omega⟩
@[simp] def wtF (n : Nat) (ls : List Str) (ps : List Pt) : List (Str × D) := [("liars", .tup (ls.map D.str)), ("points", ptsD n ps)]
def wtD (n : Nat) (ls : List Str) (ps : List Pt) : D := .ins 8 (wtF n ls ps)
@[simp] theorem asI_wt (ls : List Str) (ps : List Pt) (h : HP) : asI h (wtD n ls ps) = some (8, wtF n ls ps) := rfl
def askD (S : SetV) (n : Nat) (Q : QV) (R : RdV) : D := .tup [rdD n R, .int (marV S n Q R)]
def asksD (S : SetV) (n : Nat) (Q : QV) (rs : List (Int × RdV)) : D := .lst ((rs.filter (inQW Q)).map fun r => askD S n Q r.2)
def heF (S : SetV) (n : Nat) (Q : QV) (rs : List (Int × RdV)) : List (Str × D) := [("setting", setD S), ("question", qD Q), ("slack", .int (S.p * strV n Q rs)), ("asks", asksD S n Q rs)]
def heD (S : SetV) (n : Nat) (Q : QV) (rs : List (Int × RdV)) : D := .ins 23 (heF S n Q rs)
end
end LibW
namespace LibW
open PySem PySem.Spec PyProof.Rows L2 Ev Lib LibV EvS
section
variable {n : Nat}
@[simp] theorem asI_he (S : SetV) (Q : QV) (rs : List (Int × RdV)) (h : HP) : asI h (heD S n Q rs) = some (23, heF S n Q rs) := rfl
end
end LibW
namespace LibW
open PySem PySem.Spec PyProof.Rows L2 Ev Lib LibV EvS
section
end
end LibW
namespace LibW
open PySem PySem.Spec PyProof.Rows L2 Ev Lib LibV EvS
section
variable {n : Nat}
def ddP (xs : List Int) (k : Nat) : Bool := decide (k = 0) || !decide (xs.getD k 0 = xs.getD (k - 1) 0)
def dd (xs : List Int) : List Int := ((List.range xs.length).filter (ddP xs)).map fun k => xs.getD k 0
end
end LibW
namespace LibX
open PySem PySem.Spec PyProof.Rows L2 Ev Lib LibV LibW EvS
section
variable {n : Nat}
structure PlV where
  ms : List Int
  gr : Int
  mt : Int
  wo : List (List Str)
def nsD (r : List Str) : D := .tup (r.map D.str)
def plF (p : PlV) : List (Str × D) := [("moments", .tup (p.ms.map D.int)), ("grain", .int p.gr), ("most", .int p.mt), ("without", .tup (p.wo.map nsD))]
def plD (p : PlV) : D := .ins 10 (plF p)
@[simp] theorem asI_pl (p : PlV) (h : HP) : asI h (plD p) = some (10, plF p) := rfl
end
end LibX
namespace LibX
open PySem PySem.Spec PyProof.Rows L2 Ev Lib LibV LibW EvS
section
end
end LibX
namespace LibX
open PySem PySem.Spec PyProof.Rows L2 Ev Lib LibV LibW EvS
section
end
end LibX
namespace LibX
open PySem PySem.Spec PyProof.Rows L2 Ev Lib LibV LibW EvS
end LibX
namespace LibY
open PySem PySem.Spec PyProof.Rows L2 Ev
@[simp] theorem nb_by_reading_setting : (("by_reading" : Str) == ("setting" : Str)) = false := by decide +kernel
@[simp] theorem nb_by_reading_table : (("by_reading" : Str) == ("table" : Str)) = false := by decide +kernel
@[simp] theorem nb_by_reading_held : (("by_reading" : Str) == ("held" : Str)) = false := by decide +kernel
@[simp] theorem nb_by_reading_keep : (("by_reading" : Str) == ("keep" : Str)) = false := by decide +kernel
@[simp] theorem nb_by_reading_moment : (("by_reading" : Str) == ("moment" : Str)) = false := by decide +kernel
@[simp] theorem nb_by_known_setting : (("by_known" : Str) == ("setting" : Str)) = false := by decide +kernel
@[simp] theorem nb_by_known_table : (("by_known" : Str) == ("table" : Str)) = false := by decide +kernel
@[simp] theorem nb_by_known_held : (("by_known" : Str) == ("held" : Str)) = false := by decide +kernel
@[simp] theorem nb_by_known_keep : (("by_known" : Str) == ("keep" : Str)) = false := by decide +kernel
@[simp] theorem nb_by_known_moment : (("by_known" : Str) == ("moment" : Str)) = false := by decide +kernel
@[simp] theorem nb_by_kept_setting : (("by_kept" : Str) == ("setting" : Str)) = false := by decide +kernel
@[simp] theorem nb_by_kept_table : (("by_kept" : Str) == ("table" : Str)) = false := by decide +kernel
@[simp] theorem nb_by_kept_held : (("by_kept" : Str) == ("held" : Str)) = false := by decide +kernel
@[simp] theorem nb_by_kept_keep : (("by_kept" : Str) == ("keep" : Str)) = false := by decide +kernel
@[simp] theorem nb_by_kept_moment : (("by_kept" : Str) == ("moment" : Str)) = false := by decide +kernel
@[simp] theorem nb_sources_setting : (("sources" : Str) == ("setting" : Str)) = false := by decide +kernel
@[simp] theorem nb_sources_table : (("sources" : Str) == ("table" : Str)) = false := by decide +kernel
@[simp] theorem nb_sources_held : (("sources" : Str) == ("held" : Str)) = false := by decide +kernel
@[simp] theorem nb_sources_keep : (("sources" : Str) == ("keep" : Str)) = false := by decide +kernel
@[simp] theorem nb_sources_moment : (("sources" : Str) == ("moment" : Str)) = false := by decide +kernel
@[simp] theorem nb_judged_setting : (("judged" : Str) == ("setting" : Str)) = false := by decide +kernel
@[simp] theorem nb_judged_table : (("judged" : Str) == ("table" : Str)) = false := by decide +kernel
@[simp] theorem nb_judged_held : (("judged" : Str) == ("held" : Str)) = false := by decide +kernel
@[simp] theorem nb_judged_keep : (("judged" : Str) == ("keep" : Str)) = false := by decide +kernel
@[simp] theorem nb_judged_moment : (("judged" : Str) == ("moment" : Str)) = false := by decide +kernel
@[simp] theorem nb_hears_setting : (("hears" : Str) == ("setting" : Str)) = false := by decide +kernel
@[simp] theorem nb_hears_question : (("hears" : Str) == ("question" : Str)) = false := by decide +kernel
@[simp] theorem nb_hears_table : (("hears" : Str) == ("table" : Str)) = false := by decide +kernel
@[simp] theorem nb_hears_held : (("hears" : Str) == ("held" : Str)) = false := by decide +kernel
@[simp] theorem nb_hears_all_setting : (("hears_all" : Str) == ("setting" : Str)) = false := by decide +kernel
@[simp] theorem nb_hears_all_question : (("hears_all" : Str) == ("question" : Str)) = false := by decide +kernel
@[simp] theorem nb_hears_all_table : (("hears_all" : Str) == ("table" : Str)) = false := by decide +kernel
@[simp] theorem nb_hears_all_held : (("hears_all" : Str) == ("held" : Str)) = false := by decide +kernel
@[simp] theorem nb_sources_of_setting : (("sources_of" : Str) == ("setting" : Str)) = false := by decide +kernel
@[simp] theorem nb_sources_of_question : (("sources_of" : Str) == ("question" : Str)) = false := by decide +kernel
@[simp] theorem nb_sources_of_table : (("sources_of" : Str) == ("table" : Str)) = false := by decide +kernel
@[simp] theorem nb_sources_of_held : (("sources_of" : Str) == ("held" : Str)) = false := by decide +kernel
@[simp] theorem nb_accepts_setting : (("accepts" : Str) == ("setting" : Str)) = false := by decide +kernel
@[simp] theorem nb_accepts_question : (("accepts" : Str) == ("question" : Str)) = false := by decide +kernel
@[simp] theorem nb_accepts_table : (("accepts" : Str) == ("table" : Str)) = false := by decide +kernel
@[simp] theorem nb_accepts_held : (("accepts" : Str) == ("held" : Str)) = false := by decide +kernel
@[simp] theorem nb_first_moment : (("first" : Str) == ("moment" : Str)) = false := by decide +kernel
@[simp] theorem nb_first_rows : (("first" : Str) == ("rows" : Str)) = false := by decide +kernel
@[simp] theorem nb_every_moment : (("every" : Str) == ("moment" : Str)) = false := by decide +kernel
@[simp] theorem nb_every_rows : (("every" : Str) == ("rows" : Str)) = false := by decide +kernel
@[simp] theorem nb_left_out_setting : (("left_out" : Str) == ("setting" : Str)) = false := by decide +kernel
@[simp] theorem nb_left_out_question : (("left_out" : Str) == ("question" : Str)) = false := by decide +kernel
@[simp] theorem nb_left_out_plan : (("left_out" : Str) == ("plan" : Str)) = false := by decide +kernel
@[simp] theorem nb_left_out_known : (("left_out" : Str) == ("known" : Str)) = false := by decide +kernel
@[simp] theorem nb_left_out_held : (("left_out" : Str) == ("held" : Str)) = false := by decide +kernel
@[simp] theorem nb_parts_setting : (("parts" : Str) == ("setting" : Str)) = false := by decide +kernel
@[simp] theorem nb_parts_question : (("parts" : Str) == ("question" : Str)) = false := by decide +kernel
@[simp] theorem nb_parts_plan : (("parts" : Str) == ("plan" : Str)) = false := by decide +kernel
@[simp] theorem nb_parts_known : (("parts" : Str) == ("known" : Str)) = false := by decide +kernel
@[simp] theorem nb_parts_held : (("parts" : Str) == ("held" : Str)) = false := by decide +kernel
@[simp] theorem nb_make_setting : (("make" : Str) == ("setting" : Str)) = false := by decide +kernel
@[simp] theorem nb_make_question : (("make" : Str) == ("question" : Str)) = false := by decide +kernel
@[simp] theorem nb_make_plan : (("make" : Str) == ("plan" : Str)) = false := by decide +kernel
@[simp] theorem nb_make_known : (("make" : Str) == ("known" : Str)) = false := by decide +kernel
@[simp] theorem nb_make_held : (("make" : Str) == ("held" : Str)) = false := by decide +kernel
@[simp] theorem nb_make_row_setting : (("make_row" : Str) == ("setting" : Str)) = false := by decide +kernel
@[simp] theorem nb_make_row_question : (("make_row" : Str) == ("question" : Str)) = false := by decide +kernel
@[simp] theorem nb_make_row_plan : (("make_row" : Str) == ("plan" : Str)) = false := by decide +kernel
@[simp] theorem nb_make_row_known : (("make_row" : Str) == ("known" : Str)) = false := by decide +kernel
@[simp] theorem nb_make_row_held : (("make_row" : Str) == ("held" : Str)) = false := by decide +kernel
end LibY
namespace LibY
open PySem PySem.Spec PyProof.Rows L2 Ev Lib LibT LibV LibW LibX EvS
def KdR (n : Nat) (K : Kd) : Prop := (∀ h, Lib.F_rate [kdD n K] h = .ok (.int (rateK n K)) h) ∧ 0 ≤ rateK n K ∧ sz (rateK n K) ≤ 140
inductive Sp where
  | cut (a p : Int)
  | leaf (w : Str) (a : Int)
def stpD : Sp → D
  | .cut a p => .tup [.str "cut", .int a, .int p]
  | .leaf w a => .tup [.str w, .int a]
def SpO : Sp → Prop
  | .cut _ _ => True
  | .leaf w _ => w = "reading" ∨ w = "known" ∨ w = "kept"
structure HdV where
  mo : Int
  cover : List Bx
  used : List Str
@[simp] def hdF (t : HdV) : List (Str × D) := [("moment", .int t.mo), ("cover", .tup (t.cover.map boxD)), ("used", .tup (t.used.map D.str))]
def hdD (t : HdV) : D := .ins 3 (hdF t)
@[simp] theorem asI_hd (t : HdV) (h : HP) : asI h (hdD t) = some (3, hdF t) := rfl
structure Wd where
  S : SetV
  n : Nat
  rs : List (Int × RdV)
  hd : List HdV
  kp : List Bx
  mo : Int
structure Wd.ok (W : Wd) : Prop where
  k : W.S.ok
  hn : W.n ≤ 3
  rs : ∀ r ∈ W.rs, RdOk W.n r.2 ∧ KdR W.n r.2.kd ∧ KdV W.n r.2.kd ∧ absI (W.mo - r.2.mo) ≤ 1000000000000000 ∧ PyData.strOk r.2.src = true
  rl : W.rs.length ≤ 10
  nd : (W.rs.map (·.1)).Nodup
  hd : ∀ t ∈ W.hd, absI (W.mo - t.mo) ≤ 1000000000000000 ∧ t.cover.length ≤ 1000 ∧ (∀ c ∈ t.cover, BO W.n c) ∧ t.used.length ≤ 300 ∧ ∀ u ∈ t.used, PyData.strOk u = true
  hl : W.hd.length ≤ 1000
  kp : W.kp.length ≤ 1000
def HV (h : HP) (hv : D) (ds : List D) : Prop := hv = .lst ds ∨ ∃ n, hv = .ref n ∧ h[n]? = some (.lst ds)
theorem HV.app {h : HP} {hv : D} {ds : List D} (k : HV h hv ds) (x : HP) : HV (h ++ x) hv ds := by
  rcases k with k | ⟨n, k, e⟩
  · exact .inl k
  · refine .inr ⟨n, k, ?_⟩
    have : n < h.length := (List.getElem?_eq_some_iff.mp e).1
    rw [List.getElem?_append_left this, e]
def csF (W : Wd) (tb : Nat) (hv : D) : List (Str × D) := [("setting", setD W.S), ("table", .ref tb), ("held", hv), ("keep", .tup (W.kp.map boxD)), ("moment", .int W.mo)]
def csD (W : Wd) (tb : Nat) (hv : D) : D := .ins 4 (csF W tb hv)
@[simp] theorem asI_cs (W : Wd) (tb : Nat) (hv : D) (h : HP) : asI h (csD W tb hv) = some (4, csF W tb hv) := rfl
end LibY
namespace LibY
open PySem PySem.Spec PyProof.Rows L2 Ev Lib LibT LibV LibW LibX EvS
end LibY
namespace LibY
open PySem PySem.Spec PyProof.Rows L2 Ev Lib LibT LibV LibW LibX EvS
end LibY
namespace LibY
open PySem PySem.Spec PyProof.Rows L2 Ev Lib LibT LibV LibW LibX EvS
def mv (a : Int) (s : Int × Int) : Int × Int := (s.1 - a, s.2 + a)
def widB (S : SetV) (t : Int) (pl : List (Int × Int)) (c : Int × Int) : List (Int × Int) := pl.map (mv (rchS S t)) ++ [mv (slpS S t) c]
def rtV (S : SetV) (n : Nat) (Q : QV) (m : Int) : Bx := widB S (absI (m - Q.mo)) (Q.ro.take n) (sd Q.ro n)
structure KnV where
  mo : Int
  cover : List Bx
  tree : List Sp
def knF (K : KnV) : List (Str × D) := [("moment", .int K.mo), ("cover", .tup (K.cover.map boxD)), ("tree", .tup (K.tree.map stpD))]
def knD (K : KnV) : D := .ins 5 (knF K)
@[simp] theorem asI_kn (K : KnV) (h : HP) : asI h (knD K) = some (5, knF K) := rfl
def NmO (U u : List Str) : Prop := u.Nodup ∧ ∀ x ∈ u, x ∈ U
structure Ct where
  S : SetV
  n : Nat
  Q : QV
  rs : List (Int × RdV)
  U : List Str
def MoO (mo : Int) : Prop := -200 ≤ mo ∧ mo ≤ 200
structure Ct.ok (C : Ct) : Prop where
  k : C.S.ok
  hn : C.n ≤ 3
  rs : ∀ mo : Int, MoO mo → ∀ r ∈ C.rs, RdOk C.n r.2 ∧ KdR C.n r.2.kd ∧ KdV C.n r.2.kd ∧ absI (mo - r.2.mo) ≤ 1000000000000000 ∧ PyData.strOk r.2.src = true
  rl : C.rs.length ≤ 10
  nd : (C.rs.map (·.1)).Nodup
  ql : C.Q.ro.length = C.n + 1
  bo : ∀ mo : Int, MoO mo → absI (mo - C.Q.mo) ≤ 1000 ∧ BO C.n (rtV C.S C.n C.Q mo)
  ul : C.U.length ≤ 300
  us : ∀ u ∈ C.U, PyData.strOk u = true
  src : ∀ r ∈ C.rs, r.2.src ∈ C.U
structure KnO (n : Nat) (K : KnV) : Prop where
  mo : MoO K.mo
  cl : K.cover.length ≤ 1000
  cb : ∀ c ∈ K.cover, BO n c
  tr : ∀ s ∈ K.tree, SpO s
  tl : K.tree.length ≤ 290
structure HdO1 (n : Nat) (U : List Str) (t : HdV) : Prop where
  mo : MoO t.mo
  cl : t.cover.length ≤ 1000
  cb : ∀ c ∈ t.cover, BO n c
  nm : NmO U t.used
def HdO (C : Ct) (hd : List HdV) : Prop := ∀ t ∈ hd, HdO1 C.n C.U t
end LibY
namespace LibY
open PySem PySem.Spec PyProof.Rows L2 Ev Lib LibT LibV LibW LibX EvS
noncomputable def caV (W : Wd) (R : RdV) : Int := carK W.S W.n R.kd R.ne (R.la + absI (W.mo - R.mo))
noncomputable def boS (W : Wd) (R : RdV) : D := .tup [.int (R.lo - caV W R), .int (R.hi + caV W R)]
noncomputable def rowS (W : Wd) (r : Int × RdV) : D := .tup [.int r.1, rdD W.n r.2, boS W r.2]
noncomputable def sgF (W : Wd) : List (Str × D) := [("moment", .int W.mo), ("rows", .lst (W.rs.map (rowS W)))]
noncomputable def sgD (W : Wd) : D := .ins 24 (sgF W)
@[simp] theorem asI_sg (W : Wd) (h : HP) : asI h (sgD W) = some (24, sgF W) := rfl
end LibY
namespace LibY
open PySem PySem.Spec PyProof.Rows L2 Ev Lib LibT LibV LibW LibX EvS
end LibY
namespace LibY
open PySem PySem.Spec PyProof.Rows L2 Ev Lib LibT LibV LibW LibX EvS
section
end
end LibY
namespace LibY
open PySem PySem.Spec PyProof.Rows L2 Ev Lib LibT LibV LibW LibX EvS
end LibY
namespace LibY
open PySem PySem.Spec PyProof.Rows L2 Ev Lib LibT LibV LibW LibX EvS
end LibY
namespace LibY
open PySem PySem.Spec PyProof.Rows L2 Ev Lib LibT LibV LibW LibX EvS
def Keep (h h' : HP) (xs : List Nat) : Prop := h.length ≤ h'.length ∧ ∀ i, i ∉ xs → ∀ o, h[i]? = some o → h'[i]? = some o
theorem Keep.refl (h : HP) (xs : List Nat) : Keep h h xs := ⟨Nat.le_refl _, fun _ _ _ e => e⟩
theorem Keep.trans {h1 h2 h3 : HP} {xs : List Nat} (a : Keep h1 h2 xs) (b : Keep h2 h3 xs) : Keep h1 h3 xs := ⟨Nat.le_trans a.1 b.1, fun i hi o e => b.2 i hi o (a.2 i hi o e)⟩
theorem Keep.mono {h h' : HP} {xs ys : List Nat} (a : Keep h h' xs) (s : ∀ x ∈ xs, x ∈ ys) : Keep h h' ys := ⟨a.1, fun i hi o e => a.2 i (fun z => hi (s i z)) o e⟩
theorem Keep.app (h x : HP) (xs : List Nat) : Keep h (h ++ x) xs := ⟨by simp, fun i _ o e => by rw [List.getElem?_append_left (List.getElem?_eq_some_iff.mp e).1, e]⟩
theorem Keep.set (h : HP) (n : Nat) (o : O) : Keep h (h.set n o) [n] := ⟨by simp, fun i hi o' e => by rw [List.getElem?_set_ne (fun z => hi (by simp [z])), e]⟩
end LibY
namespace LibY
open PySem PySem.Spec PyProof.Rows L2 Ev Lib LibT LibV LibW LibX EvS
/-- what holds of the known things and of what is held -/
structure KhO (C : Ct) (Ks : List KnV) (hd : List HdV) : Prop where
  k : ∀ K ∈ Ks, KnO C.n K
  h : HdO C hd
  l : Ks.length = hd.length
theorem KhO.snoc {C : Ct} {Ks : List KnV} {hd : List HdV} (o : KhO C Ks hd) {K : KnV} {H : HdV} (h1 : KnO C.n K) (h2 : HdO1 C.n C.U H) : KhO C (Ks ++ [K]) (hd ++ [H]) := by
  refine ⟨fun x hx => ?_, fun x hx => ?_, by simp [o.l]⟩
  · rcases List.mem_append.mp hx with hx | hx
    · exact o.k x hx
    · rw [List.mem_singleton.mp hx]; exact h1
  · rcases List.mem_append.mp hx with hx | hx
    · exact o.h x hx
    · rw [List.mem_singleton.mp hx]; exact h2
end LibY
namespace LibY
open PySem PySem.Spec PyProof.Rows L2 Ev Lib LibT LibV LibW LibX EvS
end LibY
namespace LibY
open PySem PySem.Spec PyProof.Rows L2 Ev Lib LibT LibV LibW LibX EvS
end LibY
namespace LibY
open PySem PySem.Spec PyProof.Rows L2 Ev Lib LibT LibV LibW LibX EvS
end LibY
namespace LibY
open PySem PySem.Spec PyProof.Rows L2 Ev Lib LibT LibV LibW LibX EvS
section
end
end LibY
namespace LibY
open PySem PySem.Spec PyProof.Rows L2 Ev Lib LibT LibV LibW LibX EvS
end LibY
namespace LibY
open PySem PySem.Spec PyProof.Rows L2 Ev Lib LibT LibV LibW LibX EvS
def vecP (n : Nat) (p : Nat → Int) : PyData := .tuple ((List.range n).map fun i => .int (p i))
def kdP (n : Nat) : Kd → PyData
  | .range p => .tuple [.str "range", vecP n p]
  | .clocked p => .tuple [.str "clocked", vecP n p]
  | .differ p q => .tuple [.str "differ", vecP n p, vecP n q]
  | .piece p q => .tuple [.str "piece", vecP n p, vecP n q]
  | .side p => .tuple [.str "side", vecP n p]
  | .boxes bs => .tuple [.str "boxes", .tuple (bs.map boxPy)]
theorem toP_vec (n : Nat) (p : Nat → Int) : toP (vec n p) = some (vecP n p) := by
  unfold vec vecP
  simp only [toP]
  rw [toPs_map (fun i => D.int (p i)) (fun i => PyData.int (p i)) _ fun x _ => rfl]
  rfl
theorem toP_kd (n : Nat) (K : Kd) : toP (kdD n K) = some (kdP n K) := by
  cases K with
  | boxes bs =>
    have := toPs_map boxD boxPy bs fun x _ => toP_box x
    simp [kdD, kdP, toP, toPs, boxesD, this]
  | _ => simp [kdD, kdP, toP, toPs, toP_vec]
theorem Shp.vecP (n : Nat) (p : Nat → Int) : Shp 1 (vecP n p) := Shp.tup fun q hq => by
  obtain ⟨x, _, rfl⟩ := List.mem_map.mp hq
  exact Shp.int _ _
theorem shp_str (n : Nat) {z : Str} (h : PyData.strOk z = true) : Shp n (.str z) := ⟨by simp [PyData.canLay0, h], by simp [PyData.depth]⟩
theorem sh_kd (n : Nat) (K : Kd) : Shp 4 (kdP n K) := by
  have m : ∀ p, Shp 3 (vecP n p) := fun p => ⟨(Shp.vecP n p).1, by have := (Shp.vecP n p).2; omega⟩
  cases K with
  | range p =>
    refine Shp.tup fun q hq => ?_
    simp only [List.mem_cons, List.not_mem_nil, or_false] at hq
    rcases hq with rfl | rfl
    · exact shp_str _ (by decide +kernel)
    · exact m _
  | clocked p =>
    refine Shp.tup fun q hq => ?_
    simp only [List.mem_cons, List.not_mem_nil, or_false] at hq
    rcases hq with rfl | rfl
    · exact shp_str _ (by decide +kernel)
    · exact m _
  | differ p p' =>
    refine Shp.tup fun q hq => ?_
    simp only [List.mem_cons, List.not_mem_nil, or_false] at hq
    rcases hq with rfl | rfl | rfl
    · exact shp_str _ (by decide +kernel)
    · exact m _
    · exact m _
  | piece p p' =>
    refine Shp.tup fun q hq => ?_
    simp only [List.mem_cons, List.not_mem_nil, or_false] at hq
    rcases hq with rfl | rfl | rfl
    · exact shp_str _ (by decide +kernel)
    · exact m _
    · exact m _
  | side p =>
    refine Shp.tup fun q hq => ?_
    simp only [List.mem_cons, List.not_mem_nil, or_false] at hq
    rcases hq with rfl | rfl
    · exact shp_str _ (by decide +kernel)
    · exact m _
  | boxes bs =>
    refine Shp.tup fun q hq => ?_
    simp only [List.mem_cons, List.not_mem_nil, or_false] at hq
    rcases hq with rfl | rfl
    · exact shp_str _ (by decide +kernel)
    · exact Shp.tup fun q hq => by
        obtain ⟨x, _, rfl⟩ := List.mem_map.mp hq
        exact Shp.box x
theorem toPhI (h : HP) (i : Int) : toPh h (.int i) = some (.int i) := rfl
theorem toPhS (h : HP) (i : Str) : toPh h (.str i) = some (.str i) := rfl
theorem toPh_kd (n : Nat) (K : Kd) (h : HP) : toPh h (kdD n K) = some (kdP n K) := by
  have : toPh h (kdD n K) = toP (kdD n K) := by cases K <;> rfl
  rw [this]; exact toP_kd n K
theorem same_ok {F : Nat → FA} {b : Bool} {x y : D} {ds : List D} {h : HP} (h1 : lsD h x = some ds) (h2 : lsD h y = some ds) (o : ∀ d ∈ ds, owD F h 6 d) : sameL F b x y h = .ok (.bl b) h := by
  unfold sameL
  rw [h1, h2]
  unfold sameLs
  exact if_pos ⟨rfl, o⟩
end LibY
namespace Pg
open PySem PySem.Spec PyProof.Rows L2 Ev
def topS (i : Nat) : Stmt := PySem.Challenge.pw_sureplace_k62_a_ledger_tells_every_kept.main.body.getD i (.Pass ⟨0, 0, 0, 0⟩)
theorem bt_all : bootBuiltins "all" = some (.builtin "all") := by decide +kernel
theorem bt_any : bootBuiltins "any" = some (.builtin "any") := by decide +kernel
theorem bt_int : bootBuiltins "int" = some (.type "int") := by decide +kernel
theorem bt_len : bootBuiltins "len" = some (.builtin "len") := by decide +kernel
theorem bt_list : bootBuiltins "list" = some (.type "list") := by decide +kernel
theorem bt_max : bootBuiltins "max" = some (.builtin "max") := by decide +kernel
theorem bt_min : bootBuiltins "min" = some (.builtin "min") := by decide +kernel
theorem bt_str : bootBuiltins "str" = some (.type "str") := by decide +kernel
abbrev s__law_rows : Stmt := topS 27
theorem sc__law_rows : FnScope ["script", "count", "rows", "k", "cell"] ["script", "count"] (defScope s__law_rows) := ⟨rfl, rfl, rfl, by decide +kernel, rfl, by decide +kernel, by decide +kernel⟩
noncomputable abbrev F__law_rows : FA := Lib.F__law_rows
abbrev s_Ledger__init__ : Stmt := inClass (topS 9) 0
theorem sc_Ledger__init__ : FnScope ["self"] ["self"] (defScope s_Ledger__init__) := ⟨rfl, rfl, rfl, by decide +kernel, rfl, by decide +kernel, by decide +kernel⟩
noncomputable def F_Ledger__init__ : FA := fnR 1 (sSeq (sPut "now" (mCst (.int 0)) (mVar 0))
  (sSeq (sPut "floor" (mCst (.int 0)) (mVar 0))
  (sSeq (sPut "_pinned" (mLst true aNil) (mVar 0))
  (sSeq (sPut "_versions" mDisp0 (mVar 0))
  (sPut "_there" mDisp0 (mVar 0))))))
abbrev s_is_name : Stmt := topS 13
theorem sc_is_name : FnScope ["text", "sign"] ["text"] (defScope s_is_name) := ⟨rfl, rfl, rfl, by decide +kernel, rfl, by decide +kernel, by decide +kernel⟩
noncomputable abbrev F_is_name : FA := Lib.F_is_name
abbrev s_all_within : Stmt := topS 16
theorem sc_all_within : FnScope ["numbers", "low", "high", "number"] ["numbers", "low", "high"] (defScope s_all_within) := ⟨rfl, rfl, rfl, by decide +kernel, rfl, by decide +kernel, by decide +kernel⟩
noncomputable abbrev F_all_within : FA := Lib.F_all_within
abbrev s__direction_holds : Stmt := topS 22
theorem sc__direction_holds : FnScope ["direction", "number"] ["direction"] (defScope s__direction_holds) := ⟨rfl, rfl, rfl, by decide +kernel, rfl, by decide +kernel, by decide +kernel⟩
noncomputable abbrev F__direction_holds : FA := Lib.F__direction_holds
abbrev s_sides_within : Stmt := topS 17
theorem sc_sides_within : FnScope ["sides", "limit", "low", "high"] ["sides", "limit"] (defScope s_sides_within) := ⟨rfl, rfl, rfl, by decide +kernel, rfl, by decide +kernel, by decide +kernel⟩
noncomputable abbrev F_sides_within : FA := Lib.F_sides_within
abbrev s__boxes_hold : Stmt := topS 23
theorem sc__boxes_hold : FnScope ["boxes", "box"] ["boxes"] (defScope s__boxes_hold) := ⟨rfl, rfl, rfl, by decide +kernel, rfl, by decide +kernel, by decide +kernel⟩
noncomputable abbrev F__boxes_hold : FA := Lib.F__boxes_hold
abbrev s__kind_holds : Stmt := topS 24
theorem sc__kind_holds : FnScope ["kind", "point"] ["kind"] (defScope s__kind_holds) := ⟨rfl, rfl, rfl, by decide +kernel, rfl, by decide +kernel, by decide +kernel⟩
noncomputable abbrev F__kind_holds : FA := Lib.F__kind_holds
abbrev s_Reading__init__ : Stmt := inClass (topS 25) 0
theorem sc_Reading__init__ : FnScope ["self", "source", "moment", "kind", "low", "high", "late", "near"] ["self", "source", "moment", "kind", "low", "high", "late", "near"] (defScope s_Reading__init__) := ⟨rfl, rfl, rfl, by decide +kernel, rfl, by decide +kernel, by decide +kernel⟩
noncomputable abbrev F_Reading__init__ : FA := Lib.F_Reading__init__
abbrev s__law_value_of : Stmt := topS 28
theorem sc__law_value_of : FnScope ["row", "kinds", "low"] ["row"] (defScope s__law_value_of) := ⟨rfl, rfl, rfl, by decide +kernel, rfl, by decide +kernel, by decide +kernel⟩
noncomputable def F__law_value_of : FA := fnP 3 (sSeq (sAsg (mLst false (aCons (mTup (aCons (mCst (.str "range")) (aCons (mTup (aCons (mCst (.int 1)) (aCons (mCst (.int 2)) aNil))) aNil))) (aCons (mTup (aCons (mCst (.str "side")) (aCons (mTup (aCons (mCst (.int 0)) (aCons (mCst (.int 3)) aNil))) aNil))) (aCons (mTup (aCons (mCst (.str "clocked")) (aCons (mTup (aCons (mNeg (mCst (.int 4))) (aCons (mCst (.int 5)) aNil))) aNil))) (aCons (mTup (aCons (mCst (.str "differ")) (aCons (mTup (aCons (mCst (.int 0)) (aCons (mCst (.int 0)) aNil))) (aCons (mTup (aCons (mCst (.int 3)) (aCons (mCst (.int 3)) aNil))) aNil)))) aNil))))) (gNm 1))
  (sSeq (sAsg (mBin fSub (mBin fMod (mCall bInt (aCons (mVar 0) aNil)) (mCst (.int 9))) (mCst (.int 4))) (gNm 2))
  (sRet (mMkN 1 3 4 gApp F_Reading__init__ (aCons (mBin fAdd (mCst (.str "s")) (mCall bStr (aCons (mBin fMod (mCall bInt (aCons (mBin fDiv (mVar 0) (mCst (.int 9))) aNil)) (mCst (.int 5))) aNil))) (aCons (mBin fMod (mCall bInt (aCons (mBin fDiv (mVar 0) (mCst (.int 45))) aNil)) (mCst (.int 7))) (aCons (mBin fIx (mVar 1) (mBin fMod (mCall bInt (aCons (mBin fDiv (mVar 0) (mCst (.int 315))) aNil)) (mCst (.int 4)))) aNil))) (aCons (mVar 2) (aCons (mBin fAdd (mVar 2) (mBin fMod (mCall bInt (aCons (mBin fDiv (mVar 0) (mCst (.int 1260))) aNil)) (mCst (.int 3)))) (aCons (mBin fMod (mCall bInt (aCons (mBin fDiv (mVar 0) (mCst (.int 3780))) aNil)) (mCst (.int 2))) (aCons (mBin fMod (mCall bInt (aCons (mBin fDiv (mVar 0) (mCst (.int 7560))) aNil)) (mCst (.int 2))) aNil))))))))
abbrev s_Ledgerput : Stmt := inClass (topS 9) 5
theorem sc_Ledgerput : FnScope ["self", "reading"] ["self", "reading"] (defScope s_Ledgerput) := ⟨rfl, rfl, rfl, by decide +kernel, rfl, by decide +kernel, by decide +kernel⟩
noncomputable def F_Ledgerput : FA := fnR 2 (sSeq (sFldAdd "now" (mVar 0) (mCst (.int 1)))
  (sSeq (sDPut (mLst true (aCons (mTup (aCons (mFld "now" (mVar 0)) (aCons (mCst .non) (aCons (mVar 1) aNil)))) aNil)) (mFld "_versions" (mVar 0)) (mFld "now" (mVar 0)))
  (sSeq (sDPut (mVar 1) (mFld "_there" (mVar 0)) (mFld "now" (mVar 0)))
  (sRet (mFld "now" (mVar 0))))))
abbrev s_Ledger_end : Stmt := inClass (topS 9) 3
theorem sc_Ledger_end : FnScope ["self", "number", "versions", "born", "_", "reading"] ["self", "number"] (defScope s_Ledger_end) := ⟨rfl, rfl, rfl, by decide +kernel, rfl, by decide +kernel, by decide +kernel⟩
noncomputable def F_Ledger_end : FA := fnR 6 (sSeq (sAsg (mDGet (mFld "_versions" (mVar 0)) (mVar 1)) (gNm 2))
  (sSeq (sAsg (mBin fIx (mVar 2) (mNeg (mCst (.int 1)))) (gTp 3 (gsCons (gNm 3) (gsCons (gNm 4) (gsCons (gNm 5) gsNil)))))
  (sSetIx (mTup (aCons (mVar 3) (aCons (mFld "now" (mVar 0)) (aCons (mVar 5) aNil)))) (mVar 2) (mNeg (mCst (.int 1))))))
abbrev s_Ledgercorrect : Stmt := inClass (topS 9) 6
theorem sc_Ledgercorrect : FnScope ["self", "number", "reading"] ["self", "number", "reading"] (defScope s_Ledgercorrect) := ⟨rfl, rfl, rfl, by decide +kernel, rfl, by decide +kernel, by decide +kernel⟩
noncomputable def F_Ledgercorrect : FA := fnR 3 (sSeq (sIf (mB (mBin (fDIn true) (mVar 1) (mFld "_there" (mVar 0)))) (sRet (mCst .non)) sNil)
  (sSeq (sFldAdd "now" (mVar 0) (mCst (.int 1)))
  (sSeq (sExp (mMeth 14 1 "_end" F_Ledger_end (mVar 0) (aCons (mVar 1) aNil)))
  (sSeq (sExp (mBm tyL lAppend (mDGet (mFld "_versions" (mVar 0)) (mVar 1)) (aCons (mTup (aCons (mFld "now" (mVar 0)) (aCons (mCst .non) (aCons (mVar 2) aNil)))) aNil)))
  (sSeq (sDPut (mVar 2) (mFld "_there" (mVar 0)) (mVar 1))
  (sRet (mFld "now" (mVar 0))))))))
abbrev s_Ledgerwithdraw : Stmt := inClass (topS 9) 7
theorem sc_Ledgerwithdraw : FnScope ["self", "number"] ["self", "number"] (defScope s_Ledgerwithdraw) := ⟨rfl, rfl, rfl, by decide +kernel, rfl, by decide +kernel, by decide +kernel⟩
noncomputable def F_Ledgerwithdraw : FA := fnR 2 (sSeq (sIf (mB (mBin (fDIn true) (mVar 1) (mFld "_there" (mVar 0)))) (sRet (mCst .non)) sNil)
  (sSeq (sFldAdd "now" (mVar 0) (mCst (.int 1)))
  (sSeq (sExp (mMeth 14 1 "_end" F_Ledger_end (mVar 0) (aCons (mVar 1) aNil)))
  (sSeq (sDDelS (mFld "_there" (mVar 0)) (mVar 1))
  (sRet (mFld "now" (mVar 0)))))))
abbrev s__law_turn_of : Stmt := topS 30
theorem sc__law_turn_of : FnScope ["ledger", "states", "row", "there", "numbers", "number", "reading", "kind", "known", "told", "fresh", "pair"] ["ledger", "states", "row"] (defScope s__law_turn_of) := ⟨rfl, rfl, rfl, by decide +kernel, rfl, by decide +kernel, by decide +kernel⟩
noncomputable abbrev C__law_turn_of_1 (live : Bool) : M D := mLc live (iAny (mVar 3)) [11] (gNm 11) cYes (mBin fIx (mVar 11) (mCst (.int 0)))
noncomputable abbrev C__law_turn_of_2 (live : Bool) : M D := mLc live (iAny (mVar 3)) [11] (gNm 11) (mB (mBin fEq (mBin fIx (mVar 11) (mCst (.int 0))) (mVar 5))) (mVar 11)
noncomputable abbrev C__law_turn_of_3 (live : Bool) : M D := mLc live (iAny (mVar 3)) [11] (gNm 11) cYes (mIf (mB (mBin fNe (mBin fIx (mVar 11) (mCst (.int 0))) (mVar 5))) (mVar 11) (mTup (aCons (mVar 5) (aCons (mVar 6) aNil))))
noncomputable abbrev C__law_turn_of_4 (live : Bool) : M D := mLc live (iAny (mVar 3)) [11] (gNm 11) (mB (mBin fNe (mBin fIx (mVar 11) (mCst (.int 0))) (mVar 5))) (mVar 11)
noncomputable def F__law_turn_of : FA := fnR 12 (sSeq (sAsg (mBin fIx (mVar 1) (mBin fSub (mCall bLen (aCons (mVar 1) aNil)) (mCst (.int 1)))) (gNm 3))
  (sSeq (sAsg (mBin fAdd (C__law_turn_of_1 false) (mLst false (aCons (mCst (.int 0)) (aCons (mCall bLen (aCons (mVar 1) aNil)) (aCons (mCst (.int 1)) aNil))))) (gNm 4))
  (sSeq (sAsg (mBin fIx (mVar 4) (mBin fMod (mCall bInt (aCons (mBin fDiv (mVar 2) (mCst (.int 5))) aNil)) (mCall bLen (aCons (mVar 4) aNil)))) (gNm 5))
  (sSeq (sAsg (mFn 1 F__law_value_of (aCons (mBin fDiv (mVar 2) (mCst (.int 77))) aNil)) (gNm 6))
  (sSeq (sAsg (mBin fMod (mCall bInt (aCons (mVar 2) aNil)) (mCst (.int 5))) (gNm 7))
  (sSeq (sIf (mB (mBin fLt (mVar 7) (mCst (.int 2)))) (sSeq (sExp (mBm tyL lAppend (mVar 1) (aCons (mBin fAdd (mVar 3) (mLst false (aCons (mTup (aCons (mCall bLen (aCons (mVar 1) aNil)) (aCons (mVar 6) aNil))) aNil))) aNil)))
  (sRet (mBin fEq (mMeth 14 1 "put" F_Ledgerput (mVar 0) (aCons (mVar 6) aNil)) (mBin fSub (mCall bLen (aCons (mVar 1) aNil)) (mCst (.int 1)))))) sNil)
  (sSeq (sAsg (C__law_turn_of_2 false) (gNm 8))
  (sSeq (sIf (mB (mBin fLt (mVar 7) (mCst (.int 4)))) (sSeq (sAsg (mMeth 14 2 "correct" F_Ledgercorrect (mVar 0) (aCons (mVar 5) (aCons (mVar 6) aNil))) (gNm 9))
  (sAsg (C__law_turn_of_3 false) (gNm 10))) (sSeq (sAsg (mMeth 14 1 "withdraw" F_Ledgerwithdraw (mVar 0) (aCons (mVar 5) aNil)) (gNm 9))
  (sAsg (C__law_turn_of_4 false) (gNm 10))))
  (sSeq (sIf (mB (mBin fEq (mCall bLen (aCons (mVar 8) aNil)) (mCst (.int 0)))) (sRet (mBin fIsN (mVar 9) (mCst .non))) sNil)
  (sSeq (sExp (mBm tyL lAppend (mVar 1) (aCons (mVar 10) aNil)))
  (sRet (mBin fEq (mVar 9) (mBin fSub (mCall bLen (aCons (mVar 1) aNil)) (mCst (.int 1)))))))))))))))
abbrev s_Ledgerpin : Stmt := inClass (topS 9) 8
theorem sc_Ledgerpin : FnScope ["self"] ["self"] (defScope s_Ledgerpin) := ⟨rfl, rfl, rfl, by decide +kernel, rfl, by decide +kernel, by decide +kernel⟩
noncomputable def F_Ledgerpin : FA := fnR 1 (sSeq (sExp (mBm tyL lAppend (mFld "_pinned" (mVar 0)) (aCons (mFld "now" (mVar 0)) aNil)))
  (sRet (mFld "now" (mVar 0))))
abbrev s_was_kept : Stmt := topS 8
theorem sc_was_kept : FnScope ["floor", "pins", "version", "born", "died", "_", "moment"] ["floor", "pins", "version"] (defScope s_was_kept) := ⟨rfl, rfl, rfl, by decide +kernel, rfl, by decide +kernel, by decide +kernel⟩
noncomputable abbrev C_was_kept_1 (live : Bool) : M D := mLc live (iAny (mVar 1)) [6] (gNm 6) cYes (mCh2 fLe fLt (mVar 3) (mVar 6) (mVar 4))
noncomputable def F_was_kept : FA := fnP 7 (sSeq (sAsg (mVar 2) (gTp 3 (gsCons (gNm 3) (gsCons (gNm 4) (gsCons (gNm 5) gsNil)))))
  (sRet (mOr (mBin fIsN (mVar 4) (mCst .non)) (mOr (mBin fGt (mVar 4) (mVar 0)) (mCall bAny (aCons (C_was_kept_1 false) aNil))))))
abbrev s_Ledger_drop : Stmt := inClass (topS 9) 4
theorem sc_Ledger_drop : FnScope ["self", "number", "versions", "version"] ["self"] (defScope s_Ledger_drop) := ⟨rfl, rfl, rfl, by decide +kernel, rfl, by decide +kernel, by decide +kernel⟩
noncomputable abbrev C_Ledger_drop_1 (live : Bool) : M D := mLc live (iAny (mDGet (mFld "_versions" (mVar 0)) (mVar 1))) [3] (gNm 3) (mTru (mFn 3 F_was_kept (aCons (mFld "floor" (mVar 0)) (aCons (mFld "_pinned" (mVar 0)) (aCons (mVar 3) aNil))))) (mVar 3)
noncomputable abbrev B_Ledger_drop_1 : SM := (sSeq (sAsg (C_Ledger_drop_1 true) (gNm 2))
  (sIf (mTru (mVar 2)) (sDPut (mVar 2) (mFld "_versions" (mVar 0)) (mVar 1)) (sDDelS (mFld "_versions" (mVar 0)) (mVar 1))))
noncomputable def F_Ledger_drop : FA := fnR 4 (sFor (iAny (mCall bListD (aCons (mFld "_versions" (mVar 0)) aNil))) (gNm 1) B_Ledger_drop_1)
abbrev s_Ledgerunpin : Stmt := inClass (topS 9) 9
theorem sc_Ledgerunpin : FnScope ["self", "moment"] ["self", "moment"] (defScope s_Ledgerunpin) := ⟨rfl, rfl, rfl, by decide +kernel, rfl, by decide +kernel, by decide +kernel⟩
noncomputable def F_Ledgerunpin : FA := fnR 2 (sSeq (sIf (mB (mBin (fIn true) (mVar 1) (mFld "_pinned" (mVar 0)))) sStuck sNil)
  (sSeq (sExp (mRem (mFld "_pinned" (mVar 0)) (mVar 1)))
  (sExp (mMeth0 14 "_drop" F_Ledger_drop (mVar 0)))))
abbrev s_Ledgerraise_floor : Stmt := inClass (topS 9) 10
theorem sc_Ledgerraise_floor : FnScope ["self", "moment"] ["self", "moment"] (defScope s_Ledgerraise_floor) := ⟨rfl, rfl, rfl, by decide +kernel, rfl, by decide +kernel, by decide +kernel⟩
noncomputable def F_Ledgerraise_floor : FA := fnR 2 (sSeq (sPut "floor" (mCall bMax (aCons (mFld "floor" (mVar 0)) (aCons (mCall bMin (aCons (mVar 1) (aCons (mFld "now" (mVar 0)) aNil))) aNil))) (mVar 0))
  (sSeq (sExp (mMeth0 14 "_drop" F_Ledger_drop (mVar 0)))
  (sRet (mFld "floor" (mVar 0)))))
abbrev s_Ledgerpins : Stmt := inClass (topS 9) 1
theorem sc_Ledgerpins : FnScope ["self"] ["self"] (defScope s_Ledgerpins) := ⟨rfl, rfl, rfl, by decide +kernel, rfl, by decide +kernel, by decide +kernel⟩
noncomputable def F_Ledgerpins : FA := fnP 1 (sRet (mCall (bList false) (aCons (mFld "_pinned" (mVar 0)) aNil)))
abbrev s_Ledgerkeeps : Stmt := inClass (topS 9) 11
theorem sc_Ledgerkeeps : FnScope ["self", "moment"] ["self", "moment"] (defScope s_Ledgerkeeps) := ⟨rfl, rfl, rfl, by decide +kernel, rfl, by decide +kernel, by decide +kernel⟩
noncomputable def F_Ledgerkeeps : FA := fnP 2 (sRet (mOr (mCh2 fLe fLe (mFld "floor" (mVar 0)) (mVar 1) (mFld "now" (mVar 0))) (mBin (fIn false) (mVar 1) (mFld "_pinned" (mVar 0)))))
abbrev s__there_at : Stmt := topS 7
theorem sc__there_at : FnScope ["versions", "moment", "born", "died", "reading"] ["versions", "moment"] (defScope s__there_at) := ⟨rfl, rfl, rfl, by decide +kernel, rfl, by decide +kernel, by decide +kernel⟩
noncomputable abbrev B__there_at_1 : SM := (sIf (tmAnd (mB (mBin fLe (mVar 2) (mVar 1))) (tmOr (mB (mBin fIsN (mVar 3) (mCst .non))) (mB (mBin fLt (mVar 1) (mVar 3))))) (sRet (mVar 4)) sNil)
noncomputable def F__there_at : FA := fnP 5 (sSeq (sFor (iAny (mVar 0)) (gTp 3 (gsCons (gNm 2) (gsCons (gNm 3) (gsCons (gNm 4) gsNil)))) B__there_at_1)
  (sRet (mCst .non)))
abbrev s_Ledgerreadings : Stmt := inClass (topS 9) 12
theorem sc_Ledgerreadings : FnScope ["self", "moment", "found", "number", "versions", "reading"] ["self", "moment"] (defScope s_Ledgerreadings) := ⟨rfl, rfl, rfl, by decide +kernel, rfl, by decide +kernel, by decide +kernel⟩
noncomputable abbrev C_Ledgerreadings_1 : M D := mLcW false 0 "_versions" [3, 4] (gTp 2 (gsCons (gNm 3) (gsCons (gNm 4) gsNil))) cYes (mTup (aCons (mVar 3) (aCons (mFn 2 F__there_at (aCons (mVar 4) (aCons (mVar 1) aNil))) aNil)))
noncomputable abbrev C_Ledgerreadings_2 (live : Bool) : M D := mLc live (iAny (mVar 2)) [3, 5] (gTp 2 (gsCons (gNm 3) (gsCons (gNm 5) gsNil))) (mB (mBin fNotN (mVar 5) (mCst .non))) (mTup (aCons (mVar 3) (aCons (mVar 5) aNil)))
noncomputable def F_Ledgerreadings : FA := fnR 6 (sSeq (sIf (tmNot (mTru (mMeth 14 1 "keeps" F_Ledgerkeeps (mVar 0) (aCons (mVar 1) aNil)))) sStuck sNil)
  (sSeq (sIf (mB (mBin fEq (mVar 1) (mFld "now" (mVar 0)))) (sRet (mListI true (mFld "_there" (mVar 0)))) sNil)
  (sSeq (sAsg C_Ledgerreadings_1 (gNm 2))
  (sRet (C_Ledgerreadings_2 true)))))
abbrev s_Reading__eq__ : Stmt := inClass (topS 25) 1
theorem sc_Reading__eq__ : FnScope ["self", "other"] ["self", "other"] (defScope s_Reading__eq__) := ⟨rfl, rfl, rfl, by decide +kernel, rfl, by decide +kernel, by decide +kernel⟩
noncomputable def F_Reading__eq__ : FA := fnP 2 (sRet (mAnd (mIsC 1 (mVar 1)) (mAnd (mBin fEq (mFld "source" (mVar 0)) (mFld "source" (mVar 1))) (mAnd (mBin fEq (mFld "moment" (mVar 0)) (mFld "moment" (mVar 1))) (mAnd (mBin fEq (mFld "kind" (mVar 0)) (mFld "kind" (mVar 1))) (mAnd (mBin fEq (mFld "low" (mVar 0)) (mFld "low" (mVar 1))) (mAnd (mBin fEq (mFld "high" (mVar 0)) (mFld "high" (mVar 1))) (mAnd (mBin fEq (mFld "late" (mVar 0)) (mFld "late" (mVar 1))) (mBin fEq (mFld "near" (mVar 0)) (mFld "near" (mVar 1)))))))))))
abbrev s__law_there : Stmt := topS 29
theorem sc__law_there : FnScope ["states", "moment", "pair"] ["states", "moment"] (defScope s__law_there) := ⟨rfl, rfl, rfl, by decide +kernel, rfl, by decide +kernel, by decide +kernel⟩
noncomputable abbrev C__law_there_1 (live : Bool) : M D := mLc live (iAny (mBin fIx (mVar 0) (mVar 1))) [2] (gNm 2) cYes (mVar 2)
noncomputable def F__law_there : FA := fnP 3 (sRet (C__law_there_1 false))
abbrev s__law_right : Stmt := topS 31
theorem sc__law_right : FnScope ["ledger", "states", "floor", "pins", "now", "moment", "kept", "told"] ["ledger", "states", "floor", "pins"] (defScope s__law_right) := ⟨rfl, rfl, rfl, by decide +kernel, rfl, by decide +kernel, by decide +kernel⟩
noncomputable abbrev B__law_right_1 : SM := (sSeq (sAsg (mOr (mBin (fIn false) (mVar 5) (mVar 3)) (mCh2 fLe fLe (mVar 2) (mVar 5) (mVar 4))) (gNm 6))
  (sSeq (sIf (mB (mBin fNe (mMeth 14 1 "keeps" F_Ledgerkeeps (mVar 0) (aCons (mVar 5) aNil)) (mVar 6))) (sRet (mCst (.bl false))) sNil)
  (sIf (mTru (mVar 6)) (sSeq (sAsg (mMeth 14 1 "readings" F_Ledgerreadings (mVar 0) (aCons (mVar 5) aNil)) (gNm 7))
  (sSeq (sIf (tmOr (tmNot (mTru (mIsi "list" (mVar 7)))) (mB (mBin (sameL (own1 1 F_Reading__eq__) false) (mVar 7) (mFn 2 F__law_there (aCons (mVar 1) (aCons (mVar 5) aNil)))))) (sRet (mCst (.bl false))) sNil)
  (sExp (mBm tyL lAppend (mVar 7) (aCons (mTup (aCons (mCst (.int 0)) (aCons (mCst .non) aNil))) aNil))))) sNil)))
noncomputable def F__law_right : FA := fnP 8 (sSeq (sAsg (mBin fSub (mCall bLen (aCons (mVar 1) aNil)) (mCst (.int 1))) (gNm 4))
  (sSeq (sIf (tmOr (mB (mBin fNe (mFld "now" (mVar 0)) (mVar 4))) (tmOr (mB (mBin fNe (mFld "floor" (mVar 0)) (mVar 2))) (mB (mBin fNe (mMeth0 14 "pins" F_Ledgerpins (mVar 0)) (mVar 3))))) (sRet (mCst (.bl false))) sNil)
  (sSeq (sFor (iRange1 (aCons (mBin fAdd (mVar 4) (mCst (.int 2))) aNil)) (gNm 5) B__law_right_1)
  (sRet (mCst (.bl true))))))
abbrev s_law : Stmt := topS 32
theorem sc_law : FnScope ["script", "rows", "ledger", "states", "floor", "pins", "row", "moment"] ["script"] (defScope s_law) := ⟨rfl, rfl, rfl, by decide +kernel, rfl, by decide +kernel, by decide +kernel⟩
noncomputable abbrev B_law_1 : SM := (sSeq (sIf (mB (mBin fLt (mBin fMod (mVar 6) (mCst (.int 7))) (mCst (.int 4)))) (sIf (tmNot (mTru (mFn 3 F__law_turn_of (aCons (mVar 2) (aCons (mVar 3) (aCons (mBin fDiv (mVar 6) (mCst (.int 7))) aNil)))))) (sRet (mCst (.bl false))) sNil) (sIf (mB (mBin fEq (mBin fMod (mVar 6) (mCst (.int 7))) (mCst (.int 4)))) (sSeq (sExp (mBm tyL lAppend (mVar 5) (aCons (mBin fSub (mCall bLen (aCons (mVar 3) aNil)) (mCst (.int 1))) aNil)))
  (sIf (mB (mBin fNe (mMeth0 14 "pin" F_Ledgerpin (mVar 2)) (mBin fSub (mCall bLen (aCons (mVar 3) aNil)) (mCst (.int 1))))) (sRet (mCst (.bl false))) sNil)) (sIf (tmAnd (mB (mBin fEq (mBin fMod (mVar 6) (mCst (.int 7))) (mCst (.int 5)))) (mB (mBin fGt (mCall bLen (aCons (mVar 5) aNil)) (mCst (.int 0))))) (sSeq (sAsg (mBin fIx (mVar 5) (mBin fMod (mCall bInt (aCons (mBin fDiv (mVar 6) (mCst (.int 7))) aNil)) (mCall bLen (aCons (mVar 5) aNil)))) (gNm 7))
  (sSeq (sIf (tmNot (mB (mBin fIsN (mMeth 14 1 "unpin" F_Ledgerunpin (mVar 2) (aCons (mVar 7) aNil)) (mCst .non)))) (sRet (mCst (.bl false))) sNil)
  (sExp (mRem (mVar 5) (mVar 7))))) (sSeq (sAsg (mBin fMod (mCall bInt (aCons (mBin fDiv (mVar 6) (mCst (.int 7))) aNil)) (mBin fAdd (mCall bLen (aCons (mVar 3) aNil)) (mCst (.int 2)))) (gNm 7))
  (sSeq (sAsg (mCall bMax (aCons (mVar 4) (aCons (mCall bMin (aCons (mVar 7) (aCons (mBin fSub (mCall bLen (aCons (mVar 3) aNil)) (mCst (.int 1))) aNil))) aNil))) (gNm 4))
  (sIf (mB (mBin fNe (mMeth 14 1 "raise_floor" F_Ledgerraise_floor (mVar 2) (aCons (mVar 7) aNil)) (mVar 4))) (sRet (mCst (.bl false))) sNil))))))
  (sIf (tmNot (mTru (mFn 4 F__law_right (aCons (mVar 2) (aCons (mVar 3) (aCons (mVar 4) (aCons (mVar 5) aNil))))))) (sRet (mCst (.bl false))) sNil))
noncomputable def F_law : FA := fnP 8 (sSeq (sAsg (mFn 2 F__law_rows (aCons (mVar 0) (aCons (mCst (.int 40)) aNil))) (gNm 1))
  (sSeq (sAsg (mMkL0 14 F_Ledger__init__) (gNm 2))
  (sSeq (sAsg (mLst true (aCons (mLst false aNil) aNil)) (gNm 3))
  (sSeq (sAsg (mCst (.int 0)) (gNm 4))
  (sSeq (sAsg (mLst true aNil) (gNm 5))
  (sSeq (sFor (iAny (mVar 1)) (gNm 6) B_law_1)
  (sRet (mCst (.bl true)))))))))
section
variable {P : Program} {w : World} {K : PySem.W.Frag} {mg : Str → Option Value} {base : Heap} {cA : Nat → Addr}
theorem passE {X : Cx} {E : XK} : Passes CX0 X E := fun _ _ _ _ _ _ _ h => h.elim
abbrev gg (K : PySem.W.Frag) (cA : Nat → Addr) : G := ⟨K, cA, fun _ => 0⟩
set_option maxHeartbeats 4000000 in
theorem ok__law_rows {f : Addr} {fd : FuncData} (F : Fun K "_law_rows" "_law_rows" s__law_rows f fd) (z_int : mg "int" = none) (z_len : mg "len" = none) (z_range : mg "range" = none) : FnOk P w K mg base CX0 1 f fd ["script", "count"] (spF (gg K cA) 2 F__law_rows) := by
  refine Fn0 F sc__law_rows (fun hl h => fnP_ends (N := 5) hl h) fun cdv A outer s H E hr => ?_
  have nd := sc__law_rows.nd
  exact (.cons (.set (i := 2) (.lst true .nil) nd rfl (by first | exact Or.inl rfl | exact Or.inr rfl) rfl (Or.inl rfl))
  (.cons (.for_ PassesOwn.never rfl (.range1 z_range (.cons (.vr (i := 1) rfl rfl) .nil rfl) (by rfl) (by rfl)) (.name nd rfl (by first | exact Or.inl rfl | exact Or.inr rfl) (by first | exact Or.inl rfl | exact Or.inr rfl)) (.cons (.set (i := 4) .int nd rfl (by first | exact Or.inl rfl | exact Or.inr rfl) rfl (Or.inl rfl))
  (.cons (.if_ (.cmp ok_gt (.callB (cv_len rfl) z_len (.cons (.vr (i := 0) rfl rfl) .nil rfl) (by rfl) bt_len (by decide) (by decide) rfl rfl) .int rfl) (.one (.set (i := 4) (.callT cv_int z_int (.cons (.ix rfl (.vr (i := 0) rfl rfl) (.bin ok_mod (.callT cv_int z_int (.cons (.vr (i := 3) rfl rfl) .nil rfl) (by rfl) bt_int (by decide) (by decide) rfl rfl) (.callB (cv_len rfl) z_len (.cons (.vr (i := 0) rfl rfl) .nil rfl) (by rfl) bt_len (by decide) (by decide) rfl rfl)) (fun _ _ => rfl)) .nil rfl) (by rfl) bt_int (by decide) (by decide) rfl rfl) nd rfl (by first | exact Or.inl rfl | exact Or.inr rfl) rfl (Or.inl rfl))) .nil)
  (.cons (.if_ (.cmp ok_lt (.vr (i := 4) rfl rfl) .int rfl) (.one (.set (i := 4) (.bin ok_sub .int (.bin ok_mul .int (.vr (i := 4) rfl rfl))) nd rfl (by first | exact Or.inl rfl | exact Or.inr rfl) rfl (Or.inl rfl))) .nil)
  (.cons (.if_ (WV.tv (.or_ (.cmp ok_ge (.vr (i := 3) rfl rfl) (.callB (cv_len rfl) z_len (.cons (.vr (i := 0) rfl rfl) .nil rfl) (by rfl) bt_len (by decide) (by decide) rfl rfl) rfl) (.or1 (.cmp ok_lt (.vr (i := 4) rfl rfl) .int rfl)))) (.cons (.set (i := 4) (.bin ok_mod (.callT cv_int z_int (.cons (.bin (ok_add rfl) (.bin ok_mul (.bin (ok_add rfl) (.bin (ok_add rfl) (.vr (i := 4) rfl rfl) (.bin ok_mul .int (.vr (i := 3) rfl rfl))) .int) .int) (.bin ok_mul (.bin ok_mul (.vr (i := 3) rfl rfl) (.vr (i := 3) rfl rfl)) .int)) .nil rfl) (by rfl) bt_int (by decide) (by decide) rfl rfl) .int) nd rfl (by first | exact Or.inl rfl | exact Or.inr rfl) rfl (Or.inl rfl))
  (.one (.set (i := 4) (.bin ok_mod (.callT cv_int z_int (.cons (.bin ok_mul (.bin (ok_add rfl) (.bin (ok_add rfl) (.vr (i := 4) rfl rfl) (.bin ok_mul .int (.vr (i := 3) rfl rfl))) .int) .int) .nil rfl) (by rfl) bt_int (by decide) (by decide) rfl rfl) .int) nd rfl (by first | exact Or.inl rfl | exact Or.inr rfl) rfl (Or.inl rfl)))) .nil)
  (.one (.exp (.bm rfl PySem.F.plainAttrs_list PySem.F.slot_list_append PySem.F.type_list_append bm_append (.vr (i := 2) rfl rfl) (.cons (.vr (i := 4) rfl rfl) .nil rfl) rfl rfl rfl rfl rfl) rfl)))))) (fun _ => rfl))
  (.one (.ret (.vr (i := 2) rfl rfl)))))
set_option maxHeartbeats 4000000 in
theorem ok_Ledger__init__ {f : Addr} {fd : FuncData} (F : Fun K "__init__" "Ledger.__init__" s_Ledger__init__ f fd) (T : ∀ c, ClsT K (cA c) ["now", "floor", "_pinned", "_versions", "_there", "source", "moment", "kind", "low", "high", "late", "near"]) : FnOk P w K mg base CX0 1 f fd ["self"] (spF (gg K cA) 1 F_Ledger__init__) := by
  refine Fn0 F sc_Ledger__init__ (fun hl h => fnR_ends (N := 1) h) fun cdv A outer s H E hr => ?_
  have nd := sc_Ledger__init__.nd
  exact (.cons (.put rfl (.of T (by simp)) .int (.vr (i := 0) rfl rfl) rfl)
  (.cons (.put rfl (.of T (by simp)) .int (.vr (i := 0) rfl rfl) rfl)
  (.cons (.put rfl (.of T (by simp)) (.lst true .nil) (.vr (i := 0) rfl rfl) rfl)
  (.cons (.put rfl (.of T (by simp)) .disp0 (.vr (i := 0) rfl rfl) rfl)
  (.one (.put rfl (.of T (by simp)) .disp0 (.vr (i := 0) rfl rfl) rfl))))))
set_option maxHeartbeats 4000000 in
theorem ok_is_name {f : Addr} {fd : FuncData} (F : Fun K "is_name" "is_name" s_is_name f fd) (z_all : mg "all" = none) (z_len : mg "len" = none) {t_LONGEST : Tok} (g_LONGEST : mg "LONGEST" = some (.int 64 t_LONGEST)) {t_SIGNS : Tok} (g_SIGNS : mg "SIGNS" = some (.str "abcdefghijklmnopqrstuvwxyz0123456789_-" t_SIGNS)) : FnOk P w K mg base CX0 1 f fd ["text"] (spF (gg K cA) 1 F_is_name) := by
  refine Fn0 F sc_is_name (fun hl h => fnP_ends (N := 2) hl h) fun cdv A outer s H E hr => ?_
  have nd := sc_is_name.nd
  exact (.one (.ret (.and_ (.ch2 ok_le ok_le .int (.callB (cv_len rfl) z_len (.cons (.vr (i := 0) rfl rfl) .nil rfl) (by rfl) bt_len (by decide) (by decide) rfl rfl) (.glb (d := (.int 64)) (v := (.int 64)) (fun _ _ => by simp [rep]) g_LONGEST ⟨_, rfl⟩ (by rfl) (by decide)) rfl) (.one (.callB (cv_all rfl rfl) z_all (.cons (.lc false rfl nd (LCV.mk' (own := [("sign", 1)]) (is := [1]) (by kernel_rfl) (.any rfl (.vr (i := 0) rfl rfl)) (fun _ _ _ _ _ => (.name nd rfl (by first | exact Or.inl rfl | exact Or.inr rfl) (by first | exact Or.inl rfl | exact Or.inr rfl))) (fun _ _ _ _ _ => .nil) (fun _ _ _ _ _ => (.cmp (ok_in rfl) (.vr (i := 1) rfl rfl) (.glb (d := (.str "abcdefghijklmnopqrstuvwxyz0123456789_-")) (v := (.str "abcdefghijklmnopqrstuvwxyz0123456789_-")) (fun _ _ => by simp [rep]) g_SIGNS ⟨_, rfl⟩ (by rfl) (by decide)) rfl)) (by decide)) (fun _ => rfl)) .nil rfl) (by rfl) bt_all (by decide) (by decide) rfl rfl)))))
set_option maxHeartbeats 4000000 in
theorem ok_all_within {f : Addr} {fd : FuncData} (F : Fun K "all_within" "all_within" s_all_within f fd) (z_all : mg "all" = none) : FnOk P w K mg base CX0 1 f fd ["numbers", "low", "high"] (spF (gg K cA) 3 F_all_within) := by
  refine Fn0 F sc_all_within (fun hl h => fnP_ends (N := 4) hl h) fun cdv A outer s H E hr => ?_
  have nd := sc_all_within.nd
  exact (.one (.ret (.callB (cv_all rfl rfl) z_all (.cons (.lc false rfl nd (LCV.mk' (own := [("number", 3)]) (is := [3]) (by kernel_rfl) (.any rfl (.vr (i := 0) rfl rfl)) (fun _ _ _ _ _ => (.name nd rfl (by first | exact Or.inl rfl | exact Or.inr rfl) (by first | exact Or.inl rfl | exact Or.inr rfl))) (fun _ _ _ _ _ => .nil) (fun _ _ _ _ _ => (.ch2 ok_le ok_le (.vr (i := 1) rfl rfl) (.vr (i := 3) rfl rfl) (.vr (i := 2) rfl rfl) rfl)) (by decide)) (fun _ => rfl)) .nil rfl) (by rfl) bt_all (by decide) (by decide) rfl rfl)))
set_option maxHeartbeats 4000000 in
theorem ok__direction_holds {f : Addr} {fd : FuncData} (F : Fun K "_direction_holds" "_direction_holds" s__direction_holds f fd) {f_all_within : Addr} {fd_all_within : FuncData} (o_all_within : FnOk P w K mg base CX0 1 f_all_within fd_all_within ["numbers", "low", "high"] (spF (gg K cA) 3 F_all_within)) (b_all_within : Binds K fd_all_within ["numbers", "low", "high"] []) (m_all_within : mg "all_within" = some (.ref f_all_within)) (k_all_within : PySem.W.keepIn K (.ref f_all_within) = true) (z_any : mg "any" = none) {t_STEEPEST : Tok} (g_STEEPEST : mg "STEEPEST" = some (.int 1000 t_STEEPEST)) : FnOk P w K mg base CX0 2 f fd ["direction"] (spF (gg K cA) 1 F__direction_holds) := by
  refine Fn0 F sc__direction_holds (fun hl h => fnP_ends (N := 2) hl h) fun cdv A outer s H E hr => ?_
  have nd := sc__direction_holds.nd
  exact (.one (.ret (.and_ (.call o_all_within (hr.mono (by decide)) m_all_within k_all_within b_all_within passE (.cons (.vr (i := 0) rfl rfl) (.cons (.neg (.glb (d := (.int 1000)) (v := (.int 1000)) (fun _ _ => by simp [rep]) g_STEEPEST ⟨_, rfl⟩ (by rfl) (by decide))) (.cons (.glb (d := (.int 1000)) (v := (.int 1000)) (fun _ _ => by simp [rep]) g_STEEPEST ⟨_, rfl⟩ (by rfl) (by decide)) .nil rfl) rfl) rfl) (by rfl) (by decide) rfl rfl) (.one (.callB (cv_any rfl rfl) z_any (.cons (.lc false rfl nd (LCV.mk' (own := [("number", 1)]) (is := [1]) (by kernel_rfl) (.any rfl (.vr (i := 0) rfl rfl)) (fun _ _ _ _ _ => (.name nd rfl (by first | exact Or.inl rfl | exact Or.inr rfl) (by first | exact Or.inl rfl | exact Or.inr rfl))) (fun _ _ _ _ _ => .nil) (fun _ _ _ _ _ => (.cmp (ok_ne rfl hr.units) (.vr (i := 1) rfl rfl) .int rfl)) (by decide)) (fun _ => rfl)) .nil rfl) (by rfl) bt_any (by decide) (by decide) rfl rfl)))))
set_option maxHeartbeats 4000000 in
theorem ok_sides_within {f : Addr} {fd : FuncData} (F : Fun K "sides_within" "sides_within" s_sides_within f fd) (z_all : mg "all" = none) : FnOk P w K mg base CX0 1 f fd ["sides", "limit"] (spF (gg K cA) 2 F_sides_within) := by
  refine Fn0 F sc_sides_within (fun hl h => fnP_ends (N := 4) hl h) fun cdv A outer s H E hr => ?_
  have nd := sc_sides_within.nd
  exact (.one (.ret (.callB (cv_all rfl rfl) z_all (.cons (.lc false rfl nd (LCV.mk' (own := [("low", 2), ("high", 3)]) (is := [2, 3]) (by kernel_rfl) (.any rfl (.vr (i := 0) rfl rfl)) (fun _ _ _ _ _ => (.tup (n := 2) rfl rfl (.cons (ks := [2, 3]) (.name nd rfl (by first | exact Or.inl rfl | exact Or.inr rfl) (by first | exact Or.inl rfl | exact Or.inr rfl)) (.cons (ks := [2, 3]) (.name nd rfl (by first | exact Or.inl rfl | exact Or.inr rfl) (by first | exact Or.inl rfl | exact Or.inr rfl)) (.nil (is := [2, 3])) (by decide) (by decide) rfl) (by decide) (by decide) rfl) rfl rfl)) (fun _ _ _ _ _ => .nil) (fun _ _ _ _ _ => (.ch3 ok_le ok_le ok_le (.neg (.vr (i := 1) rfl rfl)) (.vr (i := 2) rfl rfl) (.vr (i := 3) rfl rfl) (.vr (i := 1) rfl rfl) rfl)) (by decide)) (fun _ => rfl)) .nil rfl) (by rfl) bt_all (by decide) (by decide) rfl rfl)))
set_option maxHeartbeats 4000000 in
theorem ok__boxes_hold {f : Addr} {fd : FuncData} (F : Fun K "_boxes_hold" "_boxes_hold" s__boxes_hold f fd) {f_sides_within : Addr} {fd_sides_within : FuncData} (o_sides_within : FnOk P w K mg base CX0 1 f_sides_within fd_sides_within ["sides", "limit"] (spF (gg K cA) 2 F_sides_within)) (b_sides_within : Binds K fd_sides_within ["sides", "limit"] []) (m_sides_within : mg "sides_within" = some (.ref f_sides_within)) (k_sides_within : PySem.W.keepIn K (.ref f_sides_within) = true) (z_all : mg "all" = none) (z_len : mg "len" = none) {t_LIMIT : Tok} (g_LIMIT : mg "LIMIT" = some (.int 1000000000000 t_LIMIT)) {t_MOST_BOXES : Tok} (g_MOST_BOXES : mg "MOST_BOXES" = some (.int 16 t_MOST_BOXES)) : FnOk P w K mg base CX0 2 f fd ["boxes"] (spF (gg K cA) 1 F__boxes_hold) := by
  refine Fn0 F sc__boxes_hold (fun hl h => fnP_ends (N := 2) hl h) fun cdv A outer s H E hr => ?_
  have nd := sc__boxes_hold.nd
  exact (.one (.ret (.and_ (.ch2 ok_le ok_le .int (.callB (cv_len rfl) z_len (.cons (.vr (i := 0) rfl rfl) .nil rfl) (by rfl) bt_len (by decide) (by decide) rfl rfl) (.glb (d := (.int 16)) (v := (.int 16)) (fun _ _ => by simp [rep]) g_MOST_BOXES ⟨_, rfl⟩ (by rfl) (by decide)) rfl) (.one (.callB (cv_all rfl rfl) z_all (.cons (.lc false rfl nd (LCV.mk' (own := [("box", 1)]) (is := [1]) (by kernel_rfl) (.any rfl (.vr (i := 0) rfl rfl)) (fun _ _ _ _ _ => (.name nd rfl (by first | exact Or.inl rfl | exact Or.inr rfl) (by first | exact Or.inl rfl | exact Or.inr rfl))) (fun _ _ _ _ _ => .nil) (fun _ _ _ _ _ => (.call o_sides_within (hr.mono (by decide)) m_sides_within k_sides_within b_sides_within passE (.cons (.vr (i := 1) rfl rfl) (.cons (.glb (d := (.int 1000000000000)) (v := (.int 1000000000000)) (fun _ _ => by simp [rep]) g_LIMIT ⟨_, rfl⟩ (by rfl) (by decide)) .nil rfl) rfl) (by rfl) (by decide) rfl rfl)) (by decide)) (fun _ => rfl)) .nil rfl) (by rfl) bt_all (by decide) (by decide) rfl rfl)))))
set_option maxHeartbeats 4000000 in
theorem ok__kind_holds {f : Addr} {fd : FuncData} (F : Fun K "_kind_holds" "_kind_holds" s__kind_holds f fd) {f_all_within : Addr} {fd_all_within : FuncData} (o_all_within : FnOk P w K mg base CX0 1 f_all_within fd_all_within ["numbers", "low", "high"] (spF (gg K cA) 3 F_all_within)) (b_all_within : Binds K fd_all_within ["numbers", "low", "high"] []) (m_all_within : mg "all_within" = some (.ref f_all_within)) (k_all_within : PySem.W.keepIn K (.ref f_all_within) = true) {f__direction_holds : Addr} {fd__direction_holds : FuncData} (o__direction_holds : FnOk P w K mg base CX0 2 f__direction_holds fd__direction_holds ["direction"] (spF (gg K cA) 1 F__direction_holds)) (b__direction_holds : Binds K fd__direction_holds ["direction"] []) (m__direction_holds : mg "_direction_holds" = some (.ref f__direction_holds)) (k__direction_holds : PySem.W.keepIn K (.ref f__direction_holds) = true) {f__boxes_hold : Addr} {fd__boxes_hold : FuncData} (o__boxes_hold : FnOk P w K mg base CX0 2 f__boxes_hold fd__boxes_hold ["boxes"] (spF (gg K cA) 1 F__boxes_hold)) (b__boxes_hold : Binds K fd__boxes_hold ["boxes"] []) (m__boxes_hold : mg "_boxes_hold" = some (.ref f__boxes_hold)) (k__boxes_hold : PySem.W.keepIn K (.ref f__boxes_hold) = true) (z_all : mg "all" = none) {t_LIMIT : Tok} (g_LIMIT : mg "LIMIT" = some (.int 1000000000000 t_LIMIT)) : FnOk P w K mg base CX0 3 f fd ["kind"] (spF (gg K cA) 1 F__kind_holds) := by
  refine Fn0 F sc__kind_holds (fun hl h => fnP_ends (N := 2) hl h) fun cdv A outer s H E hr => ?_
  have nd := sc__kind_holds.nd
  exact (.cons (.if_ (.cmp (ok_in rfl) (.ix rfl (.vr (i := 0) rfl rfl) .int (fun _ _ => rfl)) (.tup (.cons .str (.cons .str (.cons .str (.cons .str .nil rfl) rfl) rfl) rfl)) rfl) (.one (.ret (.callB (cv_all rfl rfl) z_all (.cons (.lc false rfl nd (LCV.mk' (own := [("point", 1)]) (is := [1]) (by kernel_rfl) (.any rfl (.sl rfl (.vr (i := 0) rfl rfl) (.yes .int) .no)) (fun _ _ _ _ _ => (.name nd rfl (by first | exact Or.inl rfl | exact Or.inr rfl) (by first | exact Or.inl rfl | exact Or.inr rfl))) (fun _ _ _ _ _ => .nil) (fun _ _ _ _ _ => (.call o_all_within (hr.mono (by decide)) m_all_within k_all_within b_all_within passE (.cons (.vr (i := 1) rfl rfl) (.cons (.neg (.glb (d := (.int 1000000000000)) (v := (.int 1000000000000)) (fun _ _ => by simp [rep]) g_LIMIT ⟨_, rfl⟩ (by rfl) (by decide))) (.cons (.glb (d := (.int 1000000000000)) (v := (.int 1000000000000)) (fun _ _ => by simp [rep]) g_LIMIT ⟨_, rfl⟩ (by rfl) (by decide)) .nil rfl) rfl) rfl) (by rfl) (by decide) rfl rfl)) (by decide)) (fun _ => rfl)) .nil rfl) (by rfl) bt_all (by decide) (by decide) rfl rfl))) .nil)
  (.cons (.if_ (.cmp (ok_eq rfl hr.units) (.ix rfl (.vr (i := 0) rfl rfl) .int (fun _ _ => rfl)) .str rfl) (.one (.ret (.call o__direction_holds (hr.mono (by decide)) m__direction_holds k__direction_holds b__direction_holds passE (.cons (.ix rfl (.vr (i := 0) rfl rfl) .int (fun _ _ => rfl)) .nil rfl) (by rfl) (by decide) rfl rfl))) .nil)
  (.one (.ret (.and_ (.cmp (ok_eq rfl hr.units) (.ix rfl (.vr (i := 0) rfl rfl) .int (fun _ _ => rfl)) .str rfl) (.one (.call o__boxes_hold (hr.mono (by decide)) m__boxes_hold k__boxes_hold b__boxes_hold passE (.cons (.ix rfl (.vr (i := 0) rfl rfl) .int (fun _ _ => rfl)) .nil rfl) (by rfl) (by decide) rfl rfl)))))))
set_option maxHeartbeats 4000000 in
theorem ok_Reading__init__ {f : Addr} {fd : FuncData} (F : Fun K "__init__" "Reading.__init__" s_Reading__init__ f fd) (T : ∀ c, ClsT K (cA c) ["now", "floor", "_pinned", "_versions", "_there", "source", "moment", "kind", "low", "high", "late", "near"]) {f_is_name : Addr} {fd_is_name : FuncData} (o_is_name : FnOk P w K mg base CX0 1 f_is_name fd_is_name ["text"] (spF (gg K cA) 1 F_is_name)) (b_is_name : Binds K fd_is_name ["text"] []) (m_is_name : mg "is_name" = some (.ref f_is_name)) (k_is_name : PySem.W.keepIn K (.ref f_is_name) = true) {f__kind_holds : Addr} {fd__kind_holds : FuncData} (o__kind_holds : FnOk P w K mg base CX0 3 f__kind_holds fd__kind_holds ["kind"] (spF (gg K cA) 1 F__kind_holds)) (b__kind_holds : Binds K fd__kind_holds ["kind"] []) (m__kind_holds : mg "_kind_holds" = some (.ref f__kind_holds)) (k__kind_holds : PySem.W.keepIn K (.ref f__kind_holds) = true) {f_all_within : Addr} {fd_all_within : FuncData} (o_all_within : FnOk P w K mg base CX0 1 f_all_within fd_all_within ["numbers", "low", "high"] (spF (gg K cA) 3 F_all_within)) (b_all_within : Binds K fd_all_within ["numbers", "low", "high"] []) (m_all_within : mg "all_within" = some (.ref f_all_within)) (k_all_within : PySem.W.keepIn K (.ref f_all_within) = true) {t_FAR : Tok} (g_FAR : mg "FAR" = some (.int 1000000000000000 t_FAR)) {t_LIMIT : Tok} (g_LIMIT : mg "LIMIT" = some (.int 1000000000000 t_LIMIT)) : FnOk P w K mg base CX0 4 f fd ["self", "source", "moment", "kind", "low", "high", "late", "near"] (spF (gg K cA) 8 F_Reading__init__) := by
  refine Fn0 F sc_Reading__init__ (fun hl h => fnR_ends (N := 8) h) fun cdv A outer s H E hr => ?_
  have nd := sc_Reading__init__.nd
  exact (.cons (.if_ (.not_ (.tru rfl (.call o_is_name (hr.mono (by decide)) m_is_name k_is_name b_is_name passE (.cons (.vr (i := 1) rfl rfl) .nil rfl) (by rfl) (by decide) rfl rfl) (fun _ => rfl))) (.one .no) .nil)
  (.cons (.if_ (.not_ (.ch2 ok_le ok_le (.neg (.glb (d := (.int 1000000000000)) (v := (.int 1000000000000)) (fun _ _ => by simp [rep]) g_LIMIT ⟨_, rfl⟩ (by rfl) (by decide))) (.vr (i := 2) rfl rfl) (.glb (d := (.int 1000000000000)) (v := (.int 1000000000000)) (fun _ _ => by simp [rep]) g_LIMIT ⟨_, rfl⟩ (by rfl) (by decide)) rfl)) (.one .no) .nil)
  (.cons (.if_ (.not_ (.tru rfl (.call o__kind_holds (hr.mono (by decide)) m__kind_holds k__kind_holds b__kind_holds passE (.cons (.vr (i := 3) rfl rfl) .nil rfl) (by rfl) (by decide) rfl rfl) (fun _ => rfl))) (.one .no) .nil)
  (.cons (.if_ (.not_ (.ch3 ok_le ok_le ok_le (.neg (.glb (d := (.int 1000000000000000)) (v := (.int 1000000000000000)) (fun _ _ => by simp [rep]) g_FAR ⟨_, rfl⟩ (by rfl) (by decide))) (.vr (i := 4) rfl rfl) (.vr (i := 5) rfl rfl) (.glb (d := (.int 1000000000000000)) (v := (.int 1000000000000000)) (fun _ _ => by simp [rep]) g_FAR ⟨_, rfl⟩ (by rfl) (by decide)) rfl)) (.one .no) .nil)
  (.cons (.if_ (.not_ (.tru rfl (.call o_all_within (hr.mono (by decide)) m_all_within k_all_within b_all_within passE (.cons (.tup (.cons (.vr (i := 6) rfl rfl) (.cons (.vr (i := 7) rfl rfl) .nil rfl) rfl)) (.cons .int (.cons (.glb (d := (.int 1000000000000)) (v := (.int 1000000000000)) (fun _ _ => by simp [rep]) g_LIMIT ⟨_, rfl⟩ (by rfl) (by decide)) .nil rfl) rfl) rfl) (by rfl) (by decide) rfl rfl) (fun _ => rfl))) (.one .no) .nil)
  (.cons (.put rfl (.of T (by simp)) (.vr (i := 1) rfl rfl) (.vr (i := 0) rfl rfl) rfl)
  (.cons (.put rfl (.of T (by simp)) (.vr (i := 2) rfl rfl) (.vr (i := 0) rfl rfl) rfl)
  (.cons (.put rfl (.of T (by simp)) (.vr (i := 3) rfl rfl) (.vr (i := 0) rfl rfl) rfl)
  (.cons (.put rfl (.of T (by simp)) (.vr (i := 4) rfl rfl) (.vr (i := 0) rfl rfl) rfl)
  (.cons (.put rfl (.of T (by simp)) (.vr (i := 5) rfl rfl) (.vr (i := 0) rfl rfl) rfl)
  (.cons (.put rfl (.of T (by simp)) (.vr (i := 6) rfl rfl) (.vr (i := 0) rfl rfl) rfl)
  (.one (.put rfl (.of T (by simp)) (.vr (i := 7) rfl rfl) (.vr (i := 0) rfl rfl) rfl)))))))))))))
set_option maxHeartbeats 4000000 in
theorem ok__law_value_of {f : Addr} {fd : FuncData} (F : Fun K "_law_value_of" "_law_value_of" s__law_value_of f fd) (T : ∀ c, ClsT K (cA c) ["now", "floor", "_pinned", "_versions", "_there", "source", "moment", "kind", "low", "high", "late", "near"]) {f_Reading__init__ : Addr} {fd_Reading__init__ : FuncData} (o_Reading__init__ : FnOk P w K mg base CX0 4 f_Reading__init__ fd_Reading__init__ ["self", "source", "moment", "kind", "low", "high", "late", "near"] (spF (gg K cA) 8 F_Reading__init__)) (M_Reading : Mk K (cA 1) f_Reading__init__) (mC_Reading : mg "Reading" = some (.ref (cA 1))) (kb_Reading__init___4_4 : KBn K fd_Reading__init__ ["self", "source", "moment", "kind", "low", "high", "late", "near"] 4 ["low", "high", "late", "near"] (fun us ws => us ++ ws) (fun vs zs => vs ++ zs)) (z_int : mg "int" = none) (z_str : mg "str" = none) : FnOk P w K mg base CX0 6 f fd ["row"] (spF (gg K cA) 1 F__law_value_of) := by
  refine Fn0 F sc__law_value_of (fun hl h => fnP_ends (N := 3) hl h) fun cdv A outer s H E hr => ?_
  have nd := sc__law_value_of.nd
  exact (.cons (.set (i := 1) (.lst false (.cons (.tup (.cons .str (.cons (.tup (.cons .int (.cons .int .nil rfl) rfl)) .nil rfl) rfl)) (.cons (.tup (.cons .str (.cons (.tup (.cons .int (.cons .int .nil rfl) rfl)) .nil rfl) rfl)) (.cons (.tup (.cons .str (.cons (.tup (.cons (.neg .int) (.cons .int .nil rfl) rfl)) .nil rfl) rfl)) (.cons (.tup (.cons .str (.cons (.tup (.cons .int (.cons .int .nil rfl) rfl)) (.cons (.tup (.cons .int (.cons .int .nil rfl) rfl)) .nil rfl) rfl) rfl)) .nil rfl) rfl) rfl) rfl)) nd rfl (by first | exact Or.inl rfl | exact Or.inr rfl) rfl (Or.inl rfl))
  (.cons (.set (i := 2) (.bin ok_sub (.bin ok_mod (.callT cv_int z_int (.cons (.vr (i := 0) rfl rfl) .nil rfl) (by rfl) bt_int (by decide) (by decide) rfl rfl) .int) .int) nd rfl (by first | exact Or.inl rfl | exact Or.inr rfl) rfl (Or.inl rfl))
  (.one (.ret (.mkN (c := 1) M_Reading o_Reading__init__ (hr.mono (by decide)) mC_Reading kb_Reading__init___4_4 .app (fun xs ys h1 h2 => by rw [show (gApp xs ys).length = xs.length + ys.length from List.length_append, h1, h2]; rfl) passE (.cons (.bin (ok_add rfl) .str (.callT cv_str z_str (.cons (.bin ok_mod (.callT cv_int z_int (.cons (.bin ok_div (.vr (i := 0) rfl rfl) .int) .nil rfl) (by rfl) bt_int (by decide) (by decide) rfl rfl) .int) .nil rfl) (by rfl) bt_str (by decide) (by decide) rfl rfl)) (.cons (.bin ok_mod (.callT cv_int z_int (.cons (.bin ok_div (.vr (i := 0) rfl rfl) .int) .nil rfl) (by rfl) bt_int (by decide) (by decide) rfl rfl) .int) (.cons (.ix rfl (.vr (i := 1) rfl rfl) (.bin ok_mod (.callT cv_int z_int (.cons (.bin ok_div (.vr (i := 0) rfl rfl) .int) .nil rfl) (by rfl) bt_int (by decide) (by decide) rfl rfl) .int) (fun _ _ => rfl)) .nil rfl) rfl) rfl) (.cons (.vr (i := 2) rfl rfl) (.cons (.bin (ok_add rfl) (.vr (i := 2) rfl rfl) (.bin ok_mod (.callT cv_int z_int (.cons (.bin ok_div (.vr (i := 0) rfl rfl) .int) .nil rfl) (by rfl) bt_int (by decide) (by decide) rfl rfl) .int)) (.cons (.bin ok_mod (.callT cv_int z_int (.cons (.bin ok_div (.vr (i := 0) rfl rfl) .int) .nil rfl) (by rfl) bt_int (by decide) (by decide) rfl rfl) .int) (.cons (.bin ok_mod (.callT cv_int z_int (.cons (.bin ok_div (.vr (i := 0) rfl rfl) .int) .nil rfl) (by rfl) bt_int (by decide) (by decide) rfl rfl) .int) .nil)))) (by rfl) rfl rfl (by decide) rfl rfl)))))
set_option maxHeartbeats 4000000 in
theorem ok_Ledgerput {f : Addr} {fd : FuncData} (F : Fun K "put" "Ledger.put" s_Ledgerput f fd) (T : ∀ c, ClsT K (cA c) ["now", "floor", "_pinned", "_versions", "_there", "source", "moment", "kind", "low", "high", "late", "near"]) : FnOk P w K mg base CX0 1 f fd ["self", "reading"] (spF (gg K cA) 2 F_Ledgerput) := by
  refine Fn0 F sc_Ledgerput (fun hl h => fnR_ends (N := 2) h) fun cdv A outer s H E hr => ?_
  have nd := sc_Ledgerput.nd
  exact (.cons (.fldAdd rfl (.of T (by simp)) (.vr (i := 0) rfl rfl) .int)
  (.cons (.dput hr.units (.lst true (.cons (.tup (.cons (.fld rfl (.of T (by simp)) (.vr (i := 0) rfl rfl) rfl) (.cons .non (.cons (.vr (i := 1) rfl rfl) .nil rfl) rfl) rfl)) .nil rfl)) (.fld rfl (.of T (by simp)) (.vr (i := 0) rfl rfl) rfl) (.fld rfl (.of T (by simp)) (.vr (i := 0) rfl rfl) rfl) rfl)
  (.cons (.dput hr.units (.vr (i := 1) rfl rfl) (.fld rfl (.of T (by simp)) (.vr (i := 0) rfl rfl) rfl) (.fld rfl (.of T (by simp)) (.vr (i := 0) rfl rfl) rfl) rfl)
  (.one (.ret (.fld rfl (.of T (by simp)) (.vr (i := 0) rfl rfl) rfl))))))
set_option maxHeartbeats 4000000 in
theorem ok_Ledger_end {f : Addr} {fd : FuncData} (F : Fun K "_end" "Ledger._end" s_Ledger_end f fd) (T : ∀ c, ClsT K (cA c) ["now", "floor", "_pinned", "_versions", "_there", "source", "moment", "kind", "low", "high", "late", "near"]) : FnOk P w K mg base CX0 1 f fd ["self", "number"] (spF (gg K cA) 2 F_Ledger_end) := by
  refine Fn0 F sc_Ledger_end (fun hl h => fnR_ends (N := 6) h) fun cdv A outer s H E hr => ?_
  have nd := sc_Ledger_end.nd
  exact (.cons (.set (i := 2) (.dget hr.units (.fld rfl (.of T (by simp)) (.vr (i := 0) rfl rfl) rfl) (.vr (i := 1) rfl rfl) (fun _ _ => rfl)) nd rfl (by first | exact Or.inl rfl | exact Or.inr rfl) rfl (Or.inl rfl))
  (.cons (.asg (.ix rfl (.vr (i := 2) rfl rfl) (.neg .int) (fun _ _ => rfl)) (.tup (n := 3) rfl rfl (.cons (ks := [3, 4, 5]) (.name nd rfl (by first | exact Or.inl rfl | exact Or.inr rfl) (by first | exact Or.inl rfl | exact Or.inr rfl)) (.cons (ks := [3, 4, 5]) (.name nd rfl (by first | exact Or.inl rfl | exact Or.inr rfl) (by first | exact Or.inl rfl | exact Or.inr rfl)) (.cons (ks := [3, 4, 5]) (.name nd rfl (by first | exact Or.inl rfl | exact Or.inr rfl) (by first | exact Or.inl rfl | exact Or.inr rfl)) (.nil (is := [3, 4, 5])) (by decide) (by decide) rfl) (by decide) (by decide) rfl) (by decide) (by decide) rfl) rfl rfl) rfl rfl rfl)
  (.one (.setIx (.tup (.cons (.vr (i := 3) rfl rfl) (.cons (.fld rfl (.of T (by simp)) (.vr (i := 0) rfl rfl) rfl) (.cons (.vr (i := 5) rfl rfl) .nil rfl) rfl) rfl)) (.vr (i := 2) rfl rfl) (.neg .int) (fun _ => rfl) rfl rfl rfl))))
set_option maxHeartbeats 4000000 in
theorem ok_Ledgercorrect {f : Addr} {fd : FuncData} (F : Fun K "correct" "Ledger.correct" s_Ledgercorrect f fd) (T : ∀ c, ClsT K (cA c) ["now", "floor", "_pinned", "_versions", "_there", "source", "moment", "kind", "low", "high", "late", "near"]) {f_Ledger_end : Addr} {fd_Ledger_end : FuncData} (o_Ledger_end : FnOk P w K mg base CX0 1 f_Ledger_end fd_Ledger_end ["self", "number"] (spF (gg K cA) 2 F_Ledger_end)) (b_Ledger_end : Binds K fd_Ledger_end ["self", "number"] []) (me_Ledger_end : Meth K (cA 14) "_end" f_Ledger_end) : FnOk P w K mg base CX0 2 f fd ["self", "number", "reading"] (spF (gg K cA) 3 F_Ledgercorrect) := by
  refine Fn0 F sc_Ledgercorrect (fun hl h => fnR_ends (N := 3) h) fun cdv A outer s H E hr => ?_
  have nd := sc_Ledgercorrect.nd
  exact (.cons (.if_ (.cmp (ok_dnotin hr.units) (.vr (i := 1) rfl rfl) (.fld rfl (.of T (by simp)) (.vr (i := 0) rfl rfl) rfl) rfl) (.one (.ret .non)) .nil)
  (.cons (.fldAdd rfl (.of T (by simp)) (.vr (i := 0) rfl rfl) .int)
  (.cons (.exp (.meth (c := 14) (T 14).cl me_Ledger_end o_Ledger_end (hr.mono (by decide)) b_Ledger_end passE (.vr (i := 0) rfl rfl) (.cons (.vr (i := 1) rfl rfl) .nil rfl) rfl rfl rfl) rfl)
  (.cons (.exp (.bm rfl PySem.F.plainAttrs_list PySem.F.slot_list_append PySem.F.type_list_append bm_append (.dget hr.units (.fld rfl (.of T (by simp)) (.vr (i := 0) rfl rfl) rfl) (.vr (i := 1) rfl rfl) (fun _ _ => rfl)) (.cons (.tup (.cons (.fld rfl (.of T (by simp)) (.vr (i := 0) rfl rfl) rfl) (.cons .non (.cons (.vr (i := 2) rfl rfl) .nil rfl) rfl) rfl)) .nil rfl) rfl rfl rfl rfl rfl) rfl)
  (.cons (.dput hr.units (.vr (i := 2) rfl rfl) (.fld rfl (.of T (by simp)) (.vr (i := 0) rfl rfl) rfl) (.vr (i := 1) rfl rfl) rfl)
  (.one (.ret (.fld rfl (.of T (by simp)) (.vr (i := 0) rfl rfl) rfl))))))))
set_option maxHeartbeats 4000000 in
theorem ok_Ledgerwithdraw {f : Addr} {fd : FuncData} (F : Fun K "withdraw" "Ledger.withdraw" s_Ledgerwithdraw f fd) (T : ∀ c, ClsT K (cA c) ["now", "floor", "_pinned", "_versions", "_there", "source", "moment", "kind", "low", "high", "late", "near"]) {f_Ledger_end : Addr} {fd_Ledger_end : FuncData} (o_Ledger_end : FnOk P w K mg base CX0 1 f_Ledger_end fd_Ledger_end ["self", "number"] (spF (gg K cA) 2 F_Ledger_end)) (b_Ledger_end : Binds K fd_Ledger_end ["self", "number"] []) (me_Ledger_end : Meth K (cA 14) "_end" f_Ledger_end) : FnOk P w K mg base CX0 2 f fd ["self", "number"] (spF (gg K cA) 2 F_Ledgerwithdraw) := by
  refine Fn0 F sc_Ledgerwithdraw (fun hl h => fnR_ends (N := 2) h) fun cdv A outer s H E hr => ?_
  have nd := sc_Ledgerwithdraw.nd
  exact (.cons (.if_ (.cmp (ok_dnotin hr.units) (.vr (i := 1) rfl rfl) (.fld rfl (.of T (by simp)) (.vr (i := 0) rfl rfl) rfl) rfl) (.one (.ret .non)) .nil)
  (.cons (.fldAdd rfl (.of T (by simp)) (.vr (i := 0) rfl rfl) .int)
  (.cons (.exp (.meth (c := 14) (T 14).cl me_Ledger_end o_Ledger_end (hr.mono (by decide)) b_Ledger_end passE (.vr (i := 0) rfl rfl) (.cons (.vr (i := 1) rfl rfl) .nil rfl) rfl rfl rfl) rfl)
  (.cons (.ddel (.fld rfl (.of T (by simp)) (.vr (i := 0) rfl rfl) rfl) (.vr (i := 1) rfl rfl))
  (.one (.ret (.fld rfl (.of T (by simp)) (.vr (i := 0) rfl rfl) rfl)))))))
set_option maxHeartbeats 4000000 in
theorem ok__law_turn_of {f : Addr} {fd : FuncData} (F : Fun K "_law_turn_of" "_law_turn_of" s__law_turn_of f fd) (T : ∀ c, ClsT K (cA c) ["now", "floor", "_pinned", "_versions", "_there", "source", "moment", "kind", "low", "high", "late", "near"]) {f__law_value_of : Addr} {fd__law_value_of : FuncData} (o__law_value_of : FnOk P w K mg base CX0 6 f__law_value_of fd__law_value_of ["row"] (spF (gg K cA) 1 F__law_value_of)) (b__law_value_of : Binds K fd__law_value_of ["row"] []) (m__law_value_of : mg "_law_value_of" = some (.ref f__law_value_of)) (k__law_value_of : PySem.W.keepIn K (.ref f__law_value_of) = true) {f_Ledgerput : Addr} {fd_Ledgerput : FuncData} (o_Ledgerput : FnOk P w K mg base CX0 1 f_Ledgerput fd_Ledgerput ["self", "reading"] (spF (gg K cA) 2 F_Ledgerput)) (b_Ledgerput : Binds K fd_Ledgerput ["self", "reading"] []) (me_Ledgerput : Meth K (cA 14) "put" f_Ledgerput) {f_Ledgercorrect : Addr} {fd_Ledgercorrect : FuncData} (o_Ledgercorrect : FnOk P w K mg base CX0 2 f_Ledgercorrect fd_Ledgercorrect ["self", "number", "reading"] (spF (gg K cA) 3 F_Ledgercorrect)) (b_Ledgercorrect : Binds K fd_Ledgercorrect ["self", "number", "reading"] []) (me_Ledgercorrect : Meth K (cA 14) "correct" f_Ledgercorrect) {f_Ledgerwithdraw : Addr} {fd_Ledgerwithdraw : FuncData} (o_Ledgerwithdraw : FnOk P w K mg base CX0 2 f_Ledgerwithdraw fd_Ledgerwithdraw ["self", "number"] (spF (gg K cA) 2 F_Ledgerwithdraw)) (b_Ledgerwithdraw : Binds K fd_Ledgerwithdraw ["self", "number"] []) (me_Ledgerwithdraw : Meth K (cA 14) "withdraw" f_Ledgerwithdraw) (z_int : mg "int" = none) (z_len : mg "len" = none) : FnOk P w K mg base CX0 7 f fd ["ledger", "states", "row"] (spF (gg K cA) 3 F__law_turn_of) := by
  refine Fn0 F sc__law_turn_of (fun hl h => fnR_ends (N := 12) h) fun cdv A outer s H E hr => ?_
  have nd := sc__law_turn_of.nd
  exact (.cons (.set (i := 3) (.ix rfl (.vr (i := 1) rfl rfl) (.bin ok_sub (.callB (cv_len rfl) z_len (.cons (.vr (i := 1) rfl rfl) .nil rfl) (by rfl) bt_len (by decide) (by decide) rfl rfl) .int) (fun _ _ => rfl)) nd rfl (by first | exact Or.inl rfl | exact Or.inr rfl) rfl (Or.inl rfl))
  (.cons (.set (i := 4) (.bin (ok_add rfl) (.lc false rfl nd (LCV.mk' (own := [("pair", 11)]) (is := [11]) (by kernel_rfl) (.any rfl (.vr (i := 3) rfl rfl)) (fun _ _ _ _ _ => (.name nd rfl (by first | exact Or.inl rfl | exact Or.inr rfl) (by first | exact Or.inl rfl | exact Or.inr rfl))) (fun _ _ _ _ _ => .nil) (fun _ _ _ _ _ => (.ix rfl (.vr (i := 11) rfl rfl) .int (fun _ _ => rfl))) (by decide)) (fun _ => rfl)) (.lst false (.cons .int (.cons (.callB (cv_len rfl) z_len (.cons (.vr (i := 1) rfl rfl) .nil rfl) (by rfl) bt_len (by decide) (by decide) rfl rfl) (.cons .int .nil rfl) rfl) rfl))) nd rfl (by first | exact Or.inl rfl | exact Or.inr rfl) rfl (Or.inl rfl))
  (.cons (.set (i := 5) (.ix rfl (.vr (i := 4) rfl rfl) (.bin ok_mod (.callT cv_int z_int (.cons (.bin ok_div (.vr (i := 2) rfl rfl) .int) .nil rfl) (by rfl) bt_int (by decide) (by decide) rfl rfl) (.callB (cv_len rfl) z_len (.cons (.vr (i := 4) rfl rfl) .nil rfl) (by rfl) bt_len (by decide) (by decide) rfl rfl)) (fun _ _ => rfl)) nd rfl (by first | exact Or.inl rfl | exact Or.inr rfl) rfl (Or.inl rfl))
  (.cons (.set (i := 6) (.call o__law_value_of (hr.mono (by decide)) m__law_value_of k__law_value_of b__law_value_of passE (.cons (.bin ok_div (.vr (i := 2) rfl rfl) .int) .nil rfl) (by rfl) (by decide) rfl rfl) nd rfl (by first | exact Or.inl rfl | exact Or.inr rfl) rfl (Or.inl rfl))
  (.cons (.set (i := 7) (.bin ok_mod (.callT cv_int z_int (.cons (.vr (i := 2) rfl rfl) .nil rfl) (by rfl) bt_int (by decide) (by decide) rfl rfl) .int) nd rfl (by first | exact Or.inl rfl | exact Or.inr rfl) rfl (Or.inl rfl))
  (.cons (.if_ (.cmp ok_lt (.vr (i := 7) rfl rfl) .int rfl) (.cons (.exp (.bm rfl PySem.F.plainAttrs_list PySem.F.slot_list_append PySem.F.type_list_append bm_append (.vr (i := 1) rfl rfl) (.cons (.bin (ok_add rfl) (.vr (i := 3) rfl rfl) (.lst false (.cons (.tup (.cons (.callB (cv_len rfl) z_len (.cons (.vr (i := 1) rfl rfl) .nil rfl) (by rfl) bt_len (by decide) (by decide) rfl rfl) (.cons (.vr (i := 6) rfl rfl) .nil rfl) rfl)) .nil rfl))) .nil rfl) rfl rfl rfl rfl rfl) rfl)
  (.one (.ret (.cmp (ok_eq rfl hr.units) (.meth (c := 14) (T 14).cl me_Ledgerput o_Ledgerput (hr.mono (by decide)) b_Ledgerput passE (.vr (i := 0) rfl rfl) (.cons (.vr (i := 6) rfl rfl) .nil rfl) rfl rfl rfl) (.bin ok_sub (.callB (cv_len rfl) z_len (.cons (.vr (i := 1) rfl rfl) .nil rfl) (by rfl) bt_len (by decide) (by decide) rfl rfl) .int) rfl)))) .nil)
  (.cons (.setLc (i := 8) false rfl nd (LCV.mk' (own := [("pair", 11)]) (is := [11]) (by kernel_rfl) (.any rfl (.vr (i := 3) rfl rfl)) (fun _ _ _ _ _ => (.name nd rfl (by first | exact Or.inl rfl | exact Or.inr rfl) (by first | exact Or.inl rfl | exact Or.inr rfl))) (fun _ _ _ _ _ => (.one (.cmp (ok_eq rfl hr.units) (.ix rfl (.vr (i := 11) rfl rfl) .int (fun _ _ => rfl)) (.vr (i := 5) rfl rfl) rfl))) (fun _ _ _ _ _ => (.vr (i := 11) rfl rfl)) (by decide)) rfl rfl (sw_true rfl rfl rfl rfl) (fun _ => rfl))
  (.cons (.if_ (.cmp ok_lt (.vr (i := 7) rfl rfl) .int rfl) (.cons (.set (i := 9) (.meth (c := 14) (T 14).cl me_Ledgercorrect o_Ledgercorrect (hr.mono (by decide)) b_Ledgercorrect passE (.vr (i := 0) rfl rfl) (.cons (.vr (i := 5) rfl rfl) (.cons (.vr (i := 6) rfl rfl) .nil rfl) rfl) rfl rfl rfl) nd rfl (by first | exact Or.inl rfl | exact Or.inr rfl) rfl (Or.inl rfl))
  (.one (.setLc (i := 10) false rfl nd (LCV.mk' (own := [("pair", 11)]) (is := [11]) (by kernel_rfl) (.any rfl (.vr (i := 3) rfl rfl)) (fun _ _ _ _ _ => (.name nd rfl (by first | exact Or.inl rfl | exact Or.inr rfl) (by first | exact Or.inl rfl | exact Or.inr rfl))) (fun _ _ _ _ _ => .nil) (fun _ _ _ _ _ => (.ite_ (.cmp (ok_ne rfl hr.units) (.ix rfl (.vr (i := 11) rfl rfl) .int (fun _ _ => rfl)) (.vr (i := 5) rfl rfl) rfl) (.vr (i := 11) rfl rfl) (.tup (.cons (.vr (i := 5) rfl rfl) (.cons (.vr (i := 6) rfl rfl) .nil rfl) rfl)))) (by decide)) rfl rfl (sw_true rfl rfl rfl rfl) (fun _ => rfl)))) (.cons (.set (i := 9) (.meth (c := 14) (T 14).cl me_Ledgerwithdraw o_Ledgerwithdraw (hr.mono (by decide)) b_Ledgerwithdraw passE (.vr (i := 0) rfl rfl) (.cons (.vr (i := 5) rfl rfl) .nil rfl) rfl rfl rfl) nd rfl (by first | exact Or.inl rfl | exact Or.inr rfl) rfl (Or.inl rfl))
  (.one (.setLc (i := 10) false rfl nd (LCV.mk' (own := [("pair", 11)]) (is := [11]) (by kernel_rfl) (.any rfl (.vr (i := 3) rfl rfl)) (fun _ _ _ _ _ => (.name nd rfl (by first | exact Or.inl rfl | exact Or.inr rfl) (by first | exact Or.inl rfl | exact Or.inr rfl))) (fun _ _ _ _ _ => (.one (.cmp (ok_ne rfl hr.units) (.ix rfl (.vr (i := 11) rfl rfl) .int (fun _ _ => rfl)) (.vr (i := 5) rfl rfl) rfl))) (fun _ _ _ _ _ => (.vr (i := 11) rfl rfl)) (by decide)) rfl rfl (sw_true rfl rfl rfl rfl) (fun _ => rfl)))))
  (.cons (.if_ (.cmp (ok_eq rfl hr.units) (.callB (cv_len rfl) z_len (.cons (.vr (i := 8) rfl rfl) .nil rfl) (by rfl) bt_len (by decide) (by decide) rfl rfl) .int rfl) (.one (.ret (.cmp ok_isN (.vr (i := 9) rfl rfl) .non rfl))) .nil)
  (.cons (.exp (.bm rfl PySem.F.plainAttrs_list PySem.F.slot_list_append PySem.F.type_list_append bm_append (.vr (i := 1) rfl rfl) (.cons (.vr (i := 10) rfl rfl) .nil rfl) rfl rfl rfl rfl rfl) rfl)
  (.one (.ret (.cmp (ok_eq rfl hr.units) (.vr (i := 9) rfl rfl) (.bin ok_sub (.callB (cv_len rfl) z_len (.cons (.vr (i := 1) rfl rfl) .nil rfl) (by rfl) bt_len (by decide) (by decide) rfl rfl) .int) rfl)))))))))))))
set_option maxHeartbeats 4000000 in
theorem ok_Ledgerpin {f : Addr} {fd : FuncData} (F : Fun K "pin" "Ledger.pin" s_Ledgerpin f fd) (T : ∀ c, ClsT K (cA c) ["now", "floor", "_pinned", "_versions", "_there", "source", "moment", "kind", "low", "high", "late", "near"]) : FnOk P w K mg base CX0 1 f fd ["self"] (spF (gg K cA) 1 F_Ledgerpin) := by
  refine Fn0 F sc_Ledgerpin (fun hl h => fnR_ends (N := 1) h) fun cdv A outer s H E hr => ?_
  have nd := sc_Ledgerpin.nd
  exact (.cons (.exp (.bm rfl PySem.F.plainAttrs_list PySem.F.slot_list_append PySem.F.type_list_append bm_append (.fld rfl (.of T (by simp)) (.vr (i := 0) rfl rfl) rfl) (.cons (.fld rfl (.of T (by simp)) (.vr (i := 0) rfl rfl) rfl) .nil rfl) rfl rfl rfl rfl rfl) rfl)
  (.one (.ret (.fld rfl (.of T (by simp)) (.vr (i := 0) rfl rfl) rfl))))
set_option maxHeartbeats 4000000 in
theorem ok_was_kept {f : Addr} {fd : FuncData} (F : Fun K "was_kept" "was_kept" s_was_kept f fd) (z_any : mg "any" = none) : FnOk P w K mg base CX0 1 f fd ["floor", "pins", "version"] (spF (gg K cA) 3 F_was_kept) := by
  refine Fn0 F sc_was_kept (fun hl h => fnP_ends (N := 7) hl h) fun cdv A outer s H E hr => ?_
  have nd := sc_was_kept.nd
  exact (.cons (.asg (.vr (i := 2) rfl rfl) (.tup (n := 3) rfl rfl (.cons (ks := [3, 4, 5]) (.name nd rfl (by first | exact Or.inl rfl | exact Or.inr rfl) (by first | exact Or.inl rfl | exact Or.inr rfl)) (.cons (ks := [3, 4, 5]) (.name nd rfl (by first | exact Or.inl rfl | exact Or.inr rfl) (by first | exact Or.inl rfl | exact Or.inr rfl)) (.cons (ks := [3, 4, 5]) (.name nd rfl (by first | exact Or.inl rfl | exact Or.inr rfl) (by first | exact Or.inl rfl | exact Or.inr rfl)) (.nil (is := [3, 4, 5])) (by decide) (by decide) rfl) (by decide) (by decide) rfl) (by decide) (by decide) rfl) rfl rfl) rfl rfl rfl)
  (.one (.ret (.or_ (.cmp ok_isN (.vr (i := 4) rfl rfl) .non rfl) (.or_ (.cmp ok_gt (.vr (i := 4) rfl rfl) (.vr (i := 0) rfl rfl) rfl) (.one (.callB (cv_any rfl rfl) z_any (.cons (.lc false rfl nd (LCV.mk' (own := [("moment", 6)]) (is := [6]) (by kernel_rfl) (.any rfl (.vr (i := 1) rfl rfl)) (fun _ _ _ _ _ => (.name nd rfl (by first | exact Or.inl rfl | exact Or.inr rfl) (by first | exact Or.inl rfl | exact Or.inr rfl))) (fun _ _ _ _ _ => .nil) (fun _ _ _ _ _ => (.ch2 ok_le ok_lt (.vr (i := 3) rfl rfl) (.vr (i := 6) rfl rfl) (.vr (i := 4) rfl rfl) rfl)) (by decide)) (fun _ => rfl)) .nil rfl) (by rfl) bt_any (by decide) (by decide) rfl rfl)))))))
set_option maxHeartbeats 4000000 in
theorem ok_Ledger_drop {f : Addr} {fd : FuncData} (F : Fun K "_drop" "Ledger._drop" s_Ledger_drop f fd) (T : ∀ c, ClsT K (cA c) ["now", "floor", "_pinned", "_versions", "_there", "source", "moment", "kind", "low", "high", "late", "near"]) {f_was_kept : Addr} {fd_was_kept : FuncData} (o_was_kept : FnOk P w K mg base CX0 1 f_was_kept fd_was_kept ["floor", "pins", "version"] (spF (gg K cA) 3 F_was_kept)) (b_was_kept : Binds K fd_was_kept ["floor", "pins", "version"] []) (m_was_kept : mg "was_kept" = some (.ref f_was_kept)) (k_was_kept : PySem.W.keepIn K (.ref f_was_kept) = true) (z_list : mg "list" = none) : FnOk P w K mg base CX0 2 f fd ["self"] (spF (gg K cA) 1 F_Ledger_drop) := by
  refine Fn0 F sc_Ledger_drop (fun hl h => fnR_ends (N := 4) h) fun cdv A outer s H E hr => ?_
  have nd := sc_Ledger_drop.nd
  exact (.one (.for_ PassesOwn.never rfl (.any rfl (.callT (cv_listD rfl rfl) z_list (.cons (.fld rfl (.of T (by simp)) (.vr (i := 0) rfl rfl) rfl) .nil rfl) (by rfl) bt_list (by decide) (by decide) rfl rfl)) (.name nd rfl (by first | exact Or.inl rfl | exact Or.inr rfl) (by first | exact Or.inl rfl | exact Or.inr rfl)) (.cons (.setLc (i := 2) true rfl nd (LCV.mk' (own := [("version", 3)]) (is := [3]) (by kernel_rfl) (.any rfl (.dget hr.units (.fld rfl (.of T (by simp)) (.vr (i := 0) rfl rfl) rfl) (.vr (i := 1) rfl rfl) (fun _ _ => rfl))) (fun _ _ _ _ _ => (.name nd rfl (by first | exact Or.inl rfl | exact Or.inr rfl) (by first | exact Or.inl rfl | exact Or.inr rfl))) (fun _ _ _ _ _ => (.one (.tru rfl (.call o_was_kept (hr.mono (by decide)) m_was_kept k_was_kept b_was_kept passE (.cons (.fld rfl (.of T (by simp)) (.vr (i := 0) rfl rfl) rfl) (.cons (.fld rfl (.of T (by simp)) (.vr (i := 0) rfl rfl) rfl) (.cons (.vr (i := 3) rfl rfl) .nil rfl) rfl) rfl) (by rfl) (by decide) rfl rfl) (fun _ => rfl)))) (fun _ _ _ _ _ => (.vr (i := 3) rfl rfl)) (by decide)) rfl rfl (sw_true rfl rfl rfl rfl) (fun _ => rfl))
  (.one (.if_ (.tru rfl (.vr (i := 2) rfl rfl) (fun _ => rfl)) (.one (.dput hr.units (.vr (i := 2) rfl rfl) (.fld rfl (.of T (by simp)) (.vr (i := 0) rfl rfl) rfl) (.vr (i := 1) rfl rfl) rfl)) (.one (.ddel (.fld rfl (.of T (by simp)) (.vr (i := 0) rfl rfl) rfl) (.vr (i := 1) rfl rfl)))))) (fun _ => rfl)))
set_option maxHeartbeats 4000000 in
theorem ok_Ledgerunpin {f : Addr} {fd : FuncData} (F : Fun K "unpin" "Ledger.unpin" s_Ledgerunpin f fd) (T : ∀ c, ClsT K (cA c) ["now", "floor", "_pinned", "_versions", "_there", "source", "moment", "kind", "low", "high", "late", "near"]) {f_Ledger_drop : Addr} {fd_Ledger_drop : FuncData} (o_Ledger_drop : FnOk P w K mg base CX0 2 f_Ledger_drop fd_Ledger_drop ["self"] (spF (gg K cA) 1 F_Ledger_drop)) (b_Ledger_drop : Binds K fd_Ledger_drop ["self"] []) (me_Ledger_drop : Meth K (cA 14) "_drop" f_Ledger_drop) : FnOk P w K mg base CX0 3 f fd ["self", "moment"] (spF (gg K cA) 2 F_Ledgerunpin) := by
  refine Fn0 F sc_Ledgerunpin (fun hl h => fnR_ends (N := 2) h) fun cdv A outer s H E hr => ?_
  have nd := sc_Ledgerunpin.nd
  exact (.cons (.if_ (.cmp (ok_notin rfl) (.vr (i := 1) rfl rfl) (.fld rfl (.of T (by simp)) (.vr (i := 0) rfl rfl) rfl) rfl) (.one .no) .nil)
  (.cons (.exp (.rem rfl rfl (.fld rfl (.of T (by simp)) (.vr (i := 0) rfl rfl) rfl) (.vr (i := 1) rfl rfl) rfl rfl rfl rfl rfl) rfl)
  (.one (.exp (.meth0 (c := 14) (T 14).cl me_Ledger_drop o_Ledger_drop (hr.mono (by decide)) b_Ledger_drop passE (.vr (i := 0) rfl rfl) rfl) rfl))))
set_option maxHeartbeats 4000000 in
theorem ok_Ledgerraise_floor {f : Addr} {fd : FuncData} (F : Fun K "raise_floor" "Ledger.raise_floor" s_Ledgerraise_floor f fd) (T : ∀ c, ClsT K (cA c) ["now", "floor", "_pinned", "_versions", "_there", "source", "moment", "kind", "low", "high", "late", "near"]) {f_Ledger_drop : Addr} {fd_Ledger_drop : FuncData} (o_Ledger_drop : FnOk P w K mg base CX0 2 f_Ledger_drop fd_Ledger_drop ["self"] (spF (gg K cA) 1 F_Ledger_drop)) (b_Ledger_drop : Binds K fd_Ledger_drop ["self"] []) (me_Ledger_drop : Meth K (cA 14) "_drop" f_Ledger_drop) (z_max : mg "max" = none) (z_min : mg "min" = none) : FnOk P w K mg base CX0 3 f fd ["self", "moment"] (spF (gg K cA) 2 F_Ledgerraise_floor) := by
  refine Fn0 F sc_Ledgerraise_floor (fun hl h => fnR_ends (N := 2) h) fun cdv A outer s H E hr => ?_
  have nd := sc_Ledgerraise_floor.nd
  exact (.cons (.put rfl (.of T (by simp)) (.callB (cv_max rfl rfl) z_max (.cons (.fld rfl (.of T (by simp)) (.vr (i := 0) rfl rfl) rfl) (.cons (.callB (cv_min rfl rfl) z_min (.cons (.vr (i := 1) rfl rfl) (.cons (.fld rfl (.of T (by simp)) (.vr (i := 0) rfl rfl) rfl) .nil rfl) rfl) (by rfl) bt_min (by decide) (by decide) rfl rfl) .nil rfl) rfl) (by rfl) bt_max (by decide) (by decide) rfl rfl) (.vr (i := 0) rfl rfl) rfl)
  (.cons (.exp (.meth0 (c := 14) (T 14).cl me_Ledger_drop o_Ledger_drop (hr.mono (by decide)) b_Ledger_drop passE (.vr (i := 0) rfl rfl) rfl) rfl)
  (.one (.ret (.fld rfl (.of T (by simp)) (.vr (i := 0) rfl rfl) rfl)))))
set_option maxHeartbeats 4000000 in
theorem ok_Ledgerpins {f : Addr} {fd : FuncData} (F : Fun K "pins" "Ledger.pins" s_Ledgerpins f fd) (T : ∀ c, ClsT K (cA c) ["now", "floor", "_pinned", "_versions", "_there", "source", "moment", "kind", "low", "high", "late", "near"]) (z_list : mg "list" = none) : FnOk P w K mg base CX0 1 f fd ["self"] (spF (gg K cA) 1 F_Ledgerpins) := by
  refine Fn0 F sc_Ledgerpins (fun hl h => fnP_ends (N := 1) hl h) fun cdv A outer s H E hr => ?_
  have nd := sc_Ledgerpins.nd
  exact (.one (.ret (.callT (cv_list false rfl) z_list (.cons (.fld rfl (.of T (by simp)) (.vr (i := 0) rfl rfl) rfl) .nil rfl) (by rfl) bt_list (by decide) (by decide) rfl rfl)))
set_option maxHeartbeats 4000000 in
theorem ok_Ledgerkeeps {f : Addr} {fd : FuncData} (F : Fun K "keeps" "Ledger.keeps" s_Ledgerkeeps f fd) (T : ∀ c, ClsT K (cA c) ["now", "floor", "_pinned", "_versions", "_there", "source", "moment", "kind", "low", "high", "late", "near"]) : FnOk P w K mg base CX0 1 f fd ["self", "moment"] (spF (gg K cA) 2 F_Ledgerkeeps) := by
  refine Fn0 F sc_Ledgerkeeps (fun hl h => fnP_ends (N := 2) hl h) fun cdv A outer s H E hr => ?_
  have nd := sc_Ledgerkeeps.nd
  exact (.one (.ret (.or_ (.ch2 ok_le ok_le (.fld rfl (.of T (by simp)) (.vr (i := 0) rfl rfl) rfl) (.vr (i := 1) rfl rfl) (.fld rfl (.of T (by simp)) (.vr (i := 0) rfl rfl) rfl) rfl) (.one (.cmp (ok_in rfl) (.vr (i := 1) rfl rfl) (.fld rfl (.of T (by simp)) (.vr (i := 0) rfl rfl) rfl) rfl)))))
set_option maxHeartbeats 4000000 in
theorem ok__there_at {f : Addr} {fd : FuncData} (F : Fun K "_there_at" "_there_at" s__there_at f fd)  : FnOk P w K mg base CX0 1 f fd ["versions", "moment"] (spF (gg K cA) 2 F__there_at) := by
  refine Fn0 F sc__there_at (fun hl h => fnP_ends (N := 5) hl h) fun cdv A outer s H E hr => ?_
  have nd := sc__there_at.nd
  exact (.cons (.for_ PassesOwn.never rfl (.any rfl (.vr (i := 0) rfl rfl)) (.tup (n := 3) rfl rfl (.cons (ks := [2, 3, 4]) (.name nd rfl (by first | exact Or.inl rfl | exact Or.inr rfl) (by first | exact Or.inl rfl | exact Or.inr rfl)) (.cons (ks := [2, 3, 4]) (.name nd rfl (by first | exact Or.inl rfl | exact Or.inr rfl) (by first | exact Or.inl rfl | exact Or.inr rfl)) (.cons (ks := [2, 3, 4]) (.name nd rfl (by first | exact Or.inl rfl | exact Or.inr rfl) (by first | exact Or.inl rfl | exact Or.inr rfl)) (.nil (is := [2, 3, 4])) (by decide) (by decide) rfl) (by decide) (by decide) rfl) (by decide) (by decide) rfl) rfl rfl) (.one (.if_ (WV.tv (.and_ (.cmp ok_le (.vr (i := 2) rfl rfl) (.vr (i := 1) rfl rfl) rfl) (.and1 (WV.tv (.or_ (.cmp ok_isN (.vr (i := 3) rfl rfl) .non rfl) (.or1 (.cmp ok_lt (.vr (i := 1) rfl rfl) (.vr (i := 3) rfl rfl) rfl))))))) (.one (.ret (.vr (i := 4) rfl rfl))) .nil)) (fun _ => rfl))
  (.one (.ret .non)))
set_option maxHeartbeats 4000000 in
theorem ok_Ledgerreadings {f : Addr} {fd : FuncData} (F : Fun K "readings" "Ledger.readings" s_Ledgerreadings f fd) (T : ∀ c, ClsT K (cA c) ["now", "floor", "_pinned", "_versions", "_there", "source", "moment", "kind", "low", "high", "late", "near"]) {f_Ledgerkeeps : Addr} {fd_Ledgerkeeps : FuncData} (o_Ledgerkeeps : FnOk P w K mg base CX0 1 f_Ledgerkeeps fd_Ledgerkeeps ["self", "moment"] (spF (gg K cA) 2 F_Ledgerkeeps)) (b_Ledgerkeeps : Binds K fd_Ledgerkeeps ["self", "moment"] []) (me_Ledgerkeeps : Meth K (cA 14) "keeps" f_Ledgerkeeps) {f__there_at : Addr} {fd__there_at : FuncData} (o__there_at : FnOk P w K mg base CX0 1 f__there_at fd__there_at ["versions", "moment"] (spF (gg K cA) 2 F__there_at)) (b__there_at : Binds K fd__there_at ["versions", "moment"] []) (m__there_at : mg "_there_at" = some (.ref f__there_at)) (k__there_at : PySem.W.keepIn K (.ref f__there_at) = true) (z_list : mg "list" = none) : FnOk P w K mg base CX0 2 f fd ["self", "moment"] (spF (gg K cA) 2 F_Ledgerreadings) := by
  refine Fn0 F sc_Ledgerreadings (fun hl h => fnR_ends (N := 6) h) fun cdv A outer s H E hr => ?_
  have nd := sc_Ledgerreadings.nd
  exact (.cons (.if_ (.not_ (.tru rfl (.meth (c := 14) (T 14).cl me_Ledgerkeeps o_Ledgerkeeps (hr.mono (by decide)) b_Ledgerkeeps passE (.vr (i := 0) rfl rfl) (.cons (.vr (i := 1) rfl rfl) .nil rfl) rfl rfl rfl) (fun _ => rfl))) (.one .no) .nil)
  (.cons (.if_ (.cmp (ok_eq rfl hr.units) (.vr (i := 1) rfl rfl) (.fld rfl (.of T (by simp)) (.vr (i := 0) rfl rfl) rfl) rfl) (.one (.ret (.listItems true rfl rfl z_list (.fld rfl (.of T (by simp)) (.vr (i := 0) rfl rfl) rfl) (by rfl) rfl rfl rfl))) .nil)
  (.cons (.setLcItems (j := 2) (i := 0) (own := [("number", 3), ("versions", 4)]) (is := [3, 4]) rfl (.of T (by simp)) rfl nd rfl (by first | exact Or.inl rfl | exact Or.inr (Or.inl rfl) | exact Or.inr (Or.inr rfl)) (by decide) (by decide) rfl rfl rfl (by kernel_rfl) (fun _ _ _ _ _ => (.tup (n := 2) rfl rfl (.cons (ks := [3, 4]) (.name nd rfl (by first | exact Or.inl rfl | exact Or.inr rfl) (by first | exact Or.inl rfl | exact Or.inr rfl)) (.cons (ks := [3, 4]) (.name nd rfl (by first | exact Or.inl rfl | exact Or.inr rfl) (by first | exact Or.inl rfl | exact Or.inr rfl)) (.nil (is := [3, 4])) (by decide) (by decide) rfl) (by decide) (by decide) rfl) rfl rfl)) (fun _ _ _ _ _ => .nil) (fun _ _ _ _ _ => (.tup (.cons (.vr (i := 3) rfl rfl) (.cons (.call o__there_at (hr.mono (by decide)) m__there_at k__there_at b__there_at passE (.cons (.vr (i := 4) rfl rfl) (.cons (.vr (i := 1) rfl rfl) .nil rfl) rfl) (by rfl) (by decide) rfl rfl) .nil rfl) rfl))) (by decide) (fun _ => rfl) rfl rfl (sw_true rfl rfl rfl rfl))
  (.one (.ret (.lc true rfl nd (LCV.mk' (own := [("number", 3), ("reading", 5)]) (is := [3, 5]) (by kernel_rfl) (.any rfl (.vr (i := 2) rfl rfl)) (fun _ _ _ _ _ => (.tup (n := 2) rfl rfl (.cons (ks := [3, 5]) (.name nd rfl (by first | exact Or.inl rfl | exact Or.inr rfl) (by first | exact Or.inl rfl | exact Or.inr rfl)) (.cons (ks := [3, 5]) (.name nd rfl (by first | exact Or.inl rfl | exact Or.inr rfl) (by first | exact Or.inl rfl | exact Or.inr rfl)) (.nil (is := [3, 5])) (by decide) (by decide) rfl) (by decide) (by decide) rfl) rfl rfl)) (fun _ _ _ _ _ => (.one (.cmp ok_notN (.vr (i := 5) rfl rfl) .non rfl))) (fun _ _ _ _ _ => (.tup (.cons (.vr (i := 3) rfl rfl) (.cons (.vr (i := 5) rfl rfl) .nil rfl) rfl))) (by decide)) (fun _ => rfl)))))))
set_option maxHeartbeats 4000000 in
theorem ok_Reading__eq__ {f : Addr} {fd : FuncData} (F : Fun K "__eq__" "Reading.__eq__" s_Reading__eq__ f fd) (T : ∀ c, ClsT K (cA c) ["now", "floor", "_pinned", "_versions", "_there", "source", "moment", "kind", "low", "high", "late", "near"]) (mC_Reading : mg "Reading" = some (.ref (cA 1))) (U_Reading : Isi K (cA 1)) (z_isinstance : mg "isinstance" = none) : FnOk P w K mg base CX0 1 f fd ["self", "other"] (spF (gg K cA) 2 F_Reading__eq__) := by
  refine Fn0 F sc_Reading__eq__ (fun hl h => fnP_ends (N := 2) hl h) fun cdv A outer s H E hr => ?_
  have nd := sc_Reading__eq__.nd
  exact (.one (.ret (.and_ (.isC (c := 1) rfl rfl z_isinstance mC_Reading (T 1).cl U_Reading (.vr (i := 1) rfl rfl) (by rfl) (by rfl) (by decide) rfl) (.and_ (.cmp (ok_eq rfl hr.units) (.fld rfl (.of T (by simp)) (.vr (i := 0) rfl rfl) rfl) (.fld rfl (.of T (by simp)) (.vr (i := 1) rfl rfl) rfl) rfl) (.and_ (.cmp (ok_eq rfl hr.units) (.fld rfl (.of T (by simp)) (.vr (i := 0) rfl rfl) rfl) (.fld rfl (.of T (by simp)) (.vr (i := 1) rfl rfl) rfl) rfl) (.and_ (.cmp (ok_eq rfl hr.units) (.fld rfl (.of T (by simp)) (.vr (i := 0) rfl rfl) rfl) (.fld rfl (.of T (by simp)) (.vr (i := 1) rfl rfl) rfl) rfl) (.and_ (.cmp (ok_eq rfl hr.units) (.fld rfl (.of T (by simp)) (.vr (i := 0) rfl rfl) rfl) (.fld rfl (.of T (by simp)) (.vr (i := 1) rfl rfl) rfl) rfl) (.and_ (.cmp (ok_eq rfl hr.units) (.fld rfl (.of T (by simp)) (.vr (i := 0) rfl rfl) rfl) (.fld rfl (.of T (by simp)) (.vr (i := 1) rfl rfl) rfl) rfl) (.and_ (.cmp (ok_eq rfl hr.units) (.fld rfl (.of T (by simp)) (.vr (i := 0) rfl rfl) rfl) (.fld rfl (.of T (by simp)) (.vr (i := 1) rfl rfl) rfl) rfl) (.one (.cmp (ok_eq rfl hr.units) (.fld rfl (.of T (by simp)) (.vr (i := 0) rfl rfl) rfl) (.fld rfl (.of T (by simp)) (.vr (i := 1) rfl rfl) rfl) rfl)))))))))))
set_option maxHeartbeats 4000000 in
theorem ok__law_there {f : Addr} {fd : FuncData} (F : Fun K "_law_there" "_law_there" s__law_there f fd)  : FnOk P w K mg base CX0 1 f fd ["states", "moment"] (spF (gg K cA) 2 F__law_there) := by
  refine Fn0 F sc__law_there (fun hl h => fnP_ends (N := 3) hl h) fun cdv A outer s H E hr => ?_
  have nd := sc__law_there.nd
  exact (.one (.ret (.lc false rfl nd (LCV.mk' (own := [("pair", 2)]) (is := [2]) (by kernel_rfl) (.any rfl (.ix rfl (.vr (i := 0) rfl rfl) (.vr (i := 1) rfl rfl) (fun _ _ => rfl))) (fun _ _ _ _ _ => (.name nd rfl (by first | exact Or.inl rfl | exact Or.inr rfl) (by first | exact Or.inl rfl | exact Or.inr rfl))) (fun _ _ _ _ _ => .nil) (fun _ _ _ _ _ => (.vr (i := 2) rfl rfl)) (by decide)) (fun _ => rfl))))
set_option maxHeartbeats 4000000 in
theorem ok__law_right {f : Addr} {fd : FuncData} (F : Fun K "_law_right" "_law_right" s__law_right f fd) (T : ∀ c, ClsT K (cA c) ["now", "floor", "_pinned", "_versions", "_there", "source", "moment", "kind", "low", "high", "late", "near"]) {f_Ledgerpins : Addr} {fd_Ledgerpins : FuncData} (o_Ledgerpins : FnOk P w K mg base CX0 1 f_Ledgerpins fd_Ledgerpins ["self"] (spF (gg K cA) 1 F_Ledgerpins)) (b_Ledgerpins : Binds K fd_Ledgerpins ["self"] []) {pr_Ledgerpins : Addr} (me_Ledgerpins : PropOf K (cA 14) "pins" pr_Ledgerpins f_Ledgerpins) {f_Ledgerkeeps : Addr} {fd_Ledgerkeeps : FuncData} (o_Ledgerkeeps : FnOk P w K mg base CX0 1 f_Ledgerkeeps fd_Ledgerkeeps ["self", "moment"] (spF (gg K cA) 2 F_Ledgerkeeps)) (b_Ledgerkeeps : Binds K fd_Ledgerkeeps ["self", "moment"] []) (me_Ledgerkeeps : Meth K (cA 14) "keeps" f_Ledgerkeeps) {f_Ledgerreadings : Addr} {fd_Ledgerreadings : FuncData} (o_Ledgerreadings : FnOk P w K mg base CX0 2 f_Ledgerreadings fd_Ledgerreadings ["self", "moment"] (spF (gg K cA) 2 F_Ledgerreadings)) (b_Ledgerreadings : Binds K fd_Ledgerreadings ["self", "moment"] []) (me_Ledgerreadings : Meth K (cA 14) "readings" f_Ledgerreadings) {f_Reading__eq__ : Addr} {fd_Reading__eq__ : FuncData} (o_Reading__eq__ : FnOk P w K mg base CX0 1 f_Reading__eq__ fd_Reading__eq__ ["self", "other"] (spF (gg K cA) 2 F_Reading__eq__)) (b_Reading__eq__ : Binds K fd_Reading__eq__ ["self", "other"] []) (me_Reading__eq__ : Meth K (cA 1) "__eq__" f_Reading__eq__) {f__law_there : Addr} {fd__law_there : FuncData} (o__law_there : FnOk P w K mg base CX0 1 f__law_there fd__law_there ["states", "moment"] (spF (gg K cA) 2 F__law_there)) (b__law_there : Binds K fd__law_there ["states", "moment"] []) (m__law_there : mg "_law_there" = some (.ref f__law_there)) (k__law_there : PySem.W.keepIn K (.ref f__law_there) = true) (z_isinstance : mg "isinstance" = none) (z_len : mg "len" = none) (z_list : mg "list" = none) (z_range : mg "range" = none) : FnOk P w K mg base CX0 9 f fd ["ledger", "states", "floor", "pins"] (spF (gg K cA) 4 F__law_right) := by
  refine Fn0 F sc__law_right (fun hl h => fnP_ends (N := 8) hl h) fun cdv A outer s H E hr => ?_
  have nd := sc__law_right.nd
  exact (.cons (.set (i := 4) (.bin ok_sub (.callB (cv_len rfl) z_len (.cons (.vr (i := 1) rfl rfl) .nil rfl) (by rfl) bt_len (by decide) (by decide) rfl rfl) .int) nd rfl (by first | exact Or.inl rfl | exact Or.inr rfl) rfl (Or.inl rfl))
  (.cons (.if_ (WV.tv (.or_ (.cmp (ok_ne rfl hr.units) (.fld rfl (.of T (by simp)) (.vr (i := 0) rfl rfl) rfl) (.vr (i := 4) rfl rfl) rfl) (.or_ (.cmp (ok_ne rfl hr.units) (.fld rfl (.of T (by simp)) (.vr (i := 0) rfl rfl) rfl) (.vr (i := 2) rfl rfl) rfl) (.or1 (.cmp (ok_ne rfl hr.units) (.prop (c := 14) (T 14).cl me_Ledgerpins o_Ledgerpins (hr.mono (by decide)) b_Ledgerpins passE (.vr (i := 0) rfl rfl) rfl) (.vr (i := 3) rfl rfl) rfl))))) (.one (.ret .bl)) .nil)
  (.cons (.for_ PassesOwn.never rfl (.range1 z_range (.cons (.bin (ok_add rfl) (.vr (i := 4) rfl rfl) .int) .nil rfl) (by rfl) (by rfl)) (.name nd rfl (by first | exact Or.inl rfl | exact Or.inr rfl) (by first | exact Or.inl rfl | exact Or.inr rfl)) (.cons (.set (i := 6) (.or_ (.cmp (ok_in rfl) (.vr (i := 5) rfl rfl) (.vr (i := 3) rfl rfl) rfl) (.one (.ch2 ok_le ok_le (.vr (i := 2) rfl rfl) (.vr (i := 5) rfl rfl) (.vr (i := 4) rfl rfl) rfl))) nd rfl (by first | exact Or.inl rfl | exact Or.inr rfl) rfl (Or.inl rfl))
  (.cons (.if_ (.cmp (ok_ne rfl hr.units) (.meth (c := 14) (T 14).cl me_Ledgerkeeps o_Ledgerkeeps (hr.mono (by decide)) b_Ledgerkeeps passE (.vr (i := 0) rfl rfl) (.cons (.vr (i := 5) rfl rfl) .nil rfl) rfl rfl rfl) (.vr (i := 6) rfl rfl) rfl) (.one (.ret .bl)) .nil)
  (.one (.if_ (.tru rfl (.vr (i := 6) rfl rfl) (fun _ => rfl)) (.cons (.set (i := 7) (.meth (c := 14) (T 14).cl me_Ledgerreadings o_Ledgerreadings (hr.mono (by decide)) b_Ledgerreadings passE (.vr (i := 0) rfl rfl) (.cons (.vr (i := 5) rfl rfl) .nil rfl) rfl rfl rfl) nd rfl (by first | exact Or.inl rfl | exact Or.inr rfl) rfl (Or.inl rfl))
  (.cons (.if_ (WV.tv (.or_ (.not_ (.tru rfl (.isi rfl rfl z_isinstance z_list (.vr (i := 7) rfl rfl) (by rfl) (by rfl) bt_list (by decide) (by decide) rfl) (fun _ => rfl))) (.or1 (.cmp (ok_neO rfl (owns1 me_Reading__eq__ o_Reading__eq__ b_Reading__eq__) (hr.mono (by decide))) (.vr (i := 7) rfl rfl) (.call o__law_there (hr.mono (by decide)) m__law_there k__law_there b__law_there passE (.cons (.vr (i := 1) rfl rfl) (.cons (.vr (i := 5) rfl rfl) .nil rfl) rfl) (by rfl) (by decide) rfl rfl) rfl)))) (.one (.ret .bl)) .nil)
  (.one (.exp (.bm rfl PySem.F.plainAttrs_list PySem.F.slot_list_append PySem.F.type_list_append bm_append (.vr (i := 7) rfl rfl) (.cons (.tup (.cons .int (.cons .non .nil rfl) rfl)) .nil rfl) rfl rfl rfl rfl rfl) rfl)))) .nil)))) (fun _ => rfl))
  (.one (.ret .bl)))))
set_option maxHeartbeats 4000000 in
theorem ok_law {f : Addr} {fd : FuncData} (F : Fun K "law" "law" s_law f fd) (T : ∀ c, ClsT K (cA c) ["now", "floor", "_pinned", "_versions", "_there", "source", "moment", "kind", "low", "high", "late", "near"]) {f__law_rows : Addr} {fd__law_rows : FuncData} (o__law_rows : FnOk P w K mg base CX0 1 f__law_rows fd__law_rows ["script", "count"] (spF (gg K cA) 2 F__law_rows)) (b__law_rows : Binds K fd__law_rows ["script", "count"] []) (m__law_rows : mg "_law_rows" = some (.ref f__law_rows)) (k__law_rows : PySem.W.keepIn K (.ref f__law_rows) = true) {f_Ledger__init__ : Addr} {fd_Ledger__init__ : FuncData} (o_Ledger__init__ : FnOk P w K mg base CX0 1 f_Ledger__init__ fd_Ledger__init__ ["self"] (spF (gg K cA) 1 F_Ledger__init__)) (b_Ledger__init__ : Binds K fd_Ledger__init__ ["self"] []) (M_Ledger : Mk K (cA 14) f_Ledger__init__) (mC_Ledger : mg "Ledger" = some (.ref (cA 14))) {f__law_turn_of : Addr} {fd__law_turn_of : FuncData} (o__law_turn_of : FnOk P w K mg base CX0 7 f__law_turn_of fd__law_turn_of ["ledger", "states", "row"] (spF (gg K cA) 3 F__law_turn_of)) (b__law_turn_of : Binds K fd__law_turn_of ["ledger", "states", "row"] []) (m__law_turn_of : mg "_law_turn_of" = some (.ref f__law_turn_of)) (k__law_turn_of : PySem.W.keepIn K (.ref f__law_turn_of) = true) {f_Ledgerpin : Addr} {fd_Ledgerpin : FuncData} (o_Ledgerpin : FnOk P w K mg base CX0 1 f_Ledgerpin fd_Ledgerpin ["self"] (spF (gg K cA) 1 F_Ledgerpin)) (b_Ledgerpin : Binds K fd_Ledgerpin ["self"] []) (me_Ledgerpin : Meth K (cA 14) "pin" f_Ledgerpin) {f_Ledgerunpin : Addr} {fd_Ledgerunpin : FuncData} (o_Ledgerunpin : FnOk P w K mg base CX0 3 f_Ledgerunpin fd_Ledgerunpin ["self", "moment"] (spF (gg K cA) 2 F_Ledgerunpin)) (b_Ledgerunpin : Binds K fd_Ledgerunpin ["self", "moment"] []) (me_Ledgerunpin : Meth K (cA 14) "unpin" f_Ledgerunpin) {f_Ledgerraise_floor : Addr} {fd_Ledgerraise_floor : FuncData} (o_Ledgerraise_floor : FnOk P w K mg base CX0 3 f_Ledgerraise_floor fd_Ledgerraise_floor ["self", "moment"] (spF (gg K cA) 2 F_Ledgerraise_floor)) (b_Ledgerraise_floor : Binds K fd_Ledgerraise_floor ["self", "moment"] []) (me_Ledgerraise_floor : Meth K (cA 14) "raise_floor" f_Ledgerraise_floor) {f__law_right : Addr} {fd__law_right : FuncData} (o__law_right : FnOk P w K mg base CX0 9 f__law_right fd__law_right ["ledger", "states", "floor", "pins"] (spF (gg K cA) 4 F__law_right)) (b__law_right : Binds K fd__law_right ["ledger", "states", "floor", "pins"] []) (m__law_right : mg "_law_right" = some (.ref f__law_right)) (k__law_right : PySem.W.keepIn K (.ref f__law_right) = true) (z_int : mg "int" = none) (z_len : mg "len" = none) (z_max : mg "max" = none) (z_min : mg "min" = none) : FnOk P w K mg base CX0 10 f fd ["script"] (spF (gg K cA) 1 F_law) := by
  refine Fn0 F sc_law (fun hl h => fnP_ends (N := 8) hl h) fun cdv A outer s H E hr => ?_
  have nd := sc_law.nd
  exact (.cons (.set (i := 1) (.call o__law_rows (hr.mono (by decide)) m__law_rows k__law_rows b__law_rows passE (.cons (.vr (i := 0) rfl rfl) (.cons .int .nil rfl) rfl) (by rfl) (by decide) rfl rfl) nd rfl (by first | exact Or.inl rfl | exact Or.inr rfl) rfl (Or.inl rfl))
  (.cons (.set (i := 2) (.mkL0 (c := 14) M_Ledger o_Ledger__init__ (hr.mono (by decide)) mC_Ledger b_Ledger__init__ passE (by rfl) (by decide)) nd rfl (by first | exact Or.inl rfl | exact Or.inr rfl) rfl (Or.inl rfl))
  (.cons (.set (i := 3) (.lst true (.cons (.lst false .nil) .nil rfl)) nd rfl (by first | exact Or.inl rfl | exact Or.inr rfl) rfl (Or.inl rfl))
  (.cons (.set (i := 4) .int nd rfl (by first | exact Or.inl rfl | exact Or.inr rfl) rfl (Or.inl rfl))
  (.cons (.set (i := 5) (.lst true .nil) nd rfl (by first | exact Or.inl rfl | exact Or.inr rfl) rfl (Or.inl rfl))
  (.cons (.for_ PassesOwn.never rfl (.any rfl (.vr (i := 1) rfl rfl)) (.name nd rfl (by first | exact Or.inl rfl | exact Or.inr rfl) (by first | exact Or.inl rfl | exact Or.inr rfl)) (.cons (.if_ (.cmp ok_lt (.bin ok_mod (.vr (i := 6) rfl rfl) .int) .int rfl) (.one (.if_ (.not_ (.tru rfl (.call o__law_turn_of (hr.mono (by decide)) m__law_turn_of k__law_turn_of b__law_turn_of passE (.cons (.vr (i := 2) rfl rfl) (.cons (.vr (i := 3) rfl rfl) (.cons (.bin ok_div (.vr (i := 6) rfl rfl) .int) .nil rfl) rfl) rfl) (by rfl) (by decide) rfl rfl) (fun _ => rfl))) (.one (.ret .bl)) .nil)) (.one (.if_ (.cmp (ok_eq rfl hr.units) (.bin ok_mod (.vr (i := 6) rfl rfl) .int) .int rfl) (.cons (.exp (.bm rfl PySem.F.plainAttrs_list PySem.F.slot_list_append PySem.F.type_list_append bm_append (.vr (i := 5) rfl rfl) (.cons (.bin ok_sub (.callB (cv_len rfl) z_len (.cons (.vr (i := 3) rfl rfl) .nil rfl) (by rfl) bt_len (by decide) (by decide) rfl rfl) .int) .nil rfl) rfl rfl rfl rfl rfl) rfl)
  (.one (.if_ (.cmp (ok_ne rfl hr.units) (.meth0 (c := 14) (T 14).cl me_Ledgerpin o_Ledgerpin (hr.mono (by decide)) b_Ledgerpin passE (.vr (i := 2) rfl rfl) rfl) (.bin ok_sub (.callB (cv_len rfl) z_len (.cons (.vr (i := 3) rfl rfl) .nil rfl) (by rfl) bt_len (by decide) (by decide) rfl rfl) .int) rfl) (.one (.ret .bl)) .nil))) (.one (.if_ (WV.tv (.and_ (.cmp (ok_eq rfl hr.units) (.bin ok_mod (.vr (i := 6) rfl rfl) .int) .int rfl) (.and1 (.cmp ok_gt (.callB (cv_len rfl) z_len (.cons (.vr (i := 5) rfl rfl) .nil rfl) (by rfl) bt_len (by decide) (by decide) rfl rfl) .int rfl)))) (.cons (.set (i := 7) (.ix rfl (.vr (i := 5) rfl rfl) (.bin ok_mod (.callT cv_int z_int (.cons (.bin ok_div (.vr (i := 6) rfl rfl) .int) .nil rfl) (by rfl) bt_int (by decide) (by decide) rfl rfl) (.callB (cv_len rfl) z_len (.cons (.vr (i := 5) rfl rfl) .nil rfl) (by rfl) bt_len (by decide) (by decide) rfl rfl)) (fun _ _ => rfl)) nd rfl (by first | exact Or.inl rfl | exact Or.inr rfl) rfl (Or.inl rfl))
  (.cons (.if_ (.not_ (.cmp ok_isN (.meth (c := 14) (T 14).cl me_Ledgerunpin o_Ledgerunpin (hr.mono (by decide)) b_Ledgerunpin passE (.vr (i := 2) rfl rfl) (.cons (.vr (i := 7) rfl rfl) .nil rfl) rfl rfl rfl) .non rfl)) (.one (.ret .bl)) .nil)
  (.one (.exp (.rem rfl rfl (.vr (i := 5) rfl rfl) (.vr (i := 7) rfl rfl) rfl rfl rfl rfl rfl) rfl)))) (.cons (.set (i := 7) (.bin ok_mod (.callT cv_int z_int (.cons (.bin ok_div (.vr (i := 6) rfl rfl) .int) .nil rfl) (by rfl) bt_int (by decide) (by decide) rfl rfl) (.bin (ok_add rfl) (.callB (cv_len rfl) z_len (.cons (.vr (i := 3) rfl rfl) .nil rfl) (by rfl) bt_len (by decide) (by decide) rfl rfl) .int)) nd rfl (by first | exact Or.inl rfl | exact Or.inr rfl) rfl (Or.inl rfl))
  (.cons (.set (i := 4) (.callB (cv_max rfl rfl) z_max (.cons (.vr (i := 4) rfl rfl) (.cons (.callB (cv_min rfl rfl) z_min (.cons (.vr (i := 7) rfl rfl) (.cons (.bin ok_sub (.callB (cv_len rfl) z_len (.cons (.vr (i := 3) rfl rfl) .nil rfl) (by rfl) bt_len (by decide) (by decide) rfl rfl) .int) .nil rfl) rfl) (by rfl) bt_min (by decide) (by decide) rfl rfl) .nil rfl) rfl) (by rfl) bt_max (by decide) (by decide) rfl rfl) nd rfl (by first | exact Or.inl rfl | exact Or.inr rfl) rfl (Or.inl rfl))
  (.one (.if_ (.cmp (ok_ne rfl hr.units) (.meth (c := 14) (T 14).cl me_Ledgerraise_floor o_Ledgerraise_floor (hr.mono (by decide)) b_Ledgerraise_floor passE (.vr (i := 2) rfl rfl) (.cons (.vr (i := 7) rfl rfl) .nil rfl) rfl rfl rfl) (.vr (i := 4) rfl rfl) rfl) (.one (.ret .bl)) .nil)))))))))
  (.one (.if_ (.not_ (.tru rfl (.call o__law_right (hr.mono (by decide)) m__law_right k__law_right b__law_right passE (.cons (.vr (i := 2) rfl rfl) (.cons (.vr (i := 3) rfl rfl) (.cons (.vr (i := 4) rfl rfl) (.cons (.vr (i := 5) rfl rfl) .nil rfl) rfl) rfl) rfl) (by rfl) (by decide) rfl rfl) (fun _ => rfl))) (.one (.ret .bl)) .nil))) (fun _ => rfl))
  (.one (.ret .bl))))))))
end
set_option maxHeartbeats 4000000 in
theorem all_mk {l : PySem.W.OpenLaw} {w : World} {K : PySem.W.Frag} {h : Heap} {mg : Str → Option Value} {fa : Addr} (X : K.In h) (G : h.Ns mainGlobals mg) (hfa : mg "law" = some (.ref fa))
    {C_Ledger : Addr}
    {C_Reading : Addr}
    {fa__law_rows : Addr} {od__law_rows an__law_rows : Option Addr} {sl__law_rows : Array (Option Value)} {oc__law_rows kV__law_rows dc__law_rows pm__law_rows cd__law_rows ct__law_rows : Value}
    {fa_Ledger__init__ : Addr} {od_Ledger__init__ an_Ledger__init__ : Option Addr} {sl_Ledger__init__ : Array (Option Value)} {oc_Ledger__init__ kV_Ledger__init__ dc_Ledger__init__ pm_Ledger__init__ cd_Ledger__init__ ct_Ledger__init__ : Value}
    {fa_is_name : Addr} {od_is_name an_is_name : Option Addr} {sl_is_name : Array (Option Value)} {oc_is_name kV_is_name dc_is_name pm_is_name cd_is_name ct_is_name : Value}
    {fa_all_within : Addr} {od_all_within an_all_within : Option Addr} {sl_all_within : Array (Option Value)} {oc_all_within kV_all_within dc_all_within pm_all_within cd_all_within ct_all_within : Value}
    {fa__direction_holds : Addr} {od__direction_holds an__direction_holds : Option Addr} {sl__direction_holds : Array (Option Value)} {oc__direction_holds kV__direction_holds dc__direction_holds pm__direction_holds cd__direction_holds ct__direction_holds : Value}
    {fa_sides_within : Addr} {od_sides_within an_sides_within : Option Addr} {sl_sides_within : Array (Option Value)} {oc_sides_within kV_sides_within dc_sides_within pm_sides_within cd_sides_within ct_sides_within : Value}
    {fa__boxes_hold : Addr} {od__boxes_hold an__boxes_hold : Option Addr} {sl__boxes_hold : Array (Option Value)} {oc__boxes_hold kV__boxes_hold dc__boxes_hold pm__boxes_hold cd__boxes_hold ct__boxes_hold : Value}
    {fa__kind_holds : Addr} {od__kind_holds an__kind_holds : Option Addr} {sl__kind_holds : Array (Option Value)} {oc__kind_holds kV__kind_holds dc__kind_holds pm__kind_holds cd__kind_holds ct__kind_holds : Value}
    {fa_Reading__init__ : Addr} {od_Reading__init__ an_Reading__init__ : Option Addr} {sl_Reading__init__ : Array (Option Value)} {oc_Reading__init__ kV_Reading__init__ dc_Reading__init__ pm_Reading__init__ cd_Reading__init__ ct_Reading__init__ : Value}
    {fa__law_value_of : Addr} {od__law_value_of an__law_value_of : Option Addr} {sl__law_value_of : Array (Option Value)} {oc__law_value_of kV__law_value_of dc__law_value_of pm__law_value_of cd__law_value_of ct__law_value_of : Value}
    {fa_Ledgerput : Addr} {od_Ledgerput an_Ledgerput : Option Addr} {sl_Ledgerput : Array (Option Value)} {oc_Ledgerput kV_Ledgerput dc_Ledgerput pm_Ledgerput cd_Ledgerput ct_Ledgerput : Value}
    {fa_Ledger_end : Addr} {od_Ledger_end an_Ledger_end : Option Addr} {sl_Ledger_end : Array (Option Value)} {oc_Ledger_end kV_Ledger_end dc_Ledger_end pm_Ledger_end cd_Ledger_end ct_Ledger_end : Value}
    {fa_Ledgercorrect : Addr} {od_Ledgercorrect an_Ledgercorrect : Option Addr} {sl_Ledgercorrect : Array (Option Value)} {oc_Ledgercorrect kV_Ledgercorrect dc_Ledgercorrect pm_Ledgercorrect cd_Ledgercorrect ct_Ledgercorrect : Value}
    {fa_Ledgerwithdraw : Addr} {od_Ledgerwithdraw an_Ledgerwithdraw : Option Addr} {sl_Ledgerwithdraw : Array (Option Value)} {oc_Ledgerwithdraw kV_Ledgerwithdraw dc_Ledgerwithdraw pm_Ledgerwithdraw cd_Ledgerwithdraw ct_Ledgerwithdraw : Value}
    {fa__law_turn_of : Addr} {od__law_turn_of an__law_turn_of : Option Addr} {sl__law_turn_of : Array (Option Value)} {oc__law_turn_of kV__law_turn_of dc__law_turn_of pm__law_turn_of cd__law_turn_of ct__law_turn_of : Value}
    {fa_Ledgerpin : Addr} {od_Ledgerpin an_Ledgerpin : Option Addr} {sl_Ledgerpin : Array (Option Value)} {oc_Ledgerpin kV_Ledgerpin dc_Ledgerpin pm_Ledgerpin cd_Ledgerpin ct_Ledgerpin : Value}
    {fa_was_kept : Addr} {od_was_kept an_was_kept : Option Addr} {sl_was_kept : Array (Option Value)} {oc_was_kept kV_was_kept dc_was_kept pm_was_kept cd_was_kept ct_was_kept : Value}
    {fa_Ledger_drop : Addr} {od_Ledger_drop an_Ledger_drop : Option Addr} {sl_Ledger_drop : Array (Option Value)} {oc_Ledger_drop kV_Ledger_drop dc_Ledger_drop pm_Ledger_drop cd_Ledger_drop ct_Ledger_drop : Value}
    {fa_Ledgerunpin : Addr} {od_Ledgerunpin an_Ledgerunpin : Option Addr} {sl_Ledgerunpin : Array (Option Value)} {oc_Ledgerunpin kV_Ledgerunpin dc_Ledgerunpin pm_Ledgerunpin cd_Ledgerunpin ct_Ledgerunpin : Value}
    {fa_Ledgerraise_floor : Addr} {od_Ledgerraise_floor an_Ledgerraise_floor : Option Addr} {sl_Ledgerraise_floor : Array (Option Value)} {oc_Ledgerraise_floor kV_Ledgerraise_floor dc_Ledgerraise_floor pm_Ledgerraise_floor cd_Ledgerraise_floor ct_Ledgerraise_floor : Value}
    {fa_Ledgerpins : Addr} {od_Ledgerpins an_Ledgerpins : Option Addr} {sl_Ledgerpins : Array (Option Value)} {oc_Ledgerpins kV_Ledgerpins dc_Ledgerpins pm_Ledgerpins cd_Ledgerpins ct_Ledgerpins : Value}
    {pr_Ledgerpins : Addr} {rest_Ledgerpins : List Value}
    {fa_Ledgerkeeps : Addr} {od_Ledgerkeeps an_Ledgerkeeps : Option Addr} {sl_Ledgerkeeps : Array (Option Value)} {oc_Ledgerkeeps kV_Ledgerkeeps dc_Ledgerkeeps pm_Ledgerkeeps cd_Ledgerkeeps ct_Ledgerkeeps : Value}
    {fa__there_at : Addr} {od__there_at an__there_at : Option Addr} {sl__there_at : Array (Option Value)} {oc__there_at kV__there_at dc__there_at pm__there_at cd__there_at ct__there_at : Value}
    {fa_Ledgerreadings : Addr} {od_Ledgerreadings an_Ledgerreadings : Option Addr} {sl_Ledgerreadings : Array (Option Value)} {oc_Ledgerreadings kV_Ledgerreadings dc_Ledgerreadings pm_Ledgerreadings cd_Ledgerreadings ct_Ledgerreadings : Value}
    {fa_Reading__eq__ : Addr} {od_Reading__eq__ an_Reading__eq__ : Option Addr} {sl_Reading__eq__ : Array (Option Value)} {oc_Reading__eq__ kV_Reading__eq__ dc_Reading__eq__ pm_Reading__eq__ cd_Reading__eq__ ct_Reading__eq__ : Value}
    {fa__law_there : Addr} {od__law_there an__law_there : Option Addr} {sl__law_there : Array (Option Value)} {oc__law_there kV__law_there dc__law_there pm__law_there cd__law_there ct__law_there : Value}
    {fa__law_right : Addr} {od__law_right an__law_right : Option Addr} {sl__law_right : Array (Option Value)} {oc__law_right kV__law_right dc__law_right pm__law_right cd__law_right ct__law_right : Value}
    {fa_law : Addr} {od_law an_law : Option Addr} {sl_law : Array (Option Value)} {oc_law kV_law dc_law pm_law cd_law ct_law : Value}
    {t_FAR : Tok}
    {t_LIMIT : Tok}
    {t_LONGEST : Tok}
    {t_MOST_BOXES : Tok}
    {t_SIGNS : Tok}
    {t_STEEPEST : Tok}
    (aC_Ledger : PySem.W.nsIn K mainGlobals "Ledger" = some (some (.ref C_Ledger)))
    (pg_Ledger : PySem.W.plainGet K C_Ledger Str.empty = true)
    (hd_Ledger : PySem.W.hasDictIn K C_Ledger = true)
    (po_Ledger : PySem.W.plainOver K C_Ledger = true)
    (sa_Ledger : PySem.W.findIn K (.ref C_Ledger) "__setattr__" = some (some (.builtin "object.__setattr__")))
    (mk_Ledger : PySem.W.makesIn K C_Ledger = true)
    (kc_Ledger : PySem.W.keepIn K (.ref C_Ledger) = true)
    (na_Ledger_now : PySem.W.findIn K (.ref C_Ledger) "now" = some none)
    (na_Ledger_floor : PySem.W.findIn K (.ref C_Ledger) "floor" = some none)
    (na_Ledger__pinned : PySem.W.findIn K (.ref C_Ledger) "_pinned" = some none)
    (na_Ledger__versions : PySem.W.findIn K (.ref C_Ledger) "_versions" = some none)
    (na_Ledger__there : PySem.W.findIn K (.ref C_Ledger) "_there" = some none)
    (na_Ledger_source : PySem.W.findIn K (.ref C_Ledger) "source" = some none)
    (na_Ledger_moment : PySem.W.findIn K (.ref C_Ledger) "moment" = some none)
    (na_Ledger_kind : PySem.W.findIn K (.ref C_Ledger) "kind" = some none)
    (na_Ledger_low : PySem.W.findIn K (.ref C_Ledger) "low" = some none)
    (na_Ledger_high : PySem.W.findIn K (.ref C_Ledger) "high" = some none)
    (na_Ledger_late : PySem.W.findIn K (.ref C_Ledger) "late" = some none)
    (na_Ledger_near : PySem.W.findIn K (.ref C_Ledger) "near" = some none)
    (aC_Reading : PySem.W.nsIn K mainGlobals "Reading" = some (some (.ref C_Reading)))
    (pg_Reading : PySem.W.plainGet K C_Reading Str.empty = true)
    (hd_Reading : PySem.W.hasDictIn K C_Reading = true)
    (po_Reading : PySem.W.plainOver K C_Reading = true)
    (sa_Reading : PySem.W.findIn K (.ref C_Reading) "__setattr__" = some (some (.builtin "object.__setattr__")))
    (mk_Reading : PySem.W.makesIn K C_Reading = true)
    (kc_Reading : PySem.W.keepIn K (.ref C_Reading) = true)
    (ic_Reading : PySem.W.findIn K (.ref C_Reading) "__class__" = some (some (.builtin "object.__class__")))
    (io_Reading : PySem.W.mroIn K C_Reading (.type "object") = some true)
    (na_Reading_now : PySem.W.findIn K (.ref C_Reading) "now" = some none)
    (na_Reading_floor : PySem.W.findIn K (.ref C_Reading) "floor" = some none)
    (na_Reading__pinned : PySem.W.findIn K (.ref C_Reading) "_pinned" = some none)
    (na_Reading__versions : PySem.W.findIn K (.ref C_Reading) "_versions" = some none)
    (na_Reading__there : PySem.W.findIn K (.ref C_Reading) "_there" = some none)
    (na_Reading_source : PySem.W.findIn K (.ref C_Reading) "source" = some none)
    (na_Reading_moment : PySem.W.findIn K (.ref C_Reading) "moment" = some none)
    (na_Reading_kind : PySem.W.findIn K (.ref C_Reading) "kind" = some none)
    (na_Reading_low : PySem.W.findIn K (.ref C_Reading) "low" = some none)
    (na_Reading_high : PySem.W.findIn K (.ref C_Reading) "high" = some none)
    (na_Reading_late : PySem.W.findIn K (.ref C_Reading) "late" = some none)
    (na_Reading_near : PySem.W.findIn K (.ref C_Reading) "near" = some none)
    (a__law_rows : PySem.W.nsIn K mainGlobals "_law_rows" = some (some (.ref fa__law_rows)))
    (l__law_rows : K.lookup fa__law_rows = some ⟨oc__law_rows, od__law_rows, .func (PySem.W.fnOf "_law_rows" "_law_rows" (defArgs s__law_rows) (defBody s__law_rows) (defScope s__law_rows) .none kV__law_rows dc__law_rows pm__law_rows an__law_rows cd__law_rows ct__law_rows), sl__law_rows⟩)
    (c__law_rows : PySem.W.codeIn K cd__law_rows "_law_rows" = true)
    (k__law_rows : PySem.W.keepIn K (.ref fa__law_rows) = true)
    (a_Ledger__init__ : PySem.W.findIn K (.ref C_Ledger) "__init__" = some (some (.ref fa_Ledger__init__)))
    (i_Ledger__init__ : PySem.W.isFn K (.ref fa_Ledger__init__) = true)
    (l_Ledger__init__ : K.lookup fa_Ledger__init__ = some ⟨oc_Ledger__init__, od_Ledger__init__, .func (PySem.W.fnOf "__init__" "Ledger.__init__" (defArgs s_Ledger__init__) (defBody s_Ledger__init__) (defScope s_Ledger__init__) .none kV_Ledger__init__ dc_Ledger__init__ pm_Ledger__init__ an_Ledger__init__ cd_Ledger__init__ ct_Ledger__init__), sl_Ledger__init__⟩)
    (c_Ledger__init__ : PySem.W.codeIn K cd_Ledger__init__ "Ledger.__init__" = true)
    (k_Ledger__init__ : PySem.W.keepIn K (.ref fa_Ledger__init__) = true)
    (a_is_name : PySem.W.nsIn K mainGlobals "is_name" = some (some (.ref fa_is_name)))
    (l_is_name : K.lookup fa_is_name = some ⟨oc_is_name, od_is_name, .func (PySem.W.fnOf "is_name" "is_name" (defArgs s_is_name) (defBody s_is_name) (defScope s_is_name) .none kV_is_name dc_is_name pm_is_name an_is_name cd_is_name ct_is_name), sl_is_name⟩)
    (c_is_name : PySem.W.codeIn K cd_is_name "is_name" = true)
    (k_is_name : PySem.W.keepIn K (.ref fa_is_name) = true)
    (a_all_within : PySem.W.nsIn K mainGlobals "all_within" = some (some (.ref fa_all_within)))
    (l_all_within : K.lookup fa_all_within = some ⟨oc_all_within, od_all_within, .func (PySem.W.fnOf "all_within" "all_within" (defArgs s_all_within) (defBody s_all_within) (defScope s_all_within) .none kV_all_within dc_all_within pm_all_within an_all_within cd_all_within ct_all_within), sl_all_within⟩)
    (c_all_within : PySem.W.codeIn K cd_all_within "all_within" = true)
    (k_all_within : PySem.W.keepIn K (.ref fa_all_within) = true)
    (a__direction_holds : PySem.W.nsIn K mainGlobals "_direction_holds" = some (some (.ref fa__direction_holds)))
    (l__direction_holds : K.lookup fa__direction_holds = some ⟨oc__direction_holds, od__direction_holds, .func (PySem.W.fnOf "_direction_holds" "_direction_holds" (defArgs s__direction_holds) (defBody s__direction_holds) (defScope s__direction_holds) .none kV__direction_holds dc__direction_holds pm__direction_holds an__direction_holds cd__direction_holds ct__direction_holds), sl__direction_holds⟩)
    (c__direction_holds : PySem.W.codeIn K cd__direction_holds "_direction_holds" = true)
    (k__direction_holds : PySem.W.keepIn K (.ref fa__direction_holds) = true)
    (a_sides_within : PySem.W.nsIn K mainGlobals "sides_within" = some (some (.ref fa_sides_within)))
    (l_sides_within : K.lookup fa_sides_within = some ⟨oc_sides_within, od_sides_within, .func (PySem.W.fnOf "sides_within" "sides_within" (defArgs s_sides_within) (defBody s_sides_within) (defScope s_sides_within) .none kV_sides_within dc_sides_within pm_sides_within an_sides_within cd_sides_within ct_sides_within), sl_sides_within⟩)
    (c_sides_within : PySem.W.codeIn K cd_sides_within "sides_within" = true)
    (k_sides_within : PySem.W.keepIn K (.ref fa_sides_within) = true)
    (a__boxes_hold : PySem.W.nsIn K mainGlobals "_boxes_hold" = some (some (.ref fa__boxes_hold)))
    (l__boxes_hold : K.lookup fa__boxes_hold = some ⟨oc__boxes_hold, od__boxes_hold, .func (PySem.W.fnOf "_boxes_hold" "_boxes_hold" (defArgs s__boxes_hold) (defBody s__boxes_hold) (defScope s__boxes_hold) .none kV__boxes_hold dc__boxes_hold pm__boxes_hold an__boxes_hold cd__boxes_hold ct__boxes_hold), sl__boxes_hold⟩)
    (c__boxes_hold : PySem.W.codeIn K cd__boxes_hold "_boxes_hold" = true)
    (k__boxes_hold : PySem.W.keepIn K (.ref fa__boxes_hold) = true)
    (a__kind_holds : PySem.W.nsIn K mainGlobals "_kind_holds" = some (some (.ref fa__kind_holds)))
    (l__kind_holds : K.lookup fa__kind_holds = some ⟨oc__kind_holds, od__kind_holds, .func (PySem.W.fnOf "_kind_holds" "_kind_holds" (defArgs s__kind_holds) (defBody s__kind_holds) (defScope s__kind_holds) .none kV__kind_holds dc__kind_holds pm__kind_holds an__kind_holds cd__kind_holds ct__kind_holds), sl__kind_holds⟩)
    (c__kind_holds : PySem.W.codeIn K cd__kind_holds "_kind_holds" = true)
    (k__kind_holds : PySem.W.keepIn K (.ref fa__kind_holds) = true)
    (a_Reading__init__ : PySem.W.findIn K (.ref C_Reading) "__init__" = some (some (.ref fa_Reading__init__)))
    (i_Reading__init__ : PySem.W.isFn K (.ref fa_Reading__init__) = true)
    (l_Reading__init__ : K.lookup fa_Reading__init__ = some ⟨oc_Reading__init__, od_Reading__init__, .func (PySem.W.fnOf "__init__" "Reading.__init__" (defArgs s_Reading__init__) (defBody s_Reading__init__) (defScope s_Reading__init__) .none kV_Reading__init__ dc_Reading__init__ pm_Reading__init__ an_Reading__init__ cd_Reading__init__ ct_Reading__init__), sl_Reading__init__⟩)
    (c_Reading__init__ : PySem.W.codeIn K cd_Reading__init__ "Reading.__init__" = true)
    (k_Reading__init__ : PySem.W.keepIn K (.ref fa_Reading__init__) = true)
    (a__law_value_of : PySem.W.nsIn K mainGlobals "_law_value_of" = some (some (.ref fa__law_value_of)))
    (l__law_value_of : K.lookup fa__law_value_of = some ⟨oc__law_value_of, od__law_value_of, .func (PySem.W.fnOf "_law_value_of" "_law_value_of" (defArgs s__law_value_of) (defBody s__law_value_of) (defScope s__law_value_of) .none kV__law_value_of dc__law_value_of pm__law_value_of an__law_value_of cd__law_value_of ct__law_value_of), sl__law_value_of⟩)
    (c__law_value_of : PySem.W.codeIn K cd__law_value_of "_law_value_of" = true)
    (k__law_value_of : PySem.W.keepIn K (.ref fa__law_value_of) = true)
    (a_Ledgerput : PySem.W.findIn K (.ref C_Ledger) "put" = some (some (.ref fa_Ledgerput)))
    (i_Ledgerput : PySem.W.isFn K (.ref fa_Ledgerput) = true)
    (l_Ledgerput : K.lookup fa_Ledgerput = some ⟨oc_Ledgerput, od_Ledgerput, .func (PySem.W.fnOf "put" "Ledger.put" (defArgs s_Ledgerput) (defBody s_Ledgerput) (defScope s_Ledgerput) .none kV_Ledgerput dc_Ledgerput pm_Ledgerput an_Ledgerput cd_Ledgerput ct_Ledgerput), sl_Ledgerput⟩)
    (c_Ledgerput : PySem.W.codeIn K cd_Ledgerput "Ledger.put" = true)
    (k_Ledgerput : PySem.W.keepIn K (.ref fa_Ledgerput) = true)
    (a_Ledger_end : PySem.W.findIn K (.ref C_Ledger) "_end" = some (some (.ref fa_Ledger_end)))
    (i_Ledger_end : PySem.W.isFn K (.ref fa_Ledger_end) = true)
    (l_Ledger_end : K.lookup fa_Ledger_end = some ⟨oc_Ledger_end, od_Ledger_end, .func (PySem.W.fnOf "_end" "Ledger._end" (defArgs s_Ledger_end) (defBody s_Ledger_end) (defScope s_Ledger_end) .none kV_Ledger_end dc_Ledger_end pm_Ledger_end an_Ledger_end cd_Ledger_end ct_Ledger_end), sl_Ledger_end⟩)
    (c_Ledger_end : PySem.W.codeIn K cd_Ledger_end "Ledger._end" = true)
    (k_Ledger_end : PySem.W.keepIn K (.ref fa_Ledger_end) = true)
    (a_Ledgercorrect : PySem.W.findIn K (.ref C_Ledger) "correct" = some (some (.ref fa_Ledgercorrect)))
    (i_Ledgercorrect : PySem.W.isFn K (.ref fa_Ledgercorrect) = true)
    (l_Ledgercorrect : K.lookup fa_Ledgercorrect = some ⟨oc_Ledgercorrect, od_Ledgercorrect, .func (PySem.W.fnOf "correct" "Ledger.correct" (defArgs s_Ledgercorrect) (defBody s_Ledgercorrect) (defScope s_Ledgercorrect) .none kV_Ledgercorrect dc_Ledgercorrect pm_Ledgercorrect an_Ledgercorrect cd_Ledgercorrect ct_Ledgercorrect), sl_Ledgercorrect⟩)
    (c_Ledgercorrect : PySem.W.codeIn K cd_Ledgercorrect "Ledger.correct" = true)
    (k_Ledgercorrect : PySem.W.keepIn K (.ref fa_Ledgercorrect) = true)
    (a_Ledgerwithdraw : PySem.W.findIn K (.ref C_Ledger) "withdraw" = some (some (.ref fa_Ledgerwithdraw)))
    (i_Ledgerwithdraw : PySem.W.isFn K (.ref fa_Ledgerwithdraw) = true)
    (l_Ledgerwithdraw : K.lookup fa_Ledgerwithdraw = some ⟨oc_Ledgerwithdraw, od_Ledgerwithdraw, .func (PySem.W.fnOf "withdraw" "Ledger.withdraw" (defArgs s_Ledgerwithdraw) (defBody s_Ledgerwithdraw) (defScope s_Ledgerwithdraw) .none kV_Ledgerwithdraw dc_Ledgerwithdraw pm_Ledgerwithdraw an_Ledgerwithdraw cd_Ledgerwithdraw ct_Ledgerwithdraw), sl_Ledgerwithdraw⟩)
    (c_Ledgerwithdraw : PySem.W.codeIn K cd_Ledgerwithdraw "Ledger.withdraw" = true)
    (k_Ledgerwithdraw : PySem.W.keepIn K (.ref fa_Ledgerwithdraw) = true)
    (a__law_turn_of : PySem.W.nsIn K mainGlobals "_law_turn_of" = some (some (.ref fa__law_turn_of)))
    (l__law_turn_of : K.lookup fa__law_turn_of = some ⟨oc__law_turn_of, od__law_turn_of, .func (PySem.W.fnOf "_law_turn_of" "_law_turn_of" (defArgs s__law_turn_of) (defBody s__law_turn_of) (defScope s__law_turn_of) .none kV__law_turn_of dc__law_turn_of pm__law_turn_of an__law_turn_of cd__law_turn_of ct__law_turn_of), sl__law_turn_of⟩)
    (c__law_turn_of : PySem.W.codeIn K cd__law_turn_of "_law_turn_of" = true)
    (k__law_turn_of : PySem.W.keepIn K (.ref fa__law_turn_of) = true)
    (a_Ledgerpin : PySem.W.findIn K (.ref C_Ledger) "pin" = some (some (.ref fa_Ledgerpin)))
    (i_Ledgerpin : PySem.W.isFn K (.ref fa_Ledgerpin) = true)
    (l_Ledgerpin : K.lookup fa_Ledgerpin = some ⟨oc_Ledgerpin, od_Ledgerpin, .func (PySem.W.fnOf "pin" "Ledger.pin" (defArgs s_Ledgerpin) (defBody s_Ledgerpin) (defScope s_Ledgerpin) .none kV_Ledgerpin dc_Ledgerpin pm_Ledgerpin an_Ledgerpin cd_Ledgerpin ct_Ledgerpin), sl_Ledgerpin⟩)
    (c_Ledgerpin : PySem.W.codeIn K cd_Ledgerpin "Ledger.pin" = true)
    (k_Ledgerpin : PySem.W.keepIn K (.ref fa_Ledgerpin) = true)
    (a_was_kept : PySem.W.nsIn K mainGlobals "was_kept" = some (some (.ref fa_was_kept)))
    (l_was_kept : K.lookup fa_was_kept = some ⟨oc_was_kept, od_was_kept, .func (PySem.W.fnOf "was_kept" "was_kept" (defArgs s_was_kept) (defBody s_was_kept) (defScope s_was_kept) .none kV_was_kept dc_was_kept pm_was_kept an_was_kept cd_was_kept ct_was_kept), sl_was_kept⟩)
    (c_was_kept : PySem.W.codeIn K cd_was_kept "was_kept" = true)
    (k_was_kept : PySem.W.keepIn K (.ref fa_was_kept) = true)
    (a_Ledger_drop : PySem.W.findIn K (.ref C_Ledger) "_drop" = some (some (.ref fa_Ledger_drop)))
    (i_Ledger_drop : PySem.W.isFn K (.ref fa_Ledger_drop) = true)
    (l_Ledger_drop : K.lookup fa_Ledger_drop = some ⟨oc_Ledger_drop, od_Ledger_drop, .func (PySem.W.fnOf "_drop" "Ledger._drop" (defArgs s_Ledger_drop) (defBody s_Ledger_drop) (defScope s_Ledger_drop) .none kV_Ledger_drop dc_Ledger_drop pm_Ledger_drop an_Ledger_drop cd_Ledger_drop ct_Ledger_drop), sl_Ledger_drop⟩)
    (c_Ledger_drop : PySem.W.codeIn K cd_Ledger_drop "Ledger._drop" = true)
    (k_Ledger_drop : PySem.W.keepIn K (.ref fa_Ledger_drop) = true)
    (a_Ledgerunpin : PySem.W.findIn K (.ref C_Ledger) "unpin" = some (some (.ref fa_Ledgerunpin)))
    (i_Ledgerunpin : PySem.W.isFn K (.ref fa_Ledgerunpin) = true)
    (l_Ledgerunpin : K.lookup fa_Ledgerunpin = some ⟨oc_Ledgerunpin, od_Ledgerunpin, .func (PySem.W.fnOf "unpin" "Ledger.unpin" (defArgs s_Ledgerunpin) (defBody s_Ledgerunpin) (defScope s_Ledgerunpin) .none kV_Ledgerunpin dc_Ledgerunpin pm_Ledgerunpin an_Ledgerunpin cd_Ledgerunpin ct_Ledgerunpin), sl_Ledgerunpin⟩)
    (c_Ledgerunpin : PySem.W.codeIn K cd_Ledgerunpin "Ledger.unpin" = true)
    (k_Ledgerunpin : PySem.W.keepIn K (.ref fa_Ledgerunpin) = true)
    (a_Ledgerraise_floor : PySem.W.findIn K (.ref C_Ledger) "raise_floor" = some (some (.ref fa_Ledgerraise_floor)))
    (i_Ledgerraise_floor : PySem.W.isFn K (.ref fa_Ledgerraise_floor) = true)
    (l_Ledgerraise_floor : K.lookup fa_Ledgerraise_floor = some ⟨oc_Ledgerraise_floor, od_Ledgerraise_floor, .func (PySem.W.fnOf "raise_floor" "Ledger.raise_floor" (defArgs s_Ledgerraise_floor) (defBody s_Ledgerraise_floor) (defScope s_Ledgerraise_floor) .none kV_Ledgerraise_floor dc_Ledgerraise_floor pm_Ledgerraise_floor an_Ledgerraise_floor cd_Ledgerraise_floor ct_Ledgerraise_floor), sl_Ledgerraise_floor⟩)
    (c_Ledgerraise_floor : PySem.W.codeIn K cd_Ledgerraise_floor "Ledger.raise_floor" = true)
    (k_Ledgerraise_floor : PySem.W.keepIn K (.ref fa_Ledgerraise_floor) = true)
    (a_Ledgerpins : PySem.W.findIn K (.ref C_Ledger) "pins" = some (some (.ref pr_Ledgerpins)))
    (pg_Ledgerpins : PySem.W.specialIn K (.ref pr_Ledgerpins) "__get__" = some (some (.builtin "property.__get__")))
    (pt_Ledgerpins : PySem.W.takesIn K (.ref pr_Ledgerpins) = some true)
    (pq_Ledgerpins : PySem.W.recIn K pr_Ledgerpins "property" = some (.ref fa_Ledgerpins :: rest_Ledgerpins))
    (i_Ledgerpins : PySem.W.isFn K (.ref fa_Ledgerpins) = true)
    (l_Ledgerpins : K.lookup fa_Ledgerpins = some ⟨oc_Ledgerpins, od_Ledgerpins, .func (PySem.W.fnOf "pins" "Ledger.pins" (defArgs s_Ledgerpins) (defBody s_Ledgerpins) (defScope s_Ledgerpins) .none kV_Ledgerpins dc_Ledgerpins pm_Ledgerpins an_Ledgerpins cd_Ledgerpins ct_Ledgerpins), sl_Ledgerpins⟩)
    (c_Ledgerpins : PySem.W.codeIn K cd_Ledgerpins "Ledger.pins" = true)
    (k_Ledgerpins : PySem.W.keepIn K (.ref fa_Ledgerpins) = true)
    (a_Ledgerkeeps : PySem.W.findIn K (.ref C_Ledger) "keeps" = some (some (.ref fa_Ledgerkeeps)))
    (i_Ledgerkeeps : PySem.W.isFn K (.ref fa_Ledgerkeeps) = true)
    (l_Ledgerkeeps : K.lookup fa_Ledgerkeeps = some ⟨oc_Ledgerkeeps, od_Ledgerkeeps, .func (PySem.W.fnOf "keeps" "Ledger.keeps" (defArgs s_Ledgerkeeps) (defBody s_Ledgerkeeps) (defScope s_Ledgerkeeps) .none kV_Ledgerkeeps dc_Ledgerkeeps pm_Ledgerkeeps an_Ledgerkeeps cd_Ledgerkeeps ct_Ledgerkeeps), sl_Ledgerkeeps⟩)
    (c_Ledgerkeeps : PySem.W.codeIn K cd_Ledgerkeeps "Ledger.keeps" = true)
    (k_Ledgerkeeps : PySem.W.keepIn K (.ref fa_Ledgerkeeps) = true)
    (a__there_at : PySem.W.nsIn K mainGlobals "_there_at" = some (some (.ref fa__there_at)))
    (l__there_at : K.lookup fa__there_at = some ⟨oc__there_at, od__there_at, .func (PySem.W.fnOf "_there_at" "_there_at" (defArgs s__there_at) (defBody s__there_at) (defScope s__there_at) .none kV__there_at dc__there_at pm__there_at an__there_at cd__there_at ct__there_at), sl__there_at⟩)
    (c__there_at : PySem.W.codeIn K cd__there_at "_there_at" = true)
    (k__there_at : PySem.W.keepIn K (.ref fa__there_at) = true)
    (a_Ledgerreadings : PySem.W.findIn K (.ref C_Ledger) "readings" = some (some (.ref fa_Ledgerreadings)))
    (i_Ledgerreadings : PySem.W.isFn K (.ref fa_Ledgerreadings) = true)
    (l_Ledgerreadings : K.lookup fa_Ledgerreadings = some ⟨oc_Ledgerreadings, od_Ledgerreadings, .func (PySem.W.fnOf "readings" "Ledger.readings" (defArgs s_Ledgerreadings) (defBody s_Ledgerreadings) (defScope s_Ledgerreadings) .none kV_Ledgerreadings dc_Ledgerreadings pm_Ledgerreadings an_Ledgerreadings cd_Ledgerreadings ct_Ledgerreadings), sl_Ledgerreadings⟩)
    (c_Ledgerreadings : PySem.W.codeIn K cd_Ledgerreadings "Ledger.readings" = true)
    (k_Ledgerreadings : PySem.W.keepIn K (.ref fa_Ledgerreadings) = true)
    (a_Reading__eq__ : PySem.W.findIn K (.ref C_Reading) "__eq__" = some (some (.ref fa_Reading__eq__)))
    (i_Reading__eq__ : PySem.W.isFn K (.ref fa_Reading__eq__) = true)
    (l_Reading__eq__ : K.lookup fa_Reading__eq__ = some ⟨oc_Reading__eq__, od_Reading__eq__, .func (PySem.W.fnOf "__eq__" "Reading.__eq__" (defArgs s_Reading__eq__) (defBody s_Reading__eq__) (defScope s_Reading__eq__) .none kV_Reading__eq__ dc_Reading__eq__ pm_Reading__eq__ an_Reading__eq__ cd_Reading__eq__ ct_Reading__eq__), sl_Reading__eq__⟩)
    (c_Reading__eq__ : PySem.W.codeIn K cd_Reading__eq__ "Reading.__eq__" = true)
    (k_Reading__eq__ : PySem.W.keepIn K (.ref fa_Reading__eq__) = true)
    (a__law_there : PySem.W.nsIn K mainGlobals "_law_there" = some (some (.ref fa__law_there)))
    (l__law_there : K.lookup fa__law_there = some ⟨oc__law_there, od__law_there, .func (PySem.W.fnOf "_law_there" "_law_there" (defArgs s__law_there) (defBody s__law_there) (defScope s__law_there) .none kV__law_there dc__law_there pm__law_there an__law_there cd__law_there ct__law_there), sl__law_there⟩)
    (c__law_there : PySem.W.codeIn K cd__law_there "_law_there" = true)
    (k__law_there : PySem.W.keepIn K (.ref fa__law_there) = true)
    (a__law_right : PySem.W.nsIn K mainGlobals "_law_right" = some (some (.ref fa__law_right)))
    (l__law_right : K.lookup fa__law_right = some ⟨oc__law_right, od__law_right, .func (PySem.W.fnOf "_law_right" "_law_right" (defArgs s__law_right) (defBody s__law_right) (defScope s__law_right) .none kV__law_right dc__law_right pm__law_right an__law_right cd__law_right ct__law_right), sl__law_right⟩)
    (c__law_right : PySem.W.codeIn K cd__law_right "_law_right" = true)
    (k__law_right : PySem.W.keepIn K (.ref fa__law_right) = true)
    (a_law : PySem.W.nsIn K mainGlobals "law" = some (some (.ref fa_law)))
    (l_law : K.lookup fa_law = some ⟨oc_law, od_law, .func (PySem.W.fnOf "law" "law" (defArgs s_law) (defBody s_law) (defScope s_law) .none kV_law dc_law pm_law an_law cd_law ct_law), sl_law⟩)
    (c_law : PySem.W.codeIn K cd_law "law" = true)
    (k_law : PySem.W.keepIn K (.ref fa_law) = true)
    (is_sp : PySem.W.specialIn K (.builtin "object.__class__") "__get__" = some (some (.builtin "getset_descriptor.__get__")))
    (is_tk : PySem.W.takesIn K (.builtin "object.__class__") = some true)
    (z_all : PySem.W.nsIn K mainGlobals "all" = some none)
    (z_any : PySem.W.nsIn K mainGlobals "any" = some none)
    (z_int : PySem.W.nsIn K mainGlobals "int" = some none)
    (z_isinstance : PySem.W.nsIn K mainGlobals "isinstance" = some none)
    (z_len : PySem.W.nsIn K mainGlobals "len" = some none)
    (z_list : PySem.W.nsIn K mainGlobals "list" = some none)
    (z_max : PySem.W.nsIn K mainGlobals "max" = some none)
    (z_min : PySem.W.nsIn K mainGlobals "min" = some none)
    (z_range : PySem.W.nsIn K mainGlobals "range" = some none)
    (z_str : PySem.W.nsIn K mainGlobals "str" = some none)
    (g_FAR : PySem.W.nsIn K mainGlobals "FAR" = some (some (.int 1000000000000000 t_FAR)))
    (g_LIMIT : PySem.W.nsIn K mainGlobals "LIMIT" = some (some (.int 1000000000000 t_LIMIT)))
    (g_LONGEST : PySem.W.nsIn K mainGlobals "LONGEST" = some (some (.int 64 t_LONGEST)))
    (g_MOST_BOXES : PySem.W.nsIn K mainGlobals "MOST_BOXES" = some (some (.int 16 t_MOST_BOXES)))
    (g_SIGNS : PySem.W.nsIn K mainGlobals "SIGNS" = some (some (.str "abcdefghijklmnopqrstuvwxyz0123456789_-" t_SIGNS)))
    (g_STEEPEST : PySem.W.nsIn K mainGlobals "STEEPEST" = some (some (.int 1000 t_STEEPEST))) :
    ∃ fd : FuncData, (∀ (s : Shared) (v : Value), BindsTo s fd ⟨[v], []⟩ [("script", v)]) ∧ ∀ base : Heap, K.In base → base.Ns mainGlobals mg → FnOk l.prog w K mg base CX0 10 fa fd ["script"] (spL K F_law) := by
  have e := hfa.symm.trans (PySem.W.mg_of X G a_law)
  cases e
  let cA : Nat → Addr := (fun n => match n with | 14 => C_Ledger | 1 => C_Reading | _ => C_Ledger)
  have T_Ledger : ClsT K C_Ledger ["now", "floor", "_pinned", "_versions", "_there", "source", "moment", "kind", "low", "high", "late", "near"] := ⟨⟨pg_Ledger, hd_Ledger, po_Ledger, sa_Ledger⟩, by simp only [List.forall_mem_cons, List.not_mem_nil, false_implies, implies_true, and_true]; exact ⟨na_Ledger_now, na_Ledger_floor, na_Ledger__pinned, na_Ledger__versions, na_Ledger__there, na_Ledger_source, na_Ledger_moment, na_Ledger_kind, na_Ledger_low, na_Ledger_high, na_Ledger_late, na_Ledger_near⟩⟩
  have mC_Ledger : mg "Ledger" = some (.ref (cA 14)) := PySem.W.mg_of X G aC_Ledger
  have T_Reading : ClsT K C_Reading ["now", "floor", "_pinned", "_versions", "_there", "source", "moment", "kind", "low", "high", "late", "near"] := ⟨⟨pg_Reading, hd_Reading, po_Reading, sa_Reading⟩, by simp only [List.forall_mem_cons, List.not_mem_nil, false_implies, implies_true, and_true]; exact ⟨na_Reading_now, na_Reading_floor, na_Reading__pinned, na_Reading__versions, na_Reading__there, na_Reading_source, na_Reading_moment, na_Reading_kind, na_Reading_low, na_Reading_high, na_Reading_late, na_Reading_near⟩⟩
  have mC_Reading : mg "Reading" = some (.ref (cA 1)) := PySem.W.mg_of X G aC_Reading
  have T : ∀ c, ClsT K ((fun n => match n with | 14 => C_Ledger | 1 => C_Reading | _ => C_Ledger) c) ["now", "floor", "_pinned", "_versions", "_there", "source", "moment", "kind", "low", "high", "late", "near"] := fun c => by dsimp only; split <;> first | exact T_Ledger | exact T_Reading
  have U_Reading : Isi K (cA 1) := ⟨ic_Reading, is_sp, is_tk, io_Reading⟩
  have fu__law_rows := fun_mk (st := s__law_rows) l__law_rows c__law_rows k__law_rows
  have b__law_rows := fu__law_rows.binds (ps := ["script", "count"]) fun _ _ _ _ _ _ us hl => match us, hl with | [_, _], _ => rfl
  have m__law_rows := PySem.W.mg_of X G a__law_rows
  have fu_Ledger__init__ := fun_mk (st := s_Ledger__init__) l_Ledger__init__ c_Ledger__init__ k_Ledger__init__
  have b_Ledger__init__ := fu_Ledger__init__.binds (ps := ["self"]) fun _ _ _ _ _ _ us hl => match us, hl with | [_], _ => rfl
  have M_Ledger : Mk K (cA 14) fa_Ledger__init__ := ⟨mk_Ledger, a_Ledger__init__, i_Ledger__init__, kc_Ledger⟩
  have fu_is_name := fun_mk (st := s_is_name) l_is_name c_is_name k_is_name
  have b_is_name := fu_is_name.binds (ps := ["text"]) fun _ _ _ _ _ _ us hl => match us, hl with | [_], _ => rfl
  have m_is_name := PySem.W.mg_of X G a_is_name
  have fu_all_within := fun_mk (st := s_all_within) l_all_within c_all_within k_all_within
  have b_all_within := fu_all_within.binds (ps := ["numbers", "low", "high"]) fun _ _ _ _ _ _ us hl => match us, hl with | [_, _, _], _ => rfl
  have m_all_within := PySem.W.mg_of X G a_all_within
  have fu__direction_holds := fun_mk (st := s__direction_holds) l__direction_holds c__direction_holds k__direction_holds
  have b__direction_holds := fu__direction_holds.binds (ps := ["direction"]) fun _ _ _ _ _ _ us hl => match us, hl with | [_], _ => rfl
  have m__direction_holds := PySem.W.mg_of X G a__direction_holds
  have fu_sides_within := fun_mk (st := s_sides_within) l_sides_within c_sides_within k_sides_within
  have b_sides_within := fu_sides_within.binds (ps := ["sides", "limit"]) fun _ _ _ _ _ _ us hl => match us, hl with | [_, _], _ => rfl
  have m_sides_within := PySem.W.mg_of X G a_sides_within
  have fu__boxes_hold := fun_mk (st := s__boxes_hold) l__boxes_hold c__boxes_hold k__boxes_hold
  have b__boxes_hold := fu__boxes_hold.binds (ps := ["boxes"]) fun _ _ _ _ _ _ us hl => match us, hl with | [_], _ => rfl
  have m__boxes_hold := PySem.W.mg_of X G a__boxes_hold
  have fu__kind_holds := fun_mk (st := s__kind_holds) l__kind_holds c__kind_holds k__kind_holds
  have b__kind_holds := fu__kind_holds.binds (ps := ["kind"]) fun _ _ _ _ _ _ us hl => match us, hl with | [_], _ => rfl
  have m__kind_holds := PySem.W.mg_of X G a__kind_holds
  have fu_Reading__init__ := fun_mk (st := s_Reading__init__) l_Reading__init__ c_Reading__init__ k_Reading__init__
  have M_Reading : Mk K (cA 1) fa_Reading__init__ := ⟨mk_Reading, a_Reading__init__, i_Reading__init__, kc_Reading⟩
  have fu__law_value_of := fun_mk (st := s__law_value_of) l__law_value_of c__law_value_of k__law_value_of
  have b__law_value_of := fu__law_value_of.binds (ps := ["row"]) fun _ _ _ _ _ _ us hl => match us, hl with | [_], _ => rfl
  have m__law_value_of := PySem.W.mg_of X G a__law_value_of
  have fu_Ledgerput := fun_mk (st := s_Ledgerput) l_Ledgerput c_Ledgerput k_Ledgerput
  have b_Ledgerput := fu_Ledgerput.binds (ps := ["self", "reading"]) fun _ _ _ _ _ _ us hl => match us, hl with | [_, _], _ => rfl
  have me_Ledgerput : Meth K (cA 14) "put" fa_Ledgerput := ⟨a_Ledgerput, i_Ledgerput, k_Ledgerput⟩
  have fu_Ledger_end := fun_mk (st := s_Ledger_end) l_Ledger_end c_Ledger_end k_Ledger_end
  have b_Ledger_end := fu_Ledger_end.binds (ps := ["self", "number"]) fun _ _ _ _ _ _ us hl => match us, hl with | [_, _], _ => rfl
  have me_Ledger_end : Meth K (cA 14) "_end" fa_Ledger_end := ⟨a_Ledger_end, i_Ledger_end, k_Ledger_end⟩
  have fu_Ledgercorrect := fun_mk (st := s_Ledgercorrect) l_Ledgercorrect c_Ledgercorrect k_Ledgercorrect
  have b_Ledgercorrect := fu_Ledgercorrect.binds (ps := ["self", "number", "reading"]) fun _ _ _ _ _ _ us hl => match us, hl with | [_, _, _], _ => rfl
  have me_Ledgercorrect : Meth K (cA 14) "correct" fa_Ledgercorrect := ⟨a_Ledgercorrect, i_Ledgercorrect, k_Ledgercorrect⟩
  have fu_Ledgerwithdraw := fun_mk (st := s_Ledgerwithdraw) l_Ledgerwithdraw c_Ledgerwithdraw k_Ledgerwithdraw
  have b_Ledgerwithdraw := fu_Ledgerwithdraw.binds (ps := ["self", "number"]) fun _ _ _ _ _ _ us hl => match us, hl with | [_, _], _ => rfl
  have me_Ledgerwithdraw : Meth K (cA 14) "withdraw" fa_Ledgerwithdraw := ⟨a_Ledgerwithdraw, i_Ledgerwithdraw, k_Ledgerwithdraw⟩
  have fu__law_turn_of := fun_mk (st := s__law_turn_of) l__law_turn_of c__law_turn_of k__law_turn_of
  have b__law_turn_of := fu__law_turn_of.binds (ps := ["ledger", "states", "row"]) fun _ _ _ _ _ _ us hl => match us, hl with | [_, _, _], _ => rfl
  have m__law_turn_of := PySem.W.mg_of X G a__law_turn_of
  have fu_Ledgerpin := fun_mk (st := s_Ledgerpin) l_Ledgerpin c_Ledgerpin k_Ledgerpin
  have b_Ledgerpin := fu_Ledgerpin.binds (ps := ["self"]) fun _ _ _ _ _ _ us hl => match us, hl with | [_], _ => rfl
  have me_Ledgerpin : Meth K (cA 14) "pin" fa_Ledgerpin := ⟨a_Ledgerpin, i_Ledgerpin, k_Ledgerpin⟩
  have fu_was_kept := fun_mk (st := s_was_kept) l_was_kept c_was_kept k_was_kept
  have b_was_kept := fu_was_kept.binds (ps := ["floor", "pins", "version"]) fun _ _ _ _ _ _ us hl => match us, hl with | [_, _, _], _ => rfl
  have m_was_kept := PySem.W.mg_of X G a_was_kept
  have fu_Ledger_drop := fun_mk (st := s_Ledger_drop) l_Ledger_drop c_Ledger_drop k_Ledger_drop
  have b_Ledger_drop := fu_Ledger_drop.binds (ps := ["self"]) fun _ _ _ _ _ _ us hl => match us, hl with | [_], _ => rfl
  have me_Ledger_drop : Meth K (cA 14) "_drop" fa_Ledger_drop := ⟨a_Ledger_drop, i_Ledger_drop, k_Ledger_drop⟩
  have fu_Ledgerunpin := fun_mk (st := s_Ledgerunpin) l_Ledgerunpin c_Ledgerunpin k_Ledgerunpin
  have b_Ledgerunpin := fu_Ledgerunpin.binds (ps := ["self", "moment"]) fun _ _ _ _ _ _ us hl => match us, hl with | [_, _], _ => rfl
  have me_Ledgerunpin : Meth K (cA 14) "unpin" fa_Ledgerunpin := ⟨a_Ledgerunpin, i_Ledgerunpin, k_Ledgerunpin⟩
  have fu_Ledgerraise_floor := fun_mk (st := s_Ledgerraise_floor) l_Ledgerraise_floor c_Ledgerraise_floor k_Ledgerraise_floor
  have b_Ledgerraise_floor := fu_Ledgerraise_floor.binds (ps := ["self", "moment"]) fun _ _ _ _ _ _ us hl => match us, hl with | [_, _], _ => rfl
  have me_Ledgerraise_floor : Meth K (cA 14) "raise_floor" fa_Ledgerraise_floor := ⟨a_Ledgerraise_floor, i_Ledgerraise_floor, k_Ledgerraise_floor⟩
  have fu_Ledgerpins := fun_mk (st := s_Ledgerpins) l_Ledgerpins c_Ledgerpins k_Ledgerpins
  have b_Ledgerpins := fu_Ledgerpins.binds (ps := ["self"]) fun _ _ _ _ _ _ us hl => match us, hl with | [_], _ => rfl
  have me_Ledgerpins : PropOf K (cA 14) "pins" pr_Ledgerpins fa_Ledgerpins := ⟨a_Ledgerpins, pg_Ledgerpins, pt_Ledgerpins, ⟨_, pq_Ledgerpins⟩⟩
  have fu_Ledgerkeeps := fun_mk (st := s_Ledgerkeeps) l_Ledgerkeeps c_Ledgerkeeps k_Ledgerkeeps
  have b_Ledgerkeeps := fu_Ledgerkeeps.binds (ps := ["self", "moment"]) fun _ _ _ _ _ _ us hl => match us, hl with | [_, _], _ => rfl
  have me_Ledgerkeeps : Meth K (cA 14) "keeps" fa_Ledgerkeeps := ⟨a_Ledgerkeeps, i_Ledgerkeeps, k_Ledgerkeeps⟩
  have fu__there_at := fun_mk (st := s__there_at) l__there_at c__there_at k__there_at
  have b__there_at := fu__there_at.binds (ps := ["versions", "moment"]) fun _ _ _ _ _ _ us hl => match us, hl with | [_, _], _ => rfl
  have m__there_at := PySem.W.mg_of X G a__there_at
  have fu_Ledgerreadings := fun_mk (st := s_Ledgerreadings) l_Ledgerreadings c_Ledgerreadings k_Ledgerreadings
  have b_Ledgerreadings := fu_Ledgerreadings.binds (ps := ["self", "moment"]) fun _ _ _ _ _ _ us hl => match us, hl with | [_, _], _ => rfl
  have me_Ledgerreadings : Meth K (cA 14) "readings" fa_Ledgerreadings := ⟨a_Ledgerreadings, i_Ledgerreadings, k_Ledgerreadings⟩
  have fu_Reading__eq__ := fun_mk (st := s_Reading__eq__) l_Reading__eq__ c_Reading__eq__ k_Reading__eq__
  have b_Reading__eq__ := fu_Reading__eq__.binds (ps := ["self", "other"]) fun _ _ _ _ _ _ us hl => match us, hl with | [_, _], _ => rfl
  have me_Reading__eq__ : Meth K (cA 1) "__eq__" fa_Reading__eq__ := ⟨a_Reading__eq__, i_Reading__eq__, k_Reading__eq__⟩
  have fu__law_there := fun_mk (st := s__law_there) l__law_there c__law_there k__law_there
  have b__law_there := fu__law_there.binds (ps := ["states", "moment"]) fun _ _ _ _ _ _ us hl => match us, hl with | [_, _], _ => rfl
  have m__law_there := PySem.W.mg_of X G a__law_there
  have fu__law_right := fun_mk (st := s__law_right) l__law_right c__law_right k__law_right
  have b__law_right := fu__law_right.binds (ps := ["ledger", "states", "floor", "pins"]) fun _ _ _ _ _ _ us hl => match us, hl with | [_, _, _, _], _ => rfl
  have m__law_right := PySem.W.mg_of X G a__law_right
  have fu_law := fun_mk (st := s_law) l_law c_law k_law
  have kb_Reading__init___4_4 := kbA fu_Reading__init__ (ps := ["self", "source", "moment", "kind", "low", "high", "late", "near"]) 4 ["low", "high", "late", "near"] fun _ _ _ _ _ _ us ws h1 h2 => match us, h1, ws, h2 with | [_, _, _, _], _, [_, _, _, _], _ => rfl
  have mz_all := PySem.W.mg_none_of X G z_all
  have mz_any := PySem.W.mg_none_of X G z_any
  have mz_int := PySem.W.mg_none_of X G z_int
  have mz_isinstance := PySem.W.mg_none_of X G z_isinstance
  have mz_len := PySem.W.mg_none_of X G z_len
  have mz_list := PySem.W.mg_none_of X G z_list
  have mz_max := PySem.W.mg_none_of X G z_max
  have mz_min := PySem.W.mg_none_of X G z_min
  have mz_range := PySem.W.mg_none_of X G z_range
  have mz_str := PySem.W.mg_none_of X G z_str
  have mg_FAR := PySem.W.mg_of X G g_FAR
  have mg_LIMIT := PySem.W.mg_of X G g_LIMIT
  have mg_LONGEST := PySem.W.mg_of X G g_LONGEST
  have mg_MOST_BOXES := PySem.W.mg_of X G g_MOST_BOXES
  have mg_SIGNS := PySem.W.mg_of X G g_SIGNS
  have mg_STEEPEST := PySem.W.mg_of X G g_STEEPEST
  refine ⟨PySem.W.fnOf "law" "law" (defArgs s_law) (defBody s_law) (defScope s_law) .none kV_law dc_law pm_law an_law cd_law ct_law, fun s v => .of_eq rfl, fun base _ _ => ?_⟩
  have o__law_rows := ok__law_rows (P := l.prog) (w := w) (mg := mg) (base := base) (cA := cA) fu__law_rows mz_int mz_len mz_range
  have o_Ledger__init__ := ok_Ledger__init__ (P := l.prog) (w := w) (mg := mg) (base := base) (cA := cA) fu_Ledger__init__ T
  have o_is_name := ok_is_name (P := l.prog) (w := w) (mg := mg) (base := base) (cA := cA) fu_is_name mz_all mz_len mg_LONGEST mg_SIGNS
  have o_all_within := ok_all_within (P := l.prog) (w := w) (mg := mg) (base := base) (cA := cA) fu_all_within mz_all
  have o__direction_holds := ok__direction_holds (P := l.prog) (w := w) (mg := mg) (base := base) (cA := cA) fu__direction_holds o_all_within b_all_within m_all_within k_all_within mz_any mg_STEEPEST
  have o_sides_within := ok_sides_within (P := l.prog) (w := w) (mg := mg) (base := base) (cA := cA) fu_sides_within mz_all
  have o__boxes_hold := ok__boxes_hold (P := l.prog) (w := w) (mg := mg) (base := base) (cA := cA) fu__boxes_hold o_sides_within b_sides_within m_sides_within k_sides_within mz_all mz_len mg_LIMIT mg_MOST_BOXES
  have o__kind_holds := ok__kind_holds (P := l.prog) (w := w) (mg := mg) (base := base) (cA := cA) fu__kind_holds o_all_within b_all_within m_all_within k_all_within o__direction_holds b__direction_holds m__direction_holds k__direction_holds o__boxes_hold b__boxes_hold m__boxes_hold k__boxes_hold mz_all mg_LIMIT
  have o_Reading__init__ := ok_Reading__init__ (P := l.prog) (w := w) (mg := mg) (base := base) (cA := cA) fu_Reading__init__ T o_is_name b_is_name m_is_name k_is_name o__kind_holds b__kind_holds m__kind_holds k__kind_holds o_all_within b_all_within m_all_within k_all_within mg_FAR mg_LIMIT
  have o__law_value_of := ok__law_value_of (P := l.prog) (w := w) (mg := mg) (base := base) (cA := cA) fu__law_value_of T o_Reading__init__ M_Reading mC_Reading kb_Reading__init___4_4 mz_int mz_str
  have o_Ledgerput := ok_Ledgerput (P := l.prog) (w := w) (mg := mg) (base := base) (cA := cA) fu_Ledgerput T
  have o_Ledger_end := ok_Ledger_end (P := l.prog) (w := w) (mg := mg) (base := base) (cA := cA) fu_Ledger_end T
  have o_Ledgercorrect := ok_Ledgercorrect (P := l.prog) (w := w) (mg := mg) (base := base) (cA := cA) fu_Ledgercorrect T o_Ledger_end b_Ledger_end me_Ledger_end
  have o_Ledgerwithdraw := ok_Ledgerwithdraw (P := l.prog) (w := w) (mg := mg) (base := base) (cA := cA) fu_Ledgerwithdraw T o_Ledger_end b_Ledger_end me_Ledger_end
  have o__law_turn_of := ok__law_turn_of (P := l.prog) (w := w) (mg := mg) (base := base) (cA := cA) fu__law_turn_of T o__law_value_of b__law_value_of m__law_value_of k__law_value_of o_Ledgerput b_Ledgerput me_Ledgerput o_Ledgercorrect b_Ledgercorrect me_Ledgercorrect o_Ledgerwithdraw b_Ledgerwithdraw me_Ledgerwithdraw mz_int mz_len
  have o_Ledgerpin := ok_Ledgerpin (P := l.prog) (w := w) (mg := mg) (base := base) (cA := cA) fu_Ledgerpin T
  have o_was_kept := ok_was_kept (P := l.prog) (w := w) (mg := mg) (base := base) (cA := cA) fu_was_kept mz_any
  have o_Ledger_drop := ok_Ledger_drop (P := l.prog) (w := w) (mg := mg) (base := base) (cA := cA) fu_Ledger_drop T o_was_kept b_was_kept m_was_kept k_was_kept mz_list
  have o_Ledgerunpin := ok_Ledgerunpin (P := l.prog) (w := w) (mg := mg) (base := base) (cA := cA) fu_Ledgerunpin T o_Ledger_drop b_Ledger_drop me_Ledger_drop
  have o_Ledgerraise_floor := ok_Ledgerraise_floor (P := l.prog) (w := w) (mg := mg) (base := base) (cA := cA) fu_Ledgerraise_floor T o_Ledger_drop b_Ledger_drop me_Ledger_drop mz_max mz_min
  have o_Ledgerpins := ok_Ledgerpins (P := l.prog) (w := w) (mg := mg) (base := base) (cA := cA) fu_Ledgerpins T mz_list
  have o_Ledgerkeeps := ok_Ledgerkeeps (P := l.prog) (w := w) (mg := mg) (base := base) (cA := cA) fu_Ledgerkeeps T
  have o__there_at := ok__there_at (P := l.prog) (w := w) (mg := mg) (base := base) (cA := cA) fu__there_at
  have o_Ledgerreadings := ok_Ledgerreadings (P := l.prog) (w := w) (mg := mg) (base := base) (cA := cA) fu_Ledgerreadings T o_Ledgerkeeps b_Ledgerkeeps me_Ledgerkeeps o__there_at b__there_at m__there_at k__there_at mz_list
  have o_Reading__eq__ := ok_Reading__eq__ (P := l.prog) (w := w) (mg := mg) (base := base) (cA := cA) fu_Reading__eq__ T mC_Reading U_Reading mz_isinstance
  have o__law_there := ok__law_there (P := l.prog) (w := w) (mg := mg) (base := base) (cA := cA) fu__law_there
  have o__law_right := ok__law_right (P := l.prog) (w := w) (mg := mg) (base := base) (cA := cA) fu__law_right T o_Ledgerpins b_Ledgerpins me_Ledgerpins o_Ledgerkeeps b_Ledgerkeeps me_Ledgerkeeps o_Ledgerreadings b_Ledgerreadings me_Ledgerreadings o_Reading__eq__ b_Reading__eq__ me_Reading__eq__ o__law_there b__law_there m__law_there k__law_there mz_isinstance mz_len mz_list mz_range
  exact (ok_law (cA := cA) fu_law T o__law_rows b__law_rows m__law_rows k__law_rows o_Ledger__init__ b_Ledger__init__ M_Ledger mC_Ledger o__law_turn_of b__law_turn_of m__law_turn_of k__law_turn_of o_Ledgerpin b_Ledgerpin me_Ledgerpin o_Ledgerunpin b_Ledgerunpin me_Ledgerunpin o_Ledgerraise_floor b_Ledgerraise_floor me_Ledgerraise_floor o__law_right b__law_right m__law_right k__law_right mz_int mz_len mz_max mz_min).imp fun vs H Q E h => spL_imp (g := (gg K cA)) h
end Pg
noncomputable section
namespace Hd
open PySem PySem.W PySem.Calls PyProof.Rows L2
set_option maxHeartbeats 0
abbrev P : Program := PySem.Challenge.pw_sureplace_k62_a_ledger_tells_every_kept
def g3_0 (W : Params) : List DictEntry := [⟨PyData.keyHash W "__name__", (.str "__name__" 165), (.str "law_sureplace_k62_a_ledger_tells_every_kept" 538)⟩, ⟨PyData.keyHash W "__doc__", (.str "__doc__" 166), .none⟩, ⟨PyData.keyHash W "__package__", (.str "__package__" 167), .none⟩, ⟨PyData.keyHash W "__loader__", (.str "__loader__" 168), (.builtin "__main__.__loader__#opaque")⟩, ⟨PyData.keyHash W "__spec__", (.str "__spec__" 169), .none⟩, ⟨PyData.keyHash W "__annotations__", (.str "__annotations__" 170), (.ref 6)⟩, ⟨PyData.keyHash W "__builtins__", (.str "__builtins__" 171), (.ref 4)⟩, ⟨PyData.keyHash W "__file__", (.str "__file__" 173), (.str "/claim/cut.py" 172)⟩, ⟨PyData.keyHash W "__cached__", (.str "__cached__" 174), .none⟩, ⟨PyData.keyHash W "_wall", (.str "_wall" 193), (.ref 21)⟩, ⟨PyData.keyHash W "SurePlaceError", (.str "SurePlaceError" 224), (.ref 41)⟩, ⟨PyData.keyHash W "InvalidReading", (.str "InvalidReading" 240), (.ref 54)⟩, ⟨PyData.keyHash W "UnknownMoment", (.str "UnknownMoment" 256), (.ref 66)⟩, ⟨PyData.keyHash W "NotPinned", (.str "NotPinned" 272), (.ref 78)⟩, ⟨PyData.keyHash W "_there_at", (.str "_there_at" 285), (.ref 87)⟩, ⟨PyData.keyHash W "was_kept", (.str "was_kept" 291), (.ref 92)⟩, ⟨PyData.keyHash W "Ledger", (.str "Ledger" 425), (.ref 196)⟩, ⟨PyData.keyHash W "SIGNS", (.str "SIGNS" 429), (.str "abcdefghijklmnopqrstuvwxyz0123456789_-" 428)⟩, ⟨PyData.keyHash W "LONGEST", (.str "LONGEST" 431), (.int (64) 430)⟩, ⟨PyData.keyHash W "is_name", (.str "is_name" 437), (.ref 205)⟩, ⟨PyData.keyHash W "LIMIT", (.str "LIMIT" 443), (.int (1000000000000) 442)⟩, ⟨PyData.keyHash W "all_within", (.str "all_within" 449), (.ref 210)⟩, ⟨PyData.keyHash W "sides_within", (.str "sides_within" 455), (.ref 215)⟩, ⟨PyData.keyHash W "FAR", (.str "FAR" 461), (.int (1000000000000000) 460)⟩, ⟨PyData.keyHash W "STEEPEST", (.str "STEEPEST" 463), (.int (1000) 462)⟩, ⟨PyData.keyHash W "MOST_BOXES", (.str "MOST_BOXES" 465), (.int (16) 464)⟩, ⟨PyData.keyHash W "_direction_holds", (.str "_direction_holds" 471), (.ref 220)⟩, ⟨PyData.keyHash W "_boxes_hold", (.str "_boxes_hold" 477), (.ref 225)⟩, ⟨PyData.keyHash W "_kind_holds", (.str "_kind_holds" 483), (.ref 230)⟩, ⟨PyData.keyHash W "Reading", (.str "Reading" 537), (.ref 255)⟩, ⟨PyData.keyHash W "_law_rows", (.str "_law_rows" 550), (.ref 266)⟩, ⟨PyData.keyHash W "_law_value_of", (.str "_law_value_of" 559), (.ref 273)⟩, ⟨PyData.keyHash W "_law_there", (.str "_law_there" 565), (.ref 278)⟩, ⟨PyData.keyHash W "_law_turn_of", (.str "_law_turn_of" 571), (.ref 283)⟩, ⟨PyData.keyHash W "_law_right", (.str "_law_right" 585), (.ref 290)⟩, ⟨PyData.keyHash W "law", (.str "law" 599), (.ref 297)⟩]
def g3 (W : Params) : List DictEntry := g3_0 W
def g12_0 : List Value := [(.int (1) 0), (.int (0) 0), (.ref 20), (.int (5) 0), (.int (0) 0), (.ref 28), (.int (9) 0), (.int (0) 0), (.ref 50), (.int (11) 0), (.int (0) 0), (.ref 62), (.int (13) 0), (.int (0) 0), (.ref 74), (.int (16) 0), (.int (0) 0), (.ref 86), (.int (21) 0), (.int (0) 0), (.ref 91), (.int (24) 0), (.int (0) 0), (.ref 98), (.int (108) 0), (.int (0) 0), (.ref 204), (.int (112) 0), (.int (0) 0), (.ref 209), (.int (114) 0), (.int (0) 0), (.ref 214), (.int (120) 0), (.int (0) 0), (.ref 219), (.int (122) 0), (.int (0) 0), (.ref 224), (.int (124) 0)]
def g12_1 : List Value := [(.int (0) 0), (.ref 229), (.int (130) 0), (.int (0) 0), (.ref 236), (.int (154) 0), (.int (0) 0), (.ref 265), (.int (167) 0), (.int (0) 0), (.ref 272), (.int (171) 0), (.int (0) 0), (.ref 277), (.int (173) 0), (.int (0) 0), (.ref 282), (.int (193) 0), (.int (0) 0), (.ref 289), (.int (207) 0), (.int (0) 0), (.ref 296)]
def g12 : List Value := g12_0 ++ g12_1
def o0 (W : Params) : Obj := ⟨(.type "dict"), none, (.dict #[⟨PyData.keyHash W "__name__", (.str "__name__" 1), (.str "builtins" 160)⟩, ⟨PyData.keyHash W "__doc__", (.str "__doc__" 2), (.builtin "builtins.__doc__:str#opaque")⟩, ⟨PyData.keyHash W "__package__", (.str "__package__" 3), (.builtin "builtins.__package__:str#opaque")⟩, ⟨PyData.keyHash W "__loader__", (.str "__loader__" 4), (.builtin "builtins.__loader__:shared#opaque")⟩, ⟨PyData.keyHash W "__spec__", (.str "__spec__" 5), (.builtin "builtins.__spec__#opaque")⟩, ⟨PyData.keyHash W "__build_class__", (.str "__build_class__" 6), (.builtin "__build_class__")⟩, ⟨PyData.keyHash W "__\x69mport__", (.str "__\x69mport__" 7), (.builtin "__\x69mport__")⟩, ⟨PyData.keyHash W "abs", (.str "abs" 8), (.builtin "abs")⟩, ⟨PyData.keyHash W "all", (.str "all" 9), (.builtin "all")⟩, ⟨PyData.keyHash W "any", (.str "any" 10), (.builtin "any")⟩, ⟨PyData.keyHash W "ascii", (.str "ascii" 11), (.builtin "ascii")⟩, ⟨PyData.keyHash W "bin", (.str "bin" 12), (.builtin "bin")⟩, ⟨PyData.keyHash W "breakpoint", (.str "breakpoint" 13), (.builtin "breakpoint")⟩, ⟨PyData.keyHash W "callable", (.str "callable" 14), (.builtin "callable")⟩, ⟨PyData.keyHash W "chr", (.str "chr" 15), (.builtin "chr")⟩, ⟨PyData.keyHash W "compile", (.str "compile" 16), (.builtin "compile")⟩, ⟨PyData.keyHash W "delattr", (.str "delattr" 17), (.builtin "delattr")⟩, ⟨PyData.keyHash W "dir", (.str "dir" 18), (.builtin "dir")⟩, ⟨PyData.keyHash W "divmod", (.str "divmod" 19), (.builtin "divmod")⟩, ⟨PyData.keyHash W "eval", (.str "eval" 20), (.builtin "eval")⟩, ⟨PyData.keyHash W "exec", (.str "exec" 21), (.builtin "exec")⟩, ⟨PyData.keyHash W "format", (.str "format" 22), (.builtin "format")⟩, ⟨PyData.keyHash W "getattr", (.str "getattr" 23), (.builtin "getattr")⟩, ⟨PyData.keyHash W "globals", (.str "globals" 24), (.builtin "globals")⟩, ⟨PyData.keyHash W "hasattr", (.str "hasattr" 25), (.builtin "hasattr")⟩, ⟨PyData.keyHash W "hash", (.str "hash" 26), (.builtin "hash")⟩, ⟨PyData.keyHash W "hex", (.str "hex" 27), (.builtin "hex")⟩, ⟨PyData.keyHash W "id", (.str "id" 28), (.builtin "id")⟩, ⟨PyData.keyHash W "input", (.str "input" 29), (.builtin "input")⟩, ⟨PyData.keyHash W "isinstance", (.str "isinstance" 30), (.builtin "isinstance")⟩, ⟨PyData.keyHash W "issubclass", (.str "issubclass" 31), (.builtin "issubclass")⟩, ⟨PyData.keyHash W "iter", (.str "iter" 32), (.builtin "iter")⟩, ⟨PyData.keyHash W "aiter", (.str "aiter" 33), (.builtin "aiter")⟩, ⟨PyData.keyHash W "len", (.str "len" 34), (.builtin "len")⟩, ⟨PyData.keyHash W "locals", (.str "locals" 35), (.builtin "locals")⟩, ⟨PyData.keyHash W "max", (.str "max" 36), (.builtin "max")⟩, ⟨PyData.keyHash W "min", (.str "min" 37), (.builtin "min")⟩, ⟨PyData.keyHash W "next", (.str "next" 38), (.builtin "next")⟩, ⟨PyData.keyHash W "anext", (.str "anext" 39), (.builtin "anext")⟩, ⟨PyData.keyHash W "oct", (.str "oct" 40), (.builtin "oct")⟩, ⟨PyData.keyHash W "ord", (.str "ord" 41), (.builtin "ord")⟩, ⟨PyData.keyHash W "pow", (.str "pow" 42), (.builtin "pow")⟩, ⟨PyData.keyHash W "print", (.str "print" 43), (.builtin "print")⟩, ⟨PyData.keyHash W "repr", (.str "repr" 44), (.builtin "repr")⟩, ⟨PyData.keyHash W "round", (.str "round" 45), (.builtin "round")⟩, ⟨PyData.keyHash W "setattr", (.str "setattr" 46), (.builtin "setattr")⟩, ⟨PyData.keyHash W "sorted", (.str "sorted" 47), (.builtin "sorted")⟩, ⟨PyData.keyHash W "sum", (.str "sum" 48), (.builtin "sum")⟩, ⟨PyData.keyHash W "vars", (.str "vars" 49), (.builtin "vars")⟩, ⟨PyData.keyHash W "None", (.str "None" 50), .none⟩, ⟨PyData.keyHash W "Ellipsis", (.str "Ellipsis" 51), .ellipsis⟩, ⟨PyData.keyHash W "NotImplemented", (.str "NotImplemented" 52), .notImplemented⟩, ⟨PyData.keyHash W "False", (.str "False" 53), (.bool false)⟩, ⟨PyData.keyHash W "True", (.str "True" 54), (.bool true)⟩, ⟨PyData.keyHash W "bool", (.str "bool" 55), (.type "bool")⟩, ⟨PyData.keyHash W "memoryview", (.str "memoryview" 56), (.type "memoryview")⟩, ⟨PyData.keyHash W "bytearray", (.str "bytearray" 57), (.type "bytearray")⟩, ⟨PyData.keyHash W "bytes", (.str "bytes" 58), (.type "bytes")⟩, ⟨PyData.keyHash W "classmethod", (.str "classmethod" 59), (.type "classmethod")⟩, ⟨PyData.keyHash W "complex", (.str "complex" 60), (.type "complex")⟩, ⟨PyData.keyHash W "dict", (.str "dict" 61), (.type "dict")⟩, ⟨PyData.keyHash W "enumerate", (.str "enumerate" 62), (.type "enumerate")⟩, ⟨PyData.keyHash W "filter", (.str "filter" 63), (.type "filter")⟩, ⟨PyData.keyHash W "float", (.str "float" 64), (.type "float")⟩, ⟨PyData.keyHash W "frozenset", (.str "frozenset" 65), (.type "frozenset")⟩, ⟨PyData.keyHash W "property", (.str "property" 66), (.type "property")⟩, ⟨PyData.keyHash W "int", (.str "int" 67), (.type "int")⟩, ⟨PyData.keyHash W "list", (.str "list" 68), (.type "list")⟩, ⟨PyData.keyHash W "map", (.str "map" 69), (.type "map")⟩, ⟨PyData.keyHash W "object", (.str "object" 70), (.type "object")⟩, ⟨PyData.keyHash W "range", (.str "range" 71), (.type "range")⟩, ⟨PyData.keyHash W "reversed", (.str "reversed" 72), (.type "reversed")⟩, ⟨PyData.keyHash W "set", (.str "set" 73), (.type "set")⟩, ⟨PyData.keyHash W "slice", (.str "slice" 74), (.type "slice")⟩, ⟨PyData.keyHash W "staticmethod", (.str "staticmethod" 75), (.type "staticmethod")⟩, ⟨PyData.keyHash W "str", (.str "str" 76), (.type "str")⟩, ⟨PyData.keyHash W "super", (.str "super" 77), (.type "super")⟩, ⟨PyData.keyHash W "tuple", (.str "tuple" 78), (.type "tuple")⟩, ⟨PyData.keyHash W "type", (.str "type" 79), (.type "type")⟩, ⟨PyData.keyHash W "zip", (.str "zip" 80), (.type "zip")⟩, ⟨PyData.keyHash W "__debug__", (.str "__debug__" 81), (.bool true)⟩, ⟨PyData.keyHash W "BaseException", (.str "BaseException" 82), (.type "BaseException")⟩, ⟨PyData.keyHash W "BaseExceptionGroup", (.str "BaseExceptionGroup" 83), (.type "BaseExceptionGroup")⟩, ⟨PyData.keyHash W "Exception", (.str "Exception" 84), (.type "Exception")⟩, ⟨PyData.keyHash W "GeneratorExit", (.str "GeneratorExit" 85), (.type "GeneratorExit")⟩, ⟨PyData.keyHash W "KeyboardInterrupt", (.str "KeyboardInterrupt" 86), (.type "KeyboardInterrupt")⟩, ⟨PyData.keyHash W "SystemExit", (.str "SystemExit" 87), (.type "SystemExit")⟩, ⟨PyData.keyHash W "ArithmeticError", (.str "ArithmeticError" 88), (.type "ArithmeticError")⟩, ⟨PyData.keyHash W "AssertionError", (.str "AssertionError" 89), (.type "AssertionError")⟩, ⟨PyData.keyHash W "AttributeError", (.str "AttributeError" 90), (.type "AttributeError")⟩, ⟨PyData.keyHash W "BufferError", (.str "BufferError" 91), (.type "BufferError")⟩, ⟨PyData.keyHash W "EOFError", (.str "EOFError" 92), (.type "EOFError")⟩, ⟨PyData.keyHash W "ImportError", (.str "ImportError" 93), (.type "ImportError")⟩, ⟨PyData.keyHash W "LookupError", (.str "LookupError" 94), (.type "LookupError")⟩, ⟨PyData.keyHash W "MemoryError", (.str "MemoryError" 95), (.type "MemoryError")⟩, ⟨PyData.keyHash W "NameError", (.str "NameError" 96), (.type "NameError")⟩, ⟨PyData.keyHash W "OSError", (.str "OSError" 97), (.type "OSError")⟩, ⟨PyData.keyHash W "ReferenceError", (.str "ReferenceError" 98), (.type "ReferenceError")⟩, ⟨PyData.keyHash W "RuntimeError", (.str "RuntimeError" 99), (.type "RuntimeError")⟩, ⟨PyData.keyHash W "StopAsyncIteration", (.str "StopAsyncIteration" 100), (.type "StopAsyncIteration")⟩, ⟨PyData.keyHash W "StopIteration", (.str "StopIteration" 101), (.type "StopIteration")⟩, ⟨PyData.keyHash W "SyntaxError", (.str "SyntaxError" 102), (.type "SyntaxError")⟩, ⟨PyData.keyHash W "SystemError", (.str "SystemError" 103), (.type "SystemError")⟩, ⟨PyData.keyHash W "TypeError", (.str "TypeError" 104), (.type "TypeError")⟩, ⟨PyData.keyHash W "ValueError", (.str "ValueError" 105), (.type "ValueError")⟩, ⟨PyData.keyHash W "Warning", (.str "Warning" 106), (.type "Warning")⟩, ⟨PyData.keyHash W "FloatingPointError", (.str "FloatingPointError" 107), (.type "FloatingPointError")⟩, ⟨PyData.keyHash W "OverflowError", (.str "OverflowError" 108), (.type "OverflowError")⟩, ⟨PyData.keyHash W "ZeroDivisionError", (.str "ZeroDivisionError" 109), (.type "ZeroDivisionError")⟩, ⟨PyData.keyHash W "BytesWarning", (.str "BytesWarning" 110), (.type "BytesWarning")⟩, ⟨PyData.keyHash W "DeprecationWarning", (.str "DeprecationWarning" 111), (.type "DeprecationWarning")⟩, ⟨PyData.keyHash W "EncodingWarning", (.str "EncodingWarning" 112), (.type "EncodingWarning")⟩, ⟨PyData.keyHash W "FutureWarning", (.str "FutureWarning" 113), (.type "FutureWarning")⟩, ⟨PyData.keyHash W "ImportWarning", (.str "ImportWarning" 114), (.type "ImportWarning")⟩, ⟨PyData.keyHash W "PendingDeprecationWarning", (.str "PendingDeprecationWarning" 115), (.type "PendingDeprecationWarning")⟩, ⟨PyData.keyHash W "ResourceWarning", (.str "ResourceWarning" 116), (.type "ResourceWarning")⟩, ⟨PyData.keyHash W "RuntimeWarning", (.str "RuntimeWarning" 117), (.type "RuntimeWarning")⟩, ⟨PyData.keyHash W "SyntaxWarning", (.str "SyntaxWarning" 118), (.type "SyntaxWarning")⟩, ⟨PyData.keyHash W "UnicodeWarning", (.str "UnicodeWarning" 119), (.type "UnicodeWarning")⟩, ⟨PyData.keyHash W "UserWarning", (.str "UserWarning" 120), (.type "UserWarning")⟩, ⟨PyData.keyHash W "BlockingIOError", (.str "BlockingIOError" 121), (.type "BlockingIOError")⟩, ⟨PyData.keyHash W "ChildProcessError", (.str "ChildProcessError" 122), (.type "ChildProcessError")⟩, ⟨PyData.keyHash W "ConnectionError", (.str "ConnectionError" 123), (.type "ConnectionError")⟩, ⟨PyData.keyHash W "FileExistsError", (.str "FileExistsError" 124), (.type "FileExistsError")⟩, ⟨PyData.keyHash W "FileNotFoundError", (.str "FileNotFoundError" 125), (.type "FileNotFoundError")⟩, ⟨PyData.keyHash W "InterruptedError", (.str "InterruptedError" 126), (.type "InterruptedError")⟩, ⟨PyData.keyHash W "IsADirectoryError", (.str "IsADirectoryError" 127), (.type "IsADirectoryError")⟩, ⟨PyData.keyHash W "NotADirectoryError", (.str "NotADirectoryError" 128), (.type "NotADirectoryError")⟩, ⟨PyData.keyHash W "PermissionError", (.str "PermissionError" 129), (.type "PermissionError")⟩, ⟨PyData.keyHash W "ProcessLookupError", (.str "ProcessLookupError" 130), (.type "ProcessLookupError")⟩, ⟨PyData.keyHash W "TimeoutError", (.str "TimeoutError" 131), (.type "TimeoutError")⟩, ⟨PyData.keyHash W "IndentationError", (.str "IndentationError" 132), (.type "IndentationError")⟩, ⟨PyData.keyHash W "_IncompleteInputError", (.str "_IncompleteInputError" 133), (.type "_IncompleteInputError")⟩, ⟨PyData.keyHash W "IndexError", (.str "IndexError" 134), (.type "IndexError")⟩, ⟨PyData.keyHash W "KeyError", (.str "KeyError" 135), (.type "KeyError")⟩, ⟨PyData.keyHash W "ModuleNotFoundError", (.str "ModuleNotFoundError" 136), (.type "ModuleNotFoundError")⟩, ⟨PyData.keyHash W "NotImplementedError", (.str "NotImplementedError" 137), (.type "NotImplementedError")⟩, ⟨PyData.keyHash W "PythonFinalizationError", (.str "PythonFinalizationError" 138), (.type "PythonFinalizationError")⟩, ⟨PyData.keyHash W "RecursionError", (.str "RecursionError" 139), (.type "RecursionError")⟩, ⟨PyData.keyHash W "UnboundLocalError", (.str "UnboundLocalError" 140), (.type "UnboundLocalError")⟩, ⟨PyData.keyHash W "UnicodeError", (.str "UnicodeError" 141), (.type "UnicodeError")⟩, ⟨PyData.keyHash W "BrokenPipeError", (.str "BrokenPipeError" 142), (.type "BrokenPipeError")⟩, ⟨PyData.keyHash W "ConnectionAbortedError", (.str "ConnectionAbortedError" 143), (.type "ConnectionAbortedError")⟩, ⟨PyData.keyHash W "ConnectionRefusedError", (.str "ConnectionRefusedError" 144), (.type "ConnectionRefusedError")⟩, ⟨PyData.keyHash W "ConnectionResetError", (.str "ConnectionResetError" 145), (.type "ConnectionResetError")⟩, ⟨PyData.keyHash W "TabError", (.str "TabError" 146), (.type "TabError")⟩, ⟨PyData.keyHash W "UnicodeDecodeError", (.str "UnicodeDecodeError" 147), (.type "UnicodeDecodeError")⟩, ⟨PyData.keyHash W "UnicodeEncodeError", (.str "UnicodeEncodeError" 148), (.type "UnicodeEncodeError")⟩, ⟨PyData.keyHash W "UnicodeTranslateError", (.str "UnicodeTranslateError" 149), (.type "UnicodeTranslateError")⟩, ⟨PyData.keyHash W "ExceptionGroup", (.str "ExceptionGroup" 150), (.type "ExceptionGroup")⟩, ⟨PyData.keyHash W "EnvironmentError", (.str "EnvironmentError" 151), (.type "OSError")⟩, ⟨PyData.keyHash W "IOError", (.str "IOError" 152), (.type "OSError")⟩, ⟨PyData.keyHash W "open", (.str "open" 153), (.builtin "open")⟩, ⟨PyData.keyHash W "quit", (.str "quit" 154), (.builtin "builtins.quit#opaque")⟩, ⟨PyData.keyHash W "exit", (.str "exit" 155), (.builtin "builtins.exit#opaque")⟩, ⟨PyData.keyHash W "copyright", (.str "copyright" 156), (.builtin "builtins.copyright#opaque")⟩, ⟨PyData.keyHash W "credits", (.str "credits" 157), (.builtin "builtins.credits#opaque")⟩, ⟨PyData.keyHash W "license", (.str "license" 158), (.builtin "builtins.license#opaque")⟩, ⟨PyData.keyHash W "help", (.str "help" 159), (.builtin "builtins.help#opaque")⟩] 159), #[]⟩
def o1 (W : Params) : Obj := ⟨(.type "dict"), none, (.dict #[⟨PyData.keyHash W "builtins", (.str "builtins" 162), (.ref 4)⟩, ⟨PyData.keyHash W "__main__", (.str "__main__" 163), (.ref 5)⟩] 2), #[]⟩
def o2 : Obj := ⟨.none, none, (.dict #[] 0), #[]⟩
def o3 (W : Params) : Obj := ⟨(.type "dict"), none, (.dict (EvH.fixL (g3 W) 9 [(0, ⟨PyData.keyHash W "__name__", (.str "__name__" 165), (.str "__main__" 164)⟩)]) 9), #[]⟩
def o4 : Obj := ⟨(.type "module"), (some 0), .plain, #[]⟩
def o5 : Obj := ⟨(.type "module"), (some 3), .plain, #[]⟩
def o6 : Obj := ⟨(.type "dict"), none, (.dict #[] 0), #[]⟩
def o7 : Obj := ⟨(.type "tuple"), none, (.seq #[] 0), #[]⟩
def o8 : Obj := ⟨.none, none, (.fields #[]), #[]⟩
def o9 : Obj := ⟨(.type "code"), none, (.fields #[(.str "<module>" 176), (.str "<module>" 177), (.str "/claim/cut.py" 178), (.int (1) 0), (.int (0) 0), (.int (0) 0), (.int (0) 0), (.int (0) 0), (.ref 7), (.bool false), (.int (175) 0), (.ref 8), .none, .none, .none, .none, (.int (179) 0), (.int (1) 0), (.str "/claim/cut.py" 180)]), #[]⟩
def o10 : Obj := ⟨(.type "frame"), none, .plain, #[(some (.ref 9)), (some (.ref 3)), (some (.ref 3)), none, (some (.str "__main__" 164)), none, (some (.ref 0))]⟩
def Ti (w : World) : BT := EvH.put BT.nil [(0, o0 w.params), (1, o1 w.params), (2, o2), (3, o3 w.params), (4, o4), (5, o5), (6, o6), (7, o7), (8, o8), (9, o9), (10, o10)]
def lifei : Life := { }
def dri : Drawn := { }
def xi (w : World) (os : OsState) : SharedT := ⟨Ti w, 11, lifei, #[], dri, 181, os⟩
def T0 (w : World) : BT := (Ti w)
def life0 : Life := { }
def dr0 : Drawn := { }
def x0 (w : World) (os : OsState) : SharedT := ⟨T0 w, 11, life0, #[], dr0, 181, os⟩
def o11 : Obj := ⟨(.type "tuple"), none, (.seq #[] 0), #[]⟩
def o12 : Obj := ⟨.none, none, (.fields (EvH.fixL g12 0 [])), #[]⟩
def o13 : Obj := ⟨(.type "code"), none, (.fields #[(.str "<module>" 182), (.str "<module>" 183), (.str "/claim/cut.py" 184), (.int (1) 0), (.int (0) 0), (.int (0) 0), (.int (0) 0), (.int (0) 0), (.ref 11), (.bool false), (.int (181) 0), (.ref 12), .none, .none, .none, .none, (.int (185) 0), (.int (1) 0), (.str "/claim/cut.py" 186)]), #[]⟩
def o14 : Obj := ⟨(.type "frame"), none, .plain, #[(some (.ref 13)), (some (.ref 3)), (some (.ref 3)), none, (some (.str "__main__" 164)), none, (some (.ref 0))]⟩
def Ta (w : World) : BT := EvH.put (T0 w) [(11, o11), (12, o12), (13, o13), (14, o14)]
def lifea : Life := { }
def dra : Drawn := { }
def xa (w : World) (os : OsState) : SharedT := ⟨Ta w, 15, lifea, #[], dra, 187, os⟩
def Tb (w : World) : BT := (Ta w)
def lifeb : Life := { }
def drb : Drawn := { }
def xb (w : World) (os : OsState) : SharedT := ⟨Tb w, 15, lifeb, #[], drb, 187, os⟩
def o3_1 (W : Params) : Obj := ⟨(.type "dict"), none, (.dict (EvH.fixL (g3 W) 16 [(0, ⟨PyData.keyHash W "__name__", (.str "__name__" 165), (.str "sureplace.ledger.ledger" 273)⟩)]) 16), #[]⟩
def o12_1 : Obj := ⟨.none, none, (.fields (EvH.fixL g12 21 [])), #[]⟩
def o15 : Obj := ⟨(.type "tuple"), none, (.seq #[] 0), #[]⟩
def o16 : Obj := ⟨.none, none, (.fields #[]), #[]⟩
def o17 : Obj := ⟨(.type "tuple"), none, (.seq #[(.str "k" 190)] 0), #[]⟩
def o18 : Obj := ⟨(.type "tuple"), none, (.seq #[] 0), #[]⟩
def o19 : Obj := ⟨.none, none, (.func ⟨"_wall", "_wall", defArgs (Pg.topS 0), .stmts (defBody (Pg.topS 0)), defScope (Pg.topS 0), 0, [], .none, .none, .none, .none, none, .none, .none, 0⟩), #[]⟩
def o20 : Obj := ⟨(.type "code"), none, (.fields #[(.str "_wall" 187), (.str "_wall" 188), (.str "/claim/cut.py" 189), (.int (1) 0), (.int (1) 0), (.int (0) 0), (.int (0) 0), (.int (3) 0), (.ref 15), (.bool true), (.int (181) 0), (.ref 16), .none, (.ref 17), (.ref 18), (.ref 19), (.int (191) 0), (.int (1) 0), (.str "/claim/cut.py" 192)]), #[]⟩
def o21 : Obj := ⟨(.type "function"), none, (.func ⟨"_wall", "_wall", defArgs (Pg.topS 0), .stmts (defBody (Pg.topS 0)), defScope (Pg.topS 0), 3, [], .none, .none, .none, (.str "__main__" 164), none, (.ref 20), .none, 0⟩), #[]⟩
def o22 : Obj := ⟨(.type "tuple"), none, (.seq #[(.type "ValueError")] 0), #[]⟩
def o23 : Obj := ⟨(.type "builtin_function_or_method"), none, (.fields #[(.builtin "type.__prepare__"), (.type "type")]), #[]⟩
def o24 (W : Params) : Obj := ⟨(.type "dict"), none, (.dict #[⟨PyData.keyHash W "__module__", (.str "__module__" 203), (.str "sureplace.errors" 194)⟩, ⟨PyData.keyHash W "__qualname__", (.str "__qualname__" 205), (.str "SurePlaceError" 204)⟩, ⟨PyData.keyHash W "__firstlineno__", (.str "__firstlineno__" 207), (.int (5) 206)⟩, ⟨PyData.keyHash W "__init__", (.str "__init__" 217), (.ref 38)⟩, ⟨PyData.keyHash W "__static_attributes__", (.str "__static_attributes__" 218), (.ref 39)⟩, ⟨PyData.keyHash W "__classcell__", (.str "__classcell__" 219), (.ref 25)⟩] 6), #[]⟩
def o25 : Obj := ⟨(.type "cell"), none, (.cell (some (.ref 41))), #[]⟩
def o26 : Obj := ⟨(.type "tuple"), none, (.seq #[] 0), #[]⟩
def o27 : Obj := ⟨.none, none, (.fields #[(.int (7) 0), (.int (4) 0), (.ref 37)]), #[]⟩
def o28 : Obj := ⟨(.type "code"), none, (.fields #[(.str "SurePlaceError" 198), (.str "SurePlaceError" 199), (.str "/claim/cut.py" 200), (.int (5) 0), (.int (0) 0), (.int (0) 0), (.int (0) 0), (.int (0) 0), (.ref 26), (.bool false), (.int (181) 0), (.ref 27), .none, .none, .none, .none, (.int (201) 0), (.int (5) 0), (.str "/claim/cut.py" 202)]), #[]⟩
def o29 : Obj := ⟨(.type "frame"), none, .plain, #[(some (.ref 28)), (some (.ref 3)), (some (.ref 24)), none, (some (.str "sureplace.errors" 194)), none, (some (.ref 0))]⟩
def o30 : Obj := ⟨(.type "tuple"), none, (.seq #[(.str "" 208)] 0), #[]⟩
def o31 : Obj := ⟨(.type "tuple"), none, (.seq #[(.ref 25)] 0), #[]⟩
def o32 : Obj := ⟨(.type "tuple"), none, (.seq #[(.str "__class__" 212)] 0), #[]⟩
def o33 : Obj := ⟨.none, none, (.fields #[]), #[]⟩
def o34 : Obj := ⟨(.type "tuple"), none, (.seq #[(.str "self" 213), (.str "why" 214)] 0), #[]⟩
def o35 : Obj := ⟨(.type "tuple"), none, (.seq #[] 0), #[]⟩
def o36 : Obj := ⟨.none, none, (.func ⟨"__init__", "SurePlaceError.__init__", defArgs (inClass (Pg.topS 2) 0), .stmts (defBody (inClass (Pg.topS 2) 0)), defScope (inClass (Pg.topS 2) 0), 0, [], .none, .none, .none, .none, none, .none, .none, 0⟩), #[]⟩
def o37 : Obj := ⟨(.type "code"), none, (.fields #[(.str "__init__" 209), (.str "SurePlaceError.__init__" 210), (.str "/claim/cut.py" 211), (.int (7) 0), (.int (2) 0), (.int (0) 0), (.int (0) 0), (.int (3) 0), (.ref 32), (.bool true), (.int (181) 0), (.ref 33), .none, (.ref 34), (.ref 35), (.ref 36), (.int (215) 0), (.int (7) 0), (.str "/claim/cut.py" 216)]), #[]⟩
def o38 : Obj := ⟨(.type "function"), none, (.func ⟨"__init__", "SurePlaceError.__init__", defArgs (inClass (Pg.topS 2) 0), .stmts (defBody (inClass (Pg.topS 2) 0)), defScope (inClass (Pg.topS 2) 0), 3, [("__class__", 25)], (.ref 30), .none, .none, (.str "sureplace.errors" 194), none, (.ref 37), (.ref 31), 0⟩), #[]⟩
def o39 : Obj := ⟨(.type "tuple"), none, (.seq #[] 0), #[]⟩
def o40 (W : Params) : Obj := ⟨(.type "dict"), none, (.dict #[⟨PyData.keyHash W "__module__", (.str "__module__" 203), (.str "sureplace.errors" 194)⟩, ⟨PyData.keyHash W "__firstlineno__", (.str "__firstlineno__" 207), (.int (5) 206)⟩, ⟨PyData.keyHash W "__init__", (.str "__init__" 217), (.ref 38)⟩, ⟨PyData.keyHash W "__static_attributes__", (.str "__static_attributes__" 218), (.ref 39)⟩, ⟨PyData.keyHash W "__weakref__", (.str "__weakref__" 221), (.ref 42)⟩, ⟨PyData.keyHash W "__doc__", (.str "__doc__" 222), .none⟩] 4), #[]⟩
def o41 : Obj := ⟨(.type "type"), none, (.cls ⟨"SurePlaceError", [(.type "ValueError")], [(.ref 41), (.type "ValueError"), (.type "Exception"), (.type "BaseException"), (.type "object")], 40, "SurePlaceError", true, [], [(.ref 54), (.ref 66), (.ref 78)], false, none, false⟩), #[(some (.ref 22)), none, (some (.str "SurePlaceError" 196)), (some (.str "SurePlaceError" 204)), (some (.builtin "ValueError.__new__")), (some (.bool true))]⟩
def o42 : Obj := ⟨(.type "getset_descriptor"), none, (.fields #[(.str "__weakref__" 220), (.ref 41), (.builtin "ExceptionGroup.__weakref__"), .none]), #[]⟩
def o43 : Obj := ⟨(.type "super"), none, (.fields #[(.ref 41), (.ref 41), (.ref 41)]), #[]⟩
def o44 : Obj := ⟨(.type "builtin_function_or_method"), none, (.fields #[(.builtin "object.__init_subclass__"), (.ref 41)]), #[]⟩
def o45 : Obj := ⟨(.type "tuple"), none, (.seq #[(.ref 41)] 0), #[]⟩
def o46 : Obj := ⟨(.type "builtin_function_or_method"), none, (.fields #[(.builtin "type.__prepare__"), (.type "type")]), #[]⟩
def o47 (W : Params) : Obj := ⟨(.type "dict"), none, (.dict #[⟨PyData.keyHash W "__module__", (.str "__module__" 232), (.str "sureplace.errors" 194)⟩, ⟨PyData.keyHash W "__qualname__", (.str "__qualname__" 234), (.str "InvalidReading" 233)⟩, ⟨PyData.keyHash W "__firstlineno__", (.str "__firstlineno__" 236), (.int (9) 235)⟩, ⟨PyData.keyHash W "__static_attributes__", (.str "__static_attributes__" 237), (.ref 52)⟩] 4), #[]⟩
def o48 : Obj := ⟨(.type "tuple"), none, (.seq #[] 0), #[]⟩
def o49 : Obj := ⟨.none, none, (.fields #[]), #[]⟩
def o50 : Obj := ⟨(.type "code"), none, (.fields #[(.str "InvalidReading" 227), (.str "InvalidReading" 228), (.str "/claim/cut.py" 229), (.int (9) 0), (.int (0) 0), (.int (0) 0), (.int (0) 0), (.int (0) 0), (.ref 48), (.bool false), (.int (181) 0), (.ref 49), .none, .none, .none, .none, (.int (230) 0), (.int (9) 0), (.str "/claim/cut.py" 231)]), #[]⟩
def o51 : Obj := ⟨(.type "frame"), none, .plain, #[(some (.ref 50)), (some (.ref 3)), (some (.ref 47)), none, (some (.str "sureplace.errors" 194)), none, (some (.ref 0))]⟩
def o52 : Obj := ⟨(.type "tuple"), none, (.seq #[] 0), #[]⟩
def o53 (W : Params) : Obj := ⟨(.type "dict"), none, (.dict #[⟨PyData.keyHash W "__module__", (.str "__module__" 232), (.str "sureplace.errors" 194)⟩, ⟨PyData.keyHash W "__firstlineno__", (.str "__firstlineno__" 236), (.int (9) 235)⟩, ⟨PyData.keyHash W "__static_attributes__", (.str "__static_attributes__" 237), (.ref 52)⟩, ⟨PyData.keyHash W "__doc__", (.str "__doc__" 238), .none⟩] 2), #[]⟩
def o54 : Obj := ⟨(.type "type"), none, (.cls ⟨"InvalidReading", [(.ref 41)], [(.ref 54), (.ref 41), (.type "ValueError"), (.type "Exception"), (.type "BaseException"), (.type "object")], 53, "InvalidReading", true, [], [], false, none, false⟩), #[(some (.ref 45)), none, (some (.str "InvalidReading" 225)), (some (.str "InvalidReading" 233)), (some (.builtin "ValueError.__new__")), (some (.bool true))]⟩
def o55 : Obj := ⟨(.type "super"), none, (.fields #[(.ref 54), (.ref 54), (.ref 54)]), #[]⟩
def o56 : Obj := ⟨(.type "builtin_function_or_method"), none, (.fields #[(.builtin "object.__init_subclass__"), (.ref 54)]), #[]⟩
def o57 : Obj := ⟨(.type "tuple"), none, (.seq #[(.ref 41)] 0), #[]⟩
def o58 : Obj := ⟨(.type "builtin_function_or_method"), none, (.fields #[(.builtin "type.__prepare__"), (.type "type")]), #[]⟩
def o59 (W : Params) : Obj := ⟨(.type "dict"), none, (.dict #[⟨PyData.keyHash W "__module__", (.str "__module__" 248), (.str "sureplace.errors" 194)⟩, ⟨PyData.keyHash W "__qualname__", (.str "__qualname__" 250), (.str "UnknownMoment" 249)⟩, ⟨PyData.keyHash W "__firstlineno__", (.str "__firstlineno__" 252), (.int (11) 251)⟩, ⟨PyData.keyHash W "__static_attributes__", (.str "__static_attributes__" 253), (.ref 64)⟩] 4), #[]⟩
def o60 : Obj := ⟨(.type "tuple"), none, (.seq #[] 0), #[]⟩
def o61 : Obj := ⟨.none, none, (.fields #[]), #[]⟩
def o62 : Obj := ⟨(.type "code"), none, (.fields #[(.str "UnknownMoment" 243), (.str "UnknownMoment" 244), (.str "/claim/cut.py" 245), (.int (11) 0), (.int (0) 0), (.int (0) 0), (.int (0) 0), (.int (0) 0), (.ref 60), (.bool false), (.int (181) 0), (.ref 61), .none, .none, .none, .none, (.int (246) 0), (.int (11) 0), (.str "/claim/cut.py" 247)]), #[]⟩
def o63 : Obj := ⟨(.type "frame"), none, .plain, #[(some (.ref 62)), (some (.ref 3)), (some (.ref 59)), none, (some (.str "sureplace.errors" 194)), none, (some (.ref 0))]⟩
def o64 : Obj := ⟨(.type "tuple"), none, (.seq #[] 0), #[]⟩
def o65 (W : Params) : Obj := ⟨(.type "dict"), none, (.dict #[⟨PyData.keyHash W "__module__", (.str "__module__" 248), (.str "sureplace.errors" 194)⟩, ⟨PyData.keyHash W "__firstlineno__", (.str "__firstlineno__" 252), (.int (11) 251)⟩, ⟨PyData.keyHash W "__static_attributes__", (.str "__static_attributes__" 253), (.ref 64)⟩, ⟨PyData.keyHash W "__doc__", (.str "__doc__" 254), .none⟩] 2), #[]⟩
def o66 : Obj := ⟨(.type "type"), none, (.cls ⟨"UnknownMoment", [(.ref 41)], [(.ref 66), (.ref 41), (.type "ValueError"), (.type "Exception"), (.type "BaseException"), (.type "object")], 65, "UnknownMoment", true, [], [], false, none, false⟩), #[(some (.ref 57)), none, (some (.str "UnknownMoment" 241)), (some (.str "UnknownMoment" 249)), (some (.builtin "ValueError.__new__")), (some (.bool true))]⟩
def o67 : Obj := ⟨(.type "super"), none, (.fields #[(.ref 66), (.ref 66), (.ref 66)]), #[]⟩
def o68 : Obj := ⟨(.type "builtin_function_or_method"), none, (.fields #[(.builtin "object.__init_subclass__"), (.ref 66)]), #[]⟩
def o69 : Obj := ⟨(.type "tuple"), none, (.seq #[(.ref 41)] 0), #[]⟩
def o70 : Obj := ⟨(.type "builtin_function_or_method"), none, (.fields #[(.builtin "type.__prepare__"), (.type "type")]), #[]⟩
def o71 (W : Params) : Obj := ⟨(.type "dict"), none, (.dict #[⟨PyData.keyHash W "__module__", (.str "__module__" 264), (.str "sureplace.errors" 194)⟩, ⟨PyData.keyHash W "__qualname__", (.str "__qualname__" 266), (.str "NotPinned" 265)⟩, ⟨PyData.keyHash W "__firstlineno__", (.str "__firstlineno__" 268), (.int (13) 267)⟩, ⟨PyData.keyHash W "__static_attributes__", (.str "__static_attributes__" 269), (.ref 76)⟩] 4), #[]⟩
def o72 : Obj := ⟨(.type "tuple"), none, (.seq #[] 0), #[]⟩
def o73 : Obj := ⟨.none, none, (.fields #[]), #[]⟩
def o74 : Obj := ⟨(.type "code"), none, (.fields #[(.str "NotPinned" 259), (.str "NotPinned" 260), (.str "/claim/cut.py" 261), (.int (13) 0), (.int (0) 0), (.int (0) 0), (.int (0) 0), (.int (0) 0), (.ref 72), (.bool false), (.int (181) 0), (.ref 73), .none, .none, .none, .none, (.int (262) 0), (.int (13) 0), (.str "/claim/cut.py" 263)]), #[]⟩
def o75 : Obj := ⟨(.type "frame"), none, .plain, #[(some (.ref 74)), (some (.ref 3)), (some (.ref 71)), none, (some (.str "sureplace.errors" 194)), none, (some (.ref 0))]⟩
def o76 : Obj := ⟨(.type "tuple"), none, (.seq #[] 0), #[]⟩
def o77 (W : Params) : Obj := ⟨(.type "dict"), none, (.dict #[⟨PyData.keyHash W "__module__", (.str "__module__" 264), (.str "sureplace.errors" 194)⟩, ⟨PyData.keyHash W "__firstlineno__", (.str "__firstlineno__" 268), (.int (13) 267)⟩, ⟨PyData.keyHash W "__static_attributes__", (.str "__static_attributes__" 269), (.ref 76)⟩, ⟨PyData.keyHash W "__doc__", (.str "__doc__" 270), .none⟩] 2), #[]⟩
def o78 : Obj := ⟨(.type "type"), none, (.cls ⟨"NotPinned", [(.ref 41)], [(.ref 78), (.ref 41), (.type "ValueError"), (.type "Exception"), (.type "BaseException"), (.type "object")], 77, "NotPinned", true, [], [], false, none, false⟩), #[(some (.ref 69)), none, (some (.str "NotPinned" 257)), (some (.str "NotPinned" 265)), (some (.builtin "ValueError.__new__")), (some (.bool true))]⟩
def o79 : Obj := ⟨(.type "super"), none, (.fields #[(.ref 78), (.ref 78), (.ref 78)]), #[]⟩
def o80 : Obj := ⟨(.type "builtin_function_or_method"), none, (.fields #[(.builtin "object.__init_subclass__"), (.ref 78)]), #[]⟩
def o81 : Obj := ⟨(.type "tuple"), none, (.seq #[] 0), #[]⟩
def o82 : Obj := ⟨.none, none, (.fields #[]), #[]⟩
def o83 : Obj := ⟨(.type "tuple"), none, (.seq #[(.str "versions" 278), (.str "moment" 279), (.str "born" 280), (.str "died" 281), (.str "reading" 282)] 0), #[]⟩
def o84 : Obj := ⟨(.type "tuple"), none, (.seq #[] 0), #[]⟩
def o85 : Obj := ⟨.none, none, (.func ⟨"_there_at", "_there_at", defArgs (Pg.topS 7), .stmts (defBody (Pg.topS 7)), defScope (Pg.topS 7), 0, [], .none, .none, .none, .none, none, .none, .none, 0⟩), #[]⟩
def o86 : Obj := ⟨(.type "code"), none, (.fields #[(.str "_there_at" 275), (.str "_there_at" 276), (.str "/claim/cut.py" 277), (.int (16) 0), (.int (2) 0), (.int (0) 0), (.int (0) 0), (.int (3) 0), (.ref 81), (.bool true), (.int (181) 0), (.ref 82), .none, (.ref 83), (.ref 84), (.ref 85), (.int (283) 0), (.int (16) 0), (.str "/claim/cut.py" 284)]), #[]⟩
def o87 : Obj := ⟨(.type "function"), none, (.func ⟨"_there_at", "_there_at", defArgs (Pg.topS 7), .stmts (defBody (Pg.topS 7)), defScope (Pg.topS 7), 3, [], .none, .none, .none, (.str "sureplace.ledger.ledger" 273), none, (.ref 86), .none, 0⟩), #[]⟩
def o88 : Obj := ⟨(.type "tuple"), none, (.seq #[] 0), #[]⟩
def o89 : Obj := ⟨.none, none, (.fields #[]), #[]⟩
def o90 : Obj := ⟨.none, none, (.func ⟨"was_kept", "was_kept", defArgs (Pg.topS 8), .stmts (defBody (Pg.topS 8)), defScope (Pg.topS 8), 0, [], .none, .none, .none, .none, none, .none, .none, 0⟩), #[]⟩
def o91 : Obj := ⟨(.type "code"), none, (.fields #[(.str "was_kept" 286), (.str "was_kept" 287), (.str "/claim/cut.py" 288), (.int (21) 0), (.int (3) 0), (.int (0) 0), (.int (0) 0), (.int (3) 0), (.ref 88), (.bool true), (.int (181) 0), (.ref 89), .none, .none, .none, (.ref 90), (.int (289) 0), (.int (21) 0), (.str "/claim/cut.py" 290)]), #[]⟩
def o92 : Obj := ⟨(.type "function"), none, (.func ⟨"was_kept", "was_kept", defArgs (Pg.topS 8), .stmts (defBody (Pg.topS 8)), defScope (Pg.topS 8), 3, [], .none, .none, .none, (.str "sureplace.ledger.ledger" 273), none, (.ref 91), .none, 0⟩), #[]⟩
def T1_0 (w : World) : BT := EvH.put (Tb w) [(3, o3_1 w.params), (12, o12_1), (15, o15), (16, o16), (17, o17), (18, o18), (19, o19), (20, o20), (21, o21), (22, o22), (23, o23), (24, o24 w.params), (25, o25), (26, o26), (27, o27), (28, o28), (29, o29), (30, o30), (31, o31), (32, o32), (33, o33), (34, o34), (35, o35), (36, o36), (37, o37), (38, o38), (39, o39), (40, o40 w.params), (41, o41), (42, o42)]
def T1_1 (w : World) : BT := EvH.put (T1_0 w) [(43, o43), (44, o44), (45, o45), (46, o46), (47, o47 w.params), (48, o48), (49, o49), (50, o50), (51, o51), (52, o52), (53, o53 w.params), (54, o54), (55, o55), (56, o56), (57, o57), (58, o58), (59, o59 w.params), (60, o60), (61, o61), (62, o62), (63, o63), (64, o64), (65, o65 w.params), (66, o66), (67, o67), (68, o68), (69, o69), (70, o70), (71, o71 w.params), (72, o72)]
def T1 (w : World) : BT := EvH.put (T1_1 w) [(73, o73), (74, o74), (75, o75), (76, o76), (77, o77 w.params), (78, o78), (79, o79), (80, o80), (81, o81), (82, o82), (83, o83), (84, o84), (85, o85), (86, o86), (87, o87), (88, o88), (89, o89), (90, o90), (91, o91), (92, o92)]
def life1 : Life := { }
def dr1 : Drawn := { }
def x1 (w : World) (os : OsState) : SharedT := ⟨T1 w, 93, life1, #[], dr1, 292, os⟩
def o3_2 (W : Params) : Obj := ⟨(.type "dict"), none, (.dict (EvH.fixL (g3 W) 29 [(0, ⟨PyData.keyHash W "__name__", (.str "__name__" 165), (.str "sureplace.given.readings" 456)⟩)]) 29), #[]⟩
def o12_2 : Obj := ⟨.none, none, (.fields (EvH.fixL g12 42 [])), #[]⟩
def o93 : Obj := ⟨(.type "tuple"), none, (.seq #[] 0), #[]⟩
def o94 : Obj := ⟨(.type "builtin_function_or_method"), none, (.fields #[(.builtin "type.__prepare__"), (.type "type")]), #[]⟩
def o95 (W : Params) : Obj := ⟨(.type "dict"), none, (.dict #[⟨PyData.keyHash W "__module__", (.str "__module__" 299), (.str "sureplace.ledger.ledger" 273)⟩, ⟨PyData.keyHash W "__qualname__", (.str "__qualname__" 301), (.str "Ledger" 300)⟩, ⟨PyData.keyHash W "__firstlineno__", (.str "__firstlineno__" 303), (.int (24) 302)⟩, ⟨PyData.keyHash W "__init__", (.str "__init__" 310), (.ref 106)⟩, ⟨PyData.keyHash W "pins", (.str "pins" 318), (.ref 114)⟩, ⟨PyData.keyHash W "kept", (.str "kept" 325), (.ref 120)⟩, ⟨PyData.keyHash W "_end", (.str "_end" 337), (.ref 127)⟩, ⟨PyData.keyHash W "_drop", (.str "_drop" 343), (.ref 132)⟩, ⟨PyData.keyHash W "put", (.str "put" 351), (.ref 139)⟩, ⟨PyData.keyHash W "correct", (.str "correct" 360), (.ref 146)⟩, ⟨PyData.keyHash W "withdraw", (.str "withdraw" 368), (.ref 153)⟩, ⟨PyData.keyHash W "pin", (.str "pin" 375), (.ref 160)⟩, ⟨PyData.keyHash W "unpin", (.str "unpin" 383), (.ref 167)⟩, ⟨PyData.keyHash W "raise_floor", (.str "raise_floor" 391), (.ref 174)⟩, ⟨PyData.keyHash W "keeps", (.str "keeps" 399), (.ref 181)⟩, ⟨PyData.keyHash W "readings", (.str "readings" 405), (.ref 186)⟩, ⟨PyData.keyHash W "entries", (.str "entries" 412), (.ref 193)⟩, ⟨PyData.keyHash W "__static_attributes__", (.str "__static_attributes__" 418), (.ref 194)⟩] 18), #[]⟩
def o96 : Obj := ⟨(.type "tuple"), none, (.seq #[] 0), #[]⟩
def o97 : Obj := ⟨.none, none, (.fields #[(.int (26) 0), (.int (4) 0), (.ref 105), (.int (34) 0), (.int (4) 0), (.ref 112), (.int (38) 0), (.int (4) 0), (.ref 118), (.int (41) 0), (.int (4) 0), (.ref 126), (.int (46) 0), (.int (4) 0), (.ref 131), (.int (54) 0), (.int (4) 0), (.ref 138), (.int (60) 0), (.int (4) 0), (.ref 145), (.int (69) 0), (.int (4) 0), (.ref 152), (.int (77) 0), (.int (4) 0), (.ref 159), (.int (81) 0), (.int (4) 0), (.ref 166), (.int (87) 0), (.int (4) 0), (.ref 173), (.int (92) 0), (.int (4) 0), (.ref 180), (.int (95) 0), (.int (4) 0), (.ref 185), (.int (103) 0), (.int (4) 0), (.ref 192)]), #[]⟩
def o98 : Obj := ⟨(.type "code"), none, (.fields #[(.str "Ledger" 294), (.str "Ledger" 295), (.str "/claim/cut.py" 296), (.int (24) 0), (.int (0) 0), (.int (0) 0), (.int (0) 0), (.int (0) 0), (.ref 96), (.bool false), (.int (181) 0), (.ref 97), .none, .none, .none, .none, (.int (297) 0), (.int (24) 0), (.str "/claim/cut.py" 298)]), #[]⟩
def o99 : Obj := ⟨(.type "frame"), none, .plain, #[(some (.ref 98)), (some (.ref 3)), (some (.ref 95)), none, (some (.str "sureplace.ledger.ledger" 273)), none, (some (.ref 0))]⟩
def o100 : Obj := ⟨(.type "tuple"), none, (.seq #[] 0), #[]⟩
def o101 : Obj := ⟨.none, none, (.fields #[]), #[]⟩
def o102 : Obj := ⟨(.type "tuple"), none, (.seq #[(.str "self" 307)] 0), #[]⟩
def o103 : Obj := ⟨(.type "tuple"), none, (.seq #[] 0), #[]⟩
def o104 : Obj := ⟨.none, none, (.func ⟨"__init__", "Ledger.__init__", defArgs (inClass (Pg.topS 9) 0), .stmts (defBody (inClass (Pg.topS 9) 0)), defScope (inClass (Pg.topS 9) 0), 0, [], .none, .none, .none, .none, none, .none, .none, 0⟩), #[]⟩
def o105 : Obj := ⟨(.type "code"), none, (.fields #[(.str "__init__" 304), (.str "Ledger.__init__" 305), (.str "/claim/cut.py" 306), (.int (26) 0), (.int (1) 0), (.int (0) 0), (.int (0) 0), (.int (3) 0), (.ref 100), (.bool true), (.int (181) 0), (.ref 101), .none, (.ref 102), (.ref 103), (.ref 104), (.int (308) 0), (.int (26) 0), (.str "/claim/cut.py" 309)]), #[]⟩
def o106 : Obj := ⟨(.type "function"), none, (.func ⟨"__init__", "Ledger.__init__", defArgs (inClass (Pg.topS 9) 0), .stmts (defBody (inClass (Pg.topS 9) 0)), defScope (inClass (Pg.topS 9) 0), 3, [], .none, .none, .none, (.str "sureplace.ledger.ledger" 273), none, (.ref 105), .none, 0⟩), #[]⟩
def o107 : Obj := ⟨(.type "tuple"), none, (.seq #[] 0), #[]⟩
def o108 : Obj := ⟨.none, none, (.fields #[]), #[]⟩
def o109 : Obj := ⟨(.type "tuple"), none, (.seq #[(.str "self" 314)] 0), #[]⟩
def o110 : Obj := ⟨(.type "tuple"), none, (.seq #[] 0), #[]⟩
def o111 : Obj := ⟨.none, none, (.func ⟨"pins", "Ledger.pins", defArgs (inClass (Pg.topS 9) 1), .stmts (defBody (inClass (Pg.topS 9) 1)), defScope (inClass (Pg.topS 9) 1), 0, [], .none, .none, .none, .none, none, .none, .none, 0⟩), #[]⟩
def o112 : Obj := ⟨(.type "code"), none, (.fields #[(.str "pins" 311), (.str "Ledger.pins" 312), (.str "/claim/cut.py" 313), (.int (33) 0), (.int (1) 0), (.int (0) 0), (.int (0) 0), (.int (3) 0), (.ref 107), (.bool true), (.int (181) 0), (.ref 108), .none, (.ref 109), (.ref 110), (.ref 111), (.int (315) 0), (.int (33) 0), (.str "/claim/cut.py" 316)]), #[]⟩
def o113 : Obj := ⟨(.type "function"), none, (.func ⟨"pins", "Ledger.pins", defArgs (inClass (Pg.topS 9) 1), .stmts (defBody (inClass (Pg.topS 9) 1)), defScope (inClass (Pg.topS 9) 1), 3, [], .none, .none, .none, (.str "sureplace.ledger.ledger" 273), none, (.ref 112), .none, 0⟩), #[]⟩
def o114 : Obj := ⟨(.type "property"), none, (.fields #[(.ref 113), .none, .none, .none, (.str "pins" 318), (.bool false)]), #[]⟩
def o115 : Obj := ⟨(.type "tuple"), none, (.seq #[] 0), #[]⟩
def o116 : Obj := ⟨.none, none, (.fields #[]), #[]⟩
def o117 : Obj := ⟨.none, none, (.func ⟨"kept", "Ledger.kept", defArgs (inClass (Pg.topS 9) 2), .stmts (defBody (inClass (Pg.topS 9) 2)), defScope (inClass (Pg.topS 9) 2), 0, [], .none, .none, .none, .none, none, .none, .none, 0⟩), #[]⟩
def o118 : Obj := ⟨(.type "code"), none, (.fields #[(.str "kept" 319), (.str "Ledger.kept" 320), (.str "/claim/cut.py" 321), (.int (37) 0), (.int (1) 0), (.int (0) 0), (.int (0) 0), (.int (3) 0), (.ref 115), (.bool true), (.int (181) 0), (.ref 116), .none, .none, .none, (.ref 117), (.int (322) 0), (.int (37) 0), (.str "/claim/cut.py" 323)]), #[]⟩
def o119 : Obj := ⟨(.type "function"), none, (.func ⟨"kept", "Ledger.kept", defArgs (inClass (Pg.topS 9) 2), .stmts (defBody (inClass (Pg.topS 9) 2)), defScope (inClass (Pg.topS 9) 2), 3, [], .none, .none, .none, (.str "sureplace.ledger.ledger" 273), none, (.ref 118), .none, 0⟩), #[]⟩
def o120 : Obj := ⟨(.type "property"), none, (.fields #[(.ref 119), .none, .none, .none, (.str "kept" 325), (.bool false)]), #[]⟩
def o121 : Obj := ⟨(.type "tuple"), none, (.seq #[] 0), #[]⟩
def o122 : Obj := ⟨.none, none, (.fields #[]), #[]⟩
def o123 : Obj := ⟨(.type "tuple"), none, (.seq #[(.str "self" 329), (.str "number" 330), (.str "versions" 331), (.str "born" 332), (.str "_" 333), (.str "reading" 334)] 0), #[]⟩
def o124 : Obj := ⟨(.type "tuple"), none, (.seq #[] 0), #[]⟩
def o125 : Obj := ⟨.none, none, (.func ⟨"_end", "Ledger._end", defArgs (inClass (Pg.topS 9) 3), .stmts (defBody (inClass (Pg.topS 9) 3)), defScope (inClass (Pg.topS 9) 3), 0, [], .none, .none, .none, .none, none, .none, .none, 0⟩), #[]⟩
def o126 : Obj := ⟨(.type "code"), none, (.fields #[(.str "_end" 326), (.str "Ledger._end" 327), (.str "/claim/cut.py" 328), (.int (41) 0), (.int (2) 0), (.int (0) 0), (.int (0) 0), (.int (3) 0), (.ref 121), (.bool true), (.int (181) 0), (.ref 122), .none, (.ref 123), (.ref 124), (.ref 125), (.int (335) 0), (.int (41) 0), (.str "/claim/cut.py" 336)]), #[]⟩
def o127 : Obj := ⟨(.type "function"), none, (.func ⟨"_end", "Ledger._end", defArgs (inClass (Pg.topS 9) 3), .stmts (defBody (inClass (Pg.topS 9) 3)), defScope (inClass (Pg.topS 9) 3), 3, [], .none, .none, .none, (.str "sureplace.ledger.ledger" 273), none, (.ref 126), .none, 0⟩), #[]⟩
def o128 : Obj := ⟨(.type "tuple"), none, (.seq #[] 0), #[]⟩
def o129 : Obj := ⟨.none, none, (.fields #[]), #[]⟩
def o130 : Obj := ⟨.none, none, (.func ⟨"_drop", "Ledger._drop", defArgs (inClass (Pg.topS 9) 4), .stmts (defBody (inClass (Pg.topS 9) 4)), defScope (inClass (Pg.topS 9) 4), 0, [], .none, .none, .none, .none, none, .none, .none, 0⟩), #[]⟩
def o131 : Obj := ⟨(.type "code"), none, (.fields #[(.str "_drop" 338), (.str "Ledger._drop" 339), (.str "/claim/cut.py" 340), (.int (46) 0), (.int (1) 0), (.int (0) 0), (.int (0) 0), (.int (3) 0), (.ref 128), (.bool true), (.int (181) 0), (.ref 129), .none, .none, .none, (.ref 130), (.int (341) 0), (.int (46) 0), (.str "/claim/cut.py" 342)]), #[]⟩
def o132 : Obj := ⟨(.type "function"), none, (.func ⟨"_drop", "Ledger._drop", defArgs (inClass (Pg.topS 9) 4), .stmts (defBody (inClass (Pg.topS 9) 4)), defScope (inClass (Pg.topS 9) 4), 3, [], .none, .none, .none, (.str "sureplace.ledger.ledger" 273), none, (.ref 131), .none, 0⟩), #[]⟩
def o133 : Obj := ⟨(.type "tuple"), none, (.seq #[] 0), #[]⟩
def o134 : Obj := ⟨.none, none, (.fields #[]), #[]⟩
def o135 : Obj := ⟨(.type "tuple"), none, (.seq #[(.str "self" 347), (.str "reading" 348)] 0), #[]⟩
def o136 : Obj := ⟨(.type "tuple"), none, (.seq #[] 0), #[]⟩
def o137 : Obj := ⟨.none, none, (.func ⟨"put", "Ledger.put", defArgs (inClass (Pg.topS 9) 5), .stmts (defBody (inClass (Pg.topS 9) 5)), defScope (inClass (Pg.topS 9) 5), 0, [], .none, .none, .none, .none, none, .none, .none, 0⟩), #[]⟩
def o138 : Obj := ⟨(.type "code"), none, (.fields #[(.str "put" 344), (.str "Ledger.put" 345), (.str "/claim/cut.py" 346), (.int (54) 0), (.int (2) 0), (.int (0) 0), (.int (0) 0), (.int (3) 0), (.ref 133), (.bool true), (.int (181) 0), (.ref 134), .none, (.ref 135), (.ref 136), (.ref 137), (.int (349) 0), (.int (54) 0), (.str "/claim/cut.py" 350)]), #[]⟩
def o139 : Obj := ⟨(.type "function"), none, (.func ⟨"put", "Ledger.put", defArgs (inClass (Pg.topS 9) 5), .stmts (defBody (inClass (Pg.topS 9) 5)), defScope (inClass (Pg.topS 9) 5), 3, [], .none, .none, .none, (.str "sureplace.ledger.ledger" 273), none, (.ref 138), .none, 0⟩), #[]⟩
def o140 : Obj := ⟨(.type "tuple"), none, (.seq #[] 0), #[]⟩
def o141 : Obj := ⟨.none, none, (.fields #[]), #[]⟩
def o142 : Obj := ⟨(.type "tuple"), none, (.seq #[(.str "self" 355), (.str "number" 356), (.str "reading" 357)] 0), #[]⟩
def o143 : Obj := ⟨(.type "tuple"), none, (.seq #[] 0), #[]⟩
def o144 : Obj := ⟨.none, none, (.func ⟨"correct", "Ledger.correct", defArgs (inClass (Pg.topS 9) 6), .stmts (defBody (inClass (Pg.topS 9) 6)), defScope (inClass (Pg.topS 9) 6), 0, [], .none, .none, .none, .none, none, .none, .none, 0⟩), #[]⟩
def o145 : Obj := ⟨(.type "code"), none, (.fields #[(.str "correct" 352), (.str "Ledger.correct" 353), (.str "/claim/cut.py" 354), (.int (60) 0), (.int (3) 0), (.int (0) 0), (.int (0) 0), (.int (3) 0), (.ref 140), (.bool true), (.int (181) 0), (.ref 141), .none, (.ref 142), (.ref 143), (.ref 144), (.int (358) 0), (.int (60) 0), (.str "/claim/cut.py" 359)]), #[]⟩
def o146 : Obj := ⟨(.type "function"), none, (.func ⟨"correct", "Ledger.correct", defArgs (inClass (Pg.topS 9) 6), .stmts (defBody (inClass (Pg.topS 9) 6)), defScope (inClass (Pg.topS 9) 6), 3, [], .none, .none, .none, (.str "sureplace.ledger.ledger" 273), none, (.ref 145), .none, 0⟩), #[]⟩
def o147 : Obj := ⟨(.type "tuple"), none, (.seq #[] 0), #[]⟩
def o148 : Obj := ⟨.none, none, (.fields #[]), #[]⟩
def o149 : Obj := ⟨(.type "tuple"), none, (.seq #[(.str "self" 364), (.str "number" 365)] 0), #[]⟩
def o150 : Obj := ⟨(.type "tuple"), none, (.seq #[] 0), #[]⟩
def o151 : Obj := ⟨.none, none, (.func ⟨"withdraw", "Ledger.withdraw", defArgs (inClass (Pg.topS 9) 7), .stmts (defBody (inClass (Pg.topS 9) 7)), defScope (inClass (Pg.topS 9) 7), 0, [], .none, .none, .none, .none, none, .none, .none, 0⟩), #[]⟩
def o152 : Obj := ⟨(.type "code"), none, (.fields #[(.str "withdraw" 361), (.str "Ledger.withdraw" 362), (.str "/claim/cut.py" 363), (.int (69) 0), (.int (2) 0), (.int (0) 0), (.int (0) 0), (.int (3) 0), (.ref 147), (.bool true), (.int (181) 0), (.ref 148), .none, (.ref 149), (.ref 150), (.ref 151), (.int (366) 0), (.int (69) 0), (.str "/claim/cut.py" 367)]), #[]⟩
def o153 : Obj := ⟨(.type "function"), none, (.func ⟨"withdraw", "Ledger.withdraw", defArgs (inClass (Pg.topS 9) 7), .stmts (defBody (inClass (Pg.topS 9) 7)), defScope (inClass (Pg.topS 9) 7), 3, [], .none, .none, .none, (.str "sureplace.ledger.ledger" 273), none, (.ref 152), .none, 0⟩), #[]⟩
def o154 : Obj := ⟨(.type "tuple"), none, (.seq #[] 0), #[]⟩
def o155 : Obj := ⟨.none, none, (.fields #[]), #[]⟩
def o156 : Obj := ⟨(.type "tuple"), none, (.seq #[(.str "self" 372)] 0), #[]⟩
def o157 : Obj := ⟨(.type "tuple"), none, (.seq #[] 0), #[]⟩
def o158 : Obj := ⟨.none, none, (.func ⟨"pin", "Ledger.pin", defArgs (inClass (Pg.topS 9) 8), .stmts (defBody (inClass (Pg.topS 9) 8)), defScope (inClass (Pg.topS 9) 8), 0, [], .none, .none, .none, .none, none, .none, .none, 0⟩), #[]⟩
def o159 : Obj := ⟨(.type "code"), none, (.fields #[(.str "pin" 369), (.str "Ledger.pin" 370), (.str "/claim/cut.py" 371), (.int (77) 0), (.int (1) 0), (.int (0) 0), (.int (0) 0), (.int (3) 0), (.ref 154), (.bool true), (.int (181) 0), (.ref 155), .none, (.ref 156), (.ref 157), (.ref 158), (.int (373) 0), (.int (77) 0), (.str "/claim/cut.py" 374)]), #[]⟩
def o160 : Obj := ⟨(.type "function"), none, (.func ⟨"pin", "Ledger.pin", defArgs (inClass (Pg.topS 9) 8), .stmts (defBody (inClass (Pg.topS 9) 8)), defScope (inClass (Pg.topS 9) 8), 3, [], .none, .none, .none, (.str "sureplace.ledger.ledger" 273), none, (.ref 159), .none, 0⟩), #[]⟩
def o161 : Obj := ⟨(.type "tuple"), none, (.seq #[] 0), #[]⟩
def o162 : Obj := ⟨.none, none, (.fields #[]), #[]⟩
def o163 : Obj := ⟨(.type "tuple"), none, (.seq #[(.str "self" 379), (.str "moment" 380)] 0), #[]⟩
def o164 : Obj := ⟨(.type "tuple"), none, (.seq #[] 0), #[]⟩
def o165 : Obj := ⟨.none, none, (.func ⟨"unpin", "Ledger.unpin", defArgs (inClass (Pg.topS 9) 9), .stmts (defBody (inClass (Pg.topS 9) 9)), defScope (inClass (Pg.topS 9) 9), 0, [], .none, .none, .none, .none, none, .none, .none, 0⟩), #[]⟩
def o166 : Obj := ⟨(.type "code"), none, (.fields #[(.str "unpin" 376), (.str "Ledger.unpin" 377), (.str "/claim/cut.py" 378), (.int (81) 0), (.int (2) 0), (.int (0) 0), (.int (0) 0), (.int (3) 0), (.ref 161), (.bool true), (.int (181) 0), (.ref 162), .none, (.ref 163), (.ref 164), (.ref 165), (.int (381) 0), (.int (81) 0), (.str "/claim/cut.py" 382)]), #[]⟩
def o167 : Obj := ⟨(.type "function"), none, (.func ⟨"unpin", "Ledger.unpin", defArgs (inClass (Pg.topS 9) 9), .stmts (defBody (inClass (Pg.topS 9) 9)), defScope (inClass (Pg.topS 9) 9), 3, [], .none, .none, .none, (.str "sureplace.ledger.ledger" 273), none, (.ref 166), .none, 0⟩), #[]⟩
def o168 : Obj := ⟨(.type "tuple"), none, (.seq #[] 0), #[]⟩
def o169 : Obj := ⟨.none, none, (.fields #[]), #[]⟩
def o170 : Obj := ⟨(.type "tuple"), none, (.seq #[(.str "self" 387), (.str "moment" 388)] 0), #[]⟩
def o171 : Obj := ⟨(.type "tuple"), none, (.seq #[] 0), #[]⟩
def o172 : Obj := ⟨.none, none, (.func ⟨"raise_floor", "Ledger.raise_floor", defArgs (inClass (Pg.topS 9) 10), .stmts (defBody (inClass (Pg.topS 9) 10)), defScope (inClass (Pg.topS 9) 10), 0, [], .none, .none, .none, .none, none, .none, .none, 0⟩), #[]⟩
def o173 : Obj := ⟨(.type "code"), none, (.fields #[(.str "raise_floor" 384), (.str "Ledger.raise_floor" 385), (.str "/claim/cut.py" 386), (.int (87) 0), (.int (2) 0), (.int (0) 0), (.int (0) 0), (.int (3) 0), (.ref 168), (.bool true), (.int (181) 0), (.ref 169), .none, (.ref 170), (.ref 171), (.ref 172), (.int (389) 0), (.int (87) 0), (.str "/claim/cut.py" 390)]), #[]⟩
def o174 : Obj := ⟨(.type "function"), none, (.func ⟨"raise_floor", "Ledger.raise_floor", defArgs (inClass (Pg.topS 9) 10), .stmts (defBody (inClass (Pg.topS 9) 10)), defScope (inClass (Pg.topS 9) 10), 3, [], .none, .none, .none, (.str "sureplace.ledger.ledger" 273), none, (.ref 173), .none, 0⟩), #[]⟩
def o175 : Obj := ⟨(.type "tuple"), none, (.seq #[] 0), #[]⟩
def o176 : Obj := ⟨.none, none, (.fields #[]), #[]⟩
def o177 : Obj := ⟨(.type "tuple"), none, (.seq #[(.str "self" 395), (.str "moment" 396)] 0), #[]⟩
def o178 : Obj := ⟨(.type "tuple"), none, (.seq #[] 0), #[]⟩
def o179 : Obj := ⟨.none, none, (.func ⟨"keeps", "Ledger.keeps", defArgs (inClass (Pg.topS 9) 11), .stmts (defBody (inClass (Pg.topS 9) 11)), defScope (inClass (Pg.topS 9) 11), 0, [], .none, .none, .none, .none, none, .none, .none, 0⟩), #[]⟩
def o180 : Obj := ⟨(.type "code"), none, (.fields #[(.str "keeps" 392), (.str "Ledger.keeps" 393), (.str "/claim/cut.py" 394), (.int (92) 0), (.int (2) 0), (.int (0) 0), (.int (0) 0), (.int (3) 0), (.ref 175), (.bool true), (.int (181) 0), (.ref 176), .none, (.ref 177), (.ref 178), (.ref 179), (.int (397) 0), (.int (92) 0), (.str "/claim/cut.py" 398)]), #[]⟩
def o181 : Obj := ⟨(.type "function"), none, (.func ⟨"keeps", "Ledger.keeps", defArgs (inClass (Pg.topS 9) 11), .stmts (defBody (inClass (Pg.topS 9) 11)), defScope (inClass (Pg.topS 9) 11), 3, [], .none, .none, .none, (.str "sureplace.ledger.ledger" 273), none, (.ref 180), .none, 0⟩), #[]⟩
def o182 : Obj := ⟨(.type "tuple"), none, (.seq #[] 0), #[]⟩
def o183 : Obj := ⟨.none, none, (.fields #[]), #[]⟩
def o184 : Obj := ⟨.none, none, (.func ⟨"readings", "Ledger.readings", defArgs (inClass (Pg.topS 9) 12), .stmts (defBody (inClass (Pg.topS 9) 12)), defScope (inClass (Pg.topS 9) 12), 0, [], .none, .none, .none, .none, none, .none, .none, 0⟩), #[]⟩
def o185 : Obj := ⟨(.type "code"), none, (.fields #[(.str "readings" 400), (.str "Ledger.readings" 401), (.str "/claim/cut.py" 402), (.int (95) 0), (.int (2) 0), (.int (0) 0), (.int (0) 0), (.int (3) 0), (.ref 182), (.bool true), (.int (181) 0), (.ref 183), .none, .none, .none, (.ref 184), (.int (403) 0), (.int (95) 0), (.str "/claim/cut.py" 404)]), #[]⟩
def o186 : Obj := ⟨(.type "function"), none, (.func ⟨"readings", "Ledger.readings", defArgs (inClass (Pg.topS 9) 12), .stmts (defBody (inClass (Pg.topS 9) 12)), defScope (inClass (Pg.topS 9) 12), 3, [], .none, .none, .none, (.str "sureplace.ledger.ledger" 273), none, (.ref 185), .none, 0⟩), #[]⟩
def o187 : Obj := ⟨(.type "tuple"), none, (.seq #[] 0), #[]⟩
def o188 : Obj := ⟨.none, none, (.fields #[]), #[]⟩
def o189 : Obj := ⟨(.type "tuple"), none, (.seq #[(.str "self" 409)] 0), #[]⟩
def o190 : Obj := ⟨(.type "tuple"), none, (.seq #[] 0), #[]⟩
def o191 : Obj := ⟨.none, none, (.func ⟨"entries", "Ledger.entries", defArgs (inClass (Pg.topS 9) 13), .stmts (defBody (inClass (Pg.topS 9) 13)), defScope (inClass (Pg.topS 9) 13), 0, [], .none, .none, .none, .none, none, .none, .none, 0⟩), #[]⟩
def o192 : Obj := ⟨(.type "code"), none, (.fields #[(.str "entries" 406), (.str "Ledger.entries" 407), (.str "/claim/cut.py" 408), (.int (103) 0), (.int (1) 0), (.int (0) 0), (.int (0) 0), (.int (3) 0), (.ref 187), (.bool true), (.int (181) 0), (.ref 188), .none, (.ref 189), (.ref 190), (.ref 191), (.int (410) 0), (.int (103) 0), (.str "/claim/cut.py" 411)]), #[]⟩
def o193 : Obj := ⟨(.type "function"), none, (.func ⟨"entries", "Ledger.entries", defArgs (inClass (Pg.topS 9) 13), .stmts (defBody (inClass (Pg.topS 9) 13)), defScope (inClass (Pg.topS 9) 13), 3, [], .none, .none, .none, (.str "sureplace.ledger.ledger" 273), none, (.ref 192), .none, 0⟩), #[]⟩
def o194 : Obj := ⟨(.type "tuple"), none, (.seq #[(.str "_pinned" 413), (.str "_there" 414), (.str "_versions" 415), (.str "floor" 416), (.str "now" 417)] 0), #[]⟩
def o195 (W : Params) : Obj := ⟨(.type "dict"), none, (.dict #[⟨PyData.keyHash W "__module__", (.str "__module__" 299), (.str "sureplace.ledger.ledger" 273)⟩, ⟨PyData.keyHash W "__firstlineno__", (.str "__firstlineno__" 303), (.int (24) 302)⟩, ⟨PyData.keyHash W "__init__", (.str "__init__" 310), (.ref 106)⟩, ⟨PyData.keyHash W "pins", (.str "pins" 318), (.ref 114)⟩, ⟨PyData.keyHash W "kept", (.str "kept" 325), (.ref 120)⟩, ⟨PyData.keyHash W "_end", (.str "_end" 337), (.ref 127)⟩, ⟨PyData.keyHash W "_drop", (.str "_drop" 343), (.ref 132)⟩, ⟨PyData.keyHash W "put", (.str "put" 351), (.ref 139)⟩, ⟨PyData.keyHash W "correct", (.str "correct" 360), (.ref 146)⟩, ⟨PyData.keyHash W "withdraw", (.str "withdraw" 368), (.ref 153)⟩, ⟨PyData.keyHash W "pin", (.str "pin" 375), (.ref 160)⟩, ⟨PyData.keyHash W "unpin", (.str "unpin" 383), (.ref 167)⟩, ⟨PyData.keyHash W "raise_floor", (.str "raise_floor" 391), (.ref 174)⟩, ⟨PyData.keyHash W "keeps", (.str "keeps" 399), (.ref 181)⟩, ⟨PyData.keyHash W "readings", (.str "readings" 405), (.ref 186)⟩, ⟨PyData.keyHash W "entries", (.str "entries" 412), (.ref 193)⟩, ⟨PyData.keyHash W "__static_attributes__", (.str "__static_attributes__" 418), (.ref 194)⟩, ⟨PyData.keyHash W "__dict__", (.str "__dict__" 420), (.ref 197)⟩, ⟨PyData.keyHash W "__weakref__", (.str "__weakref__" 422), (.ref 198)⟩, ⟨PyData.keyHash W "__doc__", (.str "__doc__" 423), .none⟩] 4), #[]⟩
def o196 : Obj := ⟨(.type "type"), none, (.cls ⟨"Ledger", [(.type "object")], [(.ref 196), (.type "object")], 195, "Ledger", true, [], [], false, none, false⟩), #[none, none, (some (.str "Ledger" 292)), (some (.str "Ledger" 300)), (some (.builtin "object.__new__")), (some (.bool true))]⟩
def o197 : Obj := ⟨(.type "getset_descriptor"), none, (.fields #[(.str "__dict__" 419), (.ref 196), (.builtin "function.__dict__"), (.builtin "function.__dict__#set")]), #[]⟩
def o198 : Obj := ⟨(.type "getset_descriptor"), none, (.fields #[(.str "__weakref__" 421), (.ref 196), (.builtin "ExceptionGroup.__weakref__"), .none]), #[]⟩
def o199 : Obj := ⟨(.type "super"), none, (.fields #[(.ref 196), (.ref 196), (.ref 196)]), #[]⟩
def o200 : Obj := ⟨(.type "builtin_function_or_method"), none, (.fields #[(.builtin "object.__init_subclass__"), (.ref 196)]), #[]⟩
def o201 : Obj := ⟨(.type "tuple"), none, (.seq #[] 0), #[]⟩
def o202 : Obj := ⟨.none, none, (.fields #[]), #[]⟩
def o203 : Obj := ⟨.none, none, (.func ⟨"is_name", "is_name", defArgs (Pg.topS 13), .stmts (defBody (Pg.topS 13)), defScope (Pg.topS 13), 0, [], .none, .none, .none, .none, none, .none, .none, 0⟩), #[]⟩
def o204 : Obj := ⟨(.type "code"), none, (.fields #[(.str "is_name" 432), (.str "is_name" 433), (.str "/claim/cut.py" 434), (.int (108) 0), (.int (1) 0), (.int (0) 0), (.int (0) 0), (.int (3) 0), (.ref 201), (.bool true), (.int (181) 0), (.ref 202), .none, .none, .none, (.ref 203), (.int (435) 0), (.int (108) 0), (.str "/claim/cut.py" 436)]), #[]⟩
def o205 : Obj := ⟨(.type "function"), none, (.func ⟨"is_name", "is_name", defArgs (Pg.topS 13), .stmts (defBody (Pg.topS 13)), defScope (Pg.topS 13), 3, [], .none, .none, .none, (.str "sureplace.given.names" 426), none, (.ref 204), .none, 0⟩), #[]⟩
def o206 : Obj := ⟨(.type "tuple"), none, (.seq #[] 0), #[]⟩
def o207 : Obj := ⟨.none, none, (.fields #[]), #[]⟩
def o208 : Obj := ⟨.none, none, (.func ⟨"all_within", "all_within", defArgs (Pg.topS 16), .stmts (defBody (Pg.topS 16)), defScope (Pg.topS 16), 0, [], .none, .none, .none, .none, none, .none, .none, 0⟩), #[]⟩
def o209 : Obj := ⟨(.type "code"), none, (.fields #[(.str "all_within" 444), (.str "all_within" 445), (.str "/claim/cut.py" 446), (.int (112) 0), (.int (3) 0), (.int (0) 0), (.int (0) 0), (.int (3) 0), (.ref 206), (.bool true), (.int (181) 0), (.ref 207), .none, .none, .none, (.ref 208), (.int (447) 0), (.int (112) 0), (.str "/claim/cut.py" 448)]), #[]⟩
def o210 : Obj := ⟨(.type "function"), none, (.func ⟨"all_within", "all_within", defArgs (Pg.topS 16), .stmts (defBody (Pg.topS 16)), defScope (Pg.topS 16), 3, [], .none, .none, .none, (.str "sureplace.numbers.bounds" 438), none, (.ref 209), .none, 0⟩), #[]⟩
def o211 : Obj := ⟨(.type "tuple"), none, (.seq #[] 0), #[]⟩
def o212 : Obj := ⟨.none, none, (.fields #[]), #[]⟩
def o213 : Obj := ⟨.none, none, (.func ⟨"sides_within", "sides_within", defArgs (Pg.topS 17), .stmts (defBody (Pg.topS 17)), defScope (Pg.topS 17), 0, [], .none, .none, .none, .none, none, .none, .none, 0⟩), #[]⟩
def o214 : Obj := ⟨(.type "code"), none, (.fields #[(.str "sides_within" 450), (.str "sides_within" 451), (.str "/claim/cut.py" 452), (.int (114) 0), (.int (2) 0), (.int (0) 0), (.int (0) 0), (.int (3) 0), (.ref 211), (.bool true), (.int (181) 0), (.ref 212), .none, .none, .none, (.ref 213), (.int (453) 0), (.int (114) 0), (.str "/claim/cut.py" 454)]), #[]⟩
def o215 : Obj := ⟨(.type "function"), none, (.func ⟨"sides_within", "sides_within", defArgs (Pg.topS 17), .stmts (defBody (Pg.topS 17)), defScope (Pg.topS 17), 3, [], .none, .none, .none, (.str "sureplace.numbers.bounds" 438), none, (.ref 214), .none, 0⟩), #[]⟩
def o216 : Obj := ⟨(.type "tuple"), none, (.seq #[] 0), #[]⟩
def o217 : Obj := ⟨.none, none, (.fields #[]), #[]⟩
def o218 : Obj := ⟨.none, none, (.func ⟨"_direction_holds", "_direction_holds", defArgs (Pg.topS 22), .stmts (defBody (Pg.topS 22)), defScope (Pg.topS 22), 0, [], .none, .none, .none, .none, none, .none, .none, 0⟩), #[]⟩
def o219 : Obj := ⟨(.type "code"), none, (.fields #[(.str "_direction_holds" 466), (.str "_direction_holds" 467), (.str "/claim/cut.py" 468), (.int (120) 0), (.int (1) 0), (.int (0) 0), (.int (0) 0), (.int (3) 0), (.ref 216), (.bool true), (.int (181) 0), (.ref 217), .none, .none, .none, (.ref 218), (.int (469) 0), (.int (120) 0), (.str "/claim/cut.py" 470)]), #[]⟩
def o220 : Obj := ⟨(.type "function"), none, (.func ⟨"_direction_holds", "_direction_holds", defArgs (Pg.topS 22), .stmts (defBody (Pg.topS 22)), defScope (Pg.topS 22), 3, [], .none, .none, .none, (.str "sureplace.given.readings" 456), none, (.ref 219), .none, 0⟩), #[]⟩
def o221 : Obj := ⟨(.type "tuple"), none, (.seq #[] 0), #[]⟩
def o222 : Obj := ⟨.none, none, (.fields #[]), #[]⟩
def o223 : Obj := ⟨.none, none, (.func ⟨"_boxes_hold", "_boxes_hold", defArgs (Pg.topS 23), .stmts (defBody (Pg.topS 23)), defScope (Pg.topS 23), 0, [], .none, .none, .none, .none, none, .none, .none, 0⟩), #[]⟩
def o224 : Obj := ⟨(.type "code"), none, (.fields #[(.str "_boxes_hold" 472), (.str "_boxes_hold" 473), (.str "/claim/cut.py" 474), (.int (122) 0), (.int (1) 0), (.int (0) 0), (.int (0) 0), (.int (3) 0), (.ref 221), (.bool true), (.int (181) 0), (.ref 222), .none, .none, .none, (.ref 223), (.int (475) 0), (.int (122) 0), (.str "/claim/cut.py" 476)]), #[]⟩
def o225 : Obj := ⟨(.type "function"), none, (.func ⟨"_boxes_hold", "_boxes_hold", defArgs (Pg.topS 23), .stmts (defBody (Pg.topS 23)), defScope (Pg.topS 23), 3, [], .none, .none, .none, (.str "sureplace.given.readings" 456), none, (.ref 224), .none, 0⟩), #[]⟩
def o226 : Obj := ⟨(.type "tuple"), none, (.seq #[] 0), #[]⟩
def o227 : Obj := ⟨.none, none, (.fields #[]), #[]⟩
def o228 : Obj := ⟨.none, none, (.func ⟨"_kind_holds", "_kind_holds", defArgs (Pg.topS 24), .stmts (defBody (Pg.topS 24)), defScope (Pg.topS 24), 0, [], .none, .none, .none, .none, none, .none, .none, 0⟩), #[]⟩
def o229 : Obj := ⟨(.type "code"), none, (.fields #[(.str "_kind_holds" 478), (.str "_kind_holds" 479), (.str "/claim/cut.py" 480), (.int (124) 0), (.int (1) 0), (.int (0) 0), (.int (0) 0), (.int (3) 0), (.ref 226), (.bool true), (.int (181) 0), (.ref 227), .none, .none, .none, (.ref 228), (.int (481) 0), (.int (124) 0), (.str "/claim/cut.py" 482)]), #[]⟩
def o230 : Obj := ⟨(.type "function"), none, (.func ⟨"_kind_holds", "_kind_holds", defArgs (Pg.topS 24), .stmts (defBody (Pg.topS 24)), defScope (Pg.topS 24), 3, [], .none, .none, .none, (.str "sureplace.given.readings" 456), none, (.ref 229), .none, 0⟩), #[]⟩
def T2_0 (w : World) : BT := EvH.put (T1 w) [(3, o3_2 w.params), (12, o12_2), (93, o93), (94, o94), (95, o95 w.params), (96, o96), (97, o97), (98, o98), (99, o99), (100, o100), (101, o101), (102, o102), (103, o103), (104, o104), (105, o105), (106, o106), (107, o107), (108, o108), (109, o109), (110, o110), (111, o111), (112, o112), (113, o113), (114, o114), (115, o115), (116, o116), (117, o117), (118, o118), (119, o119), (120, o120)]
def T2_1 (w : World) : BT := EvH.put (T2_0 w) [(121, o121), (122, o122), (123, o123), (124, o124), (125, o125), (126, o126), (127, o127), (128, o128), (129, o129), (130, o130), (131, o131), (132, o132), (133, o133), (134, o134), (135, o135), (136, o136), (137, o137), (138, o138), (139, o139), (140, o140), (141, o141), (142, o142), (143, o143), (144, o144), (145, o145), (146, o146), (147, o147), (148, o148), (149, o149), (150, o150)]
def T2_2 (w : World) : BT := EvH.put (T2_1 w) [(151, o151), (152, o152), (153, o153), (154, o154), (155, o155), (156, o156), (157, o157), (158, o158), (159, o159), (160, o160), (161, o161), (162, o162), (163, o163), (164, o164), (165, o165), (166, o166), (167, o167), (168, o168), (169, o169), (170, o170), (171, o171), (172, o172), (173, o173), (174, o174), (175, o175), (176, o176), (177, o177), (178, o178), (179, o179), (180, o180)]
def T2_3 (w : World) : BT := EvH.put (T2_2 w) [(181, o181), (182, o182), (183, o183), (184, o184), (185, o185), (186, o186), (187, o187), (188, o188), (189, o189), (190, o190), (191, o191), (192, o192), (193, o193), (194, o194), (195, o195 w.params), (196, o196), (197, o197), (198, o198), (199, o199), (200, o200), (201, o201), (202, o202), (203, o203), (204, o204), (205, o205), (206, o206), (207, o207), (208, o208), (209, o209), (210, o210)]
def T2 (w : World) : BT := EvH.put (T2_3 w) [(211, o211), (212, o212), (213, o213), (214, o214), (215, o215), (216, o216), (217, o217), (218, o218), (219, o219), (220, o220), (221, o221), (222, o222), (223, o223), (224, o224), (225, o225), (226, o226), (227, o227), (228, o228), (229, o229), (230, o230)]
def life2 : Life := { }
def dr2 : Drawn := { }
def x2 (w : World) (os : OsState) : SharedT := ⟨T2 w, 231, life2, #[], dr2, 484, os⟩
def o3_3 (W : Params) : Obj := ⟨(.type "dict"), none, (.dict (EvH.fixL (g3 W) 36 []) 36), #[]⟩
def o12_3 : Obj := ⟨.none, none, (.fields (EvH.fixL g12 63 [])), #[]⟩
def o231 : Obj := ⟨(.type "tuple"), none, (.seq #[] 0), #[]⟩
def o232 : Obj := ⟨(.type "builtin_function_or_method"), none, (.fields #[(.builtin "type.__prepare__"), (.type "type")]), #[]⟩
def o233 (W : Params) : Obj := ⟨(.type "dict"), none, (.dict #[⟨PyData.keyHash W "__module__", (.str "__module__" 491), (.str "sureplace.given.readings" 456)⟩, ⟨PyData.keyHash W "__qualname__", (.str "__qualname__" 493), (.str "Reading" 492)⟩, ⟨PyData.keyHash W "__firstlineno__", (.str "__firstlineno__" 495), (.int (130) 494)⟩, ⟨PyData.keyHash W "__init__", (.str "__init__" 513), (.ref 245)⟩, ⟨PyData.keyHash W "__eq__", (.str "__eq__" 521), (.ref 252)⟩, ⟨PyData.keyHash W "__static_attributes__", (.str "__static_attributes__" 529), (.ref 253)⟩] 6), #[]⟩
def o234 : Obj := ⟨(.type "tuple"), none, (.seq #[] 0), #[]⟩
def o235 : Obj := ⟨.none, none, (.fields #[(.int (132) 0), (.int (4) 0), (.ref 244), (.int (151) 0), (.int (4) 0), (.ref 251)]), #[]⟩
def o236 : Obj := ⟨(.type "code"), none, (.fields #[(.str "Reading" 486), (.str "Reading" 487), (.str "/claim/cut.py" 488), (.int (130) 0), (.int (0) 0), (.int (0) 0), (.int (0) 0), (.int (0) 0), (.ref 234), (.bool false), (.int (181) 0), (.ref 235), .none, .none, .none, .none, (.int (489) 0), (.int (130) 0), (.str "/claim/cut.py" 490)]), #[]⟩
def o237 : Obj := ⟨(.type "frame"), none, .plain, #[(some (.ref 236)), (some (.ref 3)), (some (.ref 233)), none, (some (.str "sureplace.given.readings" 456)), none, (some (.ref 0))]⟩
def o238 (W : Params) : Obj := ⟨(.type "dict"), none, (.dict #[⟨PyData.keyHash W "late", (.str "late" 498), (.int (0) 496)⟩, ⟨PyData.keyHash W "near", (.str "near" 499), (.int (0) 497)⟩] 2), #[]⟩
def o239 : Obj := ⟨(.type "tuple"), none, (.seq #[] 0), #[]⟩
def o240 : Obj := ⟨.none, none, (.fields #[]), #[]⟩
def o241 : Obj := ⟨(.type "tuple"), none, (.seq #[(.str "self" 503), (.str "source" 504), (.str "moment" 505), (.str "kind" 506), (.str "low" 507), (.str "high" 508), (.str "late" 509), (.str "near" 510)] 0), #[]⟩
def o242 : Obj := ⟨(.type "tuple"), none, (.seq #[] 0), #[]⟩
def o243 : Obj := ⟨.none, none, (.func ⟨"__init__", "Reading.__init__", defArgs (inClass (Pg.topS 25) 0), .stmts (defBody (inClass (Pg.topS 25) 0)), defScope (inClass (Pg.topS 25) 0), 0, [], .none, .none, .none, .none, none, .none, .none, 0⟩), #[]⟩
def o244 : Obj := ⟨(.type "code"), none, (.fields #[(.str "__init__" 500), (.str "Reading.__init__" 501), (.str "/claim/cut.py" 502), (.int (132) 0), (.int (4) 0), (.int (0) 0), (.int (4) 0), (.int (3) 0), (.ref 239), (.bool true), (.int (181) 0), (.ref 240), .none, (.ref 241), (.ref 242), (.ref 243), (.int (511) 0), (.int (132) 0), (.str "/claim/cut.py" 512)]), #[]⟩
def o245 : Obj := ⟨(.type "function"), none, (.func ⟨"__init__", "Reading.__init__", defArgs (inClass (Pg.topS 25) 0), .stmts (defBody (inClass (Pg.topS 25) 0)), defScope (inClass (Pg.topS 25) 0), 3, [], .none, (.ref 238), .none, (.str "sureplace.given.readings" 456), none, (.ref 244), .none, 0⟩), #[]⟩
def o246 : Obj := ⟨(.type "tuple"), none, (.seq #[] 0), #[]⟩
def o247 : Obj := ⟨.none, none, (.fields #[]), #[]⟩
def o248 : Obj := ⟨(.type "tuple"), none, (.seq #[(.str "self" 517), (.str "other" 518)] 0), #[]⟩
def o249 : Obj := ⟨(.type "tuple"), none, (.seq #[] 0), #[]⟩
def o250 : Obj := ⟨.none, none, (.func ⟨"__eq__", "Reading.__eq__", defArgs (inClass (Pg.topS 25) 1), .stmts (defBody (inClass (Pg.topS 25) 1)), defScope (inClass (Pg.topS 25) 1), 0, [], .none, .none, .none, .none, none, .none, .none, 0⟩), #[]⟩
def o251 : Obj := ⟨(.type "code"), none, (.fields #[(.str "__eq__" 514), (.str "Reading.__eq__" 515), (.str "/claim/cut.py" 516), (.int (151) 0), (.int (2) 0), (.int (0) 0), (.int (0) 0), (.int (3) 0), (.ref 246), (.bool true), (.int (181) 0), (.ref 247), .none, (.ref 248), (.ref 249), (.ref 250), (.int (519) 0), (.int (151) 0), (.str "/claim/cut.py" 520)]), #[]⟩
def o252 : Obj := ⟨(.type "function"), none, (.func ⟨"__eq__", "Reading.__eq__", defArgs (inClass (Pg.topS 25) 1), .stmts (defBody (inClass (Pg.topS 25) 1)), defScope (inClass (Pg.topS 25) 1), 3, [], .none, .none, .none, (.str "sureplace.given.readings" 456), none, (.ref 251), .none, 0⟩), #[]⟩
def o253 : Obj := ⟨(.type "tuple"), none, (.seq #[(.str "high" 522), (.str "kind" 523), (.str "late" 524), (.str "low" 525), (.str "moment" 526), (.str "near" 527), (.str "source" 528)] 0), #[]⟩
def o254 (W : Params) : Obj := ⟨(.type "dict"), none, (.dict #[⟨PyData.keyHash W "__module__", (.str "__module__" 491), (.str "sureplace.given.readings" 456)⟩, ⟨PyData.keyHash W "__firstlineno__", (.str "__firstlineno__" 495), (.int (130) 494)⟩, ⟨PyData.keyHash W "__init__", (.str "__init__" 513), (.ref 245)⟩, ⟨PyData.keyHash W "__eq__", (.str "__eq__" 521), (.ref 252)⟩, ⟨PyData.keyHash W "__static_attributes__", (.str "__static_attributes__" 529), (.ref 253)⟩, ⟨PyData.keyHash W "__dict__", (.str "__dict__" 531), (.ref 256)⟩, ⟨PyData.keyHash W "__weakref__", (.str "__weakref__" 533), (.ref 257)⟩, ⟨PyData.keyHash W "__doc__", (.str "__doc__" 534), .none⟩, ⟨PyData.keyHash W "__hash__", (.str "__hash__" 535), .none⟩] 5), #[]⟩
def o255 : Obj := ⟨(.type "type"), none, (.cls ⟨"Reading", [(.type "object")], [(.ref 255), (.type "object")], 254, "Reading", true, [], [], false, none, false⟩), #[none, none, (some (.str "Reading" 484)), (some (.str "Reading" 492)), (some (.builtin "object.__new__")), (some (.bool true))]⟩
def o256 : Obj := ⟨(.type "getset_descriptor"), none, (.fields #[(.str "__dict__" 530), (.ref 255), (.builtin "function.__dict__"), (.builtin "function.__dict__#set")]), #[]⟩
def o257 : Obj := ⟨(.type "getset_descriptor"), none, (.fields #[(.str "__weakref__" 532), (.ref 255), (.builtin "ExceptionGroup.__weakref__"), .none]), #[]⟩
def o258 : Obj := ⟨(.type "super"), none, (.fields #[(.ref 255), (.ref 255), (.ref 255)]), #[]⟩
def o259 : Obj := ⟨(.type "builtin_function_or_method"), none, (.fields #[(.builtin "object.__init_subclass__"), (.ref 255)]), #[]⟩
def o260 : Obj := ⟨(.type "tuple"), none, (.seq #[] 0), #[]⟩
def o261 : Obj := ⟨.none, none, (.fields #[]), #[]⟩
def o262 : Obj := ⟨(.type "tuple"), none, (.seq #[(.str "script" 543), (.str "count" 544), (.str "rows" 545), (.str "k" 546), (.str "cell" 547)] 0), #[]⟩
def o263 : Obj := ⟨(.type "tuple"), none, (.seq #[] 0), #[]⟩
def o264 : Obj := ⟨.none, none, (.func ⟨"_law_rows", "_law_rows", defArgs (Pg.topS 27), .stmts (defBody (Pg.topS 27)), defScope (Pg.topS 27), 0, [], .none, .none, .none, .none, none, .none, .none, 0⟩), #[]⟩
def o265 : Obj := ⟨(.type "code"), none, (.fields #[(.str "_law_rows" 540), (.str "_law_rows" 541), (.str "/claim/cut.py" 542), (.int (154) 0), (.int (2) 0), (.int (0) 0), (.int (0) 0), (.int (3) 0), (.ref 260), (.bool true), (.int (181) 0), (.ref 261), .none, (.ref 262), (.ref 263), (.ref 264), (.int (548) 0), (.int (154) 0), (.str "/claim/cut.py" 549)]), #[]⟩
def o266 : Obj := ⟨(.type "function"), none, (.func ⟨"_law_rows", "_law_rows", defArgs (Pg.topS 27), .stmts (defBody (Pg.topS 27)), defScope (Pg.topS 27), 3, [], .none, .none, .none, (.str "law_sureplace_k62_a_ledger_tells_every_kept" 538), none, (.ref 265), .none, 0⟩), #[]⟩
def o267 : Obj := ⟨(.type "tuple"), none, (.seq #[] 0), #[]⟩
def o268 : Obj := ⟨.none, none, (.fields #[]), #[]⟩
def o269 : Obj := ⟨(.type "tuple"), none, (.seq #[(.str "row" 554), (.str "kinds" 555), (.str "low" 556)] 0), #[]⟩
def o270 : Obj := ⟨(.type "tuple"), none, (.seq #[] 0), #[]⟩
def o271 : Obj := ⟨.none, none, (.func ⟨"_law_value_of", "_law_value_of", defArgs (Pg.topS 28), .stmts (defBody (Pg.topS 28)), defScope (Pg.topS 28), 0, [], .none, .none, .none, .none, none, .none, .none, 0⟩), #[]⟩
def o272 : Obj := ⟨(.type "code"), none, (.fields #[(.str "_law_value_of" 551), (.str "_law_value_of" 552), (.str "/claim/cut.py" 553), (.int (167) 0), (.int (1) 0), (.int (0) 0), (.int (0) 0), (.int (3) 0), (.ref 267), (.bool true), (.int (181) 0), (.ref 268), .none, (.ref 269), (.ref 270), (.ref 271), (.int (557) 0), (.int (167) 0), (.str "/claim/cut.py" 558)]), #[]⟩
def o273 : Obj := ⟨(.type "function"), none, (.func ⟨"_law_value_of", "_law_value_of", defArgs (Pg.topS 28), .stmts (defBody (Pg.topS 28)), defScope (Pg.topS 28), 3, [], .none, .none, .none, (.str "law_sureplace_k62_a_ledger_tells_every_kept" 538), none, (.ref 272), .none, 0⟩), #[]⟩
def o274 : Obj := ⟨(.type "tuple"), none, (.seq #[] 0), #[]⟩
def o275 : Obj := ⟨.none, none, (.fields #[]), #[]⟩
def o276 : Obj := ⟨.none, none, (.func ⟨"_law_there", "_law_there", defArgs (Pg.topS 29), .stmts (defBody (Pg.topS 29)), defScope (Pg.topS 29), 0, [], .none, .none, .none, .none, none, .none, .none, 0⟩), #[]⟩
def o277 : Obj := ⟨(.type "code"), none, (.fields #[(.str "_law_there" 560), (.str "_law_there" 561), (.str "/claim/cut.py" 562), (.int (171) 0), (.int (2) 0), (.int (0) 0), (.int (0) 0), (.int (3) 0), (.ref 274), (.bool true), (.int (181) 0), (.ref 275), .none, .none, .none, (.ref 276), (.int (563) 0), (.int (171) 0), (.str "/claim/cut.py" 564)]), #[]⟩
def o278 : Obj := ⟨(.type "function"), none, (.func ⟨"_law_there", "_law_there", defArgs (Pg.topS 29), .stmts (defBody (Pg.topS 29)), defScope (Pg.topS 29), 3, [], .none, .none, .none, (.str "law_sureplace_k62_a_ledger_tells_every_kept" 538), none, (.ref 277), .none, 0⟩), #[]⟩
def o279 : Obj := ⟨(.type "tuple"), none, (.seq #[] 0), #[]⟩
def o280 : Obj := ⟨.none, none, (.fields #[]), #[]⟩
def o281 : Obj := ⟨.none, none, (.func ⟨"_law_turn_of", "_law_turn_of", defArgs (Pg.topS 30), .stmts (defBody (Pg.topS 30)), defScope (Pg.topS 30), 0, [], .none, .none, .none, .none, none, .none, .none, 0⟩), #[]⟩
def o282 : Obj := ⟨(.type "code"), none, (.fields #[(.str "_law_turn_of" 566), (.str "_law_turn_of" 567), (.str "/claim/cut.py" 568), (.int (173) 0), (.int (3) 0), (.int (0) 0), (.int (0) 0), (.int (3) 0), (.ref 279), (.bool true), (.int (181) 0), (.ref 280), .none, .none, .none, (.ref 281), (.int (569) 0), (.int (173) 0), (.str "/claim/cut.py" 570)]), #[]⟩
def o283 : Obj := ⟨(.type "function"), none, (.func ⟨"_law_turn_of", "_law_turn_of", defArgs (Pg.topS 30), .stmts (defBody (Pg.topS 30)), defScope (Pg.topS 30), 3, [], .none, .none, .none, (.str "law_sureplace_k62_a_ledger_tells_every_kept" 538), none, (.ref 282), .none, 0⟩), #[]⟩
def o284 : Obj := ⟨(.type "tuple"), none, (.seq #[] 0), #[]⟩
def o285 : Obj := ⟨.none, none, (.fields #[]), #[]⟩
def o286 : Obj := ⟨(.type "tuple"), none, (.seq #[(.str "ledger" 575), (.str "states" 576), (.str "floor" 577), (.str "pins" 578), (.str "now" 579), (.str "moment" 580), (.str "kept" 581), (.str "told" 582)] 0), #[]⟩
def o287 : Obj := ⟨(.type "tuple"), none, (.seq #[] 0), #[]⟩
def o288 : Obj := ⟨.none, none, (.func ⟨"_law_right", "_law_right", defArgs (Pg.topS 31), .stmts (defBody (Pg.topS 31)), defScope (Pg.topS 31), 0, [], .none, .none, .none, .none, none, .none, .none, 0⟩), #[]⟩
def o289 : Obj := ⟨(.type "code"), none, (.fields #[(.str "_law_right" 572), (.str "_law_right" 573), (.str "/claim/cut.py" 574), (.int (193) 0), (.int (4) 0), (.int (0) 0), (.int (0) 0), (.int (3) 0), (.ref 284), (.bool true), (.int (181) 0), (.ref 285), .none, (.ref 286), (.ref 287), (.ref 288), (.int (583) 0), (.int (193) 0), (.str "/claim/cut.py" 584)]), #[]⟩
def o290 : Obj := ⟨(.type "function"), none, (.func ⟨"_law_right", "_law_right", defArgs (Pg.topS 31), .stmts (defBody (Pg.topS 31)), defScope (Pg.topS 31), 3, [], .none, .none, .none, (.str "law_sureplace_k62_a_ledger_tells_every_kept" 538), none, (.ref 289), .none, 0⟩), #[]⟩
def o291 : Obj := ⟨(.type "tuple"), none, (.seq #[] 0), #[]⟩
def o292 : Obj := ⟨.none, none, (.fields #[]), #[]⟩
def o293 : Obj := ⟨(.type "tuple"), none, (.seq #[(.str "script" 589), (.str "rows" 590), (.str "ledger" 591), (.str "states" 592), (.str "floor" 593), (.str "pins" 594), (.str "row" 595), (.str "moment" 596)] 0), #[]⟩
def o294 : Obj := ⟨(.type "tuple"), none, (.seq #[] 0), #[]⟩
def o295 : Obj := ⟨.none, none, (.func ⟨"law", "law", defArgs (Pg.topS 32), .stmts (defBody (Pg.topS 32)), defScope (Pg.topS 32), 0, [], .none, .none, .none, .none, none, .none, .none, 0⟩), #[]⟩
def o296 : Obj := ⟨(.type "code"), none, (.fields #[(.str "law" 586), (.str "law" 587), (.str "/claim/cut.py" 588), (.int (207) 0), (.int (1) 0), (.int (0) 0), (.int (0) 0), (.int (3) 0), (.ref 291), (.bool true), (.int (181) 0), (.ref 292), .none, (.ref 293), (.ref 294), (.ref 295), (.int (597) 0), (.int (207) 0), (.str "/claim/cut.py" 598)]), #[]⟩
def o297 : Obj := ⟨(.type "function"), none, (.func ⟨"law", "law", defArgs (Pg.topS 32), .stmts (defBody (Pg.topS 32)), defScope (Pg.topS 32), 3, [], .none, .none, .none, (.str "law_sureplace_k62_a_ledger_tells_every_kept" 538), none, (.ref 296), .none, 0⟩), #[]⟩
def T3_0 (w : World) : BT := EvH.put (T2 w) [(3, o3_3 w.params), (12, o12_3), (231, o231), (232, o232), (233, o233 w.params), (234, o234), (235, o235), (236, o236), (237, o237), (238, o238 w.params), (239, o239), (240, o240), (241, o241), (242, o242), (243, o243), (244, o244), (245, o245), (246, o246), (247, o247), (248, o248), (249, o249), (250, o250), (251, o251), (252, o252), (253, o253), (254, o254 w.params), (255, o255), (256, o256), (257, o257), (258, o258)]
def T3_1 (w : World) : BT := EvH.put (T3_0 w) [(259, o259), (260, o260), (261, o261), (262, o262), (263, o263), (264, o264), (265, o265), (266, o266), (267, o267), (268, o268), (269, o269), (270, o270), (271, o271), (272, o272), (273, o273), (274, o274), (275, o275), (276, o276), (277, o277), (278, o278), (279, o279), (280, o280), (281, o281), (282, o282), (283, o283), (284, o284), (285, o285), (286, o286), (287, o287), (288, o288)]
def T3 (w : World) : BT := EvH.put (T3_1 w) [(289, o289), (290, o290), (291, o291), (292, o292), (293, o293), (294, o294), (295, o295), (296, o296), (297, o297)]
def life3 : Life := { }
def dr3 : Drawn := { }
def x3 (w : World) (os : OsState) : SharedT := ⟨T3 w, 298, life3, #[], dr3, 600, os⟩
def Tf (w : World) : BT := (T3 w)
def lifef : Life := { }
def drf : Drawn := { }
def xf (w : World) (os : OsState) : SharedT := ⟨Tf w, 298, lifef, #[], drf, 600, os⟩
def K (W : Params) : Frag := (nat_lit 2, o2) :: (nat_lit 3, o3_3 W) :: (nat_lit 15, o15) :: (nat_lit 16, o16) :: (nat_lit 17, o17) :: (nat_lit 18, o18) :: (nat_lit 19, o19) :: (nat_lit 20, o20) :: (nat_lit 21, o21) :: (nat_lit 22, o22) :: (nat_lit 25, o25) :: (nat_lit 30, o30) :: (nat_lit 31, o31) :: (nat_lit 32, o32) :: (nat_lit 33, o33) :: (nat_lit 34, o34) :: (nat_lit 35, o35) :: (nat_lit 36, o36) :: (nat_lit 37, o37) :: (nat_lit 38, o38) :: (nat_lit 39, o39) :: (nat_lit 40, o40 W) :: (nat_lit 41, o41) :: (nat_lit 42, o42) :: (nat_lit 45, o45) :: (nat_lit 52, o52) :: (nat_lit 53, o53 W) :: (nat_lit 54, o54) :: (nat_lit 57, o57) :: (nat_lit 64, o64) :: (nat_lit 65, o65 W) :: (nat_lit 66, o66) :: (nat_lit 69, o69) :: (nat_lit 76, o76) :: (nat_lit 77, o77 W) :: (nat_lit 78, o78) :: (nat_lit 81, o81) :: (nat_lit 82, o82) :: (nat_lit 83, o83) :: (nat_lit 84, o84) :: (nat_lit 85, o85) :: (nat_lit 86, o86) :: (nat_lit 87, o87) :: (nat_lit 88, o88) :: (nat_lit 89, o89) :: (nat_lit 90, o90) :: (nat_lit 91, o91) :: (nat_lit 92, o92) :: (nat_lit 100, o100) :: (nat_lit 101, o101) :: (nat_lit 102, o102) :: (nat_lit 103, o103) :: (nat_lit 104, o104) :: (nat_lit 105, o105) :: (nat_lit 106, o106) :: (nat_lit 107, o107) :: (nat_lit 108, o108) :: (nat_lit 109, o109) :: (nat_lit 110, o110) :: (nat_lit 111, o111) :: (nat_lit 112, o112) :: (nat_lit 113, o113) :: (nat_lit 114, o114) :: (nat_lit 115, o115) :: (nat_lit 116, o116) :: (nat_lit 117, o117) :: (nat_lit 118, o118) :: (nat_lit 119, o119) :: (nat_lit 120, o120) :: (nat_lit 121, o121) :: (nat_lit 122, o122) :: (nat_lit 123, o123) :: (nat_lit 124, o124) :: (nat_lit 125, o125) :: (nat_lit 126, o126) :: (nat_lit 127, o127) :: (nat_lit 128, o128) :: (nat_lit 129, o129) :: (nat_lit 130, o130) :: (nat_lit 131, o131) :: (nat_lit 132, o132) :: (nat_lit 133, o133) :: (nat_lit 134, o134) :: (nat_lit 135, o135) :: (nat_lit 136, o136) :: (nat_lit 137, o137) :: (nat_lit 138, o138) :: (nat_lit 139, o139) :: (nat_lit 140, o140) :: (nat_lit 141, o141) :: (nat_lit 142, o142) :: (nat_lit 143, o143) :: (nat_lit 144, o144) :: (nat_lit 145, o145) :: (nat_lit 146, o146) :: (nat_lit 147, o147) :: (nat_lit 148, o148) :: (nat_lit 149, o149) :: (nat_lit 150, o150) :: (nat_lit 151, o151) :: (nat_lit 152, o152) :: (nat_lit 153, o153) :: (nat_lit 154, o154) :: (nat_lit 155, o155) :: (nat_lit 156, o156) :: (nat_lit 157, o157) :: (nat_lit 158, o158) :: (nat_lit 159, o159) :: (nat_lit 160, o160) :: (nat_lit 161, o161) :: (nat_lit 162, o162) :: (nat_lit 163, o163) :: (nat_lit 164, o164) :: (nat_lit 165, o165) :: (nat_lit 166, o166) :: (nat_lit 167, o167) :: (nat_lit 168, o168) :: (nat_lit 169, o169) :: (nat_lit 170, o170) :: (nat_lit 171, o171) :: (nat_lit 172, o172) :: (nat_lit 173, o173) :: (nat_lit 174, o174) :: (nat_lit 175, o175) :: (nat_lit 176, o176) :: (nat_lit 177, o177) :: (nat_lit 178, o178) :: (nat_lit 179, o179) :: (nat_lit 180, o180) :: (nat_lit 181, o181) :: (nat_lit 182, o182) :: (nat_lit 183, o183) :: (nat_lit 184, o184) :: (nat_lit 185, o185) :: (nat_lit 186, o186) :: (nat_lit 187, o187) :: (nat_lit 188, o188) :: (nat_lit 189, o189) :: (nat_lit 190, o190) :: (nat_lit 191, o191) :: (nat_lit 192, o192) :: (nat_lit 193, o193) :: (nat_lit 194, o194) :: (nat_lit 195, o195 W) :: (nat_lit 196, o196) :: (nat_lit 197, o197) :: (nat_lit 198, o198) :: (nat_lit 201, o201) :: (nat_lit 202, o202) :: (nat_lit 203, o203) :: (nat_lit 204, o204) :: (nat_lit 205, o205) :: (nat_lit 206, o206) :: (nat_lit 207, o207) :: (nat_lit 208, o208) :: (nat_lit 209, o209) :: (nat_lit 210, o210) :: (nat_lit 211, o211) :: (nat_lit 212, o212) :: (nat_lit 213, o213) :: (nat_lit 214, o214) :: (nat_lit 215, o215) :: (nat_lit 216, o216) :: (nat_lit 217, o217) :: (nat_lit 218, o218) :: (nat_lit 219, o219) :: (nat_lit 220, o220) :: (nat_lit 221, o221) :: (nat_lit 222, o222) :: (nat_lit 223, o223) :: (nat_lit 224, o224) :: (nat_lit 225, o225) :: (nat_lit 226, o226) :: (nat_lit 227, o227) :: (nat_lit 228, o228) :: (nat_lit 229, o229) :: (nat_lit 230, o230) :: (nat_lit 238, o238 W) :: (nat_lit 239, o239) :: (nat_lit 240, o240) :: (nat_lit 241, o241) :: (nat_lit 242, o242) :: (nat_lit 243, o243) :: (nat_lit 244, o244) :: (nat_lit 245, o245) :: (nat_lit 246, o246) :: (nat_lit 247, o247) :: (nat_lit 248, o248) :: (nat_lit 249, o249) :: (nat_lit 250, o250) :: (nat_lit 251, o251) :: (nat_lit 252, o252) :: (nat_lit 253, o253) :: (nat_lit 254, o254 W) :: (nat_lit 255, o255) :: (nat_lit 256, o256) :: (nat_lit 257, o257) :: (nat_lit 260, o260) :: (nat_lit 261, o261) :: (nat_lit 262, o262) :: (nat_lit 263, o263) :: (nat_lit 264, o264) :: (nat_lit 265, o265) :: (nat_lit 266, o266) :: (nat_lit 267, o267) :: (nat_lit 268, o268) :: (nat_lit 269, o269) :: (nat_lit 270, o270) :: (nat_lit 271, o271) :: (nat_lit 272, o272) :: (nat_lit 273, o273) :: (nat_lit 274, o274) :: (nat_lit 275, o275) :: (nat_lit 276, o276) :: (nat_lit 277, o277) :: (nat_lit 278, o278) :: (nat_lit 279, o279) :: (nat_lit 280, o280) :: (nat_lit 281, o281) :: (nat_lit 282, o282) :: (nat_lit 283, o283) :: (nat_lit 284, o284) :: (nat_lit 285, o285) :: (nat_lit 286, o286) :: (nat_lit 287, o287) :: (nat_lit 288, o288) :: (nat_lit 289, o289) :: (nat_lit 290, o290) :: (nat_lit 291, o291) :: (nat_lit 292, o292) :: (nat_lit 293, o293) :: (nat_lit 294, o294) :: (nat_lit 295, o295) :: (nat_lit 296, o296) :: (nat_lit 297, o297) :: []
def as : List Addr := [2, 3, 15, 16, 17, 18, 19, 20, 21, 22, 25, 30, 31, 32, 33, 34, 35, 36, 37, 38, 39, 40, 41, 42, 45, 52, 53, 54, 57, 64, 65, 66, 69, 76, 77, 78, 81, 82, 83, 84, 85, 86, 87, 88, 89, 90, 91, 92, 100, 101, 102, 103, 104, 105, 106, 107, 108, 109, 110, 111, 112, 113, 114, 115, 116, 117, 118, 119, 120, 121, 122, 123, 124, 125, 126, 127, 128, 129, 130, 131, 132, 133, 134, 135, 136, 137, 138, 139, 140, 141, 142, 143, 144, 145, 146, 147, 148, 149, 150, 151, 152, 153, 154, 155, 156, 157, 158, 159, 160, 161, 162, 163, 164, 165, 166, 167, 168, 169, 170, 171, 172, 173, 174, 175, 176, 177, 178, 179, 180, 181, 182, 183, 184, 185, 186, 187, 188, 189, 190, 191, 192, 193, 194, 195, 196, 197, 198, 201, 202, 203, 204, 205, 206, 207, 208, 209, 210, 211, 212, 213, 214, 215, 216, 217, 218, 219, 220, 221, 222, 223, 224, 225, 226, 227, 228, 229, 230, 238, 239, 240, 241, 242, 243, 244, 245, 246, 247, 248, 249, 250, 251, 252, 253, 254, 255, 256, 257, 260, 261, 262, 263, 264, 265, 266, 267, 268, 269, 270, 271, 272, 273, 274, 275, 276, 277, 278, 279, 280, 281, 282, 283, 284, 285, 286, 287, 288, 289, 290, 291, 292, 293, 294, 295, 296, 297]
def B0 : List Stmt := behindTheImports P
def en : Env := ({ scope := P.main.scope, locals := mainNs, globals := mainNs, cells := [], code := .ref 13, frame := some 14 } : Env)
def cE : Code := .body B0 en
def ann : Option Value := (some (.ref 6))
theorem imp (w : World) : (HeadRun.impF (HeadRun.stepQ (HeadRun.denQ HeadRun.tabQ) (opening P) w) 13876 (HeadRun.startT (opening P)) (start (opening P)).2).map EvH.parts = some (Ti w, 11, lifei, #[], dri, 181) := by
  kernel_rfl
theorem fen (w : World) (os : OsState) : (EvH.openB HeadRun.fenceQ P (xi w os)).map EvH.parts = some (T0 w, 11, life0, #[], dr0, 181) := by
  kernel_rfl
theorem opn (w : World) : (EvH.openT (fun q => HeadRun.stepQ (HeadRun.denQ HeadRun.tabQ) q w) HeadRun.fenceQ 13876 P).map EvH.parts = some (T0 w, 11, life0, #[], dr0, 181) := EvH.open_two (imp w) (fen w)
theorem hann (w : World) (os : OsState) : (x0 w os).abs.heap.nsMap mainGlobals "__annotations__" = ann := by
  kernel_rfl
theorem pre (w : World) (os : OsState) : EvH.goK (HeadRun.stepQ (HeadRun.denQ HeadRun.tabQ) P w) 11 ann 12 (x0 w os) (topStub P) = some (xa w os, ⟨HeadRun.denQ HeadRun.tabQ cE, cE, ⟨0, 0, 0, 0⟩, [topFrame ⟨0, 0, 0, 0⟩]⟩) := by
  kernel_rfl
theorem blk (w : World) (os : OsState) : EvH.segF (HeadRun.stepQ (HeadRun.denQ HeadRun.tabQ) P w) 11 ann 1 (xa w os) (blockOf B0 en cE ⟨0, 0, 0, 0⟩ [topFrame ⟨0, 0, 0, 0⟩]) = some (xb w os, cE, ⟨0, 0, 0, 0⟩) := by
  kernel_rfl
def l1 : List Stmt := (B0.drop 0).take 9
theorem p1 (w : World) (os : OsState) : EvH.segF (HeadRun.stepQ (HeadRun.denQ HeadRun.tabQ) P w) 11 ann 981 (xb w os) (piecesOf l1 en cE ⟨0, 0, 0, 0⟩ [topFrame ⟨0, 0, 0, 0⟩]) = some (x1 w os, cE, ⟨21, 0, 23, 90⟩) := by
  kernel_rfl
def l2 : List Stmt := (B0.drop 9).take 16
theorem p2 (w : World) (os : OsState) : EvH.segF (HeadRun.stepQ (HeadRun.denQ HeadRun.tabQ) P w) 11 ann 997 (x1 w os) (piecesOf l2 en cE ⟨21, 0, 23, 90⟩ [topFrame ⟨0, 0, 0, 0⟩]) = some (x2 w os, cE, ⟨124, 0, 129, 54⟩) := by
  kernel_rfl
def l3 : List Stmt := (B0.drop 25).take 8
theorem p3 (w : World) (os : OsState) : EvH.segF (HeadRun.stepQ (HeadRun.denQ HeadRun.tabQ) P w) 11 ann 481 (x2 w os) (piecesOf l3 en cE ⟨124, 0, 129, 54⟩ [topFrame ⟨0, 0, 0, 0⟩]) = some (x3 w os, cE, ⟨207, 0, 233, 15⟩) := by
  kernel_rfl
theorem fin (w : World) (os : OsState) : HeadRun.goF (HeadRun.stepQ (HeadRun.denQ HeadRun.tabQ) P w) 11 ann 2 (x3 w os) ⟨doneF .next, cE, ⟨207, 0, 233, 15⟩, [topFrame ⟨0, 0, 0, 0⟩]⟩ = some (xf w os) := by
  kernel_rfl
theorem hB : B0 = l1 ++ (l2 ++ (l3 ++ ([]))) := by
  kernel_rfl
theorem run (w : World) (os : OsState) : topRun treeTable P w 11 ann (12 + (1 + (981 + (997 + (481 + 2))))) (x0 w os).abs (topStub P) = some (xf w os).abs :=
  EvH.chain_pre (env := en) hB (pre w os) (blk w os) (EvH.chain_seg (p1 w os) (EvH.chain_seg (p2 w os) (EvH.chain_seg (p3 w os) (EvH.chain_fin (fin w os)))))
def vw : Program := view P [32]
def loo0 : List PySem.Str := ["_wall", "SurePlaceError", "InvalidReading", "UnknownMoment", "NotPinned", "_there_at", "was_kept", "Ledger", "SIGNS", "LONGEST", "is_name", "LIMIT", "all_within", "sides_within", "FAR", "STEEPEST", "MOST_BOXES", "_direction_holds", "_boxes_hold", "_kind_holds", "Reading", "_law_rows", "_law_value_of", "_law_there", "_law_turn_of", "_law_right"]
def loo : List PySem.Str := loo0
def lv : List (PySem.Str × WData) := []
def dd : DefRec := EvH.lawDef P 32
abbrev RR : OpenRow := OpenLaw.row PySem.Challenge.rw_sureplace_k62_a_ledger_tells_every_kept
theorem ek (P : Params) : as = (K P).map (·.1) := by
  kernel_rfl
theorem look1 (w : World) (os : OsState) : HeadRun.looksF P (x0 w os).abs.heap (xf w os).abs = true := by
  kernel_rfl
theorem c0 (w : World) (os : OsState) : (HeadRun.seenQ vw loo (importedModules P.main.body) (fun s => xlAt vw lv s && recOk (RowW.records (OpenRow.toRowW RR)) s) (xf w os).abs).1 = expectedOf vw := by
  kernel_rfl
theorem c1 (w : World) (os : OsState) : (HeadRun.seenQ vw loo (importedModules P.main.body) (fun s => xlAt vw lv s && recOk (RowW.records (OpenRow.toRowW RR)) s) (xf w os).abs).2.1 = bltViewBooted := by
  kernel_rfl
theorem c2 (w : World) (os : OsState) : (HeadRun.seenQ vw loo (importedModules P.main.body) (fun s => xlAt vw lv s && recOk (RowW.records (OpenRow.toRowW RR)) s) (xf w os).abs).2.2.1 = true := by
  kernel_rfl
theorem c3 (w : World) (os : OsState) : (HeadRun.seenQ vw loo (importedModules P.main.body) (fun s => xlAt vw lv s && recOk (RowW.records (OpenRow.toRowW RR)) s) (xf w os).abs).2.2.2.1 = true := by
  kernel_rfl
theorem c4 (w : World) (os : OsState) : (HeadRun.seenQ vw loo (importedModules P.main.body) (fun s => xlAt vw lv s && recOk (RowW.records (OpenRow.toRowW RR)) s) (xf w os).abs).2.2.2.2.1 = pinGoodD (drecsOf vw) := by
  kernel_rfl
theorem c5 (w : World) (os : OsState) : (HeadRun.seenQ vw loo (importedModules P.main.body) (fun s => xlAt vw lv s && recOk (RowW.records (OpenRow.toRowW RR)) s) (xf w os).abs).2.2.2.2.2.1 = plainGoodE vw (looseW vw loo) := by
  kernel_rfl
theorem c6 (w : World) (os : OsState) : (HeadRun.seenQ vw loo (importedModules P.main.body) (fun s => xlAt vw lv s && recOk (RowW.records (OpenRow.toRowW RR)) s) (xf w os).abs).2.2.2.2.2.2.1 = plainGoodD vw loo := by
  kernel_rfl
theorem c7 (w : World) (os : OsState) : (HeadRun.seenQ vw loo (importedModules P.main.body) (fun s => xlAt vw lv s && recOk (RowW.records (OpenRow.toRowW RR)) s) (xf w os).abs).2.2.2.2.2.2.2.1 = wideGood vw := by
  kernel_rfl
theorem c8 (w : World) (os : OsState) : (HeadRun.seenQ vw loo (importedModules P.main.body) (fun s => xlAt vw lv s && recOk (RowW.records (OpenRow.toRowW RR)) s) (xf w os).abs).2.2.2.2.2.2.2.2 = clsGoodW vw loo := by
  kernel_rfl
theorem look2 (w : World) (os : OsState) : HeadRun.seenQ vw loo (importedModules P.main.body) (fun s => xlAt vw lv s && recOk (RowW.records (OpenRow.toRowW RR)) s) (xf w os).abs = openGood vw loo :=
  EvH.good_of (c0 w os) (c1 w os) (c2 w os) (c3 w os) (c4 w os) (c5 w os) (c6 w os) (c7 w os) (c8 w os)
theorem look3 (w : World) (os : OsState) : as.map (HeadRun.getT (xf w os)) = (K w.params).map fun x => some x.2 := by
  kernel_rfl
theorem looks (w : World) (os : OsState) : (HeadRun.looksF P (x0 w os).abs.heap (xf w os).abs, HeadRun.seenQ vw loo (importedModules P.main.body) (fun s => xlAt vw lv s && recOk (RowW.records (OpenRow.toRowW RR)) s) (xf w os).abs, as.map (HeadRun.getT (xf w os))) = (true, openGood vw loo, (K w.params).map fun x => some x.2) :=
  EvH.tri (look1 w os) (look2 w os) (look3 w os)
theorem left : LeftO P vw loo (fun s => xlAt vw lv s && recOk (RowW.records (OpenRow.toRowW RR)) s) (Hook.obs (kHook K as ek)) (Hook.val (kHook K as ek)) 13876 true :=
  EvH.left_pieces opn hann run (by decide) looks
theorem h_def : defOf vw "law" = some (dd, []) := by
  kernel_rfl
theorem h_the : P.theDef "law" = some (dd.params, dd.body, dd.scope) := by
  kernel_rfl
theorem h_kw : kwWritten? dd.params.kwonlyargs dd.params.kw_defaults = some [] := by
  kernel_rfl
theorem h_ok : (chainsOk vw && opensWell P && (frees (OpenRow.toRowW RR) && RR.within.isEmpty)) = true := by
  kernel_rfl
theorem h_nm : dd.name = "law" := by
  kernel_rfl
theorem h_df : dd.params.defaults = [] := by
  kernel_rfl
end Hd
end
namespace Led
abbrev Vr := Int × Option Int × Int
abbrev Ent := Int × Int
abbrev Ve := Int × Nat × List Vr
def liv (d : Option Int) (m : Int) : Bool := match d with
  | none => true
  | some x => decide (m < x)
def onV (m : Int) (v : Vr) : Bool := decide (v.1 ≤ m) && liv v.2.1 m
def thA (V : List Vr) (m : Int) : Option Int := (V.find? (onV m)).map (·.2.2)
def kpV (fl : Int) (ps : List Int) (v : Vr) : Bool := match v.2.1 with
  | none => true
  | some d => decide (fl < d) || ps.any fun p => decide (v.1 ≤ p) && decide (p < d)
def Kept (fl now : Int) (ps : List Int) (m : Int) : Prop := m ∈ ps ∨ (fl ≤ m ∧ m ≤ now)
theorem thA_filter {fl now : Int} {ps : List Int} {m : Int} (k : Kept fl now ps m) (V : List Vr) : thA (V.filter (kpV fl ps)) m = thA V m := by
  unfold thA
  rw [List.find?_filter]
  congr 1
  congr 1
  funext v
  cases h : onV m v with
  | false => simp
  | true =>
    have : kpV fl ps v = true := by
      unfold onV at h
      rw [Bool.and_eq_true] at h
      obtain ⟨h1, h2⟩ := h
      unfold kpV
      unfold liv at h2
      split at h2
      · rfl
      · rename_i x e
        simp only [decide_eq_true_eq] at h1 h2
        rcases k with k | k
        · simp only [Bool.or_eq_true, List.any_eq_true, Bool.and_eq_true, decide_eq_true_eq]
          exact .inr ⟨m, k, h1, h2⟩
        · simp only [Bool.or_eq_true, decide_eq_true_eq]
          exact .inl (by omega)
    simp [this]
structure VOk (now : Int) (V : List Vr) : Prop where
  b : ∀ v ∈ V, v.1 ≤ now
  d : ∀ v ∈ V, ∀ x, v.2.1 = some x → x ≤ now
  l : V.Pairwise fun v _ => v.2.1 ≠ none
theorem VOk.filter {now : Int} {V : List Vr} (o : VOk now V) (p : Vr → Bool) : VOk now (V.filter p) :=
  ⟨fun v hv => o.b v (List.mem_filter.mp hv).1, fun v hv => o.d v (List.mem_filter.mp hv).1, o.l.sublist List.filter_sublist⟩
theorem VOk.up {now : Int} {V : List Vr} (o : VOk now V) : VOk (now + 1) V :=
  ⟨fun v hv => by have := o.b v hv; omega, fun v hv x e => by have := o.d v hv x e; omega, o.l⟩
theorem onV_next {now : Int} {v : Vr} (b : v.1 ≤ now) (d : ∀ x, v.2.1 = some x → x ≤ now) : onV (now + 1) v = onV now v := by
  unfold onV liv
  have h1 : decide (v.1 ≤ now + 1) = true := by simp; omega
  have h2 : decide (v.1 ≤ now) = true := by simpa using b
  rw [h1, h2]
  cases e : v.2.1 with
  | none => rfl
  | some x =>
    have := d x e
    have h3 : decide (now + 1 < x) = false := by simp; omega
    have h4 : decide (now < x) = false := by simp; omega
    simp [h3, h4]
theorem find_congr {p q : Vr → Bool} : ∀ {V : List Vr}, (∀ v ∈ V, p v = q v) → V.find? p = V.find? q
  | [], _ => rfl
  | v :: V, h => by
    rw [List.find?_cons, List.find?_cons, h v List.mem_cons_self, find_congr fun w hw => h w (List.mem_cons_of_mem _ hw)]
theorem thA_next {now : Int} {V : List Vr} (o : VOk now V) : thA V (now + 1) = thA V now := by
  unfold thA
  rw [find_congr fun v hv => onV_next (o.b v hv) (o.d v hv)]
/-- the version that is alive now is the last -/
theorem alive_last {now : Int} {V : List Vr} (o : VOk now V) {r : Int} (h : thA V now = some r) : ∃ (V0 : List Vr) (b : Int), V = V0 ++ [(b, none, r)] ∧ b ≤ now ∧ ∀ v ∈ V0, v.2.1 ≠ none := by
  unfold thA at h
  rw [Option.map_eq_some_iff] at h
  obtain ⟨v, hf, hr⟩ := h
  have hv := List.mem_of_find?_eq_some hf
  have ho := List.find?_some hf
  obtain ⟨s, t, e⟩ := List.append_of_mem hv
  have dn : v.2.1 = none := by
    unfold onV liv at ho
    rw [Bool.and_eq_true] at ho
    cases e : v.2.1 with
    | none => rfl
    | some x =>
      have := o.d v hv x e
      rw [e] at ho
      have := ho.2
      simp at this
      omega
  have l := o.l
  rw [e, List.pairwise_append] at l
  have tn : t = [] := by
    cases t with
    | nil => rfl
    | cons w t => exact absurd dn ((List.pairwise_cons.mp l.2.1).1 w List.mem_cons_self)
  subst tn
  obtain ⟨b, d, r'⟩ := v
  simp only at dn hr
  subst dn hr
  exact ⟨s, b, e, o.b _ hv, fun w hw => l.2.2 w hw _ List.mem_cons_self⟩
theorem thA_app (V W : List Vr) (m : Int) : thA (V ++ W) m = (thA V m).or (thA W m) := by
  unfold thA
  rw [List.find?_append]
  cases V.find? (onV m) <;> rfl
theorem thA_one (v : Vr) (m : Int) : thA [v] m = if onV m v = true then some v.2.2 else none := by
  unfold thA
  rw [List.find?_cons]
  split <;> simp_all
theorem none_now {now : Int} {V0 : List Vr} (d : ∀ v ∈ V0, ∀ x, v.2.1 = some x → x ≤ now) (l : ∀ v ∈ V0, v.2.1 ≠ none) {m : Int} (hm : now ≤ m) : thA V0 m = none := by
  unfold thA
  rw [Option.map_eq_none_iff, List.find?_eq_none]
  intro v hv h
  unfold onV liv at h
  rw [Bool.and_eq_true] at h
  cases e : v.2.1 with
  | none => exact l v hv e
  | some x =>
    have := d v hv x e
    rw [e] at h
    have := h.2
    simp at this
    omega
/-- the last version ends -/
def endV (V0 : List Vr) (b r now : Int) : List Vr := V0 ++ [(b, some (now + 1), r)]
theorem end_old {V0 : List Vr} {b r now m : Int} (hm : m ≤ now) : thA (endV V0 b r now) m = thA (V0 ++ [(b, none, r)]) m := by
  unfold endV
  rw [thA_app, thA_app, thA_one, thA_one]
  have : onV m (b, some (now + 1), r) = onV m (b, none, r) := by
    unfold onV liv
    have : decide (m < now + 1) = true := by simp; omega
    simp [this]
  rw [this]
theorem end_new {V0 : List Vr} {b r now : Int} (d : ∀ v ∈ V0, ∀ x, v.2.1 = some x → x ≤ now) (l : ∀ v ∈ V0, v.2.1 ≠ none) : thA (endV V0 b r now) (now + 1) = none := by
  unfold endV
  rw [thA_app, none_now d l (by omega), thA_one]
  have : onV (now + 1) (b, some (now + 1), r) = false := by unfold onV liv; simp
  rw [this]
  rfl
theorem end_ok {V0 : List Vr} {b r now : Int} (o : VOk now (V0 ++ [(b, none, r)])) : VOk (now + 1) (endV V0 b r now) := by
  have l := o.l
  rw [List.pairwise_append] at l
  refine ⟨fun v hv => ?_, fun v hv x e => ?_, ?_⟩
  · rcases List.mem_append.mp hv with h | h
    · have := o.b v (List.mem_append_left _ h); omega
    · simp only [List.mem_cons, List.not_mem_nil, or_false] at h
      subst h
      have := o.b (b, none, r) (by simp)
      simp only at this ⊢
      omega
  · rcases List.mem_append.mp hv with h | h
    · have := o.d v (List.mem_append_left _ h) x e; omega
    · simp only [List.mem_cons, List.not_mem_nil, or_false] at h
      subst h
      cases e
      omega
  · unfold endV
    rw [List.pairwise_append]
    exact ⟨l.1, List.pairwise_singleton _ _, fun v hv w _ => l.2.2 v hv (b, none, r) List.mem_cons_self⟩
theorem add_ok {now : Int} {V : List Vr} (o : VOk now V) (l : ∀ v ∈ V, v.2.1 ≠ none) (r : Int) : VOk now (V ++ [(now, none, r)]) := by
  refine ⟨fun v hv => ?_, fun v hv x e => ?_, ?_⟩
  · rcases List.mem_append.mp hv with h | h
    · exact o.b v h
    · simp only [List.mem_cons, List.not_mem_nil, or_false] at h
      subst h
      exact Int.le_refl _
  · rcases List.mem_append.mp hv with h | h
    · exact o.d v h x e
    · simp only [List.mem_cons, List.not_mem_nil, or_false] at h
      subst h
      cases e
  · rw [List.pairwise_append]
    exact ⟨o.l, List.pairwise_singleton _ _, fun v hv w _ => l v hv⟩
theorem end_l {V0 : List Vr} {b r now : Int} (l : ∀ v ∈ V0, v.2.1 ≠ none) : ∀ v ∈ endV V0 b r now, v.2.1 ≠ none := fun v hv => by
  rcases List.mem_append.mp hv with h | h
  · exact l v h
  · simp only [List.mem_cons, List.not_mem_nil, or_false] at h
    subst h
    simp
theorem add_old {V : List Vr} {now m r : Int} (hm : m < now) : thA (V ++ [(now, none, r)]) m = thA V m := by
  rw [thA_app, thA_one]
  have : onV m (now, none, r) = false := by
    unfold onV liv
    have : decide (now ≤ m) = false := by simp; omega
    simp [this]
  rw [this]
  cases thA V m <;> rfl
theorem add_new {V : List Vr} {now r : Int} (h : thA V now = none) : thA (V ++ [(now, none, r)]) now = some r := by
  rw [thA_app, thA_one, h]
  have : onV now (now, none, r) = true := by unfold onV liv; simp
  rw [this]
  rfl
def tellE (m : Int) (e : Ve) : Option Ent := (thA e.2.2 m).map fun r => (e.1, r)
def told (vs : List Ve) (m : Int) : List Ent := vs.filterMap (tellE m)
structure LOk (now fl : Int) (ps : List Int) (vs : List Ve) (S : Int → List Ent) : Prop where
  f : 0 ≤ fl ∧ fl ≤ now
  p : ∀ x ∈ ps, 0 ≤ x ∧ x ≤ now
  k : (vs.map (·.1)).Pairwise (· < ·)
  kb : ∀ e ∈ vs, 1 ≤ e.1 ∧ e.1 ≤ now
  v : ∀ e ∈ vs, VOk now e.2.2 ∧ e.2.2 ≠ []
  t : ∀ m, Kept fl now ps m → told vs m = S m
theorem Kept.le {fl now : Int} {ps : List Int} {m : Int} (p : ∀ x ∈ ps, 0 ≤ x ∧ x ≤ now) (k : Kept fl now ps m) : m ≤ now := by
  rcases k with k | k
  · exact (p m k).2
  · exact k.2
theorem fmc {α β : Type} {f g : α → Option β} : ∀ {xs : List α}, (∀ x ∈ xs, f x = g x) → xs.filterMap f = xs.filterMap g
  | [], _ => rfl
  | x :: xs, h => by rw [List.filterMap_cons, List.filterMap_cons, h x List.mem_cons_self, fmc fun y hy => h y (List.mem_cons_of_mem _ hy)]
theorem told_next {now : Int} {vs : List Ve} (v : ∀ e ∈ vs, VOk now e.2.2) : told vs (now + 1) = told vs now := by
  unfold told
  refine fmc fun e he => ?_
  unfold tellE
  rw [thA_next (v e he)]
theorem told_app (vs ws : List Ve) (m : Int) : told (vs ++ ws) m = told vs m ++ told ws m := by unfold told; exact List.filterMap_append
/-- a fresh number -/
theorem put_ok {now fl : Int} {ps : List Int} {vs : List Ve} {S S' : Int → List Ent} (o : LOk now fl ps vs S) (i : Nat) (r : Int) (h1 : ∀ m, m ≤ now → S' m = S m) (h2 : S' (now + 1) = S now ++ [(now + 1, r)]) :
    LOk (now + 1) fl ps (vs ++ [(now + 1, i, [(now + 1, none, r)])]) S' := by
  have vn : VOk (now + 1) [((now + 1, none, r) : Vr)] := ⟨by simp, by simp, List.pairwise_singleton _ _⟩
  refine ⟨⟨o.f.1, by have := o.f.2; omega⟩, fun x hx => by have := o.p x hx; omega, ?_, fun e he => ?_, fun e he => ?_, fun m k => ?_⟩
  · rw [List.map_append, List.pairwise_append]
    refine ⟨o.k, List.pairwise_singleton _ _, fun a ha b hb => ?_⟩
    obtain ⟨e, he, rfl⟩ := List.mem_map.mp ha
    simp only [List.map_cons, List.map_nil, List.mem_cons, List.not_mem_nil, or_false] at hb
    have := o.kb e he
    omega
  · rcases List.mem_append.mp he with h | h
    · have := o.kb e h; omega
    · simp only [List.mem_cons, List.not_mem_nil, or_false] at h
      subst h
      have := o.f
      simp only
      omega
  · rcases List.mem_append.mp he with h | h
    · exact ⟨(o.v e h).1.up, (o.v e h).2⟩
    · simp only [List.mem_cons, List.not_mem_nil, or_false] at h
      subst h
      exact ⟨vn, by simp⟩
  · rw [told_app]
    have e0 : ∀ m, told [((now + 1, i, [(now + 1, none, r)]) : Ve)] m = if now + 1 ≤ m then [(now + 1, r)] else [] := fun m => by
      unfold told tellE
      simp only [List.filterMap_cons, List.filterMap_nil, thA_one]
      by_cases c : now + 1 ≤ m
      · have : onV m (now + 1, none, r) = true := by unfold onV liv; simp [c]
        simp [this, c]
      · have : onV m (now + 1, none, r) = false := by unfold onV liv; simp [c]
        simp [this, c]
    rw [e0]
    by_cases c : m = now + 1
    · subst c
      rw [if_pos (by omega), told_next (fun e he => (o.v e he).1), h2, o.t now (.inr ⟨o.f.2, by omega⟩)]
    · have km : Kept fl now ps m := by
        rcases k with k | k
        · exact .inl k
        · exact .inr ⟨k.1, by omega⟩
      have := km.le o.p
      rw [if_neg (by omega), List.append_nil, h1 m this, o.t m km]
/-- a number's versions change -/
def chg (vs : List Ve) (n : Int) (V : List Vr) : List Ve := vs.map fun e => if e.1 = n then (e.1, e.2.1, V) else e
theorem chg_keys (vs : List Ve) (n : Int) (V : List Vr) : (chg vs n V).map (·.1) = vs.map (·.1) := by
  unfold chg
  rw [List.map_map]
  refine List.map_congr_left fun e _ => ?_
  simp only [Function.comp]
  split <;> rfl
theorem told_chg {vs : List Ve} {n : Int} {V : List Vr} {m m0 : Int} (g : Ent → Option Ent) (h : ∀ e ∈ vs, tellE m (if e.1 = n then (e.1, e.2.1, V) else e) = (tellE m0 e).bind g) : told (chg vs n V) m = (told vs m0).filterMap g := by
  unfold told chg
  rw [List.filterMap_map, List.filterMap_filterMap]
  exact fmc fun e he => h e he
theorem chg_ok {now fl : Int} {ps : List Int} {vs : List Ve} {S S' : Int → List Ent} (o : LOk now fl ps vs S) {n : Int} {V : List Vr} (v : VOk (now + 1) V ∧ V ≠ []) (old : ∀ m, m ≤ now → ∀ e ∈ vs, e.1 = n → thA V m = thA e.2.2 m) (g : Ent → Option Ent)
    (new : ∀ e ∈ vs, e.1 = n → ∀ r, thA e.2.2 now = some r → (thA V (now + 1)).map (fun x => (n, x)) = g (n, r)) (nn : ∀ e ∈ vs, e.1 = n → thA e.2.2 now ≠ none) (oth : ∀ i r, i ≠ n → g (i, r) = some (i, r)) (h1 : ∀ m, m ≤ now → S' m = S m) (h2 : S' (now + 1) = (S now).filterMap g) :
    LOk (now + 1) fl ps (chg vs n V) S' := by
  refine ⟨⟨o.f.1, by have := o.f.2; omega⟩, fun x hx => by have := o.p x hx; omega, by rw [chg_keys]; exact o.k, fun e he => ?_, fun e he => ?_, fun m k => ?_⟩
  · obtain ⟨e0, h0, rfl⟩ := List.mem_map.mp he
    have := o.kb e0 h0
    by_cases z : e0.1 = n
    · rw [if_pos z]; simp only; omega
    · rw [if_neg z]; omega
  · obtain ⟨e0, h0, rfl⟩ := List.mem_map.mp he
    split
    · exact v
    · exact ⟨(o.v e0 h0).1.up, (o.v e0 h0).2⟩
  · by_cases c : m = now + 1
    · subst c
      rw [h2, ← o.t now (.inr ⟨o.f.2, by omega⟩)]
      refine told_chg g fun e he => ?_
      by_cases z : e.1 = n
      · rw [if_pos z]
        unfold tellE
        cases q : thA e.2.2 now with
        | none => exact absurd q (nn e he z)
        | some r =>
          have := new e he z r q
          simp only [Option.map_some, Option.bind_some]
          rw [z]
          exact this
      · rw [if_neg z]
        unfold tellE
        rw [thA_next (o.v e he).1]
        cases q : thA e.2.2 now with
        | none => rfl
        | some r => simp only [Option.map_some, Option.bind_some]; exact (oth e.1 r z).symm
    · have km : Kept fl now ps m := by
        rcases k with k | k
        · exact .inl k
        · exact .inr ⟨k.1, by omega⟩
      have le := km.le o.p
      rw [h1 m le, ← o.t m km]
      unfold told chg
      rw [List.filterMap_map]
      refine fmc fun e he => ?_
      simp only [Function.comp]
      by_cases z : e.1 = n
      · rw [if_pos z]
        unfold tellE
        rw [old m le e he z]
      · rw [if_neg z]
/-- what is not kept is dropped -/
def drp (fl : Int) (ps : List Int) (V : List Vr) : List Vr := V.filter (kpV fl ps)
def dropVs (fl : Int) (ps : List Int) : Nat → List Ve → List Ve
  | _, [] => []
  | L, (n, _, V) :: vs => if drp fl ps V = [] then dropVs fl ps (L + 1) vs else (n, L, drp fl ps V) :: dropVs fl ps (L + 1) vs
theorem told_drop {fl now : Int} {ps : List Int} {m : Int} (k : Kept fl now ps m) : ∀ (L : Nat) (vs : List Ve), told (dropVs fl ps L vs) m = told vs m
  | _, [] => rfl
  | L, (n, i, V) :: vs => by
    have ih := told_drop k (L + 1) vs
    have e := thA_filter k V
    unfold dropVs
    split
    · rename_i z
      rw [ih]
      unfold drp at z
      rw [z] at e
      unfold told
      rw [List.filterMap_cons]
      have : tellE m (n, i, V) = none := by unfold tellE; rw [← e]; rfl
      rw [this]
    · unfold told at *
      rw [List.filterMap_cons, List.filterMap_cons, ih]
      have : tellE m (n, L, drp fl ps V) = tellE m (n, i, V) := by unfold tellE drp; rw [e]
      rw [this]
theorem drop_mem {fl : Int} {ps : List Int} : ∀ (L : Nat) (vs : List Ve) (e : Ve), e ∈ dropVs fl ps L vs → ∃ i V, (e.1, i, V) ∈ vs ∧ e.2.2 = drp fl ps V ∧ e.2.2 ≠ [] ∧ L ≤ e.2.1
  | _, [], e, h => by cases h
  | L, (n, i, V) :: vs, e, h => by
    unfold dropVs at h
    split at h
    · obtain ⟨j, W, h1, h2, h3, h4⟩ := drop_mem (L + 1) vs e h
      exact ⟨j, W, List.mem_cons_of_mem _ h1, h2, h3, by omega⟩
    · rename_i z
      rcases List.mem_cons.mp h with h | h
      · subst h
        exact ⟨i, V, List.mem_cons_self, rfl, z, Nat.le_refl _⟩
      · obtain ⟨j, W, h1, h2, h3, h4⟩ := drop_mem (L + 1) vs e h
        exact ⟨j, W, List.mem_cons_of_mem _ h1, h2, h3, by omega⟩
theorem drop_keys {fl : Int} {ps : List Int} : ∀ (L : Nat) (vs : List Ve), ((dropVs fl ps L vs).map (·.1)).Sublist (vs.map (·.1))
  | _, [] => List.Sublist.slnil
  | L, (n, i, V) :: vs => by
    have ih := drop_keys (fl := fl) (ps := ps) (L + 1) vs
    unfold dropVs
    split
    · exact List.Sublist.cons _ ih
    · exact List.Sublist.cons_cons _ ih
theorem drop_ok {now fl fl' : Int} {ps ps' : List Int} {vs : List Ve} {S : Int → List Ent} (o : LOk now fl ps vs S) (f : 0 ≤ fl' ∧ fl' ≤ now) (p : ∀ x ∈ ps', 0 ≤ x ∧ x ≤ now) (k : ∀ m, Kept fl' now ps' m → Kept fl now ps m) (L : Nat) : LOk now fl' ps' (dropVs fl' ps' L vs) S := by
  refine ⟨f, p, o.k.sublist (drop_keys L vs), fun e he => ?_, fun e he => ?_, fun m hm => ?_⟩
  · obtain ⟨i, V, h, _⟩ := drop_mem L vs e he
    exact o.kb (e.1, i, V) h
  · obtain ⟨i, V, h, h2, h3, _⟩ := drop_mem L vs e he
    refine ⟨?_, h3⟩
    rw [h2]
    exact (o.v (e.1, i, V) h).1.filter _
  · rw [told_drop hm, o.t m (k m hm)]
theorem pin_ok {now fl : Int} {ps : List Int} {vs : List Ve} {S : Int → List Ent} (o : LOk now fl ps vs S) : LOk now fl (ps ++ [now]) vs S := by
  refine ⟨o.f, fun x hx => ?_, o.k, o.kb, o.v, fun m k => o.t m ?_⟩
  · rcases List.mem_append.mp hx with h | h
    · exact o.p x h
    · simp only [List.mem_cons, List.not_mem_nil, or_false] at h
      have := o.f
      omega
  · rcases k with k | k
    · rcases List.mem_append.mp k with h | h
      · exact .inl h
      · simp only [List.mem_cons, List.not_mem_nil, or_false] at h
        exact .inr (by have := o.f; omega)
    · exact .inr k
/-- who is there has an entry, its last version alive -/
theorem there {now fl : Int} {ps : List Int} {vs : List Ve} {S : Int → List Ent} (o : LOk now fl ps vs S) {n : Int} (h : n ∈ (S now).map (·.1)) : ∃ i V0 b r, (n, i, V0 ++ [(b, none, r)]) ∈ vs ∧ b ≤ now ∧ (∀ v ∈ V0, v.2.1 ≠ none) := by
  obtain ⟨p, hp, rfl⟩ := List.mem_map.mp h
  rw [← o.t now (.inr ⟨o.f.2, by omega⟩)] at hp
  unfold told at hp
  obtain ⟨e, he, h2⟩ := List.mem_filterMap.mp hp
  unfold tellE at h2
  rw [Option.map_eq_some_iff] at h2
  obtain ⟨r, h3, h4⟩ := h2
  obtain ⟨V0, b, h5, h6, h7⟩ := alive_last (o.v e he).1 h3
  obtain ⟨n, i, V⟩ := e
  simp only at h5 h4
  subst h5 h4
  exact ⟨i, V0, b, r, he, h6, h7⟩
/-- keys are told once -/
theorem key_once {vs : List Ve} (k : (vs.map (·.1)).Pairwise (· < ·)) {e e' : Ve} (h : e ∈ vs) (h' : e' ∈ vs) (z : e.1 = e'.1) : e = e' := by
  obtain ⟨i, hi, rfl⟩ := List.getElem_of_mem h
  obtain ⟨j, hj, rfl⟩ := List.getElem_of_mem h'
  rcases Nat.lt_trichotomy i j with c | c | c
  · have := List.pairwise_iff_getElem.mp k i j (by simpa using hi) (by simpa using hj) c
    simp only [List.getElem_map] at this
    omega
  · subst c; rfl
  · have := List.pairwise_iff_getElem.mp k j i (by simpa using hj) (by simpa using hi) c
    simp only [List.getElem_map] at this
    omega
theorem correct_ok {now fl : Int} {ps : List Int} {vs : List Ve} {S S' : Int → List Ent} (o : LOk now fl ps vs S) {n : Int} {i : Nat} {V0 : List Vr} {b r : Int} (he : (n, i, V0 ++ [(b, none, r)]) ∈ vs) (l : ∀ v ∈ V0, v.2.1 ≠ none) (r' : Int) (h1 : ∀ m, m ≤ now → S' m = S m)
    (h2 : S' (now + 1) = (S now).filterMap fun p => if p.1 = n then some (n, r') else some p) : LOk (now + 1) fl ps (chg vs n (endV V0 b r now ++ [(now + 1, none, r')])) S' := by
  have ov := (o.v _ he).1
  have dV : ∀ v ∈ V0, ∀ x, v.2.1 = some x → x ≤ now := fun v hv => ov.d v (List.mem_append_left _ hv)
  have eo := end_ok ov
  have u : ∀ e ∈ vs, e.1 = n → e = (n, i, V0 ++ [(b, none, r)]) := fun e h z => key_once o.k h he z
  refine chg_ok o ⟨add_ok eo (end_l l) r', by simp⟩ (fun m hm e h z => ?_) (fun p => if p.1 = n then some (n, r') else some p) (fun e h z r0 q => ?_) (fun e h z q => ?_) (fun j x z => by simp only [if_neg z]) h1 h2
  · rw [u e h z, add_old (by omega), end_old hm]
  · rw [add_new (end_new dV l)]
    simp
  · rw [u e h z] at q
    rw [thA_app, none_now dV l (Int.le_refl _), thA_one] at q
    have : onV now (b, none, r) = true := by unfold onV liv; have := ov.b (b, none, r) (by simp); simpa using this
    rw [this] at q
    cases q
theorem withdraw_ok {now fl : Int} {ps : List Int} {vs : List Ve} {S S' : Int → List Ent} (o : LOk now fl ps vs S) {n : Int} {i : Nat} {V0 : List Vr} {b r : Int} (he : (n, i, V0 ++ [(b, none, r)]) ∈ vs) (l : ∀ v ∈ V0, v.2.1 ≠ none) (h1 : ∀ m, m ≤ now → S' m = S m)
    (h2 : S' (now + 1) = (S now).filterMap fun p => if p.1 = n then none else some p) : LOk (now + 1) fl ps (chg vs n (endV V0 b r now)) S' := by
  have ov := (o.v _ he).1
  have dV : ∀ v ∈ V0, ∀ x, v.2.1 = some x → x ≤ now := fun v hv => ov.d v (List.mem_append_left _ hv)
  have u : ∀ e ∈ vs, e.1 = n → e = (n, i, V0 ++ [(b, none, r)]) := fun e h z => key_once o.k h he z
  refine chg_ok o ⟨end_ok ov, by simp [endV]⟩ (fun m hm e h z => ?_) (fun p => if p.1 = n then none else some p) (fun e h z r0 q => ?_) (fun e h z q => ?_) (fun j x z => by simp only [if_neg z]) h1 h2
  · rw [u e h z, end_old hm]
  · rw [end_new dV l]
    simp
  · rw [u e h z] at q
    rw [thA_app, none_now dV l (Int.le_refl _), thA_one] at q
    have : onV now (b, none, r) = true := by unfold onV liv; have := ov.b (b, none, r) (by simp); simpa using this
    rw [this] at q
    cases q
end Led
namespace Pg
open PySem PySem.Spec PyProof.Rows L2 Ev Lib LibT LibV LibW LibX EvS Led
def p01 (a b : Int) (i : Nat) : Int := if i = 0 then a else b
def kdV (r : Int) : Kd := if r / 315 % 4 = 0 then .range (p01 1 2) else if r / 315 % 4 = 1 then .side (p01 0 3) else if r / 315 % 4 = 2 then .clocked (p01 (-4) 5) else .differ (p01 0 0) (p01 3 3)
def srcV (r : Int) : Str := ("s" : Str) ++ sI (r / 9 % 5)
def rdV (r : Int) : RdV := ⟨srcV r, r / 45 % 7, kdV r, r % 9 - 4, r % 9 - 4 + r / 1260 % 3, r / 3780 % 2, r / 7560 % 2⟩
def vD (r : Int) : D := rdD 2 (rdV r)
theorem clean_v (r : Int) : clean (vD r) := clean_rd 2 _
theorem kdD_V (r : Int) : atI [D.tup [.str "range", .tup [.int 1, .int 2]], .tup [.str "side", .tup [.int 0, .int 3]], .tup [.str "clocked", .tup [.int (-4), .int 5]], .tup [.str "differ", .tup [.int 0, .int 0], .tup [.int 3, .int 3]]] (r / 315 % 4) = some (kdD 2 (kdV r)) := by
  unfold kdV
  rcases (show r / 315 % 4 = 0 ∨ r / 315 % 4 = 1 ∨ r / 315 % 4 = 2 ∨ r / 315 % 4 = 3 by omega) with q | q | q | q <;> rw [q] <;> rfl
theorem kdV_h (r : Int) : KdH 2 (kdV r) := by
  have two : ∀ {P : Nat → Prop}, P 0 → P 1 → ∀ i < 2, P i := fun h0 h1 i hi => by
    rcases (show i = 0 ∨ i = 1 by omega) with rfl | rfl
    · exact h0
    · exact h1
  unfold kdV
  split
  · exact two (by unfold In12 p01; decide) (by unfold In12 p01; decide)
  · split
    · exact ⟨two (by unfold p01; decide) (by unfold p01; decide), 1, by omega, by unfold p01; decide⟩
    · split
      · exact two (by unfold In12 p01; decide) (by unfold In12 p01; decide)
      · exact ⟨two (by unfold In12 p01; decide) (by unfold In12 p01; decide), two (by unfold In12 p01; decide) (by unfold In12 p01; decide)⟩
theorem src_ok (r : Int) : isn (srcV r) = true ∧ (srcV r).length ≤ 1000 ∧ PyData.strOk (srcV r) = true := by
  unfold srcV
  rcases (show r / 9 % 5 = 0 ∨ r / 9 % 5 = 1 ∨ r / 9 % 5 = 2 ∨ r / 9 % 5 = 3 ∨ r / 9 % 5 = 4 by omega) with q | q | q | q | q <;> rw [q] <;> decide +kernel
theorem rdV_ok (r : Int) : RdOk 2 (rdV r) := by
  obtain ⟨h1, h2, _⟩ := src_ok r
  refine ⟨h2, h1, ?_, kdV_h r, ?_, ?_, ?_⟩
  · show In12 (r / 45 % 7)
    unfold In12
    omega
  · show -1000000000000000 ≤ r % 9 - 4 ∧ r % 9 - 4 ≤ r % 9 - 4 + r / 1260 % 3 ∧ r % 9 - 4 + r / 1260 % 3 ≤ 1000000000000000
    omega
  · show 0 ≤ r / 3780 % 2 ∧ r / 3780 % 2 ≤ 1000000000000
    omega
  · show 0 ≤ r / 7560 % 2 ∧ r / 7560 % 2 ≤ 1000000000000
    omega
theorem F_value (r : Int) (h : HP) : F__law_value_of [.int r] h = .ok (vD r) h := by
  have mk := mk_read (n := 2) (by omega) (rdV_ok r) h
  have pe := pure_clean h (clean_v r)
  have kv := kdD_V r
  have bs := fun h => bStr_I (i := r / 9 % 5) (by omega) h
  have l1 : ("s" : Str).length + (sI (r / 9 % 5)).length ≤ sizeLine := by
    rw [sizeLine_eq]
    rcases (show r / 9 % 5 = 0 ∨ r / 9 % 5 = 1 ∨ r / 9 % 5 = 2 ∨ r / 9 % 5 = 3 ∨ r / 9 % 5 = 4 by omega) with q | q | q | q | q <;> rw [q] <;> decide +kernel
  have e : rdD 2 (rdV r) = vD r := rfl
  rw [e] at mk
  have e1 : (rdV r).src = ("s" : Str) ++ sI (r / 9 % 5) := rfl
  have e2 : (rdV r).mo = r / 45 % 7 := rfl
  have e3 : (rdV r).kd = kdV r := rfl
  have e4 : (rdV r).lo = r % 9 - 4 := rfl
  have e5 : (rdV r).hi = r % 9 - 4 + r / 1260 % 3 := rfl
  have e6 : (rdV r).la = r / 3780 % 2 := rfl
  have e7 : (rdV r).ne = r / 7560 % 2 := rfl
  rw [e1, e2, e3, e4, e5, e6, e7] at mk
  generalize sI (r / 9 % 5) = sk at *
  generalize kdD 2 (kdV r) = kk at *
  generalize vD r = v at *
  simp [F__law_value_of, lg, bs, kv, l1, mk, pe, -bStr]
def enD (p : Ent) : D := .tup [.int p.1, vD p.2]
theorem clean_en (p : Ent) : clean (enD p) := clean_tup (by simp [clean_int, clean_v])
theorem eq_rd {n : Nat} {R : RdV} (hs : PyData.strOk R.src = true) (h : HP) : F_Reading__eq__ [rdD n R, rdD n R] h = .ok (.bl true) h := by
  have c := fun b => pure_clean h (d := .bl b) (clean_bl b)
  have s1 := sh_S hs
  have e1 := eqv_S R.src R.src
  have sk := (LibY.sh_kd n R.kd).ok (by omega)
  have sr := (LibY.sh_kd n R.kd).self
  have tr : ∀ h, toPh h (kdD n R.kd) = some (LibY.kdP n R.kd) := fun h => LibY.toPh_kd n R.kd h
  unfold rdD rdF
  generalize LibY.kdP n R.kd = KP at *
  generalize kdD n R.kd = KD at *
  simp [F_Reading__eq__, List.lookup, sh_int, eqvI, c, -toPh, tr, LibY.toPhI, LibY.toPhS, e1, s1, sk, sr]
theorem ow_en (p : Ent) (h : HP) : owD (own1 1 F_Reading__eq__) h 6 (enD p) := by
  unfold enD vD
  simp only [owD, List.forall_mem_cons, List.not_mem_nil, false_implies, implies_true, and_true, true_and]
  unfold rdD
  simp only [owD]
  show own1 1 F_Reading__eq__ 1 _ h = _
  rw [own1_at]
  exact eq_rd (src_ok p.2).2.2 h
def dOf : Option Int → D
  | none => .non
  | some x => .int x
def vrD (v : Vr) : D := .tup [.int v.1, dOf v.2.1, vD v.2.2]
theorem clean_d (d : Option Int) : clean (dOf d) := by cases d; exact clean_non; exact clean_int _
theorem clean_vr (v : Vr) : clean (vrD v) := clean_tup (by simp [clean_int, clean_v, clean_d])
def tO : Option Int → D
  | none => .non
  | some r => vD r
theorem thA_cons (v : Vr) (V : List Vr) (m : Int) : thA (v :: V) m = if onV m v = true then some v.2.2 else thA V m := by
  unfold thA
  rw [List.find?_cons]
  split <;> simp_all
theorem there_turn (j : Nat) (m : Int) (v : Vr) (z2 z3 z4 : Option D) (h : HP) :
    B__there_at_1 [some (.ref j), some (.int m), some (.int v.1), some (dOf v.2.1), some (vD v.2.2)] h = if onV m v = true then .rt (vD v.2.2) h else .nx [some (.ref j), some (.int m), some (.int v.1), some (dOf v.2.1), some (vD v.2.2)] h := by
  obtain ⟨b, d, r⟩ := v
  generalize vD r = w
  unfold onV liv
  dsimp only
  by_cases c : b ≤ m
  · cases d with
    | none => simp [c, dOf]
    | some x => by_cases c2 : m < x <;> simp [c, dOf, c2]
  · simp [c]
theorem F_there (V : List Vr) (j : Nat) (m : Int) (h : HP) (e : h[j]? = some (.lst (V.map vrD))) : F__there_at [.ref j, .int m] h = .ok (tO (thA V m)) h := by
  have gd : Gd [(j, V.map vrD)] h := by simp [Gd, e]
  have lp : ∀ (W : List Vr) (z2 z3 z4 : Option D), (∃ y2 y3 y4, forE (gTp 3 (gsCons (gNm 2) (gsCons (gNm 3) (gsCons (gNm 4) gsNil)))) B__there_at_1 [(j, V.map vrD)] (W.map vrD) [some (.ref j), some (.int m), z2, z3, z4] h = .nx [some (.ref j), some (.int m), y2, y3, y4] h ∧ thA W m = none) ∨
      ∃ r, forE (gTp 3 (gsCons (gNm 2) (gsCons (gNm 3) (gsCons (gNm 4) gsNil)))) B__there_at_1 [(j, V.map vrD)] (W.map vrD) [some (.ref j), some (.int m), z2, z3, z4] h = .rt (vD r) h ∧ thA W m = some r := by
    intro W
    induction W with
    | nil =>
      intro z2 z3 z4
      refine .inl ⟨z2, z3, z4, ?_, rfl⟩
      rw [List.map_nil, forE, if_pos gd]
    | cons v W ih =>
      intro z2 z3 z4
      have tn := there_turn j m v z2 z3 z4 h
      have as : gTp 3 (gsCons (gNm 2) (gsCons (gNm 3) (gsCons (gNm 4) gsNil))) (vrD v) [some (.ref j), some (.int m), z2, z3, z4] h = some [some (.ref j), some (.int m), some (.int v.1), some (dOf v.2.1), some (vD v.2.2)] := by
        unfold vrD
        generalize vD v.2.2 = w
        generalize dOf v.2.1 = x
        simp
      rw [thA_cons]
      by_cases c : onV m v = true
      · rw [if_pos c] at tn ⊢
        refine .inr ⟨v.2.2, ?_, rfl⟩
        rw [List.map_cons, forE, if_pos gd, as]
        simp only
        rw [tn]
      · rw [if_neg c] at tn ⊢
        have ih := ih (some (.int v.1)) (some (dOf v.2.1)) (some (vD v.2.2))
        rw [List.map_cons]
        have st : forE (gTp 3 (gsCons (gNm 2) (gsCons (gNm 3) (gsCons (gNm 4) gsNil)))) B__there_at_1 [(j, V.map vrD)] (vrD v :: W.map vrD) [some (.ref j), some (.int m), z2, z3, z4] h = forE (gTp 3 (gsCons (gNm 2) (gsCons (gNm 3) (gsCons (gNm 4) gsNil)))) B__there_at_1 [(j, V.map vrD)] (W.map vrD) [some (.ref j), some (.int m), some (.int v.1), some (dOf v.2.1), some (vD v.2.2)] h := by
          rw [forE, if_pos gd, as]
          simp only
          rw [tn]
        rw [st]
        exact ih
  have pn : pure_ h .non h = .ok .non h := pure_clean h clean_non
  rcases lp V none none none with ⟨y2, y3, y4, e1, e2⟩ | ⟨r, e1, e2⟩
  · rw [e2]
    generalize hB : B__there_at_1 = B at *
    generalize V.map vrD = us at *
    simp [F__there_at, hB, e, e1, pn, tO]
  · rw [e2]
    generalize hB : B__there_at_1 = B at *
    generalize V.map vrD = us at *
    have pv := pure_clean h (clean_v r)
    have et : tO (some r) = vD r := rfl
    rw [et]
    generalize vD r = w at *
    simp [F__there_at, hB, e, e1, pv]
end Pg
namespace Pg
open PySem PySem.Spec PyProof.Rows L2 Ev Lib LibT LibV LibW LibX EvS Led
@[simp] theorem nbl_now_floor : (("now" : Str) == ("floor" : Str)) = false := by decide +kernel
@[simp] theorem nel_now_floor : (("now" : Str) = ("floor" : Str)) = False := eq_false (by decide +kernel)
@[simp] theorem nbl_now__pinned : (("now" : Str) == ("_pinned" : Str)) = false := by decide +kernel
@[simp] theorem nel_now__pinned : (("now" : Str) = ("_pinned" : Str)) = False := eq_false (by decide +kernel)
@[simp] theorem nbl_now__versions : (("now" : Str) == ("_versions" : Str)) = false := by decide +kernel
@[simp] theorem nel_now__versions : (("now" : Str) = ("_versions" : Str)) = False := eq_false (by decide +kernel)
@[simp] theorem nbl_now__there : (("now" : Str) == ("_there" : Str)) = false := by decide +kernel
@[simp] theorem nel_now__there : (("now" : Str) = ("_there" : Str)) = False := eq_false (by decide +kernel)
@[simp] theorem nbl_floor_now : (("floor" : Str) == ("now" : Str)) = false := by decide +kernel
@[simp] theorem nel_floor_now : (("floor" : Str) = ("now" : Str)) = False := eq_false (by decide +kernel)
@[simp] theorem nbl_floor__pinned : (("floor" : Str) == ("_pinned" : Str)) = false := by decide +kernel
@[simp] theorem nel_floor__pinned : (("floor" : Str) = ("_pinned" : Str)) = False := eq_false (by decide +kernel)
@[simp] theorem nbl_floor__versions : (("floor" : Str) == ("_versions" : Str)) = false := by decide +kernel
@[simp] theorem nel_floor__versions : (("floor" : Str) = ("_versions" : Str)) = False := eq_false (by decide +kernel)
@[simp] theorem nbl_floor__there : (("floor" : Str) == ("_there" : Str)) = false := by decide +kernel
@[simp] theorem nel_floor__there : (("floor" : Str) = ("_there" : Str)) = False := eq_false (by decide +kernel)
@[simp] theorem nbl__pinned_now : (("_pinned" : Str) == ("now" : Str)) = false := by decide +kernel
@[simp] theorem nel__pinned_now : (("_pinned" : Str) = ("now" : Str)) = False := eq_false (by decide +kernel)
@[simp] theorem nbl__pinned_floor : (("_pinned" : Str) == ("floor" : Str)) = false := by decide +kernel
@[simp] theorem nel__pinned_floor : (("_pinned" : Str) = ("floor" : Str)) = False := eq_false (by decide +kernel)
@[simp] theorem nbl__pinned__versions : (("_pinned" : Str) == ("_versions" : Str)) = false := by decide +kernel
@[simp] theorem nel__pinned__versions : (("_pinned" : Str) = ("_versions" : Str)) = False := eq_false (by decide +kernel)
@[simp] theorem nbl__pinned__there : (("_pinned" : Str) == ("_there" : Str)) = false := by decide +kernel
@[simp] theorem nel__pinned__there : (("_pinned" : Str) = ("_there" : Str)) = False := eq_false (by decide +kernel)
@[simp] theorem nbl__versions_now : (("_versions" : Str) == ("now" : Str)) = false := by decide +kernel
@[simp] theorem nel__versions_now : (("_versions" : Str) = ("now" : Str)) = False := eq_false (by decide +kernel)
@[simp] theorem nbl__versions_floor : (("_versions" : Str) == ("floor" : Str)) = false := by decide +kernel
@[simp] theorem nel__versions_floor : (("_versions" : Str) = ("floor" : Str)) = False := eq_false (by decide +kernel)
@[simp] theorem nbl__versions__pinned : (("_versions" : Str) == ("_pinned" : Str)) = false := by decide +kernel
@[simp] theorem nel__versions__pinned : (("_versions" : Str) = ("_pinned" : Str)) = False := eq_false (by decide +kernel)
@[simp] theorem nbl__versions__there : (("_versions" : Str) == ("_there" : Str)) = false := by decide +kernel
@[simp] theorem nel__versions__there : (("_versions" : Str) = ("_there" : Str)) = False := eq_false (by decide +kernel)
@[simp] theorem nbl__there_now : (("_there" : Str) == ("now" : Str)) = false := by decide +kernel
@[simp] theorem nel__there_now : (("_there" : Str) = ("now" : Str)) = False := eq_false (by decide +kernel)
@[simp] theorem nbl__there_floor : (("_there" : Str) == ("floor" : Str)) = false := by decide +kernel
@[simp] theorem nel__there_floor : (("_there" : Str) = ("floor" : Str)) = False := eq_false (by decide +kernel)
@[simp] theorem nbl__there__pinned : (("_there" : Str) == ("_pinned" : Str)) = false := by decide +kernel
@[simp] theorem nel__there__pinned : (("_there" : Str) = ("_pinned" : Str)) = False := eq_false (by decide +kernel)
@[simp] theorem nbl__there__versions : (("_there" : Str) == ("_versions" : Str)) = false := by decide +kernel
@[simp] theorem nel__there__versions : (("_there" : Str) = ("_versions" : Str)) = False := eq_false (by decide +kernel)
def ldF (now fl : Int) : List (Str × D) := [("now", .int now), ("floor", .int fl), ("_pinned", .ref 1), ("_versions", .ref 2), ("_there", .ref 3)]
def vk (e : Ve) : Key × D := (.inl e.1, .ref e.2.1)
def tk (p : Ent) : Key × D := (.inl p.1, vD p.2)
def OkR (h : HP) : Prop := ∀ i o, i ≠ 0 → i ≠ 2 → h[i]? = some o → okRf o = true
structure LH (h : HP) (now fl : Int) (ps : List Int) (vs : List Ve) (th : List Ent) : Prop where
  a0 : h[0]? = some (.ins 14 (ldF now fl))
  a1 : h[1]? = some (.lst (ps.map D.int))
  a2 : h[2]? = some (.dic (vs.map vk))
  a3 : h[3]? = some (.dic (th.map tk))
  av : ∀ e ∈ vs, 6 ≤ e.2.1 ∧ h[e.2.1]? = some (.lst (e.2.2.map vrD))
  nd : (vs.map (·.2.1)).Nodup
  ok : OkR h
  l : 6 ≤ h.length
theorem gS {h : HP} {i j : Nat} {o : O} (n : i ≠ j) : (h.set i o)[j]? = h[j]? := List.getElem?_set_ne n
theorem gE {h : HP} {i : Nat} {o : O} (l : i < h.length) : (h.set i o)[i]? = some o := List.getElem?_set_self l
theorem gA {h t : HP} {i : Nat} (l : i < h.length) : (h ++ t)[i]? = h[i]? := List.getElem?_append_left l
theorem gN {h : HP} {o : O} : (h ++ [o])[h.length]? = some o := by simp
theorem OkR.set {h : HP} (k : OkR h) (i : Nat) (o : O) (c : i = 0 ∨ i = 2 ∨ okRf o = true) : OkR (h.set i o) := fun j o' n0 n2 e => by
  by_cases z : i = j
  · subst z
    have l : i < h.length := by
      have := (List.getElem?_eq_some_iff.mp e).1
      simpa using this
    rw [gE l] at e
    cases e
    rcases c with c | c | c
    · exact absurd c n0
    · exact absurd c n2
    · exact c
  · rw [gS z] at e
    exact k j o' n0 n2 e
theorem OkR.app {h : HP} (k : OkR h) (o : O) (c : okRf o = true) : OkR (h ++ [o]) := fun j o' n0 n2 e => by
  by_cases l : j < h.length
  · rw [gA l] at e
    exact k j o' n0 n2 e
  · rw [List.getElem?_append_right (by omega)] at e
    obtain ⟨z1, z2⟩ := List.getElem?_eq_some_iff.mp e
    simp at z1 z2
    subst z2
    exact c
theorem rlts_map {α : Type} {f : α → D} (c : ∀ x, clean (f x)) : ∀ xs : List α, rlt.rlts 0 (xs.map f) = true
  | [] => rfl
  | x :: xs => by
    simp only [List.map_cons, rlt.rlts, Bool.and_eq_true]
    exact ⟨c x 0, rlts_map c xs⟩
theorem rltk_map {α : Type} {f : α → Key × D} (c : ∀ x, clean (f x).2) : ∀ xs : List α, rlt.rltk 0 (xs.map f) = true
  | [] => rfl
  | x :: xs => by
    simp only [List.map_cons, rlt.rltk, Bool.and_eq_true]
    exact ⟨c x 0, rltk_map c xs⟩
theorem f1_ (now fl : Int) : (ldF now fl).lookup ("now" : Str) = some (.int now) := by simp [ldF, List.lookup]
theorem f2_ (now fl : Int) : (ldF now fl).lookup ("floor" : Str) = some (.int fl) := by simp [ldF, List.lookup]
theorem f3_ (now fl : Int) : (ldF now fl).lookup ("_pinned" : Str) = some (.ref 1) := by simp [ldF, List.lookup]
theorem f4_ (now fl : Int) : (ldF now fl).lookup ("_versions" : Str) = some (.ref 2) := by simp [ldF, List.lookup]
theorem f5_ (now fl : Int) : (ldF now fl).lookup ("_there" : Str) = some (.ref 3) := by simp [ldF, List.lookup]
theorem pn_ (now fl x : Int) : putD ("now" : Str) (.int x) (ldF now fl) = ldF x fl := by simp [ldF, putD]
theorem pf_ (now fl x : Int) : putD ("floor" : Str) (.int x) (ldF now fl) = ldF now x := by simp [ldF, putD]
theorem lf_ (now fl : Int) : (ldF now fl).length = 5 := rfl
theorem valT_vk {n : Int} : ∀ {vs : List Ve}, (∀ e ∈ vs, e.1 ≠ n) → valT (vs.map vk) (.inl n) = none
  | [], _ => rfl
  | e :: vs, h => by
    have h1 := h e List.mem_cons_self
    have ih := valT_vk (n := n) fun x hx => h x (List.mem_cons_of_mem _ hx)
    rw [List.map_cons]
    unfold valT
    have : (vk e).1 ≠ .inl n := by unfold vk; simp [h1]
    simp only [vk] at this ⊢
    simp [h1, ih]
theorem putT_new {ks : List (Key × D)} {k : Key} {y : D} (h : valT ks k = none) : putT ks k y = ks ++ [(k, y)] := by
  unfold putT
  rw [valT_any, h]
  rfl
theorem valT_tk {n : Int} : ∀ {th : List Ent}, (∀ e ∈ th, e.1 ≠ n) → valT (th.map tk) (.inl n) = none
  | [], _ => rfl
  | e :: vs, h => by
    have h1 := h e List.mem_cons_self
    have ih := valT_tk (n := n) fun x hx => h x (List.mem_cons_of_mem _ hx)
    rw [List.map_cons]
    unfold valT
    simp only [tk]
    simp [h1, ih]
theorem put_h {h : HP} {now fl : Int} {ps : List Int} {vs : List Ve} {th : List Ent} (L : LH h now fl ps vs th) (kb : ∀ e ∈ vs, e.1 ≤ now) (tb : ∀ p ∈ th, p.1 ≤ now) (l1 : vs.length ≤ 1000) (l2 : th.length ≤ 1000) (r : Int) :
    ∃ h', F_Ledgerput [.ref 0, vD r] h = .ok (.int (now + 1)) h' ∧ LH h' (now + 1) fl ps (vs ++ [(now + 1, h.length, [(now + 1, none, r)])]) (th ++ [(now + 1, r)]) ∧ h'[4]? = h[4]? ∧ h'[5]? = h[5]? := by
  obtain ⟨a0, a1, a2, a3, av, nd, ok, l⟩ := L
  have v1 : valT (vs.map vk) (.inl (now + 1)) = none := valT_vk fun e he => by have := kb e he; omega
  have v2 : valT (th.map tk) (.inl (now + 1)) = none := valT_tk fun e he => by have := tb e he; omega
  have p1 := putT_new (y := .ref h.length) v1
  have p2 := putT_new (y := vD r) v2
  obtain ⟨h1, e1⟩ : ∃ h1, h1 = h.set 0 (.ins 14 (ldF (now + 1) fl)) := ⟨_, rfl⟩
  have n1 : h1.length = h.length := by rw [e1]; simp
  obtain ⟨h2, e2⟩ : ∃ h2, h2 = h1 ++ [.lst [.tup [.int (now + 1), .non, vD r]]] := ⟨_, rfl⟩
  have n2 : h2.length = h.length + 1 := by rw [e2]; simp [n1]
  obtain ⟨h3, e3⟩ : ∃ h3, h3 = h2.set 2 (.dic (vs.map vk ++ [(.inl (now + 1), .ref h.length)])) := ⟨_, rfl⟩
  have n3 : h3.length = h.length + 1 := by rw [e3]; simp [n2]
  obtain ⟨h4, e4⟩ : ∃ h4, h4 = h3.set 3 (.dic (th.map tk ++ [(.inl (now + 1), vD r)])) := ⟨_, rfl⟩
  have b0 : h1[0]? = some (.ins 14 (ldF (now + 1) fl)) := by rw [e1]; exact gE (by omega)
  have b2 : h1[2]? = some (.dic (vs.map vk)) := by rw [e1, gS (by omega)]; exact a2
  have c0 : h2[0]? = some (.ins 14 (ldF (now + 1) fl)) := by rw [e2, gA (by omega)]; exact b0
  have c2 : h2[2]? = some (.dic (vs.map vk)) := by rw [e2, gA (by omega)]; exact b2
  have d0 : h3[0]? = some (.ins 14 (ldF (now + 1) fl)) := by rw [e3, gS (by omega)]; exact c0
  have d3 : h3[3]? = some (.dic (th.map tk)) := by rw [e3, gS (by omega), e2, gA (by omega), e1, gS (by omega)]; exact a3
  have g0 : h4[0]? = some (.ins 14 (ldF (now + 1) fl)) := by rw [e4, gS (by omega)]; exact d0
  have k1 : (vs.map vk).length < sizeLine := by rw [List.length_map, sizeLine_eq]; omega
  have k2 : (th.map tk).length < sizeLine := by rw [List.length_map, sizeLine_eq]; omega
  have q1 := f1_ now fl
  have q1' := f1_ (now + 1) fl
  have q4 := f4_ (now + 1) fl
  have q5 := f5_ (now + 1) fl
  have pn := pn_ now fl (now + 1)
  have lf := lf_ now fl
  have run : F_Ledgerput [.ref 0, vD r] h = .ok (.int (now + 1)) h4 := by
    have st : startE 2 [.ref 0, vD r] = [some (.ref 0), some (vD r)] := rfl
    have hv : vrD (now + 1, none, r) = .tup [.int (now + 1), .non, vD r] := rfl
    unfold F_Ledgerput fnR
    rw [st]
    rw [seq_nx (e' := [some (.ref 0), some (vD r)]) (h' := h1) (by
      rw [e1, ← pn]
      clear e1 e2 e3 e4 b0 b2 c0 c2 d0 d3 g0
      generalize ldF now fl = lf0 at *
      generalize vD r = v at *
      simp [a0, q1, lf])]
    rw [seq_nx (e' := [some (.ref 0), some (vD r)]) (h' := h3) (by
      have g2 : h2[2]? = some (.dic (vs.map vk)) := c2
      have i1 : (h1 ++ [.lst [.tup [.int (now + 1), .non, vD r]]])[0]? = some (.ins 14 (ldF (now + 1) fl)) := by rw [← e2]; exact c0
      have i2 : (h1 ++ [.lst [.tup [.int (now + 1), .non, vD r]]])[2]? = some (.dic (vs.map vk)) := by rw [← e2]; exact c2
      have p1' := p1
      rw [e3, e2, ← p1]
      clear e1 e2 e3 e4 c0 c2 d0 d3 g0 p1 p1' g2
      rw [← n1]
      generalize ldF (now + 1) fl = lf1 at *
      generalize vD r = v at *
      generalize vs.map vk = ks at *
      generalize hh : h1 ++ [.lst [.tup [.int (now + 1), .non, v]]] = hx at *
      simp [b0, q1', q4, hh, i1, i2, k1])]
    rw [seq_nx (e' := [some (.ref 0), some (vD r)]) (h' := h4) (by
      rw [e4, ← p2]
      clear e1 e2 e3 e4 g0 p2
      generalize ldF (now + 1) fl = lf1 at *
      generalize vD r = v at *
      generalize th.map tk = ks at *
      simp [d0, q1', q5, d3, k2])]
    generalize ldF (now + 1) fl = lf1 at *
    generalize vD r = v at *
    simp [g0, q1']
  refine ⟨h4, run, ⟨g0, ?_, ?_, ?_, fun e he => ?_, ?_, ?_, ?_⟩, ?_, ?_⟩
  · rw [e4, gS (by omega), e3, gS (by omega), e2, gA (by omega), e1, gS (by omega)]; exact a1
  · rw [e4, gS (by omega), e3, gE (by omega), List.map_append]; rfl
  · rw [e4, gE (by omega), List.map_append]; rfl
  · rcases List.mem_append.mp he with z | z
    · obtain ⟨z1, z2⟩ := av e z
      have z3 := (List.getElem?_eq_some_iff.mp z2).1
      exact ⟨z1, by rw [e4, gS (by omega), e3, gS (by omega), e2, gA (by omega), e1, gS (by omega)]; exact z2⟩
    · simp only [List.mem_cons, List.not_mem_nil, or_false] at z
      subst z
      refine ⟨l, ?_⟩
      show h4[h.length]? = _
      rw [e4, gS (by omega), e3, gS (by omega), e2, ← n1, gN]
      rfl
  · rw [List.map_append, List.nodup_append]
    refine ⟨nd, by simp, fun a ha b hb => ?_⟩
    obtain ⟨e, he, rfl⟩ := List.mem_map.mp ha
    have z3 := (List.getElem?_eq_some_iff.mp (av e he).2).1
    simp only [List.map_cons, List.map_nil, List.mem_cons, List.not_mem_nil, or_false] at hb
    omega
  · rw [e4, e3, e2, e1]
    refine OkR.set (OkR.set (OkR.app (OkR.set ok 0 _ (.inl rfl)) _ ?_) 2 _ (.inr (.inl rfl))) 3 _ (.inr (.inr ?_))
    · exact rlts_map (f := fun _ : Unit => D.tup [.int (now + 1), .non, vD r]) (fun _ => clean_tup (by simp [clean_int, clean_v, clean_non])) [()]
    · have : th.map tk ++ [(.inl (now + 1), vD r)] = (th ++ [(now + 1, r)]).map tk := by rw [List.map_append]; rfl
      rw [this]
      exact rltk_map (fun p => clean_v p.2) _
  · rw [e4, List.length_set, n3]; omega
  · rw [e4, gS (by omega), e3, gS (by omega), e2, gA (by omega), e1, gS (by omega)]
  · rw [e4, gS (by omega), e3, gS (by omega), e2, gA (by omega), e1, gS (by omega)]
end Pg
namespace Pg
open PySem PySem.Spec PyProof.Rows L2 Ev Lib LibT LibV LibW LibX EvS Led
theorem lk__end (now fl : Int) : (ldF now fl).lookup ("_end" : Str) = none := by
  unfold ldF
  simp only [List.lookup, show (("_end" : Str) == ("now" : Str)) = false from by decide +kernel, show (("_end" : Str) == ("floor" : Str)) = false from by decide +kernel, show (("_end" : Str) == ("_pinned" : Str)) = false from by decide +kernel, show (("_end" : Str) == ("_versions" : Str)) = false from by decide +kernel, show (("_end" : Str) == ("_there" : Str)) = false from by decide +kernel]
theorem lk__drop (now fl : Int) : (ldF now fl).lookup ("_drop" : Str) = none := by
  unfold ldF
  simp only [List.lookup, show (("_drop" : Str) == ("now" : Str)) = false from by decide +kernel, show (("_drop" : Str) == ("floor" : Str)) = false from by decide +kernel, show (("_drop" : Str) == ("_pinned" : Str)) = false from by decide +kernel, show (("_drop" : Str) == ("_versions" : Str)) = false from by decide +kernel, show (("_drop" : Str) == ("_there" : Str)) = false from by decide +kernel]
theorem lk_keeps (now fl : Int) : (ldF now fl).lookup ("keeps" : Str) = none := by
  unfold ldF
  simp only [List.lookup, show (("keeps" : Str) == ("now" : Str)) = false from by decide +kernel, show (("keeps" : Str) == ("floor" : Str)) = false from by decide +kernel, show (("keeps" : Str) == ("_pinned" : Str)) = false from by decide +kernel, show (("keeps" : Str) == ("_versions" : Str)) = false from by decide +kernel, show (("keeps" : Str) == ("_there" : Str)) = false from by decide +kernel]
theorem lk_readings (now fl : Int) : (ldF now fl).lookup ("readings" : Str) = none := by
  unfold ldF
  simp only [List.lookup, show (("readings" : Str) == ("now" : Str)) = false from by decide +kernel, show (("readings" : Str) == ("floor" : Str)) = false from by decide +kernel, show (("readings" : Str) == ("_pinned" : Str)) = false from by decide +kernel, show (("readings" : Str) == ("_versions" : Str)) = false from by decide +kernel, show (("readings" : Str) == ("_there" : Str)) = false from by decide +kernel]
theorem lk_pins (now fl : Int) : (ldF now fl).lookup ("pins" : Str) = none := by
  unfold ldF
  simp only [List.lookup, show (("pins" : Str) == ("now" : Str)) = false from by decide +kernel, show (("pins" : Str) == ("floor" : Str)) = false from by decide +kernel, show (("pins" : Str) == ("_pinned" : Str)) = false from by decide +kernel, show (("pins" : Str) == ("_versions" : Str)) = false from by decide +kernel, show (("pins" : Str) == ("_there" : Str)) = false from by decide +kernel]
theorem lk_put (now fl : Int) : (ldF now fl).lookup ("put" : Str) = none := by
  unfold ldF
  simp only [List.lookup, show (("put" : Str) == ("now" : Str)) = false from by decide +kernel, show (("put" : Str) == ("floor" : Str)) = false from by decide +kernel, show (("put" : Str) == ("_pinned" : Str)) = false from by decide +kernel, show (("put" : Str) == ("_versions" : Str)) = false from by decide +kernel, show (("put" : Str) == ("_there" : Str)) = false from by decide +kernel]
theorem lk_correct (now fl : Int) : (ldF now fl).lookup ("correct" : Str) = none := by
  unfold ldF
  simp only [List.lookup, show (("correct" : Str) == ("now" : Str)) = false from by decide +kernel, show (("correct" : Str) == ("floor" : Str)) = false from by decide +kernel, show (("correct" : Str) == ("_pinned" : Str)) = false from by decide +kernel, show (("correct" : Str) == ("_versions" : Str)) = false from by decide +kernel, show (("correct" : Str) == ("_there" : Str)) = false from by decide +kernel]
theorem lk_withdraw (now fl : Int) : (ldF now fl).lookup ("withdraw" : Str) = none := by
  unfold ldF
  simp only [List.lookup, show (("withdraw" : Str) == ("now" : Str)) = false from by decide +kernel, show (("withdraw" : Str) == ("floor" : Str)) = false from by decide +kernel, show (("withdraw" : Str) == ("_pinned" : Str)) = false from by decide +kernel, show (("withdraw" : Str) == ("_versions" : Str)) = false from by decide +kernel, show (("withdraw" : Str) == ("_there" : Str)) = false from by decide +kernel]
theorem lk_pin (now fl : Int) : (ldF now fl).lookup ("pin" : Str) = none := by
  unfold ldF
  simp only [List.lookup, show (("pin" : Str) == ("now" : Str)) = false from by decide +kernel, show (("pin" : Str) == ("floor" : Str)) = false from by decide +kernel, show (("pin" : Str) == ("_pinned" : Str)) = false from by decide +kernel, show (("pin" : Str) == ("_versions" : Str)) = false from by decide +kernel, show (("pin" : Str) == ("_there" : Str)) = false from by decide +kernel]
theorem lk_unpin (now fl : Int) : (ldF now fl).lookup ("unpin" : Str) = none := by
  unfold ldF
  simp only [List.lookup, show (("unpin" : Str) == ("now" : Str)) = false from by decide +kernel, show (("unpin" : Str) == ("floor" : Str)) = false from by decide +kernel, show (("unpin" : Str) == ("_pinned" : Str)) = false from by decide +kernel, show (("unpin" : Str) == ("_versions" : Str)) = false from by decide +kernel, show (("unpin" : Str) == ("_there" : Str)) = false from by decide +kernel]
theorem lk_raise_floor (now fl : Int) : (ldF now fl).lookup ("raise_floor" : Str) = none := by
  unfold ldF
  simp only [List.lookup, show (("raise_floor" : Str) == ("now" : Str)) = false from by decide +kernel, show (("raise_floor" : Str) == ("floor" : Str)) = false from by decide +kernel, show (("raise_floor" : Str) == ("_pinned" : Str)) = false from by decide +kernel, show (("raise_floor" : Str) == ("_versions" : Str)) = false from by decide +kernel, show (("raise_floor" : Str) == ("_there" : Str)) = false from by decide +kernel]
theorem valT_at : ∀ {vs : List Ve}, (vs.map (·.1)).Pairwise (· < ·) → ∀ {n : Int} {i : Nat} {W : List Vr}, (n, i, W) ∈ vs → valT (vs.map vk) (.inl n) = some (.ref i)
  | [], _, n, i, W, h => by cases h
  | e :: vs, k, n, i, W, h => by
    rw [List.map_cons, List.pairwise_cons] at k
    rw [List.map_cons]
    unfold valT
    rcases List.mem_cons.mp h with z | z
    · subst z
      simp [vk]
    · have : e.1 ≠ n := fun q => by
        have := k.1 n (List.mem_map.mpr ⟨_, z, rfl⟩)
        omega
      simp only [vk]
      simp [this, valT_at k.2 z]
theorem at_last (V0 : List Vr) (v : Vr) : atI ((V0 ++ [v]).map vrD) (-1) = some (vrD v) := by
  rw [List.map_append]
  unfold atI ixN
  have c1 : (1 : Int) ≤ (V0.length : Int) + 1 := by omega
  have c2 : (-1 + ((V0.length : Int) + 1)).toNat = V0.length := by omega
  simp [c1, c2]
theorem ix_last (n : Nat) : ixN (n + 1) (-1) = some n := by
  unfold ixN
  simp
  omega
theorem end_h {h : HP} {nw fl : Int} {vs : List Ve} (a0 : h[0]? = some (.ins 14 (ldF nw fl))) (a2 : h[2]? = some (.dic (vs.map vk))) (k : (vs.map (·.1)).Pairwise (· < ·)) {n : Int} {i : Nat} {V0 : List Vr} {b r : Int} (he : (n, i, V0 ++ [(b, none, r)]) ∈ vs) (ai : h[i]? = some (.lst ((V0 ++ [(b, none, r)]).map vrD))) :
    F_Ledger_end [.ref 0, .int n] h = .ok .non (h.set i (.lst ((V0 ++ [(b, some nw, r)]).map vrD))) := by
  have v1 := valT_at k he
  have q1 := f1_ nw fl
  have q4 := f4_ nw fl
  have al := at_last V0 (b, none, r)
  have ll : ((V0 ++ [(b, none, r)]).map vrD).length = V0.length + 1 := by simp
  have il := ix_last V0.length
  have es : ((V0 ++ [(b, none, r)]).map vrD).set V0.length (.tup [.int b, .int nw, vD r]) = (V0 ++ [(b, some nw, r)]).map vrD := by
    rw [List.map_append, List.map_append, List.set_append_right _ _ (by simp)]
    simp [vrD, dOf]
  have ev : vrD (b, none, r) = .tup [.int b, .non, vD r] := rfl
  rw [ev] at al
  rw [← es]
  generalize (V0 ++ [(b, none, r)]).map vrD = us at *
  generalize ldF nw fl = lf at *
  generalize vD r = w at *
  generalize vs.map vk = ks at *
  simp [F_Ledger_end, a0, a2, q1, q4, v1, ai, al, ll, il]
theorem tk_in {th : List Ent} {n : Int} (h : n ∈ th.map (·.1)) : (valT (th.map tk) (.inl n)).isSome = true := by
  rw [← valT_any, List.any_eq_true]
  obtain ⟨p, hp, rfl⟩ := List.mem_map.mp h
  exact ⟨tk p, List.mem_map.mpr ⟨p, hp, rfl⟩, by simp [tk]⟩
theorem tk_out {th : List Ent} {n : Int} (h : n ∉ th.map (·.1)) : valT (th.map tk) (.inl n) = none := valT_tk fun e he z => h (List.mem_map.mpr ⟨e, he, z⟩)
theorem putT_old {th : List Ent} {n r' : Int} (h : n ∈ th.map (·.1)) : putT (th.map tk) (.inl n) (vD r') = (th.map fun p => if p.1 = n then (n, r') else p).map tk := by
  unfold putT
  rw [valT_any, tk_in h, if_pos rfl, List.map_map, List.map_map]
  refine List.map_congr_left fun p _ => ?_
  simp only [Function.comp, tk]
  by_cases z : p.1 = n
  · simp [z]
  · simp [z]
theorem dropT_old (th : List Ent) (n : Int) : dropT (th.map tk) (.inl n) = (th.filter fun p => decide (p.1 ≠ n)).map tk := by
  unfold dropT
  rw [List.filter_map]
  congr 1
  refine List.filter_congr fun p _ => ?_
  simp [tk]
theorem correct_no {h : HP} {now fl : Int} {th : List Ent} (a0 : h[0]? = some (.ins 14 (ldF now fl))) (a3 : h[3]? = some (.dic (th.map tk))) {n : Int} (hn : n ∉ th.map (·.1)) (d : D) : F_Ledgercorrect [.ref 0, .int n, d] h = .ok .non h := by
  have v2 := tk_out hn
  have q5 := f5_ now fl
  generalize ldF now fl = lf at *
  generalize th.map tk = ks at *
  simp [F_Ledgercorrect, a0, a3, q5, v2]
theorem withdraw_no {h : HP} {now fl : Int} {th : List Ent} (a0 : h[0]? = some (.ins 14 (ldF now fl))) (a3 : h[3]? = some (.dic (th.map tk))) {n : Int} (hn : n ∉ th.map (·.1)) : F_Ledgerwithdraw [.ref 0, .int n] h = .ok .non h := by
  have v2 := tk_out hn
  have q5 := f5_ now fl
  generalize ldF now fl = lf at *
  generalize th.map tk = ks at *
  simp [F_Ledgerwithdraw, a0, a3, q5, v2]
/-- the heap when one number's versions have changed -/
theorem chg_h {h h' : HP} {now fl : Int} {ps : List Int} {vs : List Ve} {th th' : List Ent} (L : LH h now fl ps vs th) (k : (vs.map (·.1)).Pairwise (· < ·)) {n : Int} {i : Nat} {V V' : List Vr} (he : (n, i, V) ∈ vs)
    (e : h' = ((h.set 0 (.ins 14 (ldF (now + 1) fl))).set i (.lst (V'.map vrD))).set 3 (.dic (th'.map tk))) : LH h' (now + 1) fl ps (chg vs n V') th' ∧ h'[4]? = h[4]? ∧ h'[5]? = h[5]? := by
  obtain ⟨a0, a1, a2, a3, av, nd, ok, l⟩ := L
  obtain ⟨i6, ai⟩ := av _ he
  have il := (List.getElem?_eq_some_iff.mp ai).1
  simp only at i6 ai il
  have lk : (chg vs n V').map vk = vs.map vk := by
    unfold chg
    rw [List.map_map]
    refine List.map_congr_left fun x hx => ?_
    simp only [Function.comp, vk]
    split <;> rfl
  have li : (chg vs n V').map (·.2.1) = vs.map (·.2.1) := by
    unfold chg
    rw [List.map_map]
    refine List.map_congr_left fun x hx => ?_
    simp only [Function.comp]
    split <;> rfl
  have inj : ∀ x ∈ vs, x.2.1 = i → x = (n, i, V) := fun x hx z => by
    obtain ⟨p, hp, rfl⟩ := List.getElem_of_mem hx
    obtain ⟨q, hq, eq⟩ := List.getElem_of_mem he
    have ei : vs[q].2.1 = i := by rw [eq]
    rcases Nat.lt_trichotomy p q with c | c | c
    · have := List.pairwise_iff_getElem.mp nd p q (by simpa using hp) (by simpa using hq) c
      simp only [List.getElem_map] at this
      exact absurd (z.trans ei.symm) this
    · subst c; exact eq
    · have := List.pairwise_iff_getElem.mp nd q p (by simpa using hq) (by simpa using hp) c
      simp only [List.getElem_map] at this
      exact absurd (ei.trans z.symm) this
  refine ⟨⟨?_, ?_, ?_, ?_, fun x hx => ?_, by rw [li]; exact nd, ?_, ?_⟩, ?_, ?_⟩
  · rw [e, gS (by omega), gS (by omega), gE (by omega)]
  · rw [e, gS (by omega), gS (by omega), gS (by omega)]; exact a1
  · rw [e, gS (by omega), gS (by omega), gS (by omega), lk]; exact a2
  · rw [e, gE (by simp; omega)]
  · obtain ⟨y, hy, rfl⟩ := List.mem_map.mp hx
    obtain ⟨y6, ay⟩ := av y hy
    by_cases z : y.1 = n
    · have : y = (n, i, V) := key_once k hy he z
      subst this
      rw [if_pos rfl]
      refine ⟨y6, ?_⟩
      show h'[i]? = _
      rw [e, gS (by omega), gE (by simpa using il)]
    · rw [if_neg z]
      refine ⟨y6, ?_⟩
      have ne : i ≠ y.2.1 := fun q => z (by rw [inj y hy q.symm])
      rw [e, gS (by omega), gS ne, gS (by omega)]
      exact ay
  · rw [e]
    exact OkR.set (OkR.set (OkR.set ok 0 _ (.inl rfl)) i _ (.inr (.inr (by show rlt.rlts 0 _ = true; exact rlts_map clean_vr _)))) 3 _ (.inr (.inr (by show rlt.rltk 0 _ = true; exact rltk_map (fun p => clean_v p.2) _)))
  · rw [e]; simp; exact l
  · rw [e, gS (by omega), gS (by omega), gS (by omega)]
  · rw [e, gS (by omega), gS (by omega), gS (by omega)]
theorem correct_h {h : HP} {now fl : Int} {ps : List Int} {vs : List Ve} {th : List Ent} (L : LH h now fl ps vs th) (k : (vs.map (·.1)).Pairwise (· < ·)) {n : Int} (hn : n ∈ th.map (·.1)) {i : Nat} {V0 : List Vr} {b r : Int} (he : (n, i, V0 ++ [(b, none, r)]) ∈ vs) (lV : V0.length ≤ 1000) (lt : th.length ≤ 1000) (r' : Int) :
    ∃ h', F_Ledgercorrect [.ref 0, .int n, vD r'] h = .ok (.int (now + 1)) h' ∧ LH h' (now + 1) fl ps (chg vs n (endV V0 b r now ++ [(now + 1, none, r')])) (th.map fun p => if p.1 = n then (n, r') else p) ∧ h'[4]? = h[4]? ∧ h'[5]? = h[5]? := by
  obtain ⟨i6, ai⟩ := L.av _ he
  have il := (List.getElem?_eq_some_iff.mp ai).1
  have l := L.l
  simp only at i6 ai il
  obtain ⟨h1, e1⟩ : ∃ h1, h1 = h.set 0 (.ins 14 (ldF (now + 1) fl)) := ⟨_, rfl⟩
  have n1 : h1.length = h.length := by rw [e1]; simp
  obtain ⟨h2, e2⟩ : ∃ h2, h2 = h1.set i (.lst ((V0 ++ [(b, some (now + 1), r)]).map vrD)) := ⟨_, rfl⟩
  have n2 : h2.length = h.length := by rw [e2]; simp [n1]
  obtain ⟨h3, e3⟩ : ∃ h3, h3 = h2.set i (.lst ((V0 ++ [(b, some (now + 1), r)]).map vrD ++ [vrD (now + 1, none, r')])) := ⟨_, rfl⟩
  have n3 : h3.length = h.length := by rw [e3]; simp [n2]
  obtain ⟨h4, e4⟩ : ∃ h4, h4 = h3.set 3 (.dic ((th.map fun p => if p.1 = n then (n, r') else p).map tk)) := ⟨_, rfl⟩
  have a0 := L.a0
  have a3 := L.a3
  have b0 : h1[0]? = some (.ins 14 (ldF (now + 1) fl)) := by rw [e1]; exact gE (by omega)
  have b2 : h1[2]? = some (.dic (vs.map vk)) := by rw [e1, gS (by omega)]; exact L.a2
  have bi : h1[i]? = some (.lst ((V0 ++ [(b, none, r)]).map vrD)) := by rw [e1, gS (by omega)]; exact ai
  have en := end_h b0 b2 k he bi
  rw [← e2] at en
  have c0 : h2[0]? = some (.ins 14 (ldF (now + 1) fl)) := by rw [e2, gS (by omega)]; exact b0
  have c2 : h2[2]? = some (.dic (vs.map vk)) := by rw [e2, gS (by omega)]; exact b2
  have ci : h2[i]? = some (.lst ((V0 ++ [(b, some (now + 1), r)]).map vrD)) := by rw [e2, gE (by omega)]
  have d0 : h3[0]? = some (.ins 14 (ldF (now + 1) fl)) := by rw [e3, gS (by omega)]; exact c0
  have d3 : h3[3]? = some (.dic (th.map tk)) := by rw [e3, gS (by omega), e2, gS (by omega), e1, gS (by omega)]; exact a3
  have g0 : h4[0]? = some (.ins 14 (ldF (now + 1) fl)) := by rw [e4, gS (by omega)]; exact d0
  have k2 : (th.map tk).length < sizeLine := by rw [List.length_map, sizeLine_eq]; omega
  have ap : appL i (vrD (now + 1, none, r')) h2 = .ok () h3 := by
    unfold appL
    rw [ci]
    simp only
    rw [if_pos (by rw [List.length_map, sizeLine_eq]; simp; omega), e3]
  have v1 := valT_at k he
  have v2 := tk_in hn
  have p2 := putT_old (r' := r') hn
  have q1 := f1_ now fl
  have q5 := f5_ now fl
  have q1' := f1_ (now + 1) fl
  have q4' := f4_ (now + 1) fl
  have q5' := f5_ (now + 1) fl
  have lk := lk__end (now + 1) fl
  have pn := pn_ now fl (now + 1)
  have lf := lf_ now fl
  have hv : vrD (now + 1, none, r') = .tup [.int (now + 1), .non, vD r'] := rfl
  rw [hv] at ap
  have run : F_Ledgercorrect [.ref 0, .int n, vD r'] h = .ok (.int (now + 1)) h4 := by
    have st : startE 3 [.ref 0, .int n, vD r'] = [some (.ref 0), some (.int n), some (vD r')] := rfl
    unfold F_Ledgercorrect fnR
    rw [st]
    rw [seq_nx (e' := [some (.ref 0), some (.int n), some (vD r')]) (h' := h) (by
      clear e1 e2 e3 e4 ap en p2
      generalize ldF now fl = lf0 at *
      generalize th.map tk = ks at *
      simp [a0, q5, a3, v2])]
    rw [seq_nx (e' := [some (.ref 0), some (.int n), some (vD r')]) (h' := h1) (by
      rw [e1, ← pn]
      clear e1 e2 e3 e4 ap en p2
      generalize ldF now fl = lf0 at *
      generalize vD r' = v at *
      simp [a0, q1, lf])]
    rw [seq_nx (e' := [some (.ref 0), some (.int n), some (vD r')]) (h' := h2) (by
      clear e1 e2 e3 e4 ap p2
      generalize ldF (now + 1) fl = lf0 at *
      generalize F_Ledger_end = fe at *
      simp [b0, lk, en, methI])]
    rw [seq_nx (e' := [some (.ref 0), some (.int n), some (vD r')]) (h' := h3) (by
      clear e1 e2 e3 e4 en p2
      have ty : tyL h2 (.ref i) = true := by simp [ci]
      generalize ldF (now + 1) fl = lf0 at *
      generalize vD r' = v at *
      generalize vs.map vk = ks at *
      simp [c0, c2, q1', q4', v1, ty, ap, -tyL])]
    rw [seq_nx (e' := [some (.ref 0), some (.int n), some (vD r')]) (h' := h4) (by
      rw [e4, ← p2]
      clear e1 e2 e3 e4 en p2 ap
      generalize ldF (now + 1) fl = lf0 at *
      generalize vD r' = v at *
      generalize th.map tk = ks at *
      simp [d0, q5', d3, k2])]
    generalize ldF (now + 1) fl = lf0 at *
    simp [g0, q1']
  refine ⟨h4, run, ?_⟩
  refine chg_h L k he ?_
  rw [e4, e3, e2, List.set_set, e1]
  congr 3
  simp [endV]
theorem withdraw_h {h : HP} {now fl : Int} {ps : List Int} {vs : List Ve} {th : List Ent} (L : LH h now fl ps vs th) (k : (vs.map (·.1)).Pairwise (· < ·)) {n : Int} (hn : n ∈ th.map (·.1)) {i : Nat} {V0 : List Vr} {b r : Int} (he : (n, i, V0 ++ [(b, none, r)]) ∈ vs) :
    ∃ h', F_Ledgerwithdraw [.ref 0, .int n] h = .ok (.int (now + 1)) h' ∧ LH h' (now + 1) fl ps (chg vs n (endV V0 b r now)) (th.filter fun p => decide (p.1 ≠ n)) ∧ h'[4]? = h[4]? ∧ h'[5]? = h[5]? := by
  obtain ⟨i6, ai⟩ := L.av _ he
  have il := (List.getElem?_eq_some_iff.mp ai).1
  have l := L.l
  simp only at i6 ai il
  obtain ⟨h1, e1⟩ : ∃ h1, h1 = h.set 0 (.ins 14 (ldF (now + 1) fl)) := ⟨_, rfl⟩
  have n1 : h1.length = h.length := by rw [e1]; simp
  obtain ⟨h2, e2⟩ : ∃ h2, h2 = h1.set i (.lst ((V0 ++ [(b, some (now + 1), r)]).map vrD)) := ⟨_, rfl⟩
  have n2 : h2.length = h.length := by rw [e2]; simp [n1]
  obtain ⟨h4, e4⟩ : ∃ h4, h4 = h2.set 3 (.dic ((th.filter fun p => decide (p.1 ≠ n)).map tk)) := ⟨_, rfl⟩
  have a0 := L.a0
  have a3 := L.a3
  have b0 : h1[0]? = some (.ins 14 (ldF (now + 1) fl)) := by rw [e1]; exact gE (by omega)
  have b2 : h1[2]? = some (.dic (vs.map vk)) := by rw [e1, gS (by omega)]; exact L.a2
  have bi : h1[i]? = some (.lst ((V0 ++ [(b, none, r)]).map vrD)) := by rw [e1, gS (by omega)]; exact ai
  have en := end_h b0 b2 k he bi
  rw [← e2] at en
  have c0 : h2[0]? = some (.ins 14 (ldF (now + 1) fl)) := by rw [e2, gS (by omega)]; exact b0
  have c3 : h2[3]? = some (.dic (th.map tk)) := by rw [e2, gS (by omega), e1, gS (by omega)]; exact a3
  have g0 : h4[0]? = some (.ins 14 (ldF (now + 1) fl)) := by rw [e4, gS (by omega)]; exact c0
  have v2 := tk_in hn
  have p2 := dropT_old th n
  have q1 := f1_ now fl
  have q5 := f5_ now fl
  have q1' := f1_ (now + 1) fl
  have q5' := f5_ (now + 1) fl
  have lk := lk__end (now + 1) fl
  have pn := pn_ now fl (now + 1)
  have lf := lf_ now fl
  have run : F_Ledgerwithdraw [.ref 0, .int n] h = .ok (.int (now + 1)) h4 := by
    have st : startE 2 [.ref 0, .int n] = [some (.ref 0), some (.int n)] := rfl
    unfold F_Ledgerwithdraw fnR
    rw [st]
    rw [seq_nx (e' := [some (.ref 0), some (.int n)]) (h' := h) (by
      clear e1 e2 e4 en p2
      generalize ldF now fl = lf0 at *
      generalize th.map tk = ks at *
      simp [a0, q5, a3, v2])]
    rw [seq_nx (e' := [some (.ref 0), some (.int n)]) (h' := h1) (by
      rw [e1, ← pn]
      clear e1 e2 e4 en p2
      generalize ldF now fl = lf0 at *
      simp [a0, q1, lf])]
    rw [seq_nx (e' := [some (.ref 0), some (.int n)]) (h' := h2) (by
      clear e1 e2 e4 p2
      generalize ldF (now + 1) fl = lf0 at *
      generalize F_Ledger_end = fe at *
      simp [b0, lk, en, methI])]
    rw [seq_nx (e' := [some (.ref 0), some (.int n)]) (h' := h4) (by
      rw [e4, ← p2]
      clear e1 e2 e4 en p2
      generalize ldF (now + 1) fl = lf0 at *
      generalize th.map tk = ks at *
      simp [c0, q5', c3, v2])]
    generalize ldF (now + 1) fl = lf0 at *
    simp [g0, q1']
  refine ⟨h4, run, ?_⟩
  refine chg_h L k he ?_
  rw [e4, e2, e1]
  rfl
end Pg
namespace Pg
open PySem PySem.Spec PyProof.Rows L2 Ev Lib LibT LibV LibW LibX EvS Led
theorem any_int (p : Int) (ms : List Int) : (ms.map D.int).all flatD = true ∧ ((ms.map D.int).any fun y => eqD y (.int p)) = decide (p ∈ ms) := by
  constructor
  · rw [List.all_map, List.all_eq_true]; intro x _; rfl
  · rw [List.any_map, Bool.eq_iff_iff, List.any_eq_true, decide_eq_true_eq]
    constructor
    · rintro ⟨x, hx, e⟩
      simp [eqD] at e
      rw [← e]; exact hx
    · intro h
      exact ⟨p, h, by simp [eqD]⟩
theorem in_ref (neg : Bool) (p : Int) (ms : List Int) {n : Nat} {h : HP} (e : h[n]? = some (.lst (ms.map D.int))) : fIn neg (.int p) (.ref n) h = .ok (.bl (if neg = true then !decide (p ∈ ms) else decide (p ∈ ms))) h := by
  obtain ⟨h1, h2⟩ := any_int p ms
  generalize ms.map D.int = us at *
  simp [e, h1, h2, flatD]
theorem mLc_tyLF {α : Type} {it : IM} {own : List Nat} {asg : TF} {cond : M Bool} {elt : M D} {env : EN} {h h1 : HP} {gd : GdL} (xs : List α) (f G : α → D) (p : α → Bool) (hi : it env h = .ok (xs.map f, gd) h1) (hg : ∀ x, Gd gd (h1 ++ x)) (hz : xs.length ≤ 16000000)
    (H : ∀ x ∈ xs, ∀ y : HP, ∃ e, asg (f x) (wipeE env own) (h1 ++ y) = some e ∧ cond e (h1 ++ y) = .ok (p x) (h1 ++ y) ∧ (p x = true → elt e (h1 ++ y) = .ok (G x) (h1 ++ y))) :
    mLc true it own asg cond elt env h = .ok (.ref h1.length) (h1 ++ [.lst ((xs.filter p).map G)]) := by
  unfold mLc
  rw [hi]
  simp only [R.bind]
  rw [lcE_tyG asg cond elt _ h1 gd hg f G p xs [] (by have := sizeLine_eq; simp only [List.length_nil]; omega) fun x hx y => let ⟨e, e1, e2, e3⟩ := H x hx y; ⟨e, e1, e2, e3⟩]
  simp [outL]
theorem F_kept {fl : Int} {ps : List Int} (hl : ps.length ≤ 1000) (v : Vr) {h : HP} (e : h[1]? = some (.lst (ps.map D.int))) : F_was_kept [.int fl, .ref 1, vrD v] h = .ok (.bl (kpV fl ps v)) h := by
  obtain ⟨b, d, r⟩ := v
  have l1 : 1 < h.length := (List.getElem?_eq_some_iff.mp e).1
  have pb := fun b => pure_clean h (clean_bl b)
  cases d with
  | none =>
    unfold kpV vrD dOf
    dsimp only
    generalize vD r = w at *
    generalize ps.map D.int = us at *
    simp [F_was_kept, pb]
  | some x =>
    have lc : ∀ z : D, C_was_kept_1 false [some (.int fl), some (.ref 1), some z, some (.int b), some (.int x), some (vD r), none] h = .ok (.lst (ps.map fun p => .bl (decide (b ≤ p) && decide (p < x)))) h := fun z =>
      mLc_tyN (gd := [(1, ps.map D.int)]) (h1 := h) ps D.int _ (by
        generalize ps.map D.int = us at *
        simp [e]) (fun t => by simp only [Gd, List.mem_cons, List.not_mem_nil, or_false, forall_eq]; rw [gA l1]; exact e) (by omega)
        (fun p hp y => ⟨[some (.int fl), some (.ref 1), some z, some (.int b), some (.int x), some (vD r), some (.int p)], by simp, by
          generalize vD r = w at *
          by_cases c1 : b ≤ p
          · by_cases c2 : p < x <;> simp [c1, c2]
          · simp [c1]⟩) fun p _ => clean_bl _
    have lc := lc (vrD (b, some x, r))
    have fa := blsD_map (ps.map fun p => (decide (b ≤ p) && decide (p < x)))
    rw [List.map_map] at fa
    have e4 : (D.bl ∘ fun p : Int => (decide (b ≤ p) && decide (p < x))) = fun p => D.bl (decide (b ≤ p) && decide (p < x)) := rfl
    rw [e4] at fa
    have ea : ((ps.map fun p => (decide (b ≤ p) && decide (p < x))).any id) = ps.any fun p => (decide (b ≤ p) && decide (p < x)) := by rw [List.any_map]; rfl
    have ek : kpV fl ps (b, some x, r) = (decide (fl < x) || ps.any fun p => (decide (b ≤ p) && decide (p < x))) := rfl
    rw [ek, ← ea]
    have ev : vrD (b, some x, r) = .tup [.int b, .int x, vD r] := rfl
    rw [ev] at lc ⊢
    generalize (ps.map fun p => D.bl (decide (b ≤ p) && decide (p < x))) = xs at *
    generalize (ps.map fun p => (decide (b ≤ p) && decide (p < x))) = ys at *
    generalize vD r = w at *
    generalize ps.map D.int = us at *
    by_cases c : fl < x
    · simp [F_was_kept, pb, c]
    · simp [F_was_kept, pb, c, lc, fa]
theorem putT_vk {n : Int} {L : Nat} {vs : List Ve} (h : n ∈ vs.map (·.1)) : putT (vs.map vk) (.inl n) (.ref L) = vs.map fun e => if e.1 = n then ((.inl n : Key), D.ref L) else vk e := by
  unfold putT
  have : ((vs.map vk).any fun p => decide (p.1 = .inl n)) = true := by
    obtain ⟨e, he, rfl⟩ := List.mem_map.mp h
    rw [List.any_eq_true]
    exact ⟨vk e, List.mem_map.mpr ⟨e, he, rfl⟩, by simp [vk]⟩
  rw [this, if_pos rfl, List.map_map]
  refine List.map_congr_left fun e _ => ?_
  simp only [Function.comp, vk]
  by_cases z : e.1 = n <;> simp [z]
theorem drop_turn {h : HP} {now fl : Int} {ps : List Int} {ws rest : List Ve} {th : List Ent} {n : Int} {i : Nat} {W : List Vr} (L : LH h now fl ps (ws ++ (n, i, W) :: rest) th) (k : ((ws ++ (n, i, W) :: rest).map (·.1)).Pairwise (· < ·)) (hl : ps.length ≤ 1000) (lw : W.length ≤ 1000) (lv : (ws ++ (n, i, W) :: rest).length ≤ 1000) (z2 z3 : Option D) :
    ∃ y2 y3 h', B_Ledger_drop_1 [some (.ref 0), some (.int n), z2, z3] h = .nx [some (.ref 0), some (.int n), y2, y3] h' ∧ h'.length = h.length + 1 ∧ h'[4]? = h[4]? ∧ h'[5]? = h[5]? ∧
      LH h' now fl ps (ws ++ (if drp fl ps W = [] then rest else (n, h.length, drp fl ps W) :: rest)) th := by
  have hm : (n, i, W) ∈ ws ++ (n, i, W) :: rest := by simp
  obtain ⟨a0, a1, a2, a3, av, nd, ok, l⟩ := L
  obtain ⟨i6, ai⟩ := av _ hm
  simp only at i6 ai
  have li : i < h.length := (List.getElem?_eq_some_iff.mp ai).1
  have v1 := valT_at k hm
  have q2 := f2_ now fl
  have q3 := f3_ now fl
  have q4 := f4_ now fl
  have others : ∀ e ∈ ws ++ rest, e.1 ≠ n := fun e he z => by
    rw [List.map_append, List.map_cons, List.pairwise_append, List.pairwise_cons] at k
    rcases List.mem_append.mp he with q | q
    · have := k.2.2 e.1 (List.mem_map.mpr ⟨e, q, rfl⟩) n List.mem_cons_self
      omega
    · have := k.2.1.1 e.1 (List.mem_map.mpr ⟨e, q, rfl⟩)
      omega
  have lc : C_Ledger_drop_1 true [some (.ref 0), some (.int n), z2, z3] h = .ok (.ref h.length) (h ++ [.lst ((drp fl ps W).map vrD)]) :=
    mLc_tyLF (gd := [(i, W.map vrD)]) (h1 := h) W vrD vrD (kpV fl ps) (by
      generalize ldF now fl = lf0 at *
      generalize (ws ++ (n, i, W) :: rest).map vk = ks at *
      generalize W.map vrD = us at *
      simp [a0, q4, a2, v1, ai]) (fun t => by simp only [Gd, List.mem_cons, List.not_mem_nil, or_false, forall_eq]; rw [gA li]; exact ai) (by omega)
      (fun v hv y => by
        have c0 : (h ++ y)[0]? = some (.ins 14 (ldF now fl)) := by rw [gA (by omega)]; exact a0
        have c1 : (h ++ y)[1]? = some (.lst (ps.map D.int)) := by rw [gA (by omega)]; exact a1
        have fk := F_kept (fl := fl) hl v c1
        refine ⟨[some (.ref 0), some (.int n), z2, some (vrD v)], by simp, ?_, fun _ => by simp⟩
        generalize hh : h ++ y = hy at *
        generalize ldF now fl = lf0 at *
        generalize vrD v = w at *
        simp [c0, q2, q3, fk])
  obtain ⟨h1, e1⟩ : ∃ h1, h1 = h ++ [.lst ((drp fl ps W).map vrD)] := ⟨_, rfl⟩
  rw [← e1] at lc
  have n1 : h1.length = h.length + 1 := by rw [e1]; simp
  have b0 : h1[0]? = some (.ins 14 (ldF now fl)) := by rw [e1, gA (by omega)]; exact a0
  have b2 : h1[2]? = some (.dic ((ws ++ (n, i, W) :: rest).map vk)) := by rw [e1, gA (by omega)]; exact a2
  have bL : h1[h.length]? = some (.lst ((drp fl ps W).map vrD)) := by rw [e1, gN]
  have s1 : B_Ledger_drop_1 [some (.ref 0), some (.int n), z2, z3] h = (sIf (mTru (mVar 2)) (sDPut (mVar 2) (mFld "_versions" (mVar 0)) (mVar 1)) (sDDelS (mFld "_versions" (mVar 0)) (mVar 1))) [some (.ref 0), some (.int n), some (.ref h.length), z3] h1 := by
    refine seq_nx ?_
    show R.sbind (C_Ledger_drop_1 true _ h) _ = _
    rw [lc]
    rfl
  have kl : ((ws ++ (n, i, W) :: rest).map vk).length < sizeLine := by rw [List.length_map, sizeLine_eq]; omega
  have okA : OkR h1 := by rw [e1]; exact ok.app _ (by show rlt.rlts 0 _ = true; exact rlts_map clean_vr _)
  have nd' := nd
  rw [List.map_append, List.map_cons, List.nodup_append, List.nodup_cons] at nd'
  rw [s1]
  by_cases c : drp fl ps W = []
  · rw [if_pos c]
    have dl : dropT ((ws ++ (n, i, W) :: rest).map vk) (.inl n) = (ws ++ rest).map vk := by
      unfold dropT
      rw [List.filter_map]
      congr 1
      have f1 : ∀ {l : List Ve}, (∀ e ∈ l, e.1 ≠ n) → l.filter ((fun p : Key × D => decide (p.1 ≠ .inl n)) ∘ vk) = l := fun h => List.filter_eq_self.mpr fun e he => by simp [vk, h e he]
      rw [List.filter_append, List.filter_cons, f1 fun e he => others e (List.mem_append_left _ he), f1 fun e he => others e (List.mem_append_right _ he)]
      simp [vk]
    refine ⟨some (.ref h.length), z3, h1.set 2 (.dic ((ws ++ rest).map vk)), ?_, by simp [n1], ?_, ?_, ⟨?_, ?_, ?_, ?_, fun e he => ?_, ?_, ?_, ?_⟩⟩
    · rw [← dl]
      rw [c] at bL
      clear e1 lc s1 okA
      generalize ldF now fl = lf0 at *
      generalize (ws ++ (n, i, W) :: rest).map vk = ks at *
      simp [b0, b2, q4, v1, bL]
    · rw [gS (by omega), e1, gA (by omega)]
    · rw [gS (by omega), e1, gA (by omega)]
    · rw [gS (by omega)]; exact b0
    · rw [gS (by omega), e1, gA (by omega)]; exact a1
    · rw [gE (by omega)]
    · rw [gS (by omega), e1, gA (by omega)]; exact a3
    · have hm2 : e ∈ ws ++ (n, i, W) :: rest := by
        rcases List.mem_append.mp he with q | q
        · exact List.mem_append_left _ q
        · exact List.mem_append_right _ (List.mem_cons_of_mem _ q)
      obtain ⟨x6, ax⟩ := av e hm2
      have lx := (List.getElem?_eq_some_iff.mp ax).1
      exact ⟨x6, by rw [gS (by omega), e1, gA lx]; exact ax⟩
    · rw [List.map_append, List.nodup_append]
      exact ⟨nd'.1, nd'.2.1.2, fun a ha b hb => nd'.2.2 a ha b (List.mem_cons_of_mem _ hb)⟩
    · exact okA.set 2 _ (.inr (.inl rfl))
    · simp; omega
  · rw [if_neg c]
    have hk : n ∈ (ws ++ (n, i, W) :: rest).map (·.1) := List.mem_map.mpr ⟨_, hm, rfl⟩
    have pl : putT ((ws ++ (n, i, W) :: rest).map vk) (.inl n) (.ref h.length) = (ws ++ (n, h.length, drp fl ps W) :: rest).map vk := by
      rw [putT_vk hk, List.map_append, List.map_append, List.map_cons, List.map_cons]
      have f1 : ∀ {l : List Ve}, (∀ e ∈ l, e.1 ≠ n) → (l.map fun e => if e.1 = n then ((.inl n : Key), D.ref h.length) else vk e) = l.map vk := fun h => List.map_congr_left fun e he => by rw [if_neg (h e he)]
      rw [f1 fun e he => others e (List.mem_append_left _ he), f1 fun e he => others e (List.mem_append_right _ he)]
      simp [vk]
    have ne : (drp fl ps W).map vrD ≠ [] := by simpa using c
    refine ⟨some (.ref h.length), z3, h1.set 2 (.dic ((ws ++ (n, h.length, drp fl ps W) :: rest).map vk)), ?_, by simp [n1], ?_, ?_, ⟨?_, ?_, ?_, ?_, fun e he => ?_, ?_, ?_, ?_⟩⟩
    · rw [← pl]
      clear e1 lc s1 okA pl
      generalize ldF now fl = lf0 at *
      generalize (ws ++ (n, i, W) :: rest).map vk = ks at *
      generalize (drp fl ps W).map vrD = us at *
      simp [b0, b2, q4, bL, kl, ne]
    · rw [gS (by omega), e1, gA (by omega)]
    · rw [gS (by omega), e1, gA (by omega)]
    · rw [gS (by omega)]; exact b0
    · rw [gS (by omega), e1, gA (by omega)]; exact a1
    · rw [gE (by omega)]
    · rw [gS (by omega), e1, gA (by omega)]; exact a3
    · rcases List.mem_append.mp he with q | q
      · obtain ⟨x6, ax⟩ := av e (List.mem_append_left _ q)
        have lx := (List.getElem?_eq_some_iff.mp ax).1
        exact ⟨x6, by rw [gS (by omega), e1, gA lx]; exact ax⟩
      · rcases List.mem_cons.mp q with q | q
        · subst q
          refine ⟨l, ?_⟩
          show (h1.set 2 _)[h.length]? = _
          rw [gS (by omega)]
          exact bL
        · obtain ⟨x6, ax⟩ := av e (List.mem_append_right _ (List.mem_cons_of_mem _ q))
          have lx := (List.getElem?_eq_some_iff.mp ax).1
          exact ⟨x6, by rw [gS (by omega), e1, gA lx]; exact ax⟩
    · have old : ∀ e ∈ ws ++ (n, i, W) :: rest, e.2.1 < h.length := fun e he => (List.getElem?_eq_some_iff.mp (av e he).2).1
      rw [List.map_append, List.map_cons, List.nodup_append, List.nodup_cons]
      refine ⟨nd'.1, ⟨fun q => ?_, nd'.2.1.2⟩, fun a ha b hb => ?_⟩
      · obtain ⟨e, he, z⟩ := List.mem_map.mp q
        have := old e (List.mem_append_right _ (List.mem_cons_of_mem _ he))
        simp only at z
        omega
      · rcases List.mem_cons.mp hb with q | q
        · obtain ⟨e, he, rfl⟩ := List.mem_map.mp ha
          have := old e (List.mem_append_left _ he)
          simp only at q
          omega
        · exact nd'.2.2 a ha b (List.mem_cons_of_mem _ q)
    · exact okA.set 2 _ (.inr (.inl rfl))
    · simp; omega
end Pg
namespace Pg
open PySem PySem.Spec PyProof.Rows L2 Ev Lib LibT LibV LibW LibX EvS Led
theorem drop_loop {now fl : Int} {ps : List Int} {th : List Ent} (hl : ps.length ≤ 1000) : ∀ (rest ws : List Ve) (h : HP) (z1 z2 z3 : Option D), LH h now fl ps (ws ++ rest) th → ((ws ++ rest).map (·.1)).Pairwise (· < ·) → (∀ e ∈ rest, e.2.2.length ≤ 1000) → (ws ++ rest).length ≤ 1000 →
    ∃ y1 y2 y3 h', forE (gNm 1) B_Ledger_drop_1 [] (rest.map fun e => D.int e.1) [some (.ref 0), z1, z2, z3] h = .nx [some (.ref 0), y1, y2, y3] h' ∧ LH h' now fl ps (ws ++ dropVs fl ps h.length rest) th ∧ h'[4]? = h[4]? ∧ h'[5]? = h[5]?
  | [], ws, h, z1, z2, z3, L, k, lv, lt => by
    refine ⟨z1, z2, z3, h, ?_, L, rfl, rfl⟩
    rw [List.map_nil, forE, if_pos (by simp [Gd])]
  | (n, i, W) :: rest, ws, h, z1, z2, z3, L, k, lv, lt => by
    obtain ⟨y2, y3, h1, e1, n1, k4, k5, L1⟩ := drop_turn L k hl (lv (n, i, W) List.mem_cons_self) lt z2 z3
    rw [List.map_cons, for_nx (e := [some (.ref 0), some (.int n), z2, z3]) rfl e1]
    have ke : ((ws ++ rest).map (·.1)).Sublist ((ws ++ (n, i, W) :: rest).map (·.1)) := by
      rw [List.map_append, List.map_append, List.map_cons]
      exact List.Sublist.append (List.Sublist.refl _) (List.sublist_cons_self _ _)
    by_cases c : drp fl ps W = []
    · rw [if_pos c] at L1
      obtain ⟨u1, u2, u3, h', e2, L2, k4', k5'⟩ := drop_loop hl rest ws h1 (some (.int n)) y2 y3 L1 (k.sublist ke) (fun e he => lv e (List.mem_cons_of_mem _ he)) (by simp at lt ⊢; omega)
      refine ⟨u1, u2, u3, h', e2, ?_, k4'.trans k4, k5'.trans k5⟩
      unfold dropVs
      rw [if_pos c, ← n1]
      exact L2
    · rw [if_neg c] at L1
      have L1' : LH h1 now fl ps ((ws ++ [(n, h.length, drp fl ps W)]) ++ rest) th := by rw [List.append_assoc]; exact L1
      have k' : (((ws ++ [(n, h.length, drp fl ps W)]) ++ rest).map (·.1)).Pairwise (· < ·) := by
        have : ((ws ++ [(n, h.length, drp fl ps W)]) ++ rest).map (·.1) = (ws ++ (n, i, W) :: rest).map (·.1) := by simp
        rw [this]; exact k
      obtain ⟨u1, u2, u3, h', e2, L2, k4', k5'⟩ := drop_loop hl rest (ws ++ [(n, h.length, drp fl ps W)]) h1 (some (.int n)) y2 y3 L1' k' (fun e he => lv e (List.mem_cons_of_mem _ he)) (by simp at lt ⊢; omega)
      refine ⟨u1, u2, u3, h', e2, ?_, k4'.trans k4, k5'.trans k5⟩
      unfold dropVs
      rw [if_neg c, ← n1]
      rw [List.append_assoc] at L2
      exact L2
/-- sizes: few pins, few numbers, few versions -/
structure Sm (ps : List Int) (vs : List Ve) (th : List Ent) : Prop where
  p : ps.length ≤ 1000
  v : vs.length ≤ 1000
  w : ∀ e ∈ vs, e.2.2.length ≤ 1000
  t : th.length ≤ 1000
theorem drop_h {h : HP} {now fl : Int} {ps : List Int} {vs : List Ve} {th : List Ent} (L : LH h now fl ps vs th) (k : (vs.map (·.1)).Pairwise (· < ·)) (s : Sm ps vs th) :
    ∃ h', F_Ledger_drop [.ref 0] h = .ok .non h' ∧ LH h' now fl ps (dropVs fl ps h.length vs) th ∧ h'[4]? = h[4]? ∧ h'[5]? = h[5]? := by
  obtain ⟨y1, y2, y3, h', e, L2, k4, k5⟩ := drop_loop s.p vs [] h none none none L k s.w s.v
  refine ⟨h', ?_, L2, k4, k5⟩
  have a0 := L.a0
  have a2 := L.a2
  have q4 := f4_ now fl
  have ek : ((vs.map vk).map fun kv => keyD kv.1) = vs.map fun e => D.int e.1 := by rw [List.map_map]; rfl
  generalize hB : B_Ledger_drop_1 = B at *
  generalize ldF now fl = lf0 at *
  generalize vs.map vk = ks at *
  generalize (vs.map fun e => D.int e.1) = ns at *
  simp [F_Ledger_drop, hB, a0, a2, q4, ek, e, -keyD]
theorem meth0_ {F : FA} {nm : Str} {h : HP} {now fl : Int} (a0 : h[0]? = some (.ins 14 (ldF now fl))) (lk : (ldF now fl).lookup nm = none) : kMeth0 14 nm F (.ref 0) h = F [.ref 0] h := by
  generalize ldF now fl = lf0 at *
  simp [a0, lk]
def flU (fl now m : Int) : Int := if (if now < m then now else m) > fl then (if now < m then now else m) else fl
theorem floor_h {h : HP} {now fl : Int} {ps : List Int} {vs : List Ve} {th : List Ent} (L : LH h now fl ps vs th) (k : (vs.map (·.1)).Pairwise (· < ·)) (s : Sm ps vs th) (m : Int) :
    ∃ h', F_Ledgerraise_floor [.ref 0, .int m] h = .ok (.int (flU fl now m)) h' ∧ LH h' now (flU fl now m) ps (dropVs (flU fl now m) ps h.length vs) th ∧ h'[4]? = h[4]? ∧ h'[5]? = h[5]? := by
  have l := L.l
  obtain ⟨h1, e1⟩ : ∃ h1, h1 = h.set 0 (.ins 14 (ldF now (flU fl now m))) := ⟨_, rfl⟩
  have n1 : h1.length = h.length := by rw [e1]; simp
  have L1 : LH h1 now (flU fl now m) ps vs th := by
    rw [e1]
    exact ⟨gE (by omega), by rw [gS (by omega)]; exact L.a1, by rw [gS (by omega)]; exact L.a2, by rw [gS (by omega)]; exact L.a3, fun e he => ⟨(L.av e he).1, by rw [gS (by have := (L.av e he).1; omega)]; exact (L.av e he).2⟩, L.nd, L.ok.set 0 _ (.inl rfl), by simp; exact l⟩
  obtain ⟨h', e2, L2, k4, k5⟩ := drop_h L1 k s
  rw [n1] at L2
  refine ⟨h', ?_, L2, by rw [k4, e1, gS (by omega)], by rw [k5, e1, gS (by omega)]⟩
  have a0 := L.a0
  have q1 := f1_ now fl
  have q2 := f2_ now fl
  have pf := pf_ now fl (flU fl now m)
  have lf := lf_ now fl
  have m0 := meth0_ (F := F_Ledger_drop) (nm := "_drop") L1.a0 (lk__drop _ _)
  have c0 := L2.a0
  have q2' := f2_ now (flU fl now m)
  have st : startE 2 [.ref 0, .int m] = [some (.ref 0), some (.int m)] := rfl
  unfold F_Ledgerraise_floor fnR
  rw [st]
  rw [seq_nx (e' := [some (.ref 0), some (.int m)]) (h' := h1) (by
    rw [e1, ← pf]
    clear e1 e2 m0 c0 pf
    unfold flU
    generalize ldF now fl = lf0 at *
    simp [a0, q1, q2, lf])]
  rw [seq_nx (e' := [some (.ref 0), some (.int m)]) (h' := h') (by
    clear e1 pf
    generalize F_Ledger_drop = fd at *
    have m1 : mMeth0 14 "_drop" fd (mVar 0) [some (.ref 0), some (.int m)] h1 = .ok .non h' := by
      show kMeth0 14 "_drop" fd (.ref 0) h1 = _
      rw [m0, e2]
    simp [-mMeth0, m1])]
  clear e1 pf
  generalize ldF now (flU fl now m) = lf1 at *
  simp [c0, q2']
theorem pin_h {h : HP} {now fl : Int} {ps : List Int} {vs : List Ve} {th : List Ent} (L : LH h now fl ps vs th) (s : ps.length ≤ 1000) :
    ∃ h', F_Ledgerpin [.ref 0] h = .ok (.int now) h' ∧ LH h' now fl (ps ++ [now]) vs th ∧ h'[4]? = h[4]? ∧ h'[5]? = h[5]? := by
  have l := L.l
  have a0 := L.a0
  have a1 := L.a1
  have e1 : (ps ++ [now]).map D.int = ps.map D.int ++ [.int now] := by simp
  have ap : appL 1 (.int now) h = .ok () (h.set 1 (.lst ((ps ++ [now]).map D.int))) := by
    unfold appL
    rw [a1]
    simp only
    rw [if_pos (by rw [List.length_map, sizeLine_eq]; omega), e1]
  have L1 : LH (h.set 1 (.lst ((ps ++ [now]).map D.int))) now fl (ps ++ [now]) vs th :=
    ⟨by rw [gS (by omega)]; exact a0, gE (by omega), by rw [gS (by omega)]; exact L.a2, by rw [gS (by omega)]; exact L.a3, fun e he => ⟨(L.av e he).1, by rw [gS (by have := (L.av e he).1; omega)]; exact (L.av e he).2⟩, L.nd, L.ok.set 1 _ (.inr (.inr (by show rlt.rlts 0 _ = true; exact rlts_map (fun x => clean_int x) _))), by simp; exact l⟩
  refine ⟨_, ?_, L1, gS (by omega), gS (by omega)⟩
  have ty : tyL h (.ref 1) = true := by
    generalize ps.map D.int = us at *
    simp [a1]
  have c0 := L1.a0
  have q1 := f1_ now fl
  have q3 := f3_ now fl
  generalize h.set 1 (.lst ((ps ++ [now]).map D.int)) = h1 at *
  generalize ldF now fl = lf0 at *
  simp [F_Ledgerpin, a0, q1, q3, ty, ap, c0, -tyL]
theorem unpin_h {h : HP} {now fl : Int} {ps : List Int} {vs : List Ve} {th : List Ent} (L : LH h now fl ps vs th) (k : (vs.map (·.1)).Pairwise (· < ·)) (s : Sm ps vs th) {m : Int} (hm : m ∈ ps) :
    ∃ h', F_Ledgerunpin [.ref 0, .int m] h = .ok .non h' ∧ LH h' now fl (ps.erase m) (dropVs fl (ps.erase m) h.length vs) th ∧ h'[4]? = h[4]? ∧ h'[5]? = h[5]? := by
  have l := L.l
  obtain ⟨h1, e1⟩ : ∃ h1, h1 = h.set 1 (.lst ((ps.erase m).map D.int)) := ⟨_, rfl⟩
  have n1 : h1.length = h.length := by rw [e1]; simp
  have L1 : LH h1 now fl (ps.erase m) vs th := by
    rw [e1]
    exact ⟨by rw [gS (by omega)]; exact L.a0, gE (by omega), by rw [gS (by omega)]; exact L.a2, by rw [gS (by omega)]; exact L.a3, fun e he => ⟨(L.av e he).1, by rw [gS (by have := (L.av e he).1; omega)]; exact (L.av e he).2⟩, L.nd, L.ok.set 1 _ (.inr (.inr (by show rlt.rlts 0 _ = true; exact rlts_map (fun x => clean_int x) _))), by simp; exact l⟩
  have s1 : Sm (ps.erase m) vs th := ⟨Nat.le_trans (List.length_erase_le) s.p, s.v, s.w, s.t⟩
  obtain ⟨h', e2, L2, k4, k5⟩ := drop_h L1 k s1
  rw [n1] at L2
  refine ⟨h', ?_, L2, by rw [k4, e1, gS (by omega)], by rw [k5, e1, gS (by omega)]⟩
  have a0 := L.a0
  have a1 := L.a1
  have q3 := f3_ now fl
  have ir := in_ref true m ps a1
  have m0 := meth0_ (F := F_Ledger_drop) (nm := "_drop") L1.a0 (lk__drop _ _)
  have id : intsD (ps.map D.int) = some ps := Ev.intsD_map ps
  have ty : tyL h (.ref 1) = true := by
    generalize ps.map D.int = us at *
    simp [a1]
  have rm : remL 1 m (some (.lst (ps.map D.int))) h = .ok .non h1 := by
    show (match intsD (ps.map D.int) with | some ns => if m ∈ ns then R.ok D.non (h.set 1 (.lst ((ns.erase m).map D.int))) else .stuck | none => .stuck) = _
    rw [id]
    simp only
    rw [if_pos hm, e1]
  have st : startE 2 [.ref 0, .int m] = [some (.ref 0), some (.int m)] := rfl
  unfold F_Ledgerunpin fnR
  rw [st]
  rw [seq_nx (e' := [some (.ref 0), some (.int m)]) (h' := h) (by
    clear e1 e2 m0 rm
    generalize ldF now fl = lf0 at *
    simp [a0, q3, ir, hm, -fIn])]
  rw [seq_nx (e' := [some (.ref 0), some (.int m)]) (h' := h1) (by
    clear e1 e2 m0
    generalize ldF now fl = lf0 at *
    generalize ps.map D.int = us at *
    simp [a0, q3, ty, a1, rm, -tyL, -remL])]
  clear e1
  generalize F_Ledger_drop = fd at *
  have m1 : mMeth0 14 "_drop" fd (mVar 0) [some (.ref 0), some (.int m)] h1 = .ok .non h' := by
    show kMeth0 14 "_drop" fd (.ref 0) h1 = _
    rw [m0, e2]
  simp [-mMeth0, m1]
def kpB (fl now : Int) (ps : List Int) (m : Int) : Bool := (decide (fl ≤ m) && decide (m ≤ now)) || decide (m ∈ ps)
theorem keeps_h {h : HP} {now fl : Int} {ps : List Int} {vs : List Ve} {th : List Ent} (L : LH h now fl ps vs th) (m : Int) : F_Ledgerkeeps [.ref 0, .int m] h = .ok (.bl (kpB fl now ps m)) h := by
  have a0 := L.a0
  have q1 := f1_ now fl
  have q2 := f2_ now fl
  have q3 := f3_ now fl
  have ir := in_ref false m ps L.a1
  have pb := fun b => pure_clean h (clean_bl b)
  unfold kpB
  generalize ldF now fl = lf0 at *
  by_cases c1 : fl ≤ m
  · by_cases c2 : m ≤ now
    · simp [F_Ledgerkeeps, a0, q1, q2, q3, c1, c2, pb, -fIn]
    · simp [F_Ledgerkeeps, a0, q1, q2, q3, c1, c2, pb, ir, -fIn]
  · simp [F_Ledgerkeeps, a0, q1, q2, q3, c1, pb, ir, -fIn]
theorem pins_h {h : HP} {now fl : Int} {ps : List Int} {vs : List Ve} {th : List Ent} (L : LH h now fl ps vs th) (s : ps.length ≤ 1000) : F_Ledgerpins [.ref 0] h = .ok (.lst (ps.map D.int)) h := by
  have a0 := L.a0
  have a1 := L.a1
  have q3 := f3_ now fl
  have pl := pure_clean h (d := .lst (ps.map D.int)) (clean_lst fun d hd => by obtain ⟨x, _, rfl⟩ := List.mem_map.mp hd; exact clean_int _)
  have ll : (ps.map D.int).length ≤ sizeLine := by rw [List.length_map, sizeLine_eq]; omega
  generalize ldF now fl = lf0 at *
  generalize ps.map D.int = us at *
  simp [F_Ledgerpins, a0, a1, q3, ll, pl]
end Pg
namespace Pg
open PySem PySem.Spec PyProof.Rows L2 Ev Lib LibT LibV LibW LibX EvS Led
theorem ded_get {h : HP} {j : Nat} (n0 : j ≠ 0) (n2 : j ≠ 2) : (ded 2 0 h)[j]? = h[j]? := by
  unfold ded
  rw [gS (fun z => n0 z.symm), gS (fun z => n2 z.symm)]
theorem ded_ok {h : HP} (k : OkR h) : (ded 2 0 h).all okRf = true := by
  rw [List.all_eq_true]
  intro o ho
  obtain ⟨j, hj, e⟩ := List.getElem_of_mem ho
  have e' : (ded 2 0 h)[j]? = some o := by rw [List.getElem?_eq_getElem hj, e]
  by_cases z0 : j = 0
  · subst z0
    unfold ded at e'
    have l : 0 < (h.set 2 O.dead).length := by simpa [ded] using hj
    rw [gE l] at e'
    cases e'; rfl
  · by_cases z2 : j = 2
    · subst z2
      unfold ded at e'
      rw [gS (by omega)] at e'
      have l : 2 < h.length := by simpa [ded] using hj
      rw [gE l] at e'
      cases e'; rfl
    · rw [ded_get z0 z2] at e'
      exact k j o z0 z2 e'
def fdD (m : Int) (e : Ve) : D := .tup [.int e.1, tO (thA e.2.2 m)]
theorem clean_tO (o : Option Int) : clean (tO o) := by cases o; exact clean_non; exact clean_v _
theorem clean_fd (m : Int) (e : Ve) : clean (fdD m e) := clean_tup (by simp [clean_int, clean_tO])
theorem found_lc {h : HP} {now fl : Int} {ps : List Int} {vs : List Ve} {th : List Ent} (L : LH h now fl ps vs th) (lv : vs.length ≤ 1000) (m : Int) :
    C_Ledgerreadings_1 [some (.ref 0), some (.int m), none, none, none, none] h = .ok (.lst (vs.map (fdD m))) h := by
  have a0 := L.a0
  have a2 := L.a2
  have q4 := f4_ now fl
  have wk : wkD false (vs.map vk) = vs.map fun e => D.tup [.int e.1, .ref e.2.1] := by
    unfold wkD
    rw [List.map_map]
    refine List.map_congr_left fun e _ => ?_
    simp [vk, keyD]
  have lc : mLc false (fun _ h => .ok (wkD false (vs.map vk), []) h) [3, 4] (gTp 2 (gsCons (gNm 3) (gsCons (gNm 4) gsNil))) cYes (mTup (aCons (mVar 3) (aCons (mFn 2 F__there_at (aCons (mVar 4) (aCons (mVar 1) aNil))) aNil)))
      [some (.ref 0), some (.int m), none, none, none, none] (ded 2 0 h) = .ok (.lst (vs.map (fdD m))) (ded 2 0 h) :=
    mLc_tyN (gd := []) (h1 := ded 2 0 h) vs (fun e => D.tup [.int e.1, .ref e.2.1]) (fdD m) (by rw [wk]) (fun t => by simp [Gd]) (by omega)
      (fun e he y => ⟨[some (.ref 0), some (.int m), none, some (.int e.1), some (.ref e.2.1), none], by simp, by
        obtain ⟨i6, ai⟩ := L.av e he
        have li : e.2.1 < (ded 2 0 h).length := by
          have := (List.getElem?_eq_some_iff.mp ai).1
          simpa [ded] using this
        have ci : (ded 2 0 h ++ y)[e.2.1]? = some (.lst (e.2.2.map vrD)) := by rw [gA li, ded_get (by omega) (by omega)]; exact ai
        have ft := F_there e.2.2 e.2.1 m _ ci
        unfold fdD
        generalize tO (thA e.2.2 m) = w at *
        generalize ded 2 0 h ++ y = hy at *
        simp [ft]⟩) fun e _ => clean_fd m e
  have dn : doneW h 2 0 (.lst (vs.map (fdD m))) (ded 2 0 h) = .ok (.lst (vs.map (fdD m))) h := by
    unfold doneW
    exact if_pos ⟨rfl, ded_ok L.ok, (show rlt.rlts 0 (vs.map (fdD m)) = true from rlts_map (clean_fd m) vs)⟩
  show kLcW false "_versions" [3, 4] _ cYes _ [some (.ref 0), some (.int m), none, none, none, none] h (some (some (.ref 0))) = _
  unfold kLcW kLcW1
  simp only
  rw [a0]
  simp only
  unfold kLcW2
  rw [q4]
  simp only
  unfold kLcW3
  rw [a2]
  simp only
  rw [lc]
  exact dn
theorem told_map (vs : List Ve) (m : Int) : ((vs.filter fun e => (thA e.2.2 m).isSome).map fun e => D.tup [.int e.1, tO (thA e.2.2 m)]) = (told vs m).map enD := by
  unfold told
  induction vs with
  | nil => rfl
  | cons e vs ih =>
    rw [List.filterMap_cons]
    unfold tellE at *
    cases q : thA e.2.2 m with
    | none =>
      rw [List.filter_cons, q]
      exact ih
    | some r =>
      rw [List.filter_cons, q]
      simp only [Option.isSome_some, if_true, List.map_cons, Option.map_some]
      rw [q, ih]
      rfl
theorem read_h {h : HP} {now fl : Int} {ps : List Int} {vs : List Ve} {th : List Ent} (L : LH h now fl ps vs th) (s : Sm ps vs th) (m : Int) (kp : kpB fl now ps m = true) :
    F_Ledgerreadings [.ref 0, .int m] h = .ok (.ref h.length) (h ++ [.lst ((if m = now then th else told vs m).map enD)]) := by
  have a0 := L.a0
  have a3 := L.a3
  have q1 := f1_ now fl
  have q5 := f5_ now fl
  have lk := lk_keeps now fl
  have ke := keeps_h L m
  rw [kp] at ke
  have st : startE 6 [.ref 0, .int m] = [some (.ref 0), some (.int m), none, none, none, none] := rfl
  unfold F_Ledgerreadings fnR
  rw [st]
  rw [seq_nx (e' := [some (.ref 0), some (.int m), none, none, none, none]) (h' := h) (by
    generalize ldF now fl = lf0 at *
    generalize F_Ledgerkeeps = fk at *
    simp [a0, lk, ke])]
  by_cases c : m = now
  · rw [if_pos c]
    have wk : wkD false (th.map tk) = th.map enD := by
      unfold wkD
      rw [List.map_map]
      refine List.map_congr_left fun e _ => ?_
      simp [tk, keyD, enD]
    have li : mListI true (mFld "_there" (mVar 0)) [some (.ref 0), some (.int m), none, none, none, none] h = .ok (.ref h.length) (h ++ [.lst (th.map enD)]) := by
      rw [← wk]
      generalize ldF now fl = lf0 at *
      generalize th.map tk = ks at *
      simp [a0, q5, a3, listIO]
    subst c
    generalize ldF m fl = lf0 at *
    simp [a0, q1, sh_int, eqvI, li, -mListI]
  · rw [if_neg c]
    rw [seq_nx (e' := [some (.ref 0), some (.int m), none, none, none, none]) (h' := h) (by
      have c' : ¬ m = now := c
      generalize ldF now fl = lf0 at *
      simp [a0, q1, sh_int, eqvI, c'])]
    have fo := found_lc L s.v m
    rw [seq_nx (e' := [some (.ref 0), some (.int m), some (.lst (vs.map (fdD m))), none, none, none]) (h' := h) (by
      show R.sbind (C_Ledgerreadings_1 _ h) _ = _
      rw [fo]
      rfl)]
    have lc : C_Ledgerreadings_2 true [some (.ref 0), some (.int m), some (.lst (vs.map (fdD m))), none, none, none] h = .ok (.ref h.length) (h ++ [.lst ((told vs m).map enD)]) := by
      rw [← told_map]
      exact mLc_tyLF (gd := []) (h1 := h) vs (fdD m) (fun e => D.tup [.int e.1, tO (thA e.2.2 m)]) (fun e => (thA e.2.2 m).isSome) (by
        generalize vs.map (fdD m) = us at *
        simp) (fun t => by simp [Gd]) (by have := s.v; omega)
        (fun e he y => by
          refine ⟨[some (.ref 0), some (.int m), some (.lst (vs.map (fdD m))), some (.int e.1), none, some (tO (thA e.2.2 m))], ?_, ?_, fun _ => by simp⟩
          · unfold fdD
            generalize tO (thA e.2.2 m) = w at *
            simp
          · cases q : thA e.2.2 m with
            | none => simp [tO]
            | some r =>
              simp only [tO, vD, rdD]
              simp)
    show kFnR (sRet (C_Ledgerreadings_2 true) _ h) = _
    unfold sRet
    rw [lc]
    rfl
end Pg
namespace Pg
open PySem PySem.Spec PyProof.Rows L2 Ev Lib LibT LibV LibW LibX EvS Led
theorem LH.set {h : HP} {now fl : Int} {ps : List Int} {vs : List Ve} {th : List Ent} (L : LH h now fl ps vs th) {j : Nat} (hj : j = 4 ∨ j = 5) {o : O} (c : okRf o = true) : LH (h.set j o) now fl ps vs th := by
  have l := L.l
  exact ⟨by rw [gS (by omega)]; exact L.a0, by rw [gS (by omega)]; exact L.a1, by rw [gS (by omega)]; exact L.a2, by rw [gS (by omega)]; exact L.a3, fun e he => ⟨(L.av e he).1, by rw [gS (by have := (L.av e he).1; omega)]; exact (L.av e he).2⟩, L.nd, L.ok.set j _ (.inr (.inr c)), by simp; exact l⟩
theorem LH.app {h : HP} {now fl : Int} {ps : List Int} {vs : List Ve} {th : List Ent} (L : LH h now fl ps vs th) {o : O} (c : okRf o = true) : LH (h ++ [o]) now fl ps vs th := by
  have l := L.l
  exact ⟨by rw [gA (by omega)]; exact L.a0, by rw [gA (by omega)]; exact L.a1, by rw [gA (by omega)]; exact L.a2, by rw [gA (by omega)]; exact L.a3, fun e he => ⟨(L.av e he).1, by rw [gA (List.getElem?_eq_some_iff.mp (L.av e he).2).1]; exact (L.av e he).2⟩, L.nd, L.ok.app _ c, by simp; omega⟩
def stD (s : List Ent) : D := .lst (s.map enD)
theorem clean_st (s : List Ent) : clean (stD s) := clean_lst fun d hd => by obtain ⟨x, _, rfl⟩ := List.mem_map.mp hd; exact clean_en x
def Sof (st : List (List Ent)) (m : Int) : List Ent := st.getD m.toNat []
def gt (xs : List Int) (i : Int) : Int := xs.getD i.toNat 0
theorem at_gt {xs : List Int} {i : Int} (h0 : 0 ≤ i) (h1 : i < xs.length) : atI (xs.map D.int) i = some (.int (gt xs i)) := by
  obtain ⟨k, rfl⟩ : ∃ k : Nat, i = k := ⟨i.toNat, by omega⟩
  have hk : k < xs.length := by omega
  rw [at_map D.int hk]
  unfold gt
  simp [hk]
theorem at_S {st : List (List Ent)} {m : Int} (h0 : 0 ≤ m) (h1 : m < st.length) : atI (st.map stD) m = some (stD (Sof st m)) := by
  obtain ⟨k, rfl⟩ : ∃ k : Nat, m = k := ⟨m.toNat, by omega⟩
  have hk : k < st.length := by omega
  rw [at_map stD hk]
  unfold Sof
  simp [hk]
/-- the law's state -/
structure LW (h : HP) (st : List (List Ent)) (fl : Int) (ps : List Int) (vs : List Ve) (B : Nat) : Prop where
  L : LH h ((st.length : Int) - 1) fl ps vs (Sof st ((st.length : Int) - 1))
  o : LOk ((st.length : Int) - 1) fl ps vs (Sof st)
  s4 : h[4]? = some (.lst (st.map stD))
  s5 : h[5]? = some (.lst (ps.map D.int))
  ne : 1 ≤ st.length
  sb : ∀ s ∈ st, ∀ p ∈ s, p.1 ≤ (st.length : Int) - 1
  z1 : st.length ≤ B
  z2 : ps.length ≤ B
  z3 : vs.length ≤ B
  z4 : ∀ e ∈ vs, e.2.2.length ≤ B
  z5 : ∀ s ∈ st, s.length ≤ B
theorem Sof_mem {st : List (List Ent)} {m : Int} (h0 : 0 ≤ m) (h1 : m < st.length) : Sof st m ∈ st := by
  unfold Sof
  have hk : m.toNat < st.length := by omega
  simp [hk]
theorem LW.sm {h : HP} {st : List (List Ent)} {fl : Int} {ps : List Int} {vs : List Ve} {B : Nat} (w : LW h st fl ps vs B) (hB : B ≤ 1000) : Sm ps vs (Sof st ((st.length : Int) - 1)) :=
  ⟨by have := w.z2; omega, by have := w.z3; omega, fun e he => by have := w.z4 e he; omega, by have := w.z5 _ (Sof_mem (m := (st.length : Int) - 1) (by have := w.ne; omega) (by omega)); omega⟩
theorem F_lthere {h : HP} {st : List (List Ent)} (s4 : h[4]? = some (.lst (st.map stD))) {m : Int} (h0 : 0 ≤ m) (h1 : m < st.length) (hl : (Sof st m).length ≤ 1000) : F__law_there [.ref 4, .int m] h = .ok (stD (Sof st m)) h := by
  have at1 := at_S h0 h1
  have lc : C__law_there_1 false [some (.ref 4), some (.int m), none] h = .ok (stD (Sof st m)) h :=
    mLc_ty (h1 := h) (Sof st m) enD enD (by
      unfold stD at *
      generalize (Sof st m).map enD = us at *
      generalize (st.map fun s => D.lst (s.map enD)) = ss at *
      simp [s4, at1]) (by omega) (fun p _ h' => ⟨[some (.ref 4), some (.int m), some (enD p)], by simp, by simp⟩) fun p _ => clean_en p
  have ps := pure_clean h (clean_st (Sof st m))
  generalize stD (Sof st m) = w at *
  simp [F__law_there, lc, ps]
def kp2 (fl now : Int) (ps : List Int) (m : Int) : Bool := decide (m ∈ ps) || (decide (fl ≤ m) && decide (m ≤ now))
theorem kp_eq (fl now : Int) (ps : List Int) (m : Int) : kpB fl now ps m = kp2 fl now ps m := by unfold kpB kp2; rw [Bool.or_comm]
theorem eq_bb (a : Bool) (h : HP) : fNe (.bl a) (.bl a) h = .ok (.bl false) h := by cases a <;> rfl
theorem Shp.ints' (ms : List Int) : Shp 2 (.list (ms.map PyData.int)) := Shp.list fun q hq => by
  obtain ⟨x, _, rfl⟩ := List.mem_map.mp hq
  exact Shp.int _ _
theorem toP_is (ms : List Int) : toPs (ms.map D.int) = some (ms.map PyData.int) := toPs_map D.int PyData.int ms fun x _ => rfl
theorem ne_pins {h : HP} {ps : List Int} (s5 : h[5]? = some (.lst (ps.map D.int))) : fNe (.lst (ps.map D.int)) (.ref 5) h = .ok (.bl false) h := by
  have tp := toP_is ps
  have s1 := (Shp.ints' ps).ok (by omega)
  have s2 := (Shp.ints' ps).self
  generalize ps.map D.int = us at *
  generalize ps.map PyData.int = qs at *
  simp [s5, toP, tp, s1, s2]
theorem right_turn {h : HP} {st : List (List Ent)} {fl : Int} {ps : List Int} {vs : List Ve} {B : Nat} (w : LW h st fl ps vs B) (hB : B ≤ 1000) (k : Nat) (hk : k < st.length + 1) (z6 z7 : Option D) :
    ∃ y6 y7 h', B__law_right_1 [some (.ref 0), some (.ref 4), some (.int fl), some (.ref 5), some (.int ((st.length : Int) - 1)), some (.int (k : Nat)), z6, z7] h = .nx [some (.ref 0), some (.ref 4), some (.int fl), some (.ref 5), some (.int ((st.length : Int) - 1)), some (.int (k : Nat)), y6, y7] h' ∧ LW h' st fl ps vs B ∧ ∃ t, h' = h ++ t := by
  have L := w.L
  have a0 := L.a0
  have ke := keeps_h L (k : Int)
  have ir := in_ref false (k : Int) ps w.s5
  have lkk := lk_keeps ((st.length : Int) - 1) fl
  have lkr := lk_readings ((st.length : Int) - 1) fl
  rw [kp_eq] at ke
  have s1 : ∀ b, kp2 fl ((st.length : Int) - 1) ps k = b → (sAsg (mOr (mBin (fIn false) (mVar 5) (mVar 3)) (mCh2 fLe fLe (mVar 2) (mVar 5) (mVar 4))) (gNm 6)) [some (.ref 0), some (.ref 4), some (.int fl), some (.ref 5), some (.int ((st.length : Int) - 1)), some (.int (k : Nat)), z6, z7] h = .nx [some (.ref 0), some (.ref 4), some (.int fl), some (.ref 5), some (.int ((st.length : Int) - 1)), some (.int (k : Nat)), some (.bl b), z7] h := fun b hb => by
    rw [← hb]
    unfold kp2
    by_cases c : (k : Int) ∈ ps
    · simp [ir, c, -fIn]
    · by_cases c1 : fl ≤ (k : Int)
      · by_cases c2 : (k : Int) ≤ (st.length : Int) - 1 <;> simp [ir, c, c1, c2, -fIn]
      · simp [ir, c, c1, -fIn]
  have s2 : ∀ b, kp2 fl ((st.length : Int) - 1) ps k = b → (sIf (mB (mBin fNe (mMeth 14 1 "keeps" F_Ledgerkeeps (mVar 0) (aCons (mVar 5) aNil)) (mVar 6))) (sRet (mCst (.bl false))) sNil) [some (.ref 0), some (.ref 4), some (.int fl), some (.ref 5), some (.int ((st.length : Int) - 1)), some (.int (k : Nat)), some (.bl b), z7] h = .nx [some (.ref 0), some (.ref 4), some (.int fl), some (.ref 5), some (.int ((st.length : Int) - 1)), some (.int (k : Nat)), some (.bl b), z7] h := fun b hb => by
    rw [hb] at ke
    have eb := eq_bb b h
    generalize F_Ledgerkeeps = fk at *
    generalize ldF ((st.length : Int) - 1) fl = lf0 at *
    generalize (st.length : Int) - 1 = nw at *
    simp [a0, lkk, ke, eb, -fNe]
  unfold B__law_right_1
  cases hb : kp2 fl ((st.length : Int) - 1) ps k with
  | false =>
    rw [seq_nx (s1 false hb), seq_nx (s2 false hb)]
    exact ⟨some (.bl false), z7, h, by simp, w, [], by simp⟩
  | true =>
    rw [seq_nx (s1 true hb), seq_nx (s2 true hb)]
    have km : Kept fl ((st.length : Int) - 1) ps k := by
      unfold kp2 at hb
      simp only [Bool.or_eq_true, Bool.and_eq_true, decide_eq_true_eq] at hb
      exact hb
    have le := km.le w.o.p
    have rd := read_h L (w.sm hB) (k : Int) (by rw [kp_eq]; exact hb)
    have ts : (if (k : Int) = (st.length : Int) - 1 then Sof st ((st.length : Int) - 1) else told vs k) = Sof st k := by
      split
      · rename_i c; rw [c]
      · exact w.o.t k km
    rw [ts] at rd
    have l := L.l
    obtain ⟨h1, e1⟩ : ∃ h1, h1 = h ++ [.lst ((Sof st k).map enD)] := ⟨_, rfl⟩
    rw [← e1] at rd
    have s4 : h1[4]? = some (.lst (st.map stD)) := by rw [e1, gA (by omega)]; exact w.s4
    have bL : h1[h.length]? = some (.lst ((Sof st k).map enD)) := by rw [e1, gN]
    have sl : (Sof st k).length ≤ 1000 := by have := w.z5 _ (Sof_mem (st := st) (m := (k : Int)) (by omega) (by omega)); omega
    have ft := F_lthere s4 (m := (k : Int)) (by omega) (by omega) sl
    have sm : sameL (own1 1 F_Reading__eq__) false (.ref h.length) (stD (Sof st k)) h1 = .ok (.bl false) h1 := LibY.same_ok (ds := (Sof st k).map enD) (by simp [lsD, bL]) rfl fun d hd => by
      obtain ⟨p, _, rfl⟩ := List.mem_map.mp hd
      exact ow_en p h1
    have nl := List.length_append (as := h) (bs := [O.lst ((Sof st k).map enD)])
    obtain ⟨h2, e2⟩ : ∃ h2, h2 = h ++ [.lst ((Sof st k).map enD ++ [.tup [.int 0, .non]])] := ⟨_, rfl⟩
    have ap : appL h.length (.tup [.int 0, .non]) h1 = .ok () h2 := by
      unfold appL
      rw [bL]
      simp only
      rw [if_pos (by rw [List.length_map, sizeLine_eq]; omega), e1, e2]
      simp
    have ty : tyL h1 (.ref h.length) = true := by simp [bL]
    have isL : mIsi "list" (mVar 7) [some (.ref 0), some (.ref 4), some (.int fl), some (.ref 5), some (.int ((st.length : Int) - 1)), some (.int (k : Nat)), some (.bl true), some (.ref h.length)] h1 = .ok (.bl true) h1 := by
      have kt : kitB "list" "list" = some true := by decide +kernel
      generalize (Sof st k).map enD = us at *
      simp [bL, kt]
    refine ⟨some (.bl true), some (.ref h.length), h2, ?_, ?_, _, e2⟩
    · have t1 : (sAsg (mMeth 14 1 "readings" F_Ledgerreadings (mVar 0) (aCons (mVar 5) aNil)) (gNm 7)) [some (.ref 0), some (.ref 4), some (.int fl), some (.ref 5), some (.int ((st.length : Int) - 1)), some (.int (k : Nat)), some (.bl true), z7] h = .nx [some (.ref 0), some (.ref 4), some (.int fl), some (.ref 5), some (.int ((st.length : Int) - 1)), some (.int (k : Nat)), some (.bl true), some (.ref h.length)] h1 := by
        clear e1 e2 ap sm ft
        generalize F_Ledgerreadings = fr at *
        generalize ldF ((st.length : Int) - 1) fl = lf0 at *
        generalize (st.length : Int) - 1 = nw at *
        simp [a0, lkr, rd]
      have t2 : (sIf (tmOr (tmNot (mTru (mIsi "list" (mVar 7)))) (mB (mBin (sameL (own1 1 F_Reading__eq__) false) (mVar 7) (mFn 2 F__law_there (aCons (mVar 1) (aCons (mVar 5) aNil)))))) (sRet (mCst (.bl false))) sNil) [some (.ref 0), some (.ref 4), some (.int fl), some (.ref 5), some (.int ((st.length : Int) - 1)), some (.int (k : Nat)), some (.bl true), some (.ref h.length)] h1 = .nx [some (.ref 0), some (.ref 4), some (.int fl), some (.ref 5), some (.int ((st.length : Int) - 1)), some (.int (k : Nat)), some (.bl true), some (.ref h.length)] h1 := by
        clear e1 e2 ap t1
        generalize sameL (own1 1 F_Reading__eq__) false = SL at *
        generalize F__law_there = flt at *
        generalize stD (Sof st k) = w at *
        generalize (st.length : Int) - 1 = nw at *
        simp [isL, ft, sm, -mIsi]
      have t3 : (sExp (mBm tyL lAppend (mVar 7) (aCons (mTup (aCons (mCst (.int 0)) (aCons (mCst .non) aNil))) aNil))) [some (.ref 0), some (.ref 4), some (.int fl), some (.ref 5), some (.int ((st.length : Int) - 1)), some (.int (k : Nat)), some (.bl true), some (.ref h.length)] h1 = .nx [some (.ref 0), some (.ref 4), some (.int fl), some (.ref 5), some (.int ((st.length : Int) - 1)), some (.int (k : Nat)), some (.bl true), some (.ref h.length)] h2 := by
        clear e1 e2 t1 t2 sm ft
        generalize (st.length : Int) - 1 = nw at *
        simp [ty, ap, -tyL]
      have c : (sIf (mTru (mVar 6)) (sSeq (sAsg (mMeth 14 1 "readings" F_Ledgerreadings (mVar 0) (aCons (mVar 5) aNil)) (gNm 7)) (sSeq (sIf (tmOr (tmNot (mTru (mIsi "list" (mVar 7)))) (mB (mBin (sameL (own1 1 F_Reading__eq__) false) (mVar 7) (mFn 2 F__law_there (aCons (mVar 1) (aCons (mVar 5) aNil)))))) (sRet (mCst (.bl false))) sNil) (sExp (mBm tyL lAppend (mVar 7) (aCons (mTup (aCons (mCst (.int 0)) (aCons (mCst .non) aNil))) aNil))))) sNil) [some (.ref 0), some (.ref 4), some (.int fl), some (.ref 5), some (.int ((st.length : Int) - 1)), some (.int (k : Nat)), some (.bl true), z7] h =
          (sSeq (sAsg (mMeth 14 1 "readings" F_Ledgerreadings (mVar 0) (aCons (mVar 5) aNil)) (gNm 7)) (sSeq (sIf (tmOr (tmNot (mTru (mIsi "list" (mVar 7)))) (mB (mBin (sameL (own1 1 F_Reading__eq__) false) (mVar 7) (mFn 2 F__law_there (aCons (mVar 1) (aCons (mVar 5) aNil)))))) (sRet (mCst (.bl false))) sNil) (sExp (mBm tyL lAppend (mVar 7) (aCons (mTup (aCons (mCst (.int 0)) (aCons (mCst .non) aNil))) aNil))))) [some (.ref 0), some (.ref 4), some (.int fl), some (.ref 5), some (.int ((st.length : Int) - 1)), some (.int (k : Nat)), some (.bl true), z7] h := rfl
      rw [c, seq_nx t1, seq_nx t2, t3]
    · have okl : okRf (.lst ((Sof st k).map enD ++ [.tup [.int 0, .non]])) = true := by
        show rlt.rlts 0 _ = true
        let f : Option Ent → D := fun x => match x with | some p => enD p | none => .tup [.int 0, .non]
        have e : ((Sof st k).map some ++ [none]).map f = (Sof st k).map enD ++ [.tup [.int 0, .non]] := by
          rw [List.map_append, List.map_map]
          rfl
        rw [← e]
        exact rlts_map (fun x => by cases x; exact clean_tup (by simp [clean_int, clean_non]); exact clean_en _) _
      rw [e2]
      exact ⟨L.app okl, w.o, by rw [gA (by omega)]; exact w.s4, by rw [gA (by omega)]; exact w.s5, w.ne, w.sb, w.z1, w.z2, w.z3, w.z4, w.z5⟩
theorem F_right {h : HP} {st : List (List Ent)} {fl : Int} {ps : List Int} {vs : List Ve} {B : Nat} (w : LW h st fl ps vs B) (hB : B ≤ 1000) : F__law_right [.ref 0, .ref 4, .int fl, .ref 5] h = .ok (.bl true) h := by
  obtain ⟨_, h', e, ⟨y6, y7, rfl⟩, ⟨t, et⟩, w'⟩ := for_rng (asg := gNm 5) (body := B__law_right_1) (n := st.length + 1)
    (fun k env h2 => (∃ z6 z7, env = [some (.ref 0), some (.ref 4), some (.int fl), some (.ref 5), some (.int ((st.length : Int) - 1)), (if k = 0 then none else some (.int ((k - 1 : Nat) : Int))), z6, z7]) ∧ (∃ t, h2 = h ++ t) ∧ LW h2 st fl ps vs B)
    (fun k env h2 hk hI => by
      obtain ⟨⟨z6, z7, rfl⟩, ⟨t, rfl⟩, w2⟩ := hI
      obtain ⟨y6, y7, h3, e3, w3, t3, e4⟩ := right_turn w2 hB k hk z6 z7
      exact ⟨[some (.ref 0), some (.ref 4), some (.int fl), some (.ref 5), some (.int ((st.length : Int) - 1)), some (.int (k : Nat)), z6, z7], by simp, _, h3, .inl e3, ⟨y6, y7, by simp⟩, ⟨t ++ t3, by rw [e4, List.append_assoc]⟩, w3⟩)
    (env := [some (.ref 0), some (.ref 4), some (.int fl), some (.ref 5), some (.int ((st.length : Int) - 1)), none, none, none]) (h := h) ⟨⟨none, none, rfl⟩, ⟨[], by simp⟩, w⟩
  have L := w.L
  have a0 := L.a0
  have pi := pins_h L (by have := w.z2; omega)
  have lkp := lk_pins ((st.length : Int) - 1) fl
  have q1 := f1_ ((st.length : Int) - 1) fl
  have q2 := f2_ ((st.length : Int) - 1) fl
  have np := ne_pins w.s5
  have s4 := w.s4
  have rg : Rg ((st.length : Int) - 1 + 2) := by
    have := w.z1
    have : ((st.length : Int) - 1 + 2) = ((st.length + 1 : Nat) : Int) := by push_cast; omega
    rw [this]
    exact rg_nat (by omega)
  have e2 : ((st.length : Int) - 1 + 2).toNat = st.length + 1 := by omega
  have ll : (st.map stD).length = st.length := by simp
  have pe : ∀ x, pure_ h (.bl true) (h ++ x) = .ok (.bl true) h := fun x => pure_cleanJ h x (clean_bl true)
  have st8 : startE 8 [.ref 0, .ref 4, .int fl, .ref 5] = [some (.ref 0), some (.ref 4), some (.int fl), some (.ref 5), none, none, none, none] := rfl
  unfold F__law_right fnP
  rw [st8]
  rw [seq_nx (e' := [some (.ref 0), some (.ref 4), some (.int fl), some (.ref 5), some (.int ((st.length : Int) - 1)), none, none, none]) (h' := h) (by
    clear e np pi
    generalize st.map stD = us at *
    simp [s4, ll])]
  rw [seq_nx (e' := [some (.ref 0), some (.ref 4), some (.int fl), some (.ref 5), some (.int ((st.length : Int) - 1)), none, none, none]) (h' := h) (by
    clear e
    generalize F_Ledgerpins = fp at *
    generalize ldF ((st.length : Int) - 1) fl = lf0 at *
    generalize (st.length : Int) - 1 = nw at *
    generalize ps.map D.int = us at *
    have nn : ∀ i : Int, fNe (.int i) (.int i) h = .ok (.bl false) h := fun i => by simp [sh_int, eqvI]
    simp [a0, q1, q2, lkp, pi, np, nn, -fNe])]
  rw [et] at e
  generalize (if st.length + 1 = 0 then none else some (D.int ((st.length + 1 - 1 : Nat) : Int))) = z5 at e
  generalize hB1 : B__law_right_1 = B1 at *
  generalize hN : (st.length : Int) - 1 = nw at *
  simp [rg, e2, e, pe]
end Pg
namespace Pg
open PySem PySem.Spec PyProof.Rows L2 Ev Lib LibT LibV LibW LibX EvS Led
theorem Sof_old {st : List (List Ent)} (ne : 1 ≤ st.length) {x : List Ent} {m : Int} (h : m ≤ (st.length : Int) - 1) : Sof (st ++ [x]) m = Sof st m := by
  unfold Sof
  have hk : m.toNat < st.length := by omega
  rw [List.getD_eq_getElem?_getD, List.getD_eq_getElem?_getD, List.getElem?_append_left hk]
theorem Sof_new {st : List (List Ent)} {x : List Ent} {m : Int} (h : m = (st.length : Int)) : Sof (st ++ [x]) m = x := by
  unfold Sof
  have hk : m.toNat = st.length := by omega
  rw [hk]
  simp
theorem LW.next {h h' : HP} {st : List (List Ent)} {fl : Int} {ps : List Int} {vs vs' : List Ve} {B : Nat} {x : List Ent} (w : LW h st fl ps vs B) (L : LH h' ((st.length : Int) - 1 + 1) fl ps vs' x) (o : LOk ((st.length : Int) - 1 + 1) fl ps vs' (Sof (st ++ [x])))
    (s4 : h'[4]? = some (.lst ((st ++ [x]).map stD))) (s5 : h'[5]? = some (.lst (ps.map D.int))) (xb : ∀ p ∈ x, p.1 ≤ (st.length : Int)) (lv : vs'.length ≤ B + 1) (lw : ∀ e ∈ vs', e.2.2.length ≤ B + 1) (lx : x.length ≤ B + 1) : LW h' (st ++ [x]) fl ps vs' (B + 1) := by
  have el : ((st ++ [x]).length : Int) - 1 = (st.length : Int) - 1 + 1 := by rw [List.length_append]; simp only [List.length_cons, List.length_nil]; push_cast; omega
  have ex : Sof (st ++ [x]) ((st.length : Int) - 1 + 1) = x := Sof_new (by omega)
  refine ⟨by rw [el, ex]; exact L, by rw [el]; exact o, s4, s5, by simp, fun s hs p hp => ?_, by simp; exact w.z1, by have := w.z2; omega, lv, lw, fun s hs => ?_⟩
  · rw [el]
    rcases List.mem_append.mp hs with q | q
    · have := w.sb s q p hp; omega
    · simp only [List.mem_cons, List.not_mem_nil, or_false] at q
      subst q
      have := xb p hp
      omega
  · rcases List.mem_append.mp hs with q | q
    · have := w.z5 s q; omega
    · simp only [List.mem_cons, List.not_mem_nil, or_false] at q
      subst q
      exact lx
theorem LW.up {h : HP} {st : List (List Ent)} {fl : Int} {ps : List Int} {vs : List Ve} {B : Nat} (w : LW h st fl ps vs B) : LW h st fl ps vs (B + 1) :=
  ⟨w.L, w.o, w.s4, w.s5, w.ne, w.sb, by have := w.z1; omega, by have := w.z2; omega, by have := w.z3; omega, fun e he => by have := w.z4 e he; omega, fun s hs => by have := w.z5 s hs; omega⟩
theorem okst (st : List (List Ent)) : okRf (.lst (st.map stD)) = true := by
  show rlt.rlts 0 _ = true
  exact rlts_map clean_st st
theorem app4 {h : HP} {st : List (List Ent)} (s4 : h[4]? = some (.lst (st.map stD))) (l : st.length ≤ 1000) (x : List Ent) : appL 4 (stD x) h = .ok () (h.set 4 (.lst ((st ++ [x]).map stD))) := by
  unfold appL
  rw [s4]
  simp only
  rw [if_pos (by rw [List.length_map, sizeLine_eq]; omega), List.map_append]
  rfl
theorem put_w {h : HP} {st : List (List Ent)} {fl : Int} {ps : List Int} {vs : List Ve} {B : Nat} (w : LW h st fl ps vs B) (hB : B ≤ 500) (r : Int) :
    ∃ h' vs', F_Ledgerput [.ref 0, vD r] (h.set 4 (.lst ((st ++ [Sof st ((st.length : Int) - 1) ++ [((st.length : Int), r)]]).map stD))) = .ok (.int (st.length : Int)) h' ∧ LW h' (st ++ [Sof st ((st.length : Int) - 1) ++ [((st.length : Int), r)]]) fl ps vs' (B + 1) := by
  have l := w.L.l
  have ne := w.ne
  have thm := Sof_mem (st := st) (m := (st.length : Int) - 1) (by omega) (by omega)
  have L1 := w.L.set (j := 4) (.inl rfl) (okst (st ++ [Sof st ((st.length : Int) - 1) ++ [((st.length : Int), r)]]))
  obtain ⟨h', e, L2, k4, k5⟩ := put_h L1 (fun e he => (w.o.kb e he).2) (fun p hp => w.sb _ thm p hp) (by have := w.z3; omega) (by have := w.z5 _ thm; omega) r
  have en : (st.length : Int) - 1 + 1 = (st.length : Int) := by omega
  have ox := put_ok w.o (h.set 4 (.lst ((st ++ [Sof st ((st.length : Int) - 1) ++ [((st.length : Int), r)]]).map stD))).length r (S' := Sof (st ++ [Sof st ((st.length : Int) - 1) ++ [((st.length : Int), r)]])) (fun m hm => Sof_old ne hm) (by rw [Sof_new en, en])
  rw [en] at e
  have e3 : (((st.length : Int) - 1 + 1, r) : Ent) = ((st.length : Int), r) := by rw [en]
  refine ⟨h', _, e, w.next (x := Sof st ((st.length : Int) - 1) ++ [((st.length : Int), r)]) (by have z := L2; rw [e3] at z; exact z) ox (by rw [k4]; exact gE (by omega)) (by rw [k5, gS (by omega)]; exact w.s5) (fun p hp => ?_) (by simp; exact w.z3) (fun e he => ?_) (by simp; exact w.z5 _ thm)⟩
  · rcases List.mem_append.mp hp with q | q
    · have := w.sb _ thm p q; omega
    · simp only [List.mem_cons, List.not_mem_nil, or_false] at q
      subst q
      simp
  · rcases List.mem_append.mp he with q | q
    · have := w.z4 e q; omega
    · simp only [List.mem_cons, List.not_mem_nil, or_false] at q
      subst q
      simp
theorem chg_len {vs : List Ve} {n : Int} {V : List Vr} {B : Nat} (h : ∀ e ∈ vs, e.2.2.length ≤ B) (hV : V.length ≤ B) : ∀ e ∈ chg vs n V, e.2.2.length ≤ B := fun e he => by
  obtain ⟨y, hy, rfl⟩ := List.mem_map.mp he
  split
  · exact hV
  · exact h y hy
def cor (th : List Ent) (n r' : Int) : List Ent := th.map fun p => if p.1 = n then (n, r') else p
def wit (th : List Ent) (n : Int) : List Ent := th.filter fun p => decide (p.1 ≠ n)
theorem correct_w {h : HP} {st : List (List Ent)} {fl : Int} {ps : List Int} {vs : List Ve} {B : Nat} (w : LW h st fl ps vs B) (hB : B ≤ 500) {n : Int} (hn : n ∈ (Sof st ((st.length : Int) - 1)).map (·.1)) (r : Int) :
    ∃ h' vs', F_Ledgercorrect [.ref 0, .int n, vD r] h = .ok (.int (st.length : Int)) h' ∧ h'[4]? = some (.lst (st.map stD)) ∧ LW (h'.set 4 (.lst ((st ++ [cor (Sof st ((st.length : Int) - 1)) n r]).map stD))) (st ++ [cor (Sof st ((st.length : Int) - 1)) n r]) fl ps vs' (B + 1) := by
  have ne := w.ne
  have thm := Sof_mem (st := st) (m := (st.length : Int) - 1) (by omega) (by omega)
  obtain ⟨i, V0, b, r0, he, hb, hl⟩ := there w.o hn
  have lV := w.z4 _ he
  simp at lV
  obtain ⟨h', e, L2, k4, k5⟩ := correct_h w.L w.o.k hn he (by omega) (by have := w.z5 _ thm; omega) r
  have en : (st.length : Int) - 1 + 1 = (st.length : Int) := by omega
  rw [en] at e
  have fm : cor (Sof st ((st.length : Int) - 1)) n r = (Sof st ((st.length : Int) - 1)).filterMap fun p => if p.1 = n then some (n, r) else some p := by
    unfold cor
    rw [← List.filterMap_eq_map]
    refine fmc fun p _ => ?_
    simp only [Function.comp]
    split <;> rfl
  have ox := correct_ok (S' := Sof (st ++ [cor (Sof st ((st.length : Int) - 1)) n r])) w.o he hl r (fun m hm => Sof_old ne hm) (by rw [Sof_new en, fm])
  have l2 := L2.l
  refine ⟨h', _, e, by rw [k4]; exact w.s4, w.next (L2.set (.inl rfl) (okst _)) ox (gE (by omega)) (by rw [gS (by omega), k5]; exact w.s5) (fun p hp => ?_) (by unfold chg; rw [List.length_map]; have := w.z3; omega) (chg_len (fun e he => by have := w.z4 e he; omega) (by simp [endV]; omega)) (by unfold cor; rw [List.length_map]; have := w.z5 _ thm; omega)⟩
  obtain ⟨q, hq, rfl⟩ := List.mem_map.mp hp
  have := w.sb _ thm q hq
  split
  · rename_i z; simp only; omega
  · omega
theorem withdraw_w {h : HP} {st : List (List Ent)} {fl : Int} {ps : List Int} {vs : List Ve} {B : Nat} (w : LW h st fl ps vs B) (hB : B ≤ 500) {n : Int} (hn : n ∈ (Sof st ((st.length : Int) - 1)).map (·.1)) :
    ∃ h' vs', F_Ledgerwithdraw [.ref 0, .int n] h = .ok (.int (st.length : Int)) h' ∧ h'[4]? = some (.lst (st.map stD)) ∧ LW (h'.set 4 (.lst ((st ++ [wit (Sof st ((st.length : Int) - 1)) n]).map stD))) (st ++ [wit (Sof st ((st.length : Int) - 1)) n]) fl ps vs' (B + 1) := by
  have ne := w.ne
  have thm := Sof_mem (st := st) (m := (st.length : Int) - 1) (by omega) (by omega)
  obtain ⟨i, V0, b, r0, he, hb, hl⟩ := there w.o hn
  have lV := w.z4 _ he
  simp at lV
  obtain ⟨h', e, L2, k4, k5⟩ := withdraw_h w.L w.o.k hn he
  have en : (st.length : Int) - 1 + 1 = (st.length : Int) := by omega
  rw [en] at e
  have fm : wit (Sof st ((st.length : Int) - 1)) n = (Sof st ((st.length : Int) - 1)).filterMap fun p => if p.1 = n then none else some p := by
    unfold wit
    rw [← List.filterMap_eq_filter]
    refine fmc fun p _ => ?_
    unfold Option.guard
    by_cases z : p.1 = n <;> simp [z]
  have ox := withdraw_ok (S' := Sof (st ++ [wit (Sof st ((st.length : Int) - 1)) n])) w.o he hl (fun m hm => Sof_old ne hm) (by rw [Sof_new en, fm])
  have l2 := L2.l
  refine ⟨h', _, e, by rw [k4]; exact w.s4, w.next (L2.set (.inl rfl) (okst _)) ox (gE (by omega)) (by rw [gS (by omega), k5]; exact w.s5) (fun p hp => ?_) (by unfold chg; rw [List.length_map]; have := w.z3; omega) (chg_len (fun e he => by have := w.z4 e he; omega) (by simp [endV]; omega)) (by unfold wit; have := w.z5 _ thm; have := List.length_filter_le (fun p : Ent => decide (p.1 ≠ n)) (Sof st ((st.length : Int) - 1)); omega)⟩
  have := w.sb _ thm p (List.mem_filter.mp hp).1
  omega
theorem turn_of {h : HP} {st : List (List Ent)} {fl : Int} {ps : List Int} {vs : List Ve} {B : Nat} (w : LW h st fl ps vs B) (hB : B ≤ 500) (row : Int) :
    ∃ h' st' vs', F__law_turn_of [.ref 0, .ref 4, .int row] h = .ok (.bl true) h' ∧ LW h' st' fl ps vs' (B + 1) := by
  have ne := w.ne
  have thm := Sof_mem (st := st) (m := (st.length : Int) - 1) (by omega) (by omega)
  have lth := w.z5 _ thm
  have s4 := w.s4
  have at1 := at_S (st := st) (m := (st.length : Int) - 1) (by omega) (by omega)
  obtain ⟨th, eth⟩ : ∃ th, th = Sof st ((st.length : Int) - 1) := ⟨_, rfl⟩
  have pw := put_w w hB (row / 77)
  have cw := fun {n} hn => correct_w w hB (n := n) hn (row / 77)
  have ww := fun {n} hn => withdraw_w w hB (n := n) hn
  have cn := fun {n} hn => correct_no (n := n) w.L.a0 w.L.a3 hn (vD (row / 77))
  have wn := fun {n} hn => withdraw_no (n := n) w.L.a0 w.L.a3 hn
  rw [← eth] at at1 pw lth
  simp only [← eth] at cw ww cn wn
  have ap := fun x => app4 s4 (by have := w.z1; omega) x
  obtain ⟨ns, ens⟩ : ∃ ns, ns = th.map (·.1) ++ [0, (st.length : Int), 1] := ⟨_, rfl⟩
  have lns : ns.length = th.length + 3 := by rw [ens]; simp
  obtain ⟨n, en⟩ : ∃ n, n = gt ns (row / 5 % (ns.length : Int)) := ⟨_, rfl⟩
  have ag := at_gt (xs := ns) (i := row / 5 % (ns.length : Int)) (Int.emod_nonneg _ (by omega)) (Int.emod_lt_of_pos _ (by omega))
  rw [← en] at ag
  have ll : (st.map stD).length = st.length := by simp
  have st12 : startE 12 [.ref 0, .ref 4, .int row] = [some (.ref 0), some (.ref 4), some (.int row), none, none, none, none, none, none, none, none, none] := rfl
  have lc1 : C__law_turn_of_1 false [some (.ref 0), some (.ref 4), some (.int row), some (stD th), none, none, none, none, none, none, none, none] h = .ok (.lst (th.map fun p => .int p.1)) h :=
    mLc_ty (h1 := h) th enD (fun p => .int p.1) (by
      unfold stD
      generalize th.map enD = us at *
      simp) (by omega) (fun p _ h' => ⟨[some (.ref 0), some (.ref 4), some (.int row), some (stD th), none, none, none, none, none, none, none, some (enD p)], by simp, by
        unfold enD
        generalize vD p.2 = v at *
        have ai : atI [D.int p.1, v] 0 = some (.int p.1) := rfl
        simp [ai]⟩) fun p _ => clean_int _
  have e2 : (th.map fun p => D.int p.1) ++ [.int 0, .int (st.length : Int), .int 1] = ns.map D.int := by rw [ens]; simp
  have k1 : (th.map fun p => D.int p.1).length + 3 ≤ sizeLine := by rw [List.length_map, sizeLine_eq]; omega
  have fv := fun h => F_value (row / 77) h
  have lnD : (ns.map D.int).length = ns.length := by simp
  have lp : 0 < (ns.length : Int) := by omega
  have lp2 : 0 < ns.length := by omega
  have ll2 : Nat.log2 (ns.length) < 9000 := lg (by omega)
  unfold F__law_turn_of fnR
  rw [st12]
  rw [seq_nx (e' := [some (.ref 0), some (.ref 4), some (.int row), some (stD th), none, none, none, none, none, none, none, none]) (h' := h) (by
    clear lc1
    generalize st.map stD = us at *
    generalize stD th = t at *
    simp [s4, ll, at1])]
  rw [seq_nx (e' := [some (.ref 0), some (.ref 4), some (.int row), some (stD th), some (.lst (ns.map D.int)), none, none, none, none, none, none, none]) (h' := h) (by
    rw [← e2]
    clear ag ap
    generalize (th.map fun p => D.int p.1) = xs at *
    generalize st.map stD = us at *
    generalize stD th = t at *
    simp [lc1, s4, ll, k1])]
  clear lc1 e2 k1
  rw [seq_nx (e' := [some (.ref 0), some (.ref 4), some (.int row), some (stD th), some (.lst (ns.map D.int)), some (.int n), none, none, none, none, none, none]) (h' := h) (by
    generalize ns.map D.int = xs at *
    generalize stD th = t at *
    simp [lg, lnD, lp, lp2, ll2, ag])]
  rw [seq_nx (e' := [some (.ref 0), some (.ref 4), some (.int row), some (stD th), some (.lst (ns.map D.int)), some (.int n), some (vD (row / 77)), none, none, none, none, none]) (h' := h) (by
    generalize vD (row / 77) = v at *
    generalize ns.map D.int = xs at *
    generalize stD th = t at *
    simp [lg, fv])]
  rw [seq_nx (e' := [some (.ref 0), some (.ref 4), some (.int row), some (stD th), some (.lst (ns.map D.int)), some (.int n), some (vD (row / 77)), some (.int (row % 5)), none, none, none, none]) (h' := h) (by
    generalize vD (row / 77) = v at *
    generalize ns.map D.int = xs at *
    generalize stD th = t at *
    simp [lg])]
  clear fv ag
  by_cases c2 : row % 5 < 2
  · -- put
    obtain ⟨h', vs', e, w'⟩ := pw
    refine ⟨h', _, vs', ?_, w'⟩
    have ap := ap (th ++ [((st.length : Int), row / 77)])
    have a0 := w.L.a0
    have lkp := lk_put ((st.length : Int) - 1) fl
    obtain ⟨h1, eh1⟩ : ∃ h1, h1 = h.set 4 (.lst ((st ++ [th ++ [((st.length : Int), row / 77)]]).map stD)) := ⟨_, rfl⟩
    rw [← eh1] at ap e
    have b0 : h1[0]? = some (.ins 14 (ldF ((st.length : Int) - 1) fl)) := by rw [eh1, gS (by omega)]; exact a0
    have b4 : h'[4]? = some (.lst ((st ++ [th ++ [((st.length : Int), row / 77)]]).map stD)) := w'.s4
    have l1 : ((st ++ [th ++ [((st.length : Int), row / 77)]]).map stD).length = st.length + 1 := by simp
    have es : stD (th ++ [((st.length : Int), row / 77)]) = .lst (th.map enD ++ [.tup [.int (st.length : Int), vD (row / 77)]]) := by unfold stD; rw [List.map_append]; rfl
    rw [es] at ap
    have k1 : (th.map enD).length + 1 ≤ sizeLine := by rw [List.length_map, sizeLine_eq]; omega
    have ty : tyL h (.ref 4) = true := by
      generalize st.map stD = us at *
      simp [s4]
    have et : stD th = .lst (th.map enD) := rfl
    rw [et]
    clear eh1 es et lnD
    generalize F_Ledgerput = fp at *
    generalize ldF ((st.length : Int) - 1) fl = lf0 at *
    generalize (st ++ [th ++ [((st.length : Int), row / 77)]]).map stD = us2 at *
    generalize st.map stD = us at *
    generalize th.map enD = es at *
    generalize ns.map D.int = xs at *
    generalize vD (row / 77) = v at *
    simp [c2, s4, ll, k1, ty, ap, b0, lkp, e, b4, l1, sh_int, eqvI, -tyL]
  · -- correct, withdraw
    rw [seq_nx (e' := [some (.ref 0), some (.ref 4), some (.int row), some (stD th), some (.lst (ns.map D.int)), some (.int n), some (vD (row / 77)), some (.int (row % 5)), none, none, none, none]) (h' := h) (by
      generalize vD (row / 77) = v at *
      generalize ns.map D.int = xs at *
      generalize stD th = t at *
      simp [c2])]
    have lc2 : C__law_turn_of_2 false [some (.ref 0), some (.ref 4), some (.int row), some (stD th), some (.lst (ns.map D.int)), some (.int n), some (vD (row / 77)), some (.int (row % 5)), none, none, none, none] h = .ok (.lst ((th.filter fun p => decide (p.1 = n)).map enD)) h :=
      mLc_tyF (h1 := h) th enD enD (fun p => decide (p.1 = n)) (by
        unfold stD
        generalize th.map enD = us at *
        generalize ns.map D.int = xs at *
        generalize vD (row / 77) = v at *
        simp) (by omega) (fun p _ h' => ⟨[some (.ref 0), some (.ref 4), some (.int row), some (stD th), some (.lst (ns.map D.int)), some (.int n), some (vD (row / 77)), some (.int (row % 5)), none, none, none, some (enD p)], by
          generalize ns.map D.int = xs at *
          simp, by
          unfold enD
          generalize ns.map D.int = xs at *
          generalize vD (row / 77) = v0 at *
          generalize vD p.2 = v at *
          generalize stD th = t at *
          have ai : atI [D.int p.1, v] 0 = some (.int p.1) := rfl
          by_cases z : p.1 = n <;> simp [ai, sh_int, eqvI, z], fun _ => by
          generalize enD p = ep at *
          generalize ns.map D.int = xs at *
          simp⟩) fun p _ _ => clean_en p
    rw [seq_nx (e' := [some (.ref 0), some (.ref 4), some (.int row), some (stD th), some (.lst (ns.map D.int)), some (.int n), some (vD (row / 77)), some (.int (row % 5)), some (.lst ((th.filter fun p => decide (p.1 = n)).map enD)), none, none, none]) (h' := h) (by
      generalize (th.filter fun p => decide (p.1 = n)).map enD = ks at *
      generalize vD (row / 77) = v at *
      generalize ns.map D.int = xs at *
      generalize stD th = t at *
      simp [lc2])]
    clear lc2
    have lc3 : ∀ (z9 : D) (h : HP), C__law_turn_of_3 false [some (.ref 0), some (.ref 4), some (.int row), some (stD th), some (.lst (ns.map D.int)), some (.int n), some (vD (row / 77)), some (.int (row % 5)), some (.lst ((th.filter fun p => decide (p.1 = n)).map enD)), some (z9), none, none] h = .ok (stD (cor th n (row / 77))) h := fun z9 h => by
      have : C__law_turn_of_3 false [some (.ref 0), some (.ref 4), some (.int row), some (stD th), some (.lst (ns.map D.int)), some (.int n), some (vD (row / 77)), some (.int (row % 5)), some (.lst ((th.filter fun p => decide (p.1 = n)).map enD)), some (z9), none, none] h = .ok (.lst (th.map fun p => enD (if p.1 = n then (n, row / 77) else p))) h :=
        mLc_ty (h1 := h) th enD _ (by
          unfold stD
          generalize (th.filter fun p => decide (p.1 = n)).map enD = ks at *
          generalize th.map enD = us at *
          generalize ns.map D.int = xs at *
          generalize vD (row / 77) = v at *
          simp) (by omega) (fun p _ h' => ⟨[some (.ref 0), some (.ref 4), some (.int row), some (stD th), some (.lst (ns.map D.int)), some (.int n), some (vD (row / 77)), some (.int (row % 5)), some (.lst ((th.filter fun p => decide (p.1 = n)).map enD)), some (z9), none, some (enD p)], by
            generalize (th.filter fun p => decide (p.1 = n)).map enD = ks at *
            generalize ns.map D.int = xs at *
            simp, by
            generalize (th.filter fun p => decide (p.1 = n)).map enD = ks at *
            generalize ns.map D.int = xs at *
            generalize stD th = t at *
            by_cases z : p.1 = n
            · rw [if_pos z]
              unfold enD
              dsimp only
              generalize vD (row / 77) = v0 at *
              generalize vD p.2 = v at *
              have ai : atI [D.int p.1, v] 0 = some (.int p.1) := rfl
              simp [ai, sh_int, eqvI, z]
            · rw [if_neg z]
              unfold enD
              generalize vD (row / 77) = v0 at *
              generalize vD p.2 = v at *
              have ai : atI [D.int p.1, v] 0 = some (.int p.1) := rfl
              simp [ai, sh_int, eqvI, z]⟩) fun p _ => clean_en _
      rw [this]
      unfold stD cor
      rw [List.map_map]
      rfl
    have lc4 : ∀ (z9 : D) (h : HP), C__law_turn_of_4 false [some (.ref 0), some (.ref 4), some (.int row), some (stD th), some (.lst (ns.map D.int)), some (.int n), some (vD (row / 77)), some (.int (row % 5)), some (.lst ((th.filter fun p => decide (p.1 = n)).map enD)), some (z9), none, none] h = .ok (stD (wit th n)) h := fun z9 h =>
      mLc_tyF (h1 := h) th enD enD (fun p => decide (p.1 ≠ n)) (by
        unfold stD
        generalize (th.filter fun p => decide (p.1 = n)).map enD = ks at *
        generalize th.map enD = us at *
        generalize ns.map D.int = xs at *
        generalize vD (row / 77) = v at *
        simp) (by omega) (fun p _ h' => ⟨[some (.ref 0), some (.ref 4), some (.int row), some (stD th), some (.lst (ns.map D.int)), some (.int n), some (vD (row / 77)), some (.int (row % 5)), some (.lst ((th.filter fun p => decide (p.1 = n)).map enD)), some (z9), none, some (enD p)], by
          generalize (th.filter fun p => decide (p.1 = n)).map enD = ks at *
          generalize ns.map D.int = xs at *
          simp, by
          unfold enD
          generalize (th.filter fun p => decide (p.1 = n)).map (fun p => D.tup [.int p.1, vD p.2]) = ks at *
          generalize ns.map D.int = xs at *
          generalize vD (row / 77) = v0 at *
          generalize vD p.2 = v at *
          generalize stD th = t at *
          have ai : atI [D.int p.1, v] 0 = some (.int p.1) := rfl
          by_cases z : p.1 = n <;> simp [ai, sh_int, eqvI, z], fun _ => by
          generalize enD p = ep at *
          generalize ns.map D.int = xs at *
          simp⟩) fun p _ _ => clean_en p
    by_cases c4 : row % 5 < 4
    ·
      have lkm := lk_correct ((st.length : Int) - 1) fl
      have a0 := w.L.a0
      by_cases hn : n ∈ th.map (·.1)
      · obtain ⟨h', vs', e, b4, w'⟩ := cw hn
        refine ⟨_, _, vs', ?_, w'⟩
        have ap := app4 b4 (by have := w.z1; omega) (cor th n (row / 77))
        have g4 : (h'.set 4 (.lst ((st ++ [cor th n (row / 77)]).map stD)))[4]? = some (.lst ((st ++ [cor th n (row / 77)]).map stD)) := w'.s4
        have l1 : ((st ++ [cor th n (row / 77)]).map stD).length = st.length + 1 := by simp
        have kn : (th.filter fun p => decide (p.1 = n)).map enD ≠ [] := by
          obtain ⟨p, hp, z⟩ := List.mem_map.mp hn
          intro q
          rw [List.map_eq_nil_iff, List.filter_eq_nil_iff] at q
          exact q p hp (by simpa using z)
        have kl : ¬ ((th.filter fun p => decide (p.1 = n)).map enD).length = 0 := fun z => kn (List.length_eq_zero_iff.mp z)
        have ty : tyL h' (.ref 4) = true := by
          generalize st.map stD = us at *
          simp [b4]
        have lc := lc3 (.int (st.length : Int)) h'
        rw [seq_nx (e' := [some (.ref 0), some (.ref 4), some (.int row), some (stD th), some (.lst (ns.map D.int)), some (.int n), some (vD (row / 77)), some (.int (row % 5)), some (.lst ((th.filter fun p => decide (p.1 = n)).map enD)), some (.int (st.length : Int)), some (stD (cor th n (row / 77))), none]) (h' := h') (by
          clear ap g4 l1 b4 ty
          generalize C__law_turn_of_3 = CC at *
          generalize F_Ledgercorrect = FF at *
          generalize ldF ((st.length : Int) - 1) fl = lf0 at *
          generalize (th.filter fun p => decide (p.1 = n)).map enD = ks at *
          generalize stD (cor th n (row / 77)) = fr at *
          generalize vD (row / 77) = v at *
          generalize ns.map D.int = xs at *
          generalize stD th = t at *
          simp [c4, a0, lkm, e, lc])]
        clear lc e
        rw [seq_nx (e' := [some (.ref 0), some (.ref 4), some (.int row), some (stD th), some (.lst (ns.map D.int)), some (.int n), some (vD (row / 77)), some (.int (row % 5)), some (.lst ((th.filter fun p => decide (p.1 = n)).map enD)), some (.int (st.length : Int)), some (stD (cor th n (row / 77))), none]) (h' := h') (by
          clear ap g4 l1 b4 ty
          generalize (th.filter fun p => decide (p.1 = n)).map enD = ks at *
          generalize stD (cor th n (row / 77)) = fr at *
          generalize vD (row / 77) = v at *
          generalize ns.map D.int = xs at *
          generalize stD th = t at *
          have kl2 : ¬ ((ks.length : Int) = 0) := by omega
          simp [kn, kl, kl2, sh_int, eqvI])]
        generalize h'.set 4 (.lst ((st ++ [cor th n (row / 77)]).map stD)) = h2 at *
        generalize (st ++ [cor th n (row / 77)]).map stD = us2 at *
        generalize (th.filter fun p => decide (p.1 = n)).map enD = ks at *
        generalize stD (cor th n (row / 77)) = fr at *
        generalize vD (row / 77) = v at *
        generalize ns.map D.int = xs at *
        generalize stD th = t at *
        simp [ty, ap, g4, l1, sh_int, eqvI, -tyL]
      · have e := cn hn
        refine ⟨h, st, vs, ?_, w.up⟩
        have kn : (th.filter fun p => decide (p.1 = n)).map enD = [] := by
          rw [List.map_eq_nil_iff, List.filter_eq_nil_iff]
          intro p hp z
          exact hn (List.mem_map.mpr ⟨p, hp, by simpa using z⟩)
        have lc := lc3 .non h
        rw [kn] at lc ⊢
        rw [seq_nx (e' := [some (.ref 0), some (.ref 4), some (.int row), some (stD th), some (.lst (ns.map D.int)), some (.int n), some (vD (row / 77)), some (.int (row % 5)), some (.lst []), some (.non), some (stD (cor th n (row / 77))), none]) (h' := h) (by
          generalize C__law_turn_of_3 = CC at *
          generalize F_Ledgercorrect = FF at *
          generalize ldF ((st.length : Int) - 1) fl = lf0 at *
          generalize stD (cor th n (row / 77)) = fr at *
          generalize vD (row / 77) = v at *
          generalize ns.map D.int = xs at *
          generalize stD th = t at *
          simp [c4, a0, lkm, e, lc])]
        generalize stD (cor th n (row / 77)) = fr at *
        generalize vD (row / 77) = v at *
        generalize ns.map D.int = xs at *
        generalize stD th = t at *
        simp [sh_int, eqvI]
    ·
      have lkm := lk_withdraw ((st.length : Int) - 1) fl
      have a0 := w.L.a0
      by_cases hn : n ∈ th.map (·.1)
      · obtain ⟨h', vs', e, b4, w'⟩ := ww hn
        refine ⟨_, _, vs', ?_, w'⟩
        have ap := app4 b4 (by have := w.z1; omega) (wit th n)
        have g4 : (h'.set 4 (.lst ((st ++ [wit th n]).map stD)))[4]? = some (.lst ((st ++ [wit th n]).map stD)) := w'.s4
        have l1 : ((st ++ [wit th n]).map stD).length = st.length + 1 := by simp
        have kn : (th.filter fun p => decide (p.1 = n)).map enD ≠ [] := by
          obtain ⟨p, hp, z⟩ := List.mem_map.mp hn
          intro q
          rw [List.map_eq_nil_iff, List.filter_eq_nil_iff] at q
          exact q p hp (by simpa using z)
        have kl : ¬ ((th.filter fun p => decide (p.1 = n)).map enD).length = 0 := fun z => kn (List.length_eq_zero_iff.mp z)
        have ty : tyL h' (.ref 4) = true := by
          generalize st.map stD = us at *
          simp [b4]
        have lc := lc4 (.int (st.length : Int)) h'
        rw [seq_nx (e' := [some (.ref 0), some (.ref 4), some (.int row), some (stD th), some (.lst (ns.map D.int)), some (.int n), some (vD (row / 77)), some (.int (row % 5)), some (.lst ((th.filter fun p => decide (p.1 = n)).map enD)), some (.int (st.length : Int)), some (stD (wit th n)), none]) (h' := h') (by
          clear ap g4 l1 b4 ty
          generalize C__law_turn_of_4 = CC at *
          generalize F_Ledgerwithdraw = FF at *
          generalize ldF ((st.length : Int) - 1) fl = lf0 at *
          generalize (th.filter fun p => decide (p.1 = n)).map enD = ks at *
          generalize stD (wit th n) = fr at *
          generalize vD (row / 77) = v at *
          generalize ns.map D.int = xs at *
          generalize stD th = t at *
          simp [c4, a0, lkm, e, lc])]
        clear lc e
        rw [seq_nx (e' := [some (.ref 0), some (.ref 4), some (.int row), some (stD th), some (.lst (ns.map D.int)), some (.int n), some (vD (row / 77)), some (.int (row % 5)), some (.lst ((th.filter fun p => decide (p.1 = n)).map enD)), some (.int (st.length : Int)), some (stD (wit th n)), none]) (h' := h') (by
          clear ap g4 l1 b4 ty
          generalize (th.filter fun p => decide (p.1 = n)).map enD = ks at *
          generalize stD (wit th n) = fr at *
          generalize vD (row / 77) = v at *
          generalize ns.map D.int = xs at *
          generalize stD th = t at *
          have kl2 : ¬ ((ks.length : Int) = 0) := by omega
          simp [kn, kl, kl2, sh_int, eqvI])]
        generalize h'.set 4 (.lst ((st ++ [wit th n]).map stD)) = h2 at *
        generalize (st ++ [wit th n]).map stD = us2 at *
        generalize (th.filter fun p => decide (p.1 = n)).map enD = ks at *
        generalize stD (wit th n) = fr at *
        generalize vD (row / 77) = v at *
        generalize ns.map D.int = xs at *
        generalize stD th = t at *
        simp [ty, ap, g4, l1, sh_int, eqvI, -tyL]
      · have e := wn hn
        refine ⟨h, st, vs, ?_, w.up⟩
        have kn : (th.filter fun p => decide (p.1 = n)).map enD = [] := by
          rw [List.map_eq_nil_iff, List.filter_eq_nil_iff]
          intro p hp z
          exact hn (List.mem_map.mpr ⟨p, hp, by simpa using z⟩)
        have lc := lc4 .non h
        rw [kn] at lc ⊢
        rw [seq_nx (e' := [some (.ref 0), some (.ref 4), some (.int row), some (stD th), some (.lst (ns.map D.int)), some (.int n), some (vD (row / 77)), some (.int (row % 5)), some (.lst []), some (.non), some (stD (wit th n)), none]) (h' := h) (by
          generalize C__law_turn_of_4 = CC at *
          generalize F_Ledgerwithdraw = FF at *
          generalize ldF ((st.length : Int) - 1) fl = lf0 at *
          generalize stD (wit th n) = fr at *
          generalize vD (row / 77) = v at *
          generalize ns.map D.int = xs at *
          generalize stD th = t at *
          simp [c4, a0, lkm, e, lc])]
        generalize stD (wit th n) = fr at *
        generalize vD (row / 77) = v at *
        generalize ns.map D.int = xs at *
        generalize stD th = t at *
        simp [sh_int, eqvI]
end Pg
namespace Pg
open PySem PySem.Spec PyProof.Rows L2 Ev Lib LibT LibV LibW LibX EvS Led
theorem drop_len (fl : Int) (ps : List Int) (n : Nat) (vs : List Ve) : (dropVs fl ps n vs).length ≤ vs.length := by
  have := (drop_keys (fl := fl) (ps := ps) n vs).length_le
  simpa using this
theorem LW.drop {h h' : HP} {st : List (List Ent)} {fl fl' : Int} {ps ps' : List Int} {vs : List Ve} {B n : Nat} (w : LW h st fl ps vs B) (L : LH h' ((st.length : Int) - 1) fl' ps' (dropVs fl' ps' n vs) (Sof st ((st.length : Int) - 1)))
    (f : 0 ≤ fl' ∧ fl' ≤ (st.length : Int) - 1) (p : ∀ x ∈ ps', 0 ≤ x ∧ x ≤ (st.length : Int) - 1) (k : ∀ m, Kept fl' ((st.length : Int) - 1) ps' m → Kept fl ((st.length : Int) - 1) ps m) (s4 : h'[4]? = some (.lst (st.map stD))) (s5 : h'[5]? = some (.lst (ps'.map D.int))) (z2 : ps'.length ≤ B) : LW h' st fl' ps' (dropVs fl' ps' n vs) (B + 1) := by
  refine ⟨L, drop_ok w.o f p k n, s4, s5, w.ne, w.sb, by have := w.z1; omega, by omega, by have := drop_len fl' ps' n vs; have := w.z3; omega, fun e he => ?_, fun s hs => by have := w.z5 s hs; omega⟩
  obtain ⟨i, W, h1, h2, _, _⟩ := drop_mem n vs e he
  have hW : W.length ≤ B := w.z4 (e.1, i, W) h1
  rw [h2]
  unfold drp
  have := List.length_filter_le (kpV fl' ps') W
  omega
theorem okis (ps : List Int) : okRf (.lst (ps.map D.int)) = true := by
  show rlt.rlts 0 _ = true
  exact rlts_map (fun x => clean_int x) ps
theorem gt_mem {xs : List Int} {i : Int} (h0 : 0 ≤ i) (h1 : i < xs.length) : gt xs i ∈ xs := by
  obtain ⟨k, rfl⟩ : ∃ k : Nat, i = k := ⟨i.toNat, by omega⟩
  have hk : k < xs.length := by omega
  unfold gt
  simp [hk]
theorem right_nx {ns : List Int} {rl : D} {h : HP} {st : List (List Ent)} {fl : Int} {ps : List Int} {vs : List Ve} {B : Nat} (w : LW h st fl ps vs B) (hB : B ≤ 1000) (row : Int) (z7 : Option D) :
    (sIf (tmNot (mTru (mFn 4 F__law_right (aCons (mVar 2) (aCons (mVar 3) (aCons (mVar 4) (aCons (mVar 5) aNil))))))) (sRet (mCst (.bl false))) sNil) [some (Sc ns), some rl, some (.ref 0), some (.ref 4), some (.int fl), some (.ref 5), some (.int row), z7] h = .nx [some (Sc ns), some rl, some (.ref 0), some (.ref 4), some (.int fl), some (.ref 5), some (.int row), z7] h := by
  have fr := F_right w hB
  generalize F__law_right = FR at *
  simp [fr]
theorem law_turn {ns : List Int} {rl : D} {h : HP} {st : List (List Ent)} {fl : Int} {ps : List Int} {vs : List Ve} {B : Nat} (w : LW h st fl ps vs B) (hB : B ≤ 400) (row : Int) (z7 : Option D) :
    ∃ h' st' fl2 ps' vs' y7, B_law_1 [some (Sc ns), some rl, some (.ref 0), some (.ref 4), some (.int fl), some (.ref 5), some (.int row), z7] h = .nx [some (Sc ns), some rl, some (.ref 0), some (.ref 4), some (.int fl2), some (.ref 5), some (.int row), y7] h' ∧ LW h' st' fl2 ps' vs' (B + 1) := by
  have s4 := w.s4
  have s5 := w.s5
  have l := w.L.l
  have ne := w.ne
  have ll : (st.map stD).length = st.length := by simp
  have lp : (ps.map D.int).length = ps.length := by simp
  have z2 := w.z2
  have hf := w.o.f
  have a0 := w.L.a0
  unfold B_law_1
  by_cases c1 : row % 7 < 4
  · obtain ⟨h', st', vs', e, w'⟩ := turn_of w (by omega) (row / 7)
    refine ⟨h', st', fl, ps, vs', z7, ?_, w'⟩
    rw [seq_nx (e' := [some (Sc ns), some rl, some (.ref 0), some (.ref 4), some (.int fl), some (.ref 5), some (.int row), z7]) (h' := h') (by
      generalize F__law_turn_of = FT at *
      simp [c1, e, lg])]
    exact right_nx w' (by omega) row z7
  · by_cases c2 : row % 7 = 4
    · have e1 : (ps ++ [(st.length : Int) - 1]).map D.int = ps.map D.int ++ [.int ((st.length : Int) - 1)] := by simp
      have ap : appL 5 (.int ((st.length : Int) - 1)) h = .ok () (h.set 5 (.lst ((ps ++ [(st.length : Int) - 1]).map D.int))) := by
        unfold appL
        rw [s5]
        simp only
        rw [if_pos (by rw [List.length_map, sizeLine_eq]; omega), e1]
      obtain ⟨h', e, L', k4, k5⟩ := pin_h (w.L.set (j := 5) (.inr rfl) (okis (ps ++ [(st.length : Int) - 1]))) (by omega)
      have w' : LW h' st fl (ps ++ [(st.length : Int) - 1]) vs (B + 1) := by
        refine ⟨L', pin_ok w.o, by rw [k4, gS (by omega)]; exact s4, by rw [k5]; exact gE (by omega), ne, w.sb, by have := w.z1; omega, by simp; omega, by have := w.z3; omega, fun e he => by have := w.z4 e he; omega, fun s hs => by have := w.z5 s hs; omega⟩
      have b0 := (w.L.set (j := 5) (.inr rfl) (okis (ps ++ [(st.length : Int) - 1]))).a0
      have b4 := w'.s4
      have m0 := meth0_ (F := F_Ledgerpin) (nm := "pin") b0 (lk_pin _ _)
      refine ⟨h', st, fl, ps ++ [(st.length : Int) - 1], vs, z7, ?_, w'⟩
      obtain ⟨h1, eh1⟩ : ∃ h1, h1 = h.set 5 (.lst ((ps ++ [(st.length : Int) - 1]).map D.int)) := ⟨_, rfl⟩
      rw [← eh1] at ap e m0
      have ty : tyL h (.ref 5) = true := by
        generalize ps.map D.int = us at *
        simp [s5]
      rw [seq_nx (e' := [some (Sc ns), some rl, some (.ref 0), some (.ref 4), some (.int fl), some (.ref 5), some (.int row), z7]) (h' := h') (by
        have m1 : mMeth0 14 "pin" F_Ledgerpin (mVar 2) [some (Sc ns), some rl, some (.ref 0), some (.ref 4), some (.int fl), some (.ref 5), some (.int row), z7] h1 = .ok (.int ((st.length : Int) - 1)) h' := by
          show kMeth0 14 "pin" F_Ledgerpin (.ref 0) h1 = _
          rw [m0, e]
        clear e m0 eh1 L' w' k4 k5
        generalize mMeth0 14 "pin" F_Ledgerpin (mVar 2) = MP at *
        generalize st.map stD = us at *
        simp [c1, c2, lg, s4, ll, ty, ap, m1, b4, sh_int, eqvI, -tyL])]
      exact right_nx w' (by omega) row z7
    · by_cases c3 : row % 7 = 5 ∧ 0 < ps.length
      · have c3' : (0 : Int) < (ps.length : Int) := by omega
        have ag := at_gt (xs := ps) (i := row / 7 % (ps.length : Int)) (Int.emod_nonneg _ (by omega)) (Int.emod_lt_of_pos _ (by omega))
        have hm := gt_mem (xs := ps) (i := row / 7 % (ps.length : Int)) (Int.emod_nonneg _ (by omega)) (Int.emod_lt_of_pos _ (by omega))
        obtain ⟨m, em⟩ : ∃ m, m = gt ps (row / 7 % (ps.length : Int)) := ⟨_, rfl⟩
        rw [← em] at ag hm
        obtain ⟨h', e, L', k4, k5⟩ := unpin_h w.L w.o.k (w.sm (by omega)) hm
        have pe : ∀ x ∈ ps.erase m, x ∈ ps := fun x hx => List.mem_of_mem_erase hx
        have w' : LW (h'.set 5 (.lst ((ps.erase m).map D.int))) st fl (ps.erase m) (dropVs fl (ps.erase m) h.length vs) (B + 1) := by
          have l' := L'.l
          refine w.drop (L'.set (.inr rfl) (okis _)) w.o.f (fun x hx => w.o.p x (pe x hx)) (fun q kq => ?_) (by rw [gS (by omega), k4]; exact s4) (gE (by omega)) (Nat.le_trans List.length_erase_le z2)
          rcases kq with kq | kq
          · exact .inl (pe q kq)
          · exact .inr kq
        refine ⟨_, st, fl, ps.erase m, _, some (.int m), ?_, w'⟩
        have b5 : h'[5]? = some (.lst (ps.map D.int)) := by rw [k5]; exact s5
        have id : intsD (ps.map D.int) = some ps := Ev.intsD_map ps
        have ty : tyL h' (.ref 5) = true := by
          generalize ps.map D.int = us at *
          simp [b5]
        have rm : remL 5 m (some (.lst (ps.map D.int))) h' = .ok .non (h'.set 5 (.lst ((ps.erase m).map D.int))) := by
          show (match intsD (ps.map D.int) with | some ns => if m ∈ ns then R.ok D.non (h'.set 5 (.lst ((ns.erase m).map D.int))) else .stuck | none => .stuck) = _
          rw [id]
          simp only
          rw [if_pos hm]
        have lkm := lk_unpin ((st.length : Int) - 1) fl
        have ll2 : Nat.log2 (ps.length) < 9000 := lg (by omega)
        have c3n : ¬ ps.length = 0 := by omega
        have c3p : 0 < ps.length := c3.2
        have pn : ps ≠ [] := fun z => by rw [z] at c3p; simp at c3p
        rw [seq_nx (e' := [some (Sc ns), some rl, some (.ref 0), some (.ref 4), some (.int fl), some (.ref 5), some (.int row), some (.int m)]) (h' := h'.set 5 (.lst ((ps.erase m).map D.int))) (by
          have fi : fIsN .non .non h' = .ok (.bl true) h' := rfl
          clear L' w' k4 k5 id em
          generalize F_Ledgerunpin = FU at *
          generalize ldF ((st.length : Int) - 1) fl = lf0 at *
          generalize h'.set 5 (.lst ((ps.erase m).map D.int)) = h2 at *
          generalize ps.map D.int = us at *
          simp [c1, c2, c3.1, c3', c3p, pn, lg, s5, lp, ll2, ag, a0, lkm, e, ty, b5, rm, sh_int, eqvI, -tyL, -remL])]
        exact right_nx w' (by omega) row _
      · obtain ⟨h', e, L', k4, k5⟩ := floor_h w.L w.o.k (w.sm (by omega)) (row / 7 % ((st.length : Int) + 2))
        obtain ⟨m, em⟩ : ∃ m, m = row / 7 % ((st.length : Int) + 2) := ⟨_, rfl⟩
        rw [← em] at e L'
        have m0 : 0 ≤ m := by rw [em]; exact Int.emod_nonneg _ (by omega)
        have fU : fl ≤ flU fl ((st.length : Int) - 1) m ∧ 0 ≤ flU fl ((st.length : Int) - 1) m ∧ flU fl ((st.length : Int) - 1) m ≤ (st.length : Int) - 1 := by
          unfold flU
          split <;> split <;> omega
        have w' : LW h' st (flU fl ((st.length : Int) - 1) m) ps (dropVs (flU fl ((st.length : Int) - 1) m) ps h.length vs) (B + 1) := by
          refine w.drop L' fU.2 w.o.p (fun q kq => ?_) (by rw [k4]; exact s4) (by rw [k5]; exact s5) z2
          rcases kq with kq | kq
          · exact .inl kq
          · exact .inr ⟨by omega, kq.2⟩
        refine ⟨h', st, flU fl ((st.length : Int) - 1) m, ps, _, some (.int m), ?_, w'⟩
        have lkm := lk_raise_floor ((st.length : Int) - 1) fl
        have lp2 : (0 : Int) < (st.length : Int) + 2 := by omega
        have ll2 : Nat.log2 (st.length + 2) < 9000 := lg (by have := w.z1; omega)
        have e2 : ((st.length : Int) + 2).natAbs = st.length + 2 := by omega
        have c3a : (row % 7 = 5) → ¬ 0 < ps.length := fun z1 z2 => c3 ⟨z1, z2⟩
        have nn : ∀ i : Int, fNe (.int i) (.int i) h' = .ok (.bl false) h' := fun i => by simp [sh_int, eqvI]
        rw [seq_nx (e' := [some (Sc ns), some rl, some (.ref 0), some (.ref 4), some (.int (flU fl ((st.length : Int) - 1) m)), some (.ref 5), some (.int row), some (.int m)]) (h' := h') (by
          clear L' w' k4 k5
          have fd : (if (if (st.length : Int) - 1 < m then (st.length : Int) - 1 else m) > fl then (if (st.length : Int) - 1 < m then (st.length : Int) - 1 else m) else fl) = flU fl ((st.length : Int) - 1) m := rfl
          generalize flU fl ((st.length : Int) - 1) m = f2 at *
          generalize F_Ledgerraise_floor = FF at *
          generalize ldF ((st.length : Int) - 1) fl = lf0 at *
          generalize st.map stD = us at *
          generalize ps.map D.int = us5 at *
          by_cases q : row % 7 = 5
          · have q2 := c3a q
            have q3 : ps.length = 0 := by omega
            simp [c1, c2, q, q3, lg, s4, s5, ll, lp, lp2, ll2, e2, ← em, fd, a0, lkm, e, nn, sh_int, eqvI, -fNe]
          · simp [c1, c2, q, lg, s4, s5, ll, lp, lp2, ll2, e2, ← em, fd, a0, lkm, e, nn, sh_int, eqvI, -fNe])]
        exact right_nx w' (by omega) row _
theorem law_true (ns : List Int) (hl : ns.length ≤ 63) (hb : ∀ z ∈ ns, Builtin.Int.intBits z ≤ 1048576) : F_law [.klst (ns.map D.int)] [] = .ok (.bl true) [] := by
  have hns : Okn ns := ⟨hl, fun z hz => bits_sz (hb z hz)⟩
  have fr := F_rows hns (n := 40) (by omega) []
  obtain ⟨h0, eh0⟩ : ∃ h0 : HP, h0 = [.ins 14 (ldF 0 0), .lst [], .dic [], .dic [], .lst [stD []], .lst []] := ⟨_, rfl⟩
  have w0 : LW h0 [[]] 0 [] [] 1 := by
    rw [eh0]
    refine ⟨⟨rfl, rfl, rfl, rfl, by simp, by simp, fun i o n0 n2 e => ?_, by simp⟩, ⟨by simp, by simp, by simp, by simp, by simp, fun m k => ?_⟩, rfl, rfl, by simp, by simp, by simp, by simp, by simp, by simp, by simp⟩
    · rcases i with _ | _ | _ | _ | _ | _ | i
      · exact absurd rfl n0
      · cases e; rfl
      · exact absurd rfl n2
      · cases e; rfl
      · cases e; rfl
      · cases e; rfl
      · simp at e
    · rcases k with k | k
      · cases k
      · have : m = 0 := by simp at k; omega
        subst this
        rfl
  obtain ⟨_, h', e, fl, z6, z7, rfl, _⟩ := for_ty (asg := gNm 6) (body := B_law_1) (gd := [])
    (fun k env h => (∃ fl z6 z7, env = [some (Sc ns), some (rowsL ns 40), some (.ref 0), some (.ref 4), some (.int fl), some (.ref 5), z6, z7] ∧ ∃ st ps vs, LW h st fl ps vs (k + 1)))
    (List.range 40) (fun k => D.int (rC2 ns k)) (fun i env h _ => by simp [Gd])
    (fun i env h hi hI => by
      obtain ⟨fl, z6, z7, rfl, st, ps, vs, w⟩ := hI
      simp at hi
      obtain ⟨h', st', fl2, ps', vs', y7, e, w'⟩ := law_turn (ns := ns) (rl := rowsL ns 40) w (by omega) (rC2 ns (List.range 40)[i]) z7
      exact ⟨[some (Sc ns), some (rowsL ns 40), some (.ref 0), some (.ref 4), some (.int fl), some (.ref 5), some (.int (rC2 ns (List.range 40)[i])), z7], rfl, _, h', .inl e, fl2, _, y7, rfl, st', ps', vs', w'⟩)
    (env := [some (Sc ns), some (rowsL ns 40), some (.ref 0), some (.ref 4), some (.int 0), some (.ref 5), none, none]) (h := h0) ⟨0, none, none, rfl, [[]], [], [], w0⟩
  have pe : ∀ x, pure_ [] (.bl true) x = .ok (.bl true) [] := fun x => pure_cleanJ [] x (clean_bl true)
  have st8 : startE 8 [.klst (ns.map D.int)] = [some (Sc ns), none, none, none, none, none, none, none] := rfl
  have ini : F_Ledger__init__ [.ref 0] [.ins 14 []] = .ok .non [.ins 14 (ldF 0 0), .lst [], .dic [], .dic []] := by
    unfold ldF
    simp [F_Ledger__init__, putD]
  unfold F_law fnP
  rw [st8]
  rw [seq_nx (e' := [some (Sc ns), some (rowsL ns 40), none, none, none, none, none, none]) (h' := []) (by
    clear e
    have fr : F__law_rows [Sc ns, .int 40] [] = _ := fr
    generalize rowsL ns 40 = rl at *
    simp [fr])]
  rw [seq_nx (e' := [some (Sc ns), some (rowsL ns 40), some (.ref 0), none, none, none, none, none]) (h' := [.ins 14 (ldF 0 0), .lst [], .dic [], .dic []]) (by
    clear e
    generalize rowsL ns 40 = rl at *
    generalize F_Ledger__init__ = FI at *
    have m1 : mMkL0 14 FI [some (Sc ns), some rl, none, none, none, none, none, none] [] = .ok (.ref 0) [.ins 14 (ldF 0 0), .lst [], .dic [], .dic []] := by
      show mkL [] (FI [.ref 0] [.ins 14 []]) = _
      rw [ini]
      rfl
    simp [m1, -mMkL0])]
  rw [seq_nx (e' := [some (Sc ns), some (rowsL ns 40), some (.ref 0), some (.ref 4), none, none, none, none]) (h' := [.ins 14 (ldF 0 0), .lst [], .dic [], .dic [], .lst [stD []]]) (by
    clear e
    generalize rowsL ns 40 = rl at *
    generalize ldF 0 0 = lf at *
    simp [stD])]
  rw [seq_nx (e' := [some (Sc ns), some (rowsL ns 40), some (.ref 0), some (.ref 4), some (.int 0), none, none, none]) (h' := [.ins 14 (ldF 0 0), .lst [], .dic [], .dic [], .lst [stD []]]) (by
    clear e
    generalize rowsL ns 40 = rl at *
    simp)]
  rw [seq_nx (e' := [some (Sc ns), some (rowsL ns 40), some (.ref 0), some (.ref 4), some (.int 0), some (.ref 5), none, none]) (h' := h0) (by
    clear e
    rw [eh0]
    generalize rowsL ns 40 = rl at *
    generalize ldF 0 0 = lf at *
    generalize stD [] = sd at *
    simp)]
  clear eh0
  have er : rowsL ns 40 = .lst ((List.range 40).map fun k => D.int (rC2 ns k)) := rfl
  generalize hB1 : B_law_1 = B1 at *
  rw [er] at e ⊢
  generalize (List.range 40).map (fun k => D.int (rC2 ns k)) = us at *
  simp [e, pe]
end Pg
open PySem PySem.W PyProof.Rows
set_option maxHeartbeats 0 in
theorem PySem.Challenge.cw_sureplace_k62_a_ledger_tells_every_kept_holds : PySem.Challenge.rw_sureplace_k62_a_ledger_tells_every_kept.Holds := by
  w_on; o_law
  refine holds_open (r := Hd.RR) (q := Hd.vw) (loose := Hd.loo) (Xt := fun s => xlAt Hd.vw Hd.lv s && recOk (RowW.records (OpenRow.toRowW Hd.RR)) s) (XP := XL Hd.vw Hd.lv) (Yf := Hook.obs (kHook Hd.K Hd.as Hd.ek)) (Ya := Hook.val (kHook Hd.K Hd.as Hd.ek)) (YP := Hook.says (kHook Hd.K Hd.as Hd.ek)) (d := Hd.dd) (kwd := []) Hd.left (Hook.of _) (Hook.keeps _) (fun s e => xl_of s (Bool.and_eq_true_iff.mp e).1) XL.keeps Hd.h_def Hd.h_the Hd.h_kw (fun s e => recFacts_of (Bool.and_eq_true_iff.mp e).2) (by rfl) (by first | assumption | decide +kernel) Hd.h_ok ⟨rfl, rfl, rfl, rfl, rfl, by decide +kernel⟩ ?hw ?hc
  case hw => w_witness2
  k_fill
  refine L2.walk_ofB (l := PySem.Challenge.rw_sureplace_k62_a_ledger_tells_every_kept) (n := 63) (k := 10) (x := "script") (CX := fun _ => L2.CX0) (sp := fun w => Ev.spL _ Pg.F_law) rfl (by decide) Hd.h_df ⟨rfl, by decide, by decide⟩ (fun w h Y => PySem.W.kIn_of Y) ?F (fun _ H a ns hl hb _ hS => ⟨a, ns, rfl, hS, Pg.law_true ns hl hb, fun _ => rfl⟩) (fun _ _ _ _ _ h => h)
  case F =>
    intro w mg fa h KX G hmg
    rw [Hd.h_nm] at hmg
    refine' Pg.all_mk KX G hmg ?aC_Ledger ?pg_Ledger ?hd_Ledger ?po_Ledger ?sa_Ledger ?mk_Ledger ?kc_Ledger ?na_Ledger_now ?na_Ledger_floor ?na_Ledger__pinned ?na_Ledger__versions ?na_Ledger__there ?na_Ledger_source ?na_Ledger_moment ?na_Ledger_kind ?na_Ledger_low ?na_Ledger_high ?na_Ledger_late ?na_Ledger_near ?aC_Reading ?pg_Reading ?hd_Reading ?po_Reading ?sa_Reading ?mk_Reading ?kc_Reading ?ic_Reading ?io_Reading ?na_Reading_now ?na_Reading_floor ?na_Reading__pinned ?na_Reading__versions ?na_Reading__there ?na_Reading_source ?na_Reading_moment ?na_Reading_kind ?na_Reading_low ?na_Reading_high ?na_Reading_late ?na_Reading_near ?a__law_rows ?l__law_rows ?c__law_rows ?k__law_rows ?a_Ledger__init__ ?i_Ledger__init__ ?l_Ledger__init__ ?c_Ledger__init__ ?k_Ledger__init__ ?a_is_name ?l_is_name ?c_is_name ?k_is_name ?a_all_within ?l_all_within ?c_all_within ?k_all_within ?a__direction_holds ?l__direction_holds ?c__direction_holds ?k__direction_holds ?a_sides_within ?l_sides_within ?c_sides_within ?k_sides_within ?a__boxes_hold ?l__boxes_hold ?c__boxes_hold ?k__boxes_hold ?a__kind_holds ?l__kind_holds ?c__kind_holds ?k__kind_holds ?a_Reading__init__ ?i_Reading__init__ ?l_Reading__init__ ?c_Reading__init__ ?k_Reading__init__ ?a__law_value_of ?l__law_value_of ?c__law_value_of ?k__law_value_of ?a_Ledgerput ?i_Ledgerput ?l_Ledgerput ?c_Ledgerput ?k_Ledgerput ?a_Ledger_end ?i_Ledger_end ?l_Ledger_end ?c_Ledger_end ?k_Ledger_end ?a_Ledgercorrect ?i_Ledgercorrect ?l_Ledgercorrect ?c_Ledgercorrect ?k_Ledgercorrect ?a_Ledgerwithdraw ?i_Ledgerwithdraw ?l_Ledgerwithdraw ?c_Ledgerwithdraw ?k_Ledgerwithdraw ?a__law_turn_of ?l__law_turn_of ?c__law_turn_of ?k__law_turn_of ?a_Ledgerpin ?i_Ledgerpin ?l_Ledgerpin ?c_Ledgerpin ?k_Ledgerpin ?a_was_kept ?l_was_kept ?c_was_kept ?k_was_kept ?a_Ledger_drop ?i_Ledger_drop ?l_Ledger_drop ?c_Ledger_drop ?k_Ledger_drop ?a_Ledgerunpin ?i_Ledgerunpin ?l_Ledgerunpin ?c_Ledgerunpin ?k_Ledgerunpin ?a_Ledgerraise_floor ?i_Ledgerraise_floor ?l_Ledgerraise_floor ?c_Ledgerraise_floor ?k_Ledgerraise_floor ?a_Ledgerpins ?pg_Ledgerpins ?pt_Ledgerpins ?pq_Ledgerpins ?i_Ledgerpins ?l_Ledgerpins ?c_Ledgerpins ?k_Ledgerpins ?a_Ledgerkeeps ?i_Ledgerkeeps ?l_Ledgerkeeps ?c_Ledgerkeeps ?k_Ledgerkeeps ?a__there_at ?l__there_at ?c__there_at ?k__there_at ?a_Ledgerreadings ?i_Ledgerreadings ?l_Ledgerreadings ?c_Ledgerreadings ?k_Ledgerreadings ?a_Reading__eq__ ?i_Reading__eq__ ?l_Reading__eq__ ?c_Reading__eq__ ?k_Reading__eq__ ?a__law_there ?l__law_there ?c__law_there ?k__law_there ?a__law_right ?l__law_right ?c__law_right ?k__law_right ?a_law ?l_law ?c_law ?k_law ?is_sp ?is_tk ?z_all ?z_any ?z_int ?z_isinstance ?z_len ?z_list ?z_max ?z_min ?z_range ?z_str ?g_FAR ?g_LIMIT ?g_LONGEST ?g_MOST_BOXES ?g_SIGNS ?g_STEEPEST
    (case aC_Ledger => k_is)
    (case pg_Ledger => k_is)
    (case hd_Ledger => k_is)
    (case po_Ledger => k_is)
    (case sa_Ledger => k_is)
    (case mk_Ledger => k_is)
    (case kc_Ledger => k_is)
    (case na_Ledger_now => k_is)
    (case na_Ledger_floor => k_is)
    (case na_Ledger__pinned => k_is)
    (case na_Ledger__versions => k_is)
    (case na_Ledger__there => k_is)
    (case na_Ledger_source => k_is)
    (case na_Ledger_moment => k_is)
    (case na_Ledger_kind => k_is)
    (case na_Ledger_low => k_is)
    (case na_Ledger_high => k_is)
    (case na_Ledger_late => k_is)
    (case na_Ledger_near => k_is)
    (case aC_Reading => k_is)
    (case pg_Reading => k_is)
    (case hd_Reading => k_is)
    (case po_Reading => k_is)
    (case sa_Reading => k_is)
    (case mk_Reading => k_is)
    (case kc_Reading => k_is)
    (case ic_Reading => k_is)
    (case io_Reading => k_is)
    (case na_Reading_now => k_is)
    (case na_Reading_floor => k_is)
    (case na_Reading__pinned => k_is)
    (case na_Reading__versions => k_is)
    (case na_Reading__there => k_is)
    (case na_Reading_source => k_is)
    (case na_Reading_moment => k_is)
    (case na_Reading_kind => k_is)
    (case na_Reading_low => k_is)
    (case na_Reading_high => k_is)
    (case na_Reading_late => k_is)
    (case na_Reading_near => k_is)
    (case a__law_rows => k_is)
    (case l__law_rows => k_is)
    (case c__law_rows => k_is)
    (case k__law_rows => k_is)
    (case a_Ledger__init__ => k_is)
    (case i_Ledger__init__ => k_is)
    (case l_Ledger__init__ => k_is)
    (case c_Ledger__init__ => k_is)
    (case k_Ledger__init__ => k_is)
    (case a_is_name => k_is)
    (case l_is_name => k_is)
    (case c_is_name => k_is)
    (case k_is_name => k_is)
    (case a_all_within => k_is)
    (case l_all_within => k_is)
    (case c_all_within => k_is)
    (case k_all_within => k_is)
    (case a__direction_holds => k_is)
    (case l__direction_holds => k_is)
    (case c__direction_holds => k_is)
    (case k__direction_holds => k_is)
    (case a_sides_within => k_is)
    (case l_sides_within => k_is)
    (case c_sides_within => k_is)
    (case k_sides_within => k_is)
    (case a__boxes_hold => k_is)
    (case l__boxes_hold => k_is)
    (case c__boxes_hold => k_is)
    (case k__boxes_hold => k_is)
    (case a__kind_holds => k_is)
    (case l__kind_holds => k_is)
    (case c__kind_holds => k_is)
    (case k__kind_holds => k_is)
    (case a_Reading__init__ => k_is)
    (case i_Reading__init__ => k_is)
    (case l_Reading__init__ => k_is)
    (case c_Reading__init__ => k_is)
    (case k_Reading__init__ => k_is)
    (case a__law_value_of => k_is)
    (case l__law_value_of => k_is)
    (case c__law_value_of => k_is)
    (case k__law_value_of => k_is)
    (case a_Ledgerput => k_is)
    (case i_Ledgerput => k_is)
    (case l_Ledgerput => k_is)
    (case c_Ledgerput => k_is)
    (case k_Ledgerput => k_is)
    (case a_Ledger_end => k_is)
    (case i_Ledger_end => k_is)
    (case l_Ledger_end => k_is)
    (case c_Ledger_end => k_is)
    (case k_Ledger_end => k_is)
    (case a_Ledgercorrect => k_is)
    (case i_Ledgercorrect => k_is)
    (case l_Ledgercorrect => k_is)
    (case c_Ledgercorrect => k_is)
    (case k_Ledgercorrect => k_is)
    (case a_Ledgerwithdraw => k_is)
    (case i_Ledgerwithdraw => k_is)
    (case l_Ledgerwithdraw => k_is)
    (case c_Ledgerwithdraw => k_is)
    (case k_Ledgerwithdraw => k_is)
    (case a__law_turn_of => k_is)
    (case l__law_turn_of => k_is)
    (case c__law_turn_of => k_is)
    (case k__law_turn_of => k_is)
    (case a_Ledgerpin => k_is)
    (case i_Ledgerpin => k_is)
    (case l_Ledgerpin => k_is)
    (case c_Ledgerpin => k_is)
    (case k_Ledgerpin => k_is)
    (case a_was_kept => k_is)
    (case l_was_kept => k_is)
    (case c_was_kept => k_is)
    (case k_was_kept => k_is)
    (case a_Ledger_drop => k_is)
    (case i_Ledger_drop => k_is)
    (case l_Ledger_drop => k_is)
    (case c_Ledger_drop => k_is)
    (case k_Ledger_drop => k_is)
    (case a_Ledgerunpin => k_is)
    (case i_Ledgerunpin => k_is)
    (case l_Ledgerunpin => k_is)
    (case c_Ledgerunpin => k_is)
    (case k_Ledgerunpin => k_is)
    (case a_Ledgerraise_floor => k_is)
    (case i_Ledgerraise_floor => k_is)
    (case l_Ledgerraise_floor => k_is)
    (case c_Ledgerraise_floor => k_is)
    (case k_Ledgerraise_floor => k_is)
    (case a_Ledgerpins => k_is)
    (case pg_Ledgerpins => k_is)
    (case pt_Ledgerpins => k_is)
    (case pq_Ledgerpins => k_is)
    (case i_Ledgerpins => k_is)
    (case l_Ledgerpins => k_is)
    (case c_Ledgerpins => k_is)
    (case k_Ledgerpins => k_is)
    (case a_Ledgerkeeps => k_is)
    (case i_Ledgerkeeps => k_is)
    (case l_Ledgerkeeps => k_is)
    (case c_Ledgerkeeps => k_is)
    (case k_Ledgerkeeps => k_is)
    (case a__there_at => k_is)
    (case l__there_at => k_is)
    (case c__there_at => k_is)
    (case k__there_at => k_is)
    (case a_Ledgerreadings => k_is)
    (case i_Ledgerreadings => k_is)
    (case l_Ledgerreadings => k_is)
    (case c_Ledgerreadings => k_is)
    (case k_Ledgerreadings => k_is)
    (case a_Reading__eq__ => k_is)
    (case i_Reading__eq__ => k_is)
    (case l_Reading__eq__ => k_is)
    (case c_Reading__eq__ => k_is)
    (case k_Reading__eq__ => k_is)
    (case a__law_there => k_is)
    (case l__law_there => k_is)
    (case c__law_there => k_is)
    (case k__law_there => k_is)
    (case a__law_right => k_is)
    (case l__law_right => k_is)
    (case c__law_right => k_is)
    (case k__law_right => k_is)
    (case a_law => k_is)
    (case l_law => k_is)
    (case c_law => k_is)
    (case k_law => k_is)
    (case is_sp => k_is)
    (case is_tk => k_is)
    (case z_all => k_is)
    (case z_any => k_is)
    (case z_int => k_is)
    (case z_isinstance => k_is)
    (case z_len => k_is)
    (case z_list => k_is)
    (case z_max => k_is)
    (case z_min => k_is)
    (case z_range => k_is)
    (case z_str => k_is)
    (case g_FAR => k_is)
    (case g_LIMIT => k_is)
    (case g_LONGEST => k_is)
    (case g_MOST_BOXES => k_is)
    (case g_SIGNS => k_is)
    (case g_STEEPEST => k_is)
