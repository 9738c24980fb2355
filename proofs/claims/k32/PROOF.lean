import PyProof.Rows.All
import Wide.All
import OpenK.AllK
import Wide.FinOn
import KE.KStateDown
import HandS.ForMost
import HandS.Exc
import HandS.TryOnly
import HandS.ExcOwn
import HandS.WordsExc
import HandS.Flow
import HandS.Gcd
import HandS.Wide
import HandS.IsInst
import HandS.Zip
import HandS.Rev
import HandS.RevRange
import HandS.TupMul
import HandS.TupAny
import HandS.Deep
import HandS.Star
import HandS.Defaults
import HandS.Conv
import HandS.Style
import KE.KMathG
import KE.KMathGC
import HandS.Head2
import HandS.HeadHook2
import HandS.HeadEnd
import KE.KDictZip
import HandS.Zip0
import PyProof.ZipIter
import KE.KStar
import HandS.More
import HandS.ExcIs
import HandS.HeadHook1
import HandS.Head3
import PyProof.EnumIter
import PyProof.EnumMake
import HandS.ExcInit
import HandS.ExcField
import KE.KExcInit
import KE.KExcIs
import PySem.Challenge.RW_handsunread_k32_plays_by_hand_and_what_g
set_option Elab.async false
set_option linter.all false
set_option maxRecDepth 100000
set_option maxHeartbeats 4000000
namespace Ev
open PySem PySem.Spec L2
open PyProof.Rows hiding St

/-! values of the evaluator: lists by value (never written again) or by place in the store -/
inductive D where
  | non | bl (b : Bool) | int (i : Int) | str (x : Str) | tup (ds : List D) | lst (ds : List D) | fz (ds : List D) | loc (l : Nat) | fn (i : Nat)

abbrev Store := List (Option (List D))
abbrev EnvD := List (Option D)

def Live (rho : Nat → Addr) (S : Store) (a : Addr) : Prop := ∃ (l : Nat) (ds : List D), S[l]? = some (some ds) ∧ rho l = a

/-- what stays: the written part, the defs' places -/
structure Gd where
  K : PySem.W.Frag
  fa : Nat → Addr

def InK (K : PySem.W.Frag) (a : Addr) (xs : List V) : Prop :=
  ∃ (o : Obj) (its : Array Value) (n : Nat), K.lookup a = some o ∧ o.cls = .type "list" ∧ o.dict = none ∧ o.data = .seq its n ∧ its.size ≤ sizeLine ∧ Vals xs its.toList
/-- rho: where the places stand; S: the store; R: lists that are being made, no value names them; H: the abstract heap -/
structure Wd where
  rho : Nat → Addr
  S : Store
  R : List Addr
  H : Hp
abbrev Wd.live (w : Wd) (a : Addr) : Prop := Live w.rho w.S a
mutual
inductive RepV (G : Gd) (w : Wd) : D → V → Prop
  | non : RepV G w .non .non
  | bl (b : Bool) : RepV G w (.bl b) (.bl b)
  | int (i : Int) : RepV G w (.int i) (.int i)
  | str (x : Str) : RepV G w (.str x) (.str x)
  | tup {a : Addr} {vs : List V} {ds : List D} : SqT G.K w.H a vs → RepVs G w ds vs → RepV G w (.tup ds) (.ref a)
  | lst {a : Addr} {vs : List V} {ds : List D} : w.H a = some (.lst vs) → ¬ w.live a → a ∉ w.R → RepVs G w ds vs → RepV G w (.lst ds) (.ref a)
  | frz {a : Addr} {o : Obj} {vs : List V} {ds : List D} : w.H a = some (.frz o (.lst vs)) → RepVs G w ds vs → RepV G w (.fz ds) (.ref a)
  | lstK {a : Addr} {vs : List V} {ds : List D} : InK G.K a vs → RepVs G w ds vs → RepV G w (.fz ds) (.ref a)
  | loc {l : Nat} : l < w.S.length → RepV G w (.loc l) (.ref (w.rho l))
  | fn (i : Nat) : RepV G w (.fn i) (.ref (G.fa i))
inductive RepVs (G : Gd) (w : Wd) : List D → List V → Prop
  | nil : RepVs G w [] []
  | cons {d : D} {v : V} {ds : List D} {vs : List V} : RepV G w d v → RepVs G w ds vs → RepVs G w (d :: ds) (v :: vs)
end

structure SOk (G : Gd) (w : Wd) : Prop where
  inj : ∀ (l m : Nat) (ds es : List D), w.S[l]? = some (some ds) → w.S[m]? = some (some es) → w.rho l = w.rho m → l = m
  «at» : ∀ (l : Nat) (ds : List D), w.S[l]? = some (some ds) → ∃ vs, w.H (w.rho l) = some (.lst vs) ∧ RepVs G w ds vs
  res : ∀ r ∈ w.R, (∃ xs, w.H r = some (.lst xs)) ∧ ¬ w.live r

structure Step (w w' : Wd) : Prop where
  len : w.S.length ≤ w'.S.length
  agree : ∀ l, l < w.S.length → w'.rho l = w.rho l
  keep : ∀ a o, w.H a = some o → ¬ w.live a → w'.H a = some o ∧ ¬ w'.live a
  resd : w'.R = w.R
  there : ∀ a o, w.H a = some o → ∃ o', w'.H a = some o'

section
variable {G : Gd} {w w' w2 : Wd}
theorem Step.refl : Step w w := ⟨Nat.le_refl _, fun _ _ => rfl, fun _ _ h n => ⟨h, n⟩, rfl, fun _ o h => ⟨o, h⟩⟩
theorem Step.gone (T : Step w w') {a : Addr} (h : w'.H a = none) : w.H a = none := by
  cases q : w.H a with
  | none => rfl
  | some o =>
    obtain ⟨o', e⟩ := T.there a o q
    rw [h] at e; cases e
theorem upd_there {H : Hp} {p a : Addr} {o u : HO} (h : H a = some u) : ∃ o', upd H p o a = some o' := by
  by_cases q : a = p
  · subst q; exact ⟨o, upd_same⟩
  · exact ⟨u, by rw [upd_ne q]; exact h⟩
theorem Step.trans (a : Step w w') (b : Step w' w2) : Step w w2 :=
  ⟨Nat.le_trans a.len b.len, fun l h => (b.agree l (Nat.lt_of_lt_of_le h a.len)).trans (a.agree l h), fun c o h n => let ⟨h1, n1⟩ := a.keep c o h n; b.keep c o h1 n1, b.resd.trans a.resd, fun c o h => let ⟨o1, h1⟩ := a.there c o h; b.there c o1 h1⟩
theorem RepVs.length {ds : List D} {vs : List V} (r : RepVs G w ds vs) : ds.length = vs.length := by
  induction ds generalizing vs with
  | nil => cases r; rfl
  | cons d ds ih => cases r with | cons _ t => simp [ih t]
theorem RepVs.get {ds : List D} {vs : List V} {i : Nat} {d : D} (r : RepVs G w ds vs) (e : ds[i]? = some d) : ∃ v, vs[i]? = some v ∧ RepV G w d v := by
  induction ds generalizing vs i with
  | nil => simp at e
  | cons x ds ih =>
    cases r with
    | cons h t => cases i with
      | zero => simp at e; subst e; exact ⟨_, rfl, h⟩
      | succ i => simp at e; obtain ⟨v, h1, h2⟩ := ih t e; exact ⟨v, by simpa using h1, h2⟩
theorem RepVs.append {ds es : List D} {vs ws : List V} (r : RepVs G w ds vs) (q : RepVs G w es ws) : RepVs G w (ds ++ es) (vs ++ ws) := by
  induction ds generalizing vs with
  | nil => cases r; exact q
  | cons d ds ih => cases r with | cons h t => exact .cons h (ih t)
theorem RepVs.take {ds : List D} {vs : List V} (r : RepVs G w ds vs) (n : Nat) : RepVs G w (ds.take n) (vs.take n) := by
  induction ds generalizing vs n with
  | nil => cases r; simp; exact .nil
  | cons d ds ih => cases r with
    | cons h t => cases n with
      | zero => exact .nil
      | succ n => exact .cons h (ih t n)
theorem RepVs.drop {ds : List D} {vs : List V} (r : RepVs G w ds vs) (n : Nat) : RepVs G w (ds.drop n) (vs.drop n) := by
  induction ds generalizing vs n with
  | nil => cases r; simp; exact .nil
  | cons d ds ih => cases r with
    | cons h t => cases n with
      | zero => exact .cons h t
      | succ n => exact ih t n
theorem RepVs.set {ds : List D} {vs : List V} {d : D} {v : V} (r : RepVs G w ds vs) (q : RepV G w d v) (n : Nat) : RepVs G w (ds.set n d) (vs.set n v) := by
  induction ds generalizing vs n with
  | nil => cases r; exact .nil
  | cons x ds ih => cases r with
    | cons h t => cases n with
      | zero => exact .cons q t
      | succ n => exact .cons h (ih t n)
theorem RepVs.rev {ds : List D} {vs : List V} (r : RepVs G w ds vs) : RepVs G w ds.reverse vs.reverse := by
  induction ds generalizing vs with
  | nil => cases r; exact .nil
  | cons d ds ih => cases r with
    | cons h t => rw [List.reverse_cons, List.reverse_cons]; exact (ih t).append (.cons h .nil)
theorem RepVs.repl {ds : List D} {vs : List V} (r : RepVs G w ds vs) : ∀ n : Nat, RepVs G w (List.replicate n ds).flatten (List.replicate n vs).flatten
  | 0 => .nil
  | n + 1 => by rw [List.replicate_succ, List.replicate_succ]; exact r.append (RepVs.repl r n)
theorem SqT.keep' {K : PySem.W.Frag} {H H' : Hp} {a : Addr} {vs : List V} (h : SqT K H a vs) (k : ∀ xs, H a = some (.tup xs) → H' a = some (.tup xs)) (k2 : ∀ o xs, H a = some (.frz o (.tup xs)) → H' a = some (.frz o (.tup xs))) : SqT K H' a vs := by
  rcases h with (h | ⟨o, h⟩) | h
  · exact .inl (.inl (k _ h))
  · exact .inl (.inr ⟨o, k2 _ _ h⟩)
  · exact .inr h
theorem SOk.notLive {a : Addr} {o : HO} (O : SOk G w) (e : w.H a = some o) (n : ∀ xs, o ≠ .lst xs) : ¬ w.live a := fun ⟨l, ds, h, q⟩ => by
  obtain ⟨vs, h1, _⟩ := O.at l ds h
  rw [q, e] at h1
  exact n vs (Option.some.inj h1)
/-- what a change of the world must keep -/
structure Kept (w w' : Wd) : Prop where
  len : w.S.length ≤ w'.S.length
  agree : ∀ l, l < w.S.length → w'.rho l = w.rho l
  other : ∀ a o, w.H a = some o → (∀ xs, o ≠ .lst xs) → w'.H a = some o
  lists : ∀ a xs, w.H a = some (.lst xs) → ¬ w.live a → a ∉ w.R → w'.H a = some (.lst xs) ∧ ¬ w'.live a ∧ a ∉ w'.R
mutual
theorem RepV.kept (T : Kept w w') : ∀ {d : D} {v : V}, RepV G w d v → RepV G w' d v
  | _, _, .non => .non
  | _, _, .bl b => .bl b
  | _, _, .int i => .int i
  | _, _, .str x => .str x
  | _, _, .tup (a := a) hs hr => .tup (SqT.keep' hs (fun xs h => T.other _ _ h fun _ z => by cases z) (fun o xs h => T.other _ _ h fun _ z => by cases z)) (RepVs.kept T hr)
  | _, _, .lst h n m hr => .lst (T.lists _ _ h n m).1 (T.lists _ _ h n m).2.1 (T.lists _ _ h n m).2.2 (RepVs.kept T hr)
  | _, _, .frz h hr => .frz (T.other _ _ h fun _ z => by cases z) (RepVs.kept T hr)
  | _, _, .lstK h hr => .lstK h (RepVs.kept T hr)
  | _, _, .loc (l := l) h => by rw [← T.agree l h]; exact .loc (Nat.lt_of_lt_of_le h T.len)
  | _, _, .fn i => .fn i
theorem RepVs.kept (T : Kept w w') : ∀ {ds : List D} {vs : List V}, RepVs G w ds vs → RepVs G w' ds vs
  | _, _, .nil => .nil
  | _, _, .cons h t => .cons (RepV.kept T h) (RepVs.kept T t)
end
theorem Step.kept (O : SOk G w) (T : Step w w') : Kept w w' :=
  ⟨T.len, T.agree, fun a o h n => (T.keep a o h (O.notLive h n)).1, fun a xs h n m => ⟨(T.keep a _ h n).1, (T.keep a _ h n).2, by rw [T.resd]; exact m⟩⟩
theorem RepV.step (O : SOk G w) (T : Step w w') {d : D} {v : V} (r : RepV G w d v) : RepV G w' d v := r.kept (T.kept O)
theorem RepVs.step (O : SOk G w) (T : Step w w') {d : List D} {v : List V} (r : RepVs G w d v) : RepVs G w' d v := r.kept (T.kept O)
theorem RepV.seqLst {ds : List D} {v : V} (r : RepV G w (.lst ds) v) : ∃ a vs, v = .ref a ∧ w.H a = some (.lst vs) ∧ RepVs G w ds vs := by
  cases r with
  | lst h n m hr => exact ⟨_, _, rfl, h, hr⟩
theorem RepV.seqF {ds : List D} {v : V} (r : RepV G w (.fz ds) v) : ∃ a vs, v = .ref a ∧ SqL G.K w.H a vs ∧ RepVs G w ds vs := by
  cases r with
  | frz h hr => exact ⟨_, _, rfl, .inl (.inr ⟨_, h⟩), hr⟩
  | lstK h hr => exact ⟨_, _, rfl, .inr h, hr⟩
theorem RepV.seqLoc {l : Nat} {ds : List D} {v : V} (O : SOk G w) (e : w.S[l]? = some (some ds)) (r : RepV G w (.loc l) v) : ∃ a vs, v = .ref a ∧ a = w.rho l ∧ w.H a = some (.lst vs) ∧ RepVs G w ds vs := by
  cases r with
  | loc h => obtain ⟨vs, h1, h2⟩ := O.at l ds e; exact ⟨_, vs, rfl, rfl, h1, h2⟩
theorem RepV.seqT {ds : List D} {v : V} (r : RepV G w (.tup ds) v) : ∃ a vs, v = .ref a ∧ SqT G.K w.H a vs ∧ RepVs G w ds vs := by
  cases r with
  | tup h hr => exact ⟨_, _, rfl, h, hr⟩

/-- a new object is laid, no place of the store -/
abbrev Wd.put (w : Wd) (p : Addr) (o : HO) : Wd := { w with H := upd w.H p o }
abbrev Wd.hold (w : Wd) (p : Addr) : Wd := { w with R := p :: w.R }
theorem SOk.freshNot {p : Addr} (O : SOk G w) (n : w.H p = none) : ¬ w.live p := fun ⟨l, ds, h, q⟩ => by
  obtain ⟨vs, h1, _⟩ := O.at l ds h
  rw [q, n] at h1; cases h1
theorem SOk.freshR {p : Addr} (O : SOk G w) (n : w.H p = none) : p ∉ w.R := fun h => by
  obtain ⟨⟨xs, e⟩, _⟩ := O.res p h
  rw [n] at e; cases e
theorem Step.laid {p : Addr} {o : HO} (n : w.H p = none) : Step w (w.put p o) :=
  ⟨Nat.le_refl _, fun _ _ => rfl, fun a u h z => ⟨by show upd w.H p o a = _; rw [upd_ne (ne_of_none h n)]; exact h, z⟩, rfl, fun _ _ h => upd_there h⟩
theorem SOk.laid {p : Addr} {o : HO} (O : SOk G w) (n : w.H p = none) : SOk G (w.put p o) :=
  ⟨O.inj, fun l ds e => by
    obtain ⟨vs, h1, h2⟩ := O.at l ds e
    exact ⟨vs, by show upd w.H p o _ = _; rw [upd_ne (ne_of_none h1 n)]; exact h1, RepVs.step O (Step.laid n) h2⟩, fun r hr => by
    obtain ⟨⟨xs, h⟩, z⟩ := O.res r hr
    exact ⟨⟨xs, by show upd w.H p o _ = _; rw [upd_ne (ne_of_none h n)]; exact h⟩, z⟩⟩
/-- a place of the store is written -/
abbrev Wd.write (w : Wd) (l : Nat) (es : List D) (vs : List V) : Wd := { w with S := w.S.set l (some es), H := upd w.H (w.rho l) (.lst vs) }
theorem live_write {l : Nat} {ds es : List D} {vs : List V} (e : w.S[l]? = some (some ds)) {a : Addr} : (w.write l es vs).live a ↔ w.live a := by
  have hl : l < w.S.length := (List.getElem?_eq_some_iff.mp e).1
  constructor
  · rintro ⟨m, xs, h1, h2⟩
    by_cases q : l = m
    · subst q; exact ⟨l, ds, e, h2⟩
    · have h1' : (w.S.set l (some es))[m]? = some (some xs) := h1
      rw [List.getElem?_set_ne q] at h1'; exact ⟨m, xs, h1', h2⟩
  · rintro ⟨m, xs, h1, h2⟩
    by_cases q : l = m
    · subst q; exact ⟨l, es, by show (w.S.set l (some es))[l]? = _; rw [List.getElem?_set_self hl], h2⟩
    · exact ⟨m, xs, by show (w.S.set l (some es))[m]? = _; rw [List.getElem?_set_ne q]; exact h1, h2⟩
theorem Step.write {l : Nat} {ds es : List D} {vs : List V} (e : w.S[l]? = some (some ds)) : Step w (w.write l es vs) :=
  ⟨by simp, fun _ _ => rfl, fun a o h n => by
    have ne : a ≠ w.rho l := fun z => n ⟨l, ds, e, z.symm⟩
    exact ⟨by show upd w.H _ _ a = _; rw [upd_ne ne]; exact h, fun z => n ((live_write e).mp z)⟩, rfl, fun _ _ h => upd_there h⟩
theorem SOk.write {l : Nat} {ds es : List D} {vs : List V} (O : SOk G w) (e : w.S[l]? = some (some ds)) (r : RepVs G w es vs) : SOk G (w.write l es vs) := by
  have T : Step w (w.write l es vs) := Step.write e
  have hl : l < w.S.length := (List.getElem?_eq_some_iff.mp e).1
  have live : ∀ m xs, (w.S.set l (some es))[m]? = some (some xs) → ∃ ys, w.S[m]? = some (some ys) := fun m xs h => by
    by_cases q : l = m
    · subst q; exact ⟨ds, e⟩
    · rw [List.getElem?_set_ne q] at h; exact ⟨xs, h⟩
  refine ⟨fun a b xs ys h1 h2 => ?_, fun m xs h => ?_, fun r hr => ?_⟩
  · obtain ⟨zs, q1⟩ := live a xs h1
    obtain ⟨ws, q2⟩ := live b ys h2
    exact O.inj a b zs ws q1 q2
  · by_cases q : l = m
    · subst q
      have h' : (w.S.set l (some es))[l]? = some (some xs) := h
      rw [List.getElem?_set_self hl] at h'
      cases h'
      exact ⟨vs, upd_same, RepVs.step O T r⟩
    · have h' : (w.S.set l (some es))[m]? = some (some xs) := h
      rw [List.getElem?_set_ne q] at h'
      obtain ⟨ws, h1, h2⟩ := O.at m xs h'
      have ne : w.rho m ≠ w.rho l := fun z => q (O.inj l m ds xs e h' z.symm)
      exact ⟨ws, by show upd w.H _ _ (w.rho m) = _; rw [upd_ne ne]; exact h1, RepVs.step O T h2⟩
  · obtain ⟨⟨xs, h⟩, z⟩ := O.res r hr
    exact ⟨⟨xs, (T.keep _ _ h z).1⟩, (T.keep _ _ h z).2⟩
/-! lists that are being made -/
theorem hold_kept {p : Addr} (n : w.H p = none) : Kept w (w.hold p) :=
  ⟨Nat.le_refl _, fun _ _ => rfl, fun _ _ h _ => h, fun a xs h z m => ⟨h, z, fun q => by
    rcases List.mem_cons.mp q with rfl | q
    · rw [n] at h; cases h
    · exact m q⟩⟩
theorem free_kept {p : Addr} : Kept (w.hold p) w := ⟨Nat.le_refl _, fun _ _ => rfl, fun _ _ h _ => h, fun a xs h z m => ⟨h, z, fun q => m (List.mem_cons_of_mem _ q)⟩⟩
/-- a new list at p is laid and held -/
theorem SOk.begin {p : Addr} {xs : List V} (O : SOk G w) (n : w.H p = none) : SOk G ((w.put p (.lst xs)).hold p) := by
  have O1 : SOk G (w.put p (.lst xs)) := O.laid n
  refine ⟨O1.inj, fun l ds e => ?_, fun r hr => ?_⟩
  · obtain ⟨vs, h1, h2⟩ := O.at l ds e
    refine ⟨vs, by show upd w.H p _ _ = _; rw [upd_ne (ne_of_none h1 n)]; exact h1, (h2.kept (hold_kept n)).kept ?_⟩
    exact ⟨Nat.le_refl _, fun _ _ => rfl, fun a o h _ => by show upd w.H p _ a = _; rw [upd_ne (ne_of_none h n)]; exact h, fun a xs h z m => ⟨by show upd w.H p _ a = _; rw [upd_ne (ne_of_none h n)]; exact h, z, m⟩⟩
  · rcases List.mem_cons.mp hr with rfl | hr
    · exact ⟨⟨xs, upd_same⟩, O.freshNot n⟩
    · exact O1.res r hr
theorem begin_kept {p : Addr} {xs : List V} (n : w.H p = none) : Kept w ((w.put p (.lst xs)).hold p) :=
  ⟨Nat.le_refl _, fun _ _ => rfl, fun a o h _ => by show upd w.H p _ a = _; rw [upd_ne (ne_of_none h n)]; exact h, fun a ys h z m => ⟨by show upd w.H p _ a = _; rw [upd_ne (ne_of_none h n)]; exact h, z, fun q => by
    rcases List.mem_cons.mp q with rfl | q
    · rw [n] at h; cases h
    · exact m q⟩⟩
/-- the list that is held grows -/
theorem more_kept {p : Addr} {xs ys : List V} (hp : p ∈ w.R) (e : w.H p = some (.lst xs)) : Kept w (w.put p (.lst ys)) :=
  ⟨Nat.le_refl _, fun _ _ => rfl, fun a o h n => by
    have ne : a ≠ p := fun z => by subst z; rw [e] at h; exact n _ (Option.some.inj h).symm
    show upd w.H p _ a = _; rw [upd_ne ne]; exact h, fun a zs h z m => by
    have ne : a ≠ p := fun q => by subst q; exact m hp
    exact ⟨by show upd w.H p _ a = _; rw [upd_ne ne]; exact h, z, m⟩⟩
theorem SOk.more {p : Addr} {xs ys : List V} (O : SOk G w) (hp : p ∈ w.R) (e : w.H p = some (.lst xs)) : SOk G (w.put p (.lst ys)) := by
  have nl : ¬ w.live p := (O.res p hp).2
  refine ⟨O.inj, fun l ds h => ?_, fun r hr => ?_⟩
  · obtain ⟨vs, h1, h2⟩ := O.at l ds h
    have ne : w.rho l ≠ p := fun z => nl ⟨l, ds, h, z⟩
    exact ⟨vs, by show upd w.H p _ _ = _; rw [upd_ne ne]; exact h1, h2.kept (more_kept hp e)⟩
  · by_cases q : r = p
    · subst q; exact ⟨⟨ys, upd_same⟩, nl⟩
    · obtain ⟨⟨zs, h⟩, z⟩ := O.res r hr
      exact ⟨⟨zs, by show upd w.H p _ r = _; rw [upd_ne q]; exact h⟩, z⟩
theorem SOk.free {p : Addr} (O : SOk G (w.hold p)) : SOk G w :=
  ⟨O.inj, fun l ds h => let ⟨vs, h1, h2⟩ := O.at l ds h; ⟨vs, h1, h2.kept free_kept⟩, fun r hr => O.res r (List.mem_cons_of_mem _ hr)⟩
/-- a made list becomes a place of the store -/
def ext (rho : Nat → Addr) (n : Nat) (p : Addr) : Nat → Addr := fun l => if l = n then p else rho l
theorem ext_lt {rho : Nat → Addr} {n l : Nat} {p : Addr} (h : l < n) : ext rho n p l = rho l := if_neg (Nat.ne_of_lt h)
theorem ext_same {rho : Nat → Addr} {n : Nat} {p : Addr} : ext rho n p n = p := if_pos rfl
abbrev Wd.alloc (w : Wd) (p : Addr) (ds : List D) : Wd := { w with rho := ext w.rho w.S.length p, S := w.S ++ [some ds] }
theorem alloc_at {p : Addr} {ds : List D} {l : Nat} {xs : List D} (e : (w.S ++ [some ds])[l]? = some (some xs)) : (w.S[l]? = some (some xs) ∧ l < w.S.length ∧ ext w.rho w.S.length p l = w.rho l) ∨ (l = w.S.length ∧ xs = ds) := by
  by_cases q : l < w.S.length
  · rw [List.getElem?_append_left q] at e; exact .inl ⟨e, q, ext_lt q⟩
  · rw [List.getElem?_append_right (Nat.le_of_not_lt q)] at e
    by_cases z : l = w.S.length
    · subst z; simp at e; exact .inr ⟨rfl, e.symm⟩
    · have : l - w.S.length = (l - w.S.length - 1) + 1 := by omega
      rw [this] at e; simp at e
theorem alloc_live {p : Addr} {ds : List D} {a : Addr} (h : (w.alloc p ds).live a) : w.live a ∨ a = p := by
  obtain ⟨l, xs, h1, h2⟩ := h
  rcases alloc_at (p := p) h1 with ⟨e, _, q⟩ | ⟨e, _⟩
  · have h2' : ext w.rho w.S.length p l = a := h2
    rw [q] at h2'; exact .inl ⟨l, xs, e, h2'⟩
  · have h2' : ext w.rho w.S.length p l = a := h2
    rw [e, ext_same] at h2'; exact .inr h2'.symm
theorem alloc_kept {p : Addr} {ds : List D} : Kept (w.hold p) (w.alloc p ds) :=
  ⟨by simp, fun l h => ext_lt h, fun _ _ h _ => h, fun a xs h z m => ⟨h, fun q => by
    rcases alloc_live q with q | rfl
    · exact z q
    · exact m List.mem_cons_self, fun q => m (List.mem_cons_of_mem _ q)⟩⟩
theorem SOk.alloc {p : Addr} {ds : List D} {vs : List V} (O : SOk G (w.hold p)) (h : w.H p = some (.lst vs)) (r : RepVs G (w.hold p) ds vs) (hp : p ∉ w.R) : SOk G (w.alloc p ds) := by
  have nl : ¬ w.live p := (O.res p List.mem_cons_self).2
  refine ⟨fun a b xs ys h1 h2 e => ?_, fun l xs h1 => ?_, fun r hr => ?_⟩
  · have e' : ext w.rho w.S.length p a = ext w.rho w.S.length p b := e
    rcases alloc_at (p := p) h1 with ⟨e1, _, q1⟩ | ⟨e1, _⟩ <;> rcases alloc_at (p := p) h2 with ⟨e2, _, q2⟩ | ⟨e2, _⟩
    · rw [q1, q2] at e'; exact O.inj a b xs ys e1 e2 e'
    · rw [q1, e2, ext_same] at e'; exact absurd ⟨a, xs, e1, e'⟩ nl
    · rw [q2, e1, ext_same] at e'; exact absurd ⟨b, ys, e2, e'.symm⟩ nl
    · rw [e1, e2]
  · rcases alloc_at (p := p) h1 with ⟨e1, _, q1⟩ | ⟨e1, e2⟩
    · obtain ⟨ws, h3, h4⟩ := O.at l xs e1
      exact ⟨ws, by show w.H (ext w.rho w.S.length p l) = _; rw [q1]; exact h3, h4.kept alloc_kept⟩
    · subst e2
      exact ⟨vs, by show w.H (ext w.rho w.S.length p l) = _; rw [e1, ext_same]; exact h, r.kept alloc_kept⟩
  · obtain ⟨e, z⟩ := O.res r (List.mem_cons_of_mem _ hr)
    exact ⟨e, fun q => by
      rcases alloc_live q with q | rfl
      · exact z q
      · exact hp hr⟩
/-- a place becomes a list by value -/
abbrev Wd.freeze (w : Wd) (l : Nat) : Wd := { w with S := w.S.set l none }
theorem freeze_at {l m : Nat} {xs : List D} (e : (w.S.set l none)[m]? = some (some xs)) : w.S[m]? = some (some xs) ∧ m ≠ l := by
  by_cases q : l = m
  · subst q
    by_cases hl : l < w.S.length
    · rw [List.getElem?_set_self hl] at e; cases e
    · rw [List.getElem?_eq_none (by simpa using hl)] at e; cases e
  · rw [List.getElem?_set_ne q] at e; exact ⟨e, fun z => q z.symm⟩
theorem freeze_live {l : Nat} {a : Addr} (h : (w.freeze l).live a) : w.live a := let ⟨m, xs, h1, h2⟩ := h; ⟨m, xs, (freeze_at h1).1, h2⟩
theorem freeze_step {l : Nat} : Step w (w.freeze l) := ⟨by simp, fun _ _ => rfl, fun a o h n => ⟨h, fun z => n (freeze_live z)⟩, rfl, fun _ o h => ⟨o, h⟩⟩
theorem SOk.freeze {l : Nat} (O : SOk G w) : SOk G (w.freeze l) :=
  ⟨fun a b xs ys h1 h2 e => O.inj a b xs ys (freeze_at h1).1 (freeze_at h2).1 e, fun m xs h => let ⟨vs, h1, h2⟩ := O.at m xs (freeze_at h).1; ⟨vs, h1, RepVs.step O freeze_step h2⟩, fun r hr => ⟨(O.res r hr).1, fun z => (O.res r hr).2 (freeze_live z)⟩⟩
theorem RepV.frozen {l : Nat} {ds : List D} {v : V} (O : SOk G w) (e : w.S[l]? = some (some ds)) (r : RepV G w (.loc l) v) : RepV G (w.freeze l) (.lst ds) v := by
  cases r with
  | loc h =>
    obtain ⟨vs, h1, h2⟩ := O.at l ds e
    refine .lst h1 (fun ⟨m, xs, q1, q2⟩ => ?_) (fun z => (O.res _ z).2 ⟨l, ds, e, rfl⟩) (RepVs.step O freeze_step h2)
    obtain ⟨q1, ne⟩ := freeze_at q1
    exact ne (O.inj m l xs ds q1 e q2)
/-- from ahead of a list's making to the place that it becomes -/
theorem alloc_step {w0 : Wd} {p : Addr} {ds : List D} (T : Step w0 w) (n : w0.H p = none) : Step w0 (w.alloc p ds) :=
  ⟨Nat.le_trans T.len (by simp), fun l h => (ext_lt (Nat.lt_of_lt_of_le h T.len)).trans (T.agree l h), fun a o h z => ⟨(T.keep a o h z).1, fun q => by
    rcases alloc_live q with q | rfl
    · exact (T.keep a o h z).2 q
    · rw [n] at h; cases h⟩, T.resd, T.there⟩
/-- what a callee left in the store is forgotten -/
abbrev Wd.trim (w : Wd) (n : Nat) : Wd := { w with S := w.S.take n }
theorem trim_at {n l : Nat} {xs : List D} (e : (w.S.take n)[l]? = some (some xs)) : w.S[l]? = some (some xs) ∧ l < n := by
  by_cases h : l < n
  · rw [List.getElem?_take_of_lt h] at e; exact ⟨e, h⟩
  · rw [List.getElem?_eq_none (by simp; omega)] at e; cases e
theorem trim_live {n : Nat} {a : Addr} (h : (w.trim n).live a) : w.live a := let ⟨m, xs, h1, h2⟩ := h; ⟨m, xs, (trim_at h1).1, h2⟩
mutual
/-- no place from n on -/
def below (n : Nat) : D → Bool
  | .tup ds => belows n ds
  | .lst ds => belows n ds
  | .fz ds => belows n ds
  | .loc l => Nat.blt l n
  | _ => true
def belows (n : Nat) : List D → Bool
  | [] => true
  | d :: ds => below n d && belows n ds
end
theorem trim_step {w0 : Wd} (T : Step w0 w) : Step w0 (w.trim w0.S.length) :=
  ⟨by show _ ≤ (w.S.take _).length; rw [List.length_take]; have := T.len; omega, T.agree, fun a o h n => ⟨(T.keep a o h n).1, fun z => (T.keep a o h n).2 (trim_live z)⟩, T.resd, T.there⟩
mutual
theorem RepV.trim {n : Nat} (hn : n ≤ w.S.length) : ∀ {d : D} {v : V}, RepV G w d v → below n d = true → RepV G (w.trim n) d v
  | _, _, .non, _ => .non
  | _, _, .bl b, _ => .bl b
  | _, _, .int i, _ => .int i
  | _, _, .str x, _ => .str x
  | _, _, .tup hs hr, h => .tup hs (RepVs.trim hn hr (by simpa [below] using h))
  | _, _, .lst h n' m hr, q => .lst h (fun z => n' (trim_live z)) m (RepVs.trim hn hr (by simpa [below] using q))
  | _, _, .frz h hr, q => .frz h (RepVs.trim hn hr (by simpa [below] using q))
  | _, _, .lstK h hr, q => .lstK h (RepVs.trim hn hr (by simpa [below] using q))
  | _, _, .loc (l := l) h, q => .loc (w := w.trim n) (by
      have q' : Nat.blt l n = true := by simpa [below] using q
      have := Nat.le_of_ble_eq_true q'
      simp; omega)
  | _, _, .fn i, _ => .fn i
theorem RepVs.trim {n : Nat} (hn : n ≤ w.S.length) : ∀ {ds : List D} {vs : List V}, RepVs G w ds vs → belows n ds = true → RepVs G (w.trim n) ds vs
  | _, _, .nil, _ => .nil
  | _, _, .cons h t, q => by
    have q' := Bool.and_eq_true_iff.mp (show (below n _ && belows n _) = true by simpa [belows] using q)
    exact .cons (RepV.trim hn h q'.1) (RepVs.trim hn t q'.2)
end
def belowS (n : Nat) : Store → Bool
  | [] => true
  | none :: s => belowS n s
  | some ds :: s => belows n ds && belowS n s
theorem belowS_at {n : Nat} : ∀ {S : Store} {l : Nat} {ds : List D}, belowS n S = true → S[l]? = some (some ds) → belows n ds = true
  | [], _, _, _, e => by simp at e
  | none :: s, 0, _, _, e => by simp at e
  | none :: s, l + 1, _, h, e => belowS_at (S := s) (by simpa [belowS] using h) (by simpa using e)
  | some xs :: s, 0, _, h, e => by simp at e; subst e; exact (Bool.and_eq_true_iff.mp (by simpa [belowS] using h)).1
  | some xs :: s, l + 1, _, h, e => belowS_at (S := s) (Bool.and_eq_true_iff.mp (show (belows n xs && belowS n s) = true by simpa [belowS] using h)).2 (by simpa using e)
theorem SOk.trim {n : Nat} (O : SOk G w) (hn : n ≤ w.S.length) (hb : belowS n (w.S.take n) = true) : SOk G (w.trim n) :=
  ⟨fun a b xs ys h1 h2 e => O.inj a b xs ys (trim_at h1).1 (trim_at h2).1 e, fun l ds h => by
    obtain ⟨vs, h1, h2⟩ := O.at l ds (trim_at h).1
    exact ⟨vs, h1, h2.trim hn (belowS_at hb h)⟩, fun r hr => ⟨(O.res r hr).1, fun z => (O.res r hr).2 (trim_live z)⟩⟩
end
end Ev
namespace Ev
open PySem PySem.Spec L2
open PyProof.Rows hiding St

/-! outcomes -/
/-- an exception: its class by number, what it keeps -/
structure Ex where
  cls : Nat
  fs : List D
inductive O (α : Type) where
  | ok (a : α) (S : Store)
  | exc (x : Ex) (S : Store)
  | bad
@[reducible] def O.bind {α β : Type} (o : O α) (k : α → Store → O β) : O β := match o with
  | .ok a S => k a S
  | .exc x S => .exc x S
  | .bad => .bad
/-- how an exception of the program lies: cls its class, d its own dict -/
abbrev XRepT := Wd → Ex → Value → Option Addr → Prop

section
variable {G : Gd} {XR : XRepT} {W : Value → Option Addr → Hp → Prop} {α β : Type} {R : Wd → α → β → Prop} {w w' : Wd}
/-- what an outcome promises -/
def Want (G : Gd) (XR : XRepT) (W : Value → Option Addr → Hp → Prop) (R : Wd → α → β → Prop) (w : Wd) (Q : β → Hp → Prop) : O α → Prop
  | .ok d S' => ∀ (v : β) (w' : Wd), Step w w' → w'.S = S' → SOk G w' → R w' d v → Q v w'.H
  | .exc x S' => ∀ (w' : Wd) (cls : Value) (d : Option Addr), Step w w' → w'.S = S' → SOk G w' → XR w' x cls d → W cls d w'.H
  | .bad => False
theorem Want.from {Q : β → Hp → Prop} {o : O α} (T : Step w w') (h : Want G XR W R w Q o) : Want G XR W R w' Q o := by
  cases o with
  | ok d S' => exact fun v w2 T2 e o r => h v w2 (T.trans T2) e o r
  | exc x S' => exact fun w2 c d T2 e o r => h w2 c d (T.trans T2) e o r
  | bad => exact h
theorem Want.imp {Q Q' : β → Hp → Prop} {o : O α} (h : Want G XR W R w Q o) (f : ∀ v H, Q v H → Q' v H) : Want G XR W R w Q' o := by
  cases o with
  | ok d S' => exact fun v w2 T2 e o r => f _ _ (h v w2 T2 e o r)
  | exc x S' => exact h
  | bad => exact h
theorem Want.bind {γ δ : Type} {R' : Wd → γ → δ → Prop} {Q : δ → Hp → Prop} {Q1 : β → Hp → Prop} {o : O α} {k : α → Store → O γ} (h : Want G XR W R' w Q (o.bind k))
    (hk : ∀ d v w', Step w w' → SOk G w' → R w' d v → Want G XR W R' w' Q (k d w'.S) → Q1 v w'.H) : Want G XR W R w Q1 o := by
  cases o with
  | ok d S' => exact fun v w2 T2 e o r => hk d v w2 T2 o r (by subst e; exact Want.from T2 h)
  | exc x S' => exact h
  | bad => exact h
theorem Want.bind0 {γ δ : Type} {R' : Wd → γ → δ → Prop} {Q : δ → Hp → Prop} {Q1 : β → Hp → Prop} {o : O α} {k : α → Store → O γ} (h : Want G XR W R' w Q (o.bind k))
    (hk : ∀ d v w', o = .ok d w'.S → Step w w' → SOk G w' → R w' d v → Want G XR W R' w Q (k d w'.S) → Q1 v w'.H) : Want G XR W R w Q1 o := by
  cases o with
  | ok d S' => exact fun v w2 T2 e o r => hk d v w2 (by rw [e]) T2 o r (by subst e; exact h)
  | exc x S' => exact h
  | bad => exact h
theorem Want.ret {Q : β → Hp → Prop} {a : α} {v : β} (O : SOk G w) (r : R w a v) (h : Want G XR W R w Q (.ok a w.S)) : Q v w.H := h v w Step.refl rfl O r
/-- a result in a new world -/
theorem Want.at {Q : β → Hp → Prop} {a : α} {v : β} {S' : Store} (h : Want G XR W R w Q (.ok a S')) (T : Step w w') (e : w'.S = S') (O : SOk G w') (r : R w' a v) : Q v w'.H := h v w' T e O r
end

/-! the slots -/
structure RepE (G : Gd) (w : Wd) (E : EnvD) (σ : St) : Prop where
  len : E.length = σ.length
  «at» : ∀ (i : Nat) (d : D), E[i]? = some (some d) → ∃ v, σ[i]? = some (some v) ∧ RepV G w d v
theorem RepE.step {G : Gd} {w w' : Wd} {E : EnvD} {σ : St} (O : SOk G w) (T : Step w w') (r : RepE G w E σ) : RepE G w' E σ :=
  ⟨r.len, fun i d e => let ⟨v, h1, h2⟩ := r.at i d e; ⟨v, h1, h2.step O T⟩⟩
theorem RepE.kept {G : Gd} {w w' : Wd} {E : EnvD} {σ : St} (T : Kept w w') (r : RepE G w E σ) : RepE G w' E σ :=
  ⟨r.len, fun i d e => let ⟨v, h1, h2⟩ := r.at i d e; ⟨v, h1, h2.kept T⟩⟩
theorem RepE.set {G : Gd} {w : Wd} {E : EnvD} {σ : St} {d : D} {v : V} (r : RepE G w E σ) (i : Nat) (q : RepV G w d v) : RepE G w (E.set i (some d)) (σ.set i (some v)) :=
  ⟨by simp [r.len], fun j x e => by
    by_cases h : i = j
    · subst h
      by_cases hi : i < E.length
      · rw [List.getElem?_set_self hi] at e
        cases e
        exact ⟨v, by rw [List.getElem?_set_self (by rw [← r.len]; exact hi)], q⟩
      · rw [List.getElem?_eq_none (by simpa using hi)] at e; cases e
    · rw [List.getElem?_set_ne h] at e
      obtain ⟨u, h1, h2⟩ := r.at j x e
      exact ⟨u, by rw [List.getElem?_set_ne h]; exact h1, h2⟩⟩
def wipeD (E : EnvD) : List Nat → EnvD
  | [] => E
  | v :: vs => (wipeD E vs).set v none
theorem RepE.wipe {G : Gd} {w : Wd} {E : EnvD} {σ : St} (r : RepE G w E σ) : ∀ vs : List Nat, RepE G w (wipeD E vs) (L2.wipe σ vs)
  | [] => r
  | v :: vs => by
    have q := RepE.wipe r vs
    refine ⟨by show ((wipeD E vs).set v none).length = ((L2.wipe σ vs).set v none).length; simp [q.len], fun j x e => ?_⟩
    have e' : ((wipeD E vs).set v none)[j]? = some (some x) := e
    by_cases h : v = j
    · subst h
      by_cases hi : v < (wipeD E vs).length
      · rw [List.getElem?_set_self hi] at e'; cases e'
      · rw [List.getElem?_eq_none (by simpa using hi)] at e'; cases e'
    · rw [List.getElem?_set_ne h] at e'
      obtain ⟨u, h1, h2⟩ := q.at j x e'
      exact ⟨u, by show ((L2.wipe σ vs).set v none)[j]? = _; rw [List.getElem?_set_ne h]; exact h1, h2⟩

/-! judgements -/
abbrev FE := EnvD → Store → O D
abbrev FA := EnvD → Store → O (List D)
abbrev FC := EnvD → Store → O Bool
section
variable (G : Gd) (XR : XRepT)
def PEd (X : Cx) (W : WX) (e : Expr) (f : FE) : Prop := ∃ t, PE X e t ∧ ∀ (σ : St) (w : Wd) (E : EnvD) (Q : VK), SOk G w → RepE G w E σ → Want G XR (fun c d H => W c d σ H) (RepV G) w Q (f E w.S) → t σ w.H Q
def PAd (X : Cx) (W : WX) (es : List Expr) (f : FA) : Prop := ∃ t, PA X es t ∧ ∀ (σ : St) (w : Wd) (E : EnvD) (Q : List V → Hp → Prop), SOk G w → RepE G w E σ → Want G XR (fun c d H => W c d σ H) (RepVs G) w Q (f E w.S) → t σ w.H Q
def PCd (X : Cx) (W : WX) (e : Expr) (f : FC) : Prop := ∃ t, PT X e t ∧ ∀ (σ : St) (w : Wd) (E : EnvD) (Q : Bool → Hp → Prop), SOk G w → RepE G w E σ → Want G XR (fun c d H => W c d σ H) (fun _ a b => a = b) w Q (f E w.S) → t σ w.H Q
/-- an expression that makes a new list: its items -/
def RepL (w : Wd) (ds : List D) (v : V) : Prop := ∃ p vs, v = .ref p ∧ w.H p = some (.lst vs) ∧ p ∉ w.R ∧ SOk G (w.hold p) ∧ RepVs G (w.hold p) ds vs
def PLd (X : Cx) (W : WX) (e : Expr) (f : FA) : Prop := ∃ t, PE X e t ∧ ∀ (σ : St) (w : Wd) (E : EnvD) (Q : VK), SOk G w → RepE G w E σ →
  Want G XR (fun c d H => W c d σ H) (fun w' ds v => RepL G w' ds v ∧ ∀ p, v = .ref p → w.H p = none) w Q (f E w.S) → t σ w.H Q
end

section
variable {G : Gd} {XR : XRepT} {X : Cx} {W : WX} {e a b c : Expr} {es : List Expr} {f g h : FE} {fs : FA} {pos : Pos}
theorem ped_bad : PEd G XR X W e (fun _ _ => .bad) := ⟨fun _ _ _ => False, ⟨fun _ _ _ _ _ _ z => z.elim⟩, fun _ _ _ _ _ _ z => z⟩
theorem pld_bad : PLd G XR X W e (fun _ _ => .bad) := ⟨fun _ _ _ => False, ⟨fun _ _ _ _ _ _ z => z.elim⟩, fun _ _ _ _ _ _ z => z⟩
theorem pcd_bad : PCd G XR X W e (fun _ _ => .bad) := ⟨fun _ _ _ => False, ⟨fun _ _ _ _ _ _ z => z.elim⟩, fun _ _ _ _ _ _ z => z⟩
theorem ped_const {v : V} {d : D} (he : PE X e (tC v)) (r : ∀ w, RepV G w d v) : PEd G XR X W e (fun _ S => .ok d S) :=
  ⟨_, he, fun σ w E Q O rE q => Want.ret O (r w) q⟩
theorem ped_var {i : Nat} (he : PE X e (tVar i)) : PEd G XR X W e (fun E S => match E[i]? with | some (some d) => .ok d S | _ => .bad) := by
  refine ⟨_, he, fun σ w E Q O rE q => ?_⟩
  dsimp only at q
  split at q
  · rename_i d hd
    obtain ⟨v, h1, h2⟩ := rE.at i d hd
    exact ⟨v, h1, Want.ret O h2 q⟩
  · exact q.elim
/-- by value -/
theorem ped_of_pld {f : FA} (h : PLd G XR X W e f) : PEd G XR X W e (fun E S => (f E S).bind fun ds S' => .ok (.lst ds) S') := by
  obtain ⟨t, ht, h⟩ := h
  refine ⟨t, ht, fun σ w E Q O rE q => h σ w E Q O rE (Want.bind q fun ds v w' T O' ⟨⟨p, vs, ev, hp, hR, Oh, r⟩, _⟩ q' => ?_)⟩
  subst ev
  exact Want.ret O' (.lst hp (Oh.res p List.mem_cons_self).2 hR (r.kept free_kept)) q'
/-- as a place of the store -/
theorem ped_alloc {f : FA} (h : PLd G XR X W e f) : PEd G XR X W e (fun E S => (f E S).bind fun ds S' => .ok (.loc S'.length) (S' ++ [some ds])) := by
  obtain ⟨t, ht, h⟩ := h
  refine ⟨t, ht, fun σ w E Q O rE q => h σ w E Q O rE (Want.bind0 q fun ds v w' _ T O' ⟨⟨p, vs, ev, hp, hR, Oh, r⟩, hn⟩ q' => ?_)⟩
  subst ev
  refine Want.at (w' := w'.alloc p ds) q' (alloc_step T (hn p rfl)) rfl (SOk.alloc Oh hp r hR) ?_
  have z : RepV G (w'.alloc p ds) (.loc w'.S.length) (.ref ((w'.alloc p ds).rho w'.S.length)) := .loc (by simp)
  have e : (w'.alloc p ds).rho w'.S.length = p := ext_same
  rw [e] at z
  exact z
/-! arguments -/
theorem pad_nil : PAd G XR X W [] (fun _ S => .ok [] S) := ⟨_, pa_nil, fun σ w E Q O rE q => Want.ret O (RepVs.nil) q⟩
theorem pad_cons (h1 : PEd G XR X W e f) (h2 : PAd G XR X W es fs) (hs : starEach (e :: es) X.env = (false, eval e X.env) :: starEach es X.env) :
    PAd G XR X W (e :: es) (fun E S => (f E S).bind fun d S1 => (fs E S1).bind fun ds S2 => .ok (d :: ds) S2) := by
  obtain ⟨t, ht, h1⟩ := h1
  obtain ⟨u, hu, h2⟩ := h2
  refine ⟨_, pa_cons ht hu hs, fun σ w E Q O rE q => ?_⟩
  refine h1 σ w E _ O rE (Want.bind q fun d v w1 T1 O1 r1 q1 => ?_)
  refine h2 σ w1 E _ O1 (rE.step O T1) (Want.bind q1 fun ds vs w2 T2 O2 r2 q2 => ?_)
  exact Want.ret O2 (RepVs.cons (r1.step O1 T2) r2) q2
/-! displays -/
theorem ped_tup {x1 : Nat} (h : PAd G XR X W es fs) (hl : ∀ E S ds S', fs E S = .ok ds S' → ds.length ≤ sizeLine) : PEd G XR X W (.Tuple es x1 pos) (fun E S => (fs E S).bind fun ds S' => .ok (.tup ds) S') := by
  obtain ⟨t, ht, h⟩ := h
  refine ⟨_, pe_tup ht, fun σ w E Q O rE q => h σ w E _ O rE (Want.bind0 q fun ds v w' hf T O' r q' => ⟨by rw [← r.length]; exact hl E w.S ds _ hf, fun p np => ?_⟩)⟩
  exact Want.at (w' := w'.put p (.tup v)) q' (T.trans (Step.laid np)) rfl (O'.laid np) (.tup (.inl (.inl upd_same)) (r.step O' (Step.laid np)))
theorem pld_lst (h : PAd G XR X W es fs) (hl : ∀ E S ds S', fs E S = .ok ds S' → ds.length ≤ sizeLine) : PLd G XR X W (.List es pos) fs := by
  obtain ⟨t, ht, h⟩ := h
  refine ⟨_, pe_lst ht, fun σ w E Q O rE q => h σ w E _ O rE ?_⟩
  have hl' := hl E w.S
  revert q
  cases hf : fs E w.S with
  | ok ds S' =>
    intro q v w' T eS O' r
    refine ⟨by rw [← r.length]; exact hl' ds S' hf, fun p np => ?_⟩
    refine q (.ref p) (w'.put p (.lst v)) (T.trans (Step.laid np)) eS (O'.laid np) ⟨⟨p, v, rfl, upd_same, O'.freshR np, O'.begin np, r.kept (begin_kept np)⟩, fun p' e => ?_⟩
    cases e
    exact T.gone np
  | exc x S' => exact fun q => q
  | bad => exact fun q => q
end
end Ev
namespace Ev
open PySem PySem.Spec L2
open PyProof.Rows hiding St

/-! sizes -/
abbrev lim : Nat := 1000000
theorem lim_le {n : Nat} (h : Nat.ble n lim = true) : n ≤ sizeLine := Nat.le_trans (Nat.le_of_ble_eq_true h) (by rw [sizeLine_eq]; decide)
theorem lim_lt {n : Nat} (h : Nat.ble n lim = true) : n < sizeLine := Nat.lt_of_le_of_lt (Nat.le_of_ble_eq_true h) (by rw [sizeLine_eq]; decide)
/-- the items of a list (by value or by place) -/
def lstOf (S : Store) : D → Option (List D)
  | .lst ds => some ds
  | .loc l => match S[l]? with
    | some (some ds) => some ds
    | _ => none
  | _ => none
/-- the items of a list or tuple, and which -/
inductive SK where
  | l | t
def seqOf (S : Store) : D → Option (SK × List D)
  | .lst ds => some (.l, ds)
  | .fz ds => some (.l, ds)
  | .tup ds => some (.t, ds)
  | .loc l => match S[l]? with
    | some (some ds) => some (.l, ds)
    | _ => none
  | _ => none
section
variable {G : Gd} {w : Wd}
theorem lstOf_rep {d : D} {ds : List D} {v : V} (O : SOk G w) (r : RepV G w d v) (e : lstOf w.S d = some ds) : ∃ a vs, v = .ref a ∧ w.H a = some (.lst vs) ∧ RepVs G w ds vs := by
  cases d with
  | lst xs => cases e; exact r.seqLst
  | loc l =>
    unfold lstOf at e
    dsimp only at e
    split at e
    · rename_i h
      cases e
      obtain ⟨a, vs, h1, _, h2, h3⟩ := r.seqLoc O h
      exact ⟨a, vs, h1, h2, h3⟩
    · cases e
  | _ => cases e
theorem seqOf_rep {d : D} {k : SK} {ds : List D} {v : V} (O : SOk G w) (r : RepV G w d v) (e : seqOf w.S d = some (k, ds)) :
    ∃ a vs, v = .ref a ∧ RepVs G w ds vs ∧ (match k with | .l => SqL G.K w.H a vs | .t => SqT G.K w.H a vs) := by
  cases d with
  | lst xs => cases e; obtain ⟨a, vs, h1, h2, h3⟩ := r.seqLst; exact ⟨a, vs, h1, h3, .inl (.inl h2)⟩
  | fz xs => cases e; obtain ⟨a, vs, h1, h2, h3⟩ := r.seqF; exact ⟨a, vs, h1, h3, h2⟩
  | tup xs => cases e; obtain ⟨a, vs, h1, h2, h3⟩ := r.seqT; exact ⟨a, vs, h1, h3, h2⟩
  | loc l =>
    unfold seqOf at e
    dsimp only at e
    split at e
    · rename_i h
      cases e
      obtain ⟨a, vs, h1, _, h2, h3⟩ := r.seqLoc O h
      exact ⟨a, vs, h1, h3, .inl (.inl h2)⟩
    · cases e
  | _ => cases e
end

/-! operators by values -/
abbrev WX0 := Value → Option Addr → Hp → Prop
def OpD (G : Gd) (XR : XRepT) (X : Cx) (f : Value → Value → Sem Value) (g : D → D → Store → O D) : Prop :=
  ∃ r, OpR X f r ∧ ∀ (w : Wd) (x y : V) (d e : D) (Q : VK) (Wx : WX0), SOk G w → RepV G w d x → RepV G w e y → Want G XR Wx (RepV G) w Q (g d e w.S) → r x y w.H Q
def UnD (G : Gd) (XR : XRepT) (X : Cx) (f : Value → Sem Value) (g : D → Store → O D) : Prop :=
  ∃ r, UnR X f r ∧ ∀ (w : Wd) (x : V) (d : D) (Q : VK) (Wx : WX0), SOk G w → RepV G w d x → Want G XR Wx (RepV G) w Q (g d w.S) → r x w.H Q
section
variable {G : Gd} {XR : XRepT} {X : Cx} {W : WX} {e a b c : Expr} {es : List Expr} {f g h : FE} {fs : FA} {pos : Pos} {op : Operator} {o2 : D → D → Store → O D} {o1 : D → Store → O D}
theorem two (h1 : PEd G XR X W a f) (h2 : PEd G XR X W b g) : ∃ ta tb, PE X a ta ∧ PE X b tb ∧ ∀ (r : R2), (∀ (w : Wd) (x y : V) (d e : D) (Q : VK) (Wx : WX0), SOk G w → RepV G w d x → RepV G w e y → Want G XR Wx (RepV G) w Q (o2 d e w.S) → r x y w.H Q) →
    ∀ (σ : L2.St) (w : Wd) (E : EnvD) (Q : VK), SOk G w → RepE G w E σ → Want G XR (fun c d H => W c d σ H) (RepV G) w Q ((f E w.S).bind fun d S1 => (g E S1).bind fun e S2 => o2 d e S2) → tOp r ta tb σ w.H Q := by
  obtain ⟨ta, ha, h1⟩ := h1
  obtain ⟨tb, hb, h2⟩ := h2
  refine ⟨ta, tb, ha, hb, fun r hr σ w E Q O rE q => ?_⟩
  refine h1 σ w E _ O rE (Want.bind q fun d v w1 T1 O1 r1 q1 => ?_)
  refine h2 σ w1 E _ O1 (rE.step O T1) (Want.bind q1 fun e' u w2 T2 O2 r2 q2 => ?_)
  exact hr w2 v u d e' Q _ O2 (r1.step O1 T2) r2 q2
theorem ped_bin (ho : OpD G XR X (binaryOp op) o2) (h1 : PEd G XR X W a f) (h2 : PEd G XR X W b g) : PEd G XR X W (.BinOp a op b pos) (fun E S => (f E S).bind fun d S1 => (g E S1).bind fun e S2 => o2 d e S2) := by
  obtain ⟨r, hr, ho⟩ := ho
  obtain ⟨ta, tb, ha, hb, h⟩ := two (o2 := o2) h1 h2
  exact ⟨_, pe_op hr ha hb, h r ho⟩
theorem ped_un {uo : UnaryOp} (ho : UnD G XR X (unaryOp uo) o1) (h1 : PEd G XR X W a f) : PEd G XR X W (.UnaryOp uo a pos) (fun E S => (f E S).bind fun d S1 => o1 d S1) := by
  obtain ⟨r, hr, ho⟩ := ho
  obtain ⟨ta, ha, h1⟩ := h1
  refine ⟨_, pe_un hr ha, fun σ w E Q O rE q => ?_⟩
  exact h1 σ w E _ O rE (Want.bind q fun d v w1 T1 O1 r1 q1 => ho w1 v d Q _ O1 r1 q1)
theorem ped_cmp {op : CmpOp} (ho : OpD G XR X (compareOp op) o2) (h1 : PEd G XR X W a f) (h2 : PEd G XR X W b g) (hm : behindInMarks op b = false) : PEd G XR X W (.Compare a [op] [b] pos) (fun E S => (f E S).bind fun d S1 => (g E S1).bind fun e S2 => o2 d e S2) := by
  obtain ⟨r, hr, ho⟩ := ho
  obtain ⟨ta, tb, ha, hb, h⟩ := two (o2 := o2) h1 h2
  exact ⟨_, pe_cmpR hr ha hb hm, h r ho⟩
/-- an operator whose cases are told apart -/
theorem OpD.or {f : Value → Value → Sem Value} {g1 g2 g : D → D → Store → O D} (h1 : OpD G XR X f g1) (h2 : OpD G XR X f g2) (hg : ∀ d e S, g d e S = g1 d e S ∨ g d e S = g2 d e S) : OpD G XR X f g := by
  obtain ⟨r1, a1, b1⟩ := h1
  obtain ⟨r2, a2, b2⟩ := h2
  refine ⟨_, OpR.or a1 a2, fun w x y d e Q Wx O rx ry q => ?_⟩
  rcases hg d e w.S with z | z
  · exact .inl (b1 w x y d e Q Wx O rx ry (z ▸ q))
  · exact .inr (b2 w x y d e Q Wx O rx ry (z ▸ q))
/-- ints -/
def intsD (g : Int → Int → Option D) : D → D → Store → O D
  | .int i, .int j, S => match g i j with
    | some d => .ok d S
    | none => .bad
  | _, _, _ => .bad
theorem opd_ints {f : Value → Value → Sem Value} {C : Int → Int → Prop} {r : Int → Int → V} {g : Int → Int → Option D} (ho : OpR X f (rI C r))
    (hg : ∀ i j d, g i j = some d → C i j ∧ ∀ w, RepV G w d (r i j)) : OpD G XR X f (intsD g) := by
  refine ⟨_, ho, fun w x y d e Q Wx O rx ry q => ?_⟩
  cases d <;> first | exact q.elim | skip
  cases e <;> first | exact q.elim | skip
  rename_i i j
  cases rx
  cases ry
  unfold intsD at q
  dsimp only at q
  split at q
  · rename_i d hd
    obtain ⟨h1, h2⟩ := hg i j d hd
    exact ⟨i, j, rfl, rfl, h1, Want.ret O (h2 w) q⟩
  · exact q.elim
theorem opI0C {f : Value → Value → Sem Value} {r : Int → Int → V} (ho : OpR X f (rI0 r)) : OpR X f (rI (fun _ _ => True) r) := by
  intro pins s σ H x y v u Q I rx ry h
  obtain ⟨i, j, rfl, rfl, _, q⟩ := h
  exact ho pins s σ H _ _ v u Q I rx ry ⟨i, j, rfl, rfl, q⟩
def addI : Int → Int → Option D := fun i j => some (.int (i + j))
def subI : Int → Int → Option D := fun i j => some (.int (i - j))
def smallI (i : Int) : Bool := Nat.blt i.natAbs 18446744073709551616
def mulI : Int → Int → Option D := fun i j => bif smallI i || smallI j || Nat.blt (i.natAbs.log2 + j.natAbs.log2) 1000000 then some (.int (i * j)) else none
def divI : Int → Int → Option D := fun i j => bif !(Nat.beq j.natAbs 0) && Nat.blt j.natAbs.log2 9000 then some (.int (i.fdiv j)) else none
def modI : Int → Int → Option D := fun i j => bif !(Nat.beq j.natAbs 0) then some (.int (i.fmod j)) else none
def powI : Int → Int → Option D := fun i j => match j with
  | .ofNat n => bif Nat.ble n 1000000 && smallI i then some (.int (i ^ n)) else none
  | _ => none
theorem natAbs_ne {j : Int} (h : (!(Nat.beq j.natAbs 0)) = true) : j ≠ 0 := fun z => by subst z; exact absurd h (by decide)
theorem smallI_lt {i : Int} (h : smallI i = true) : i.natAbs < 2 ^ 64 := Nat.le_of_ble_eq_true h
theorem opd_sub : OpD G XR X (binaryOp .Sub) (intsD subI) := opd_ints (opI0C op_sub) fun i j d e => by cases e; exact ⟨trivial, fun w => .int _⟩
theorem opd_addI : OpD G XR X (binaryOp .Add) (intsD addI) := opd_ints (opI0C op_add) fun i j d e => by cases e; exact ⟨trivial, fun w => .int _⟩
def CMulO (i j : Int) : Prop := CMul i j ∨ CMulW i j
theorem op_mulO : OpR X (binaryOp .Mult) (rI CMulO fun i j => .int (i * j)) := by
  intro pins s σ H x y v u Q I rx ry h
  obtain ⟨i, j, rfl, rfl, hc, q⟩ := h
  rcases hc with hc | hc
  · exact op_mul pins s σ H _ _ v u Q I rx ry ⟨i, j, rfl, rfl, hc, q⟩
  · exact op_mulW pins s σ H _ _ v u Q I rx ry ⟨i, j, rfl, rfl, hc, q⟩
theorem opd_mulI : OpD G XR X (binaryOp .Mult) (intsD mulI) := opd_ints op_mulO fun i j d e => by
  unfold mulI at e
  rw [Bool.cond_eq_ite] at e
  split at e
  · rename_i h
    cases e
    refine ⟨?_, fun w => .int _⟩
    rcases Bool.or_eq_true_iff.mp h with h | h
    · rcases Bool.or_eq_true_iff.mp h with h | h
      · have := smallI_lt h; exact .inl (.inl ⟨by omega, by omega⟩)
      · have := smallI_lt h; exact .inl (.inr ⟨by omega, by omega⟩)
    · exact .inr (Nat.le_of_ble_eq_true h)
  · cases e
def CDivO (_ j : Int) : Prop := j ≠ 0 ∧ j.natAbs.log2 < 9000
theorem op_fdivO : OpR X (binaryOp .FloorDiv) (rI CDivO fun i j => .int (i.fdiv j)) := opI fun i j _ _ _ _ _ hc q => floordiv_int hc.1 q (.inl (PyProof.noPylong_of_log2 hc.2))
theorem opd_div : OpD G XR X (binaryOp .FloorDiv) (intsD divI) := opd_ints op_fdivO fun i j d e => by
  unfold divI at e
  rw [Bool.cond_eq_ite] at e
  split at e
  · rename_i h
    cases e
    obtain ⟨h1, h2⟩ := Bool.and_eq_true_iff.mp h
    exact ⟨⟨natAbs_ne h1, Nat.le_of_ble_eq_true h2⟩, fun w => .int _⟩
  · cases e
theorem opd_mod : OpD G XR X (binaryOp .Mod) (intsD modI) := opd_ints op_modN fun i j d e => by
  unfold modI at e
  rw [Bool.cond_eq_ite] at e
  split at e
  · rename_i h
    cases e
    exact ⟨natAbs_ne h, fun w => .int _⟩
  · cases e
theorem opd_pow : OpD G XR X (binaryOp .Pow) (intsD powI) := opd_ints op_pow fun i j d e => by
  unfold powI at e
  split at e
  · rename_i n
    rw [Bool.cond_eq_ite] at e
    split at e
    · rename_i h
      cases e
      obtain ⟨h1, h2⟩ := Bool.and_eq_true_iff.mp h
      have h3 := Nat.le_of_ble_eq_true h1
      have h4 := smallI_lt h2
      refine ⟨⟨by show (0 : Int) ≤ (n : Int); omega, by show (n : Int) ≤ 1000000; omega, h4⟩, fun w => ?_⟩
      show RepV G w (.int (i ^ n)) (.int (i ^ (Int.ofNat n).toNat))
      exact .int _
    · cases e
  · cases e
/-! tuples and lists -/
def catT : D → D → Store → O D
  | .tup xs, .tup ys, S => bif Nat.ble (xs.length + ys.length) lim then .ok (.tup (xs ++ ys)) S else .bad
  | _, _, _ => .bad
theorem opd_catT (hK : X.K = G.K) : OpD G XR X (binaryOp .Add) catT := by
  refine ⟨_, op_catA, fun w x y d e Q Wx O rx ry q => ?_⟩
  rw [hK]
  cases d <;> first | exact q.elim | skip
  cases e <;> first | exact q.elim | skip
  rename_i ds es
  unfold catT at q
  dsimp only at q
  rw [Bool.cond_eq_ite] at q
  split at q
  · rename_i hz
    obtain ⟨a, xs, rfl, hx, r1⟩ := rx.seqT
    obtain ⟨b, ys, rfl, hy, r2⟩ := ry.seqT
    refine ⟨a, b, xs, ys, rfl, rfl, hx, hy, by rw [← r1.length, ← r2.length]; exact lim_le hz, fun z => ?_, fun _ z => ?_, fun _ _ p np => ?_⟩
    · subst z; cases r1; exact Want.ret O ry q
    · subst z; cases r2
      refine Want.ret O (v := .ref a) ?_ q
      rw [List.append_nil]; exact rx
    · exact Want.at (w' := w.put p (.tup (xs ++ ys))) q (Step.laid np) rfl (O.laid np) (.tup (.inl (.inl upd_same)) ((r1.append r2).step O (Step.laid np)))
  · exact q.elim
/-- a new list of these items is laid: as a value that is made -/
theorem repL_new {p : Addr} {ds : List D} {vs : List V} (O : SOk G w0) (np : w0.H p = none) (r : RepVs G w0 ds vs) : RepL G (w0.put p (.lst vs)) ds (.ref p) :=
  ⟨p, vs, rfl, upd_same, O.freshR np, O.begin np, r.kept (begin_kept np)⟩
theorem repV_new {p : Addr} {ds : List D} {vs : List V} (O : SOk G w0) (np : w0.H p = none) (r : RepVs G w0 ds vs) : RepV G (w0.put p (.lst vs)) (.lst ds) (.ref p) :=
  .lst upd_same (O.freshNot np) (O.freshR np) (r.step O (Step.laid np))
def catL : D → D → Store → O D := fun d e S => match lstOf S d, lstOf S e with
  | some xs, some ys => bif Nat.ble (xs.length + ys.length) lim then .ok (.lst (xs ++ ys)) S else .bad
  | _, _ => .bad
theorem catL_core {w : Wd} {x y : V} {d e : D} {xs ys : List D} (O : SOk G w) (rx : RepV G w d x) (ry : RepV G w e y) (e1 : lstOf w.S d = some xs) (e2 : lstOf w.S e = some ys) (hz : Nat.ble (xs.length + ys.length) lim = true) {Q : VK}
    (q : ∀ p vs, w.H p = none → RepVs G w (xs ++ ys) vs → Q (.ref p) (upd w.H p (.lst vs))) : rCat x y w.H Q := by
  obtain ⟨a, vs, rfl, ha, r1⟩ := lstOf_rep O rx e1
  obtain ⟨b, us, rfl, hb, r2⟩ := lstOf_rep O ry e2
  exact ⟨a, b, vs, us, rfl, rfl, ha, hb, by rw [← r1.length, ← r2.length]; exact lim_le hz, fun p np => q p _ np (r1.append r2)⟩
theorem opd_catL : OpD G XR X (binaryOp .Add) catL := by
  refine ⟨_, op_cat, fun w x y d e Q Wx O rx ry q => ?_⟩
  unfold catL at q
  split at q
  · rename_i xs ys e1 e2
    rw [Bool.cond_eq_ite] at q
    split at q
    · rename_i hz
      exact catL_core O rx ry e1 e2 hz fun p vs np r => Want.at (w' := w.put p (.lst vs)) q (Step.laid np) rfl (O.laid np) (repV_new O np r)
    · exact q.elim
  · exact q.elim
def catS : D → D → Store → O D
  | .str x, .str y, S => bif Nat.ble (x.length + y.length) lim then .ok (.str (x ++ y)) S else .bad
  | _, _, _ => .bad
theorem opd_catS : OpD G XR X (binaryOp .Add) catS := by
  refine ⟨_, op_add_str, fun w x y d e Q Wx O rx ry q => ?_⟩
  cases d <;> first | exact q.elim | skip
  cases e <;> first | exact q.elim | skip
  rename_i a b
  cases rx
  cases ry
  unfold catS at q
  dsimp only at q
  rw [Bool.cond_eq_ite] at q
  split at q
  · rename_i hz
    exact ⟨a, b, rfl, rfl, lim_le hz, Want.ret O (.str _) q⟩
  · exact q.elim
def addD : D → D → Store → O D := fun d e S => match d with
  | .int _ => intsD addI d e S
  | .tup _ => catT d e S
  | .str _ => catS d e S
  | _ => catL d e S
theorem opd_add (hK : X.K = G.K) : OpD G XR X (binaryOp .Add) addD :=
  (opd_addI.or (opd_catT hK) (g := fun d e S => match d with | .int _ => intsD addI d e S | _ => catT d e S) (fun d e S => by cases d <;> first | exact .inl rfl | exact .inr rfl)).or
    (opd_catS.or opd_catL (g := fun d e S => match d with | .str _ => catS d e S | _ => catL d e S) (fun d e S => by cases d <;> first | exact .inl rfl | exact .inr rfl)) (fun d e S => by cases d <;> first | exact .inl rfl | exact .inr rfl)
/-- list + list as a list that is made -/
def addL : D → D → Store → O (List D) := fun d e S => match lstOf S d, lstOf S e with
  | some xs, some ys => bif Nat.ble (xs.length + ys.length) lim then .ok (xs ++ ys) S else .bad
  | _, _ => .bad
theorem pld_add (h1 : PEd G XR X W a f) (h2 : PEd G XR X W b g) : PLd G XR X W (.BinOp a .Add b pos) (fun E S => (f E S).bind fun d S1 => (g E S1).bind fun e S2 => addL d e S2) := by
  obtain ⟨ta, ha, h1⟩ := h1
  obtain ⟨tb, hb, h2⟩ := h2
  refine ⟨_, pe_op op_cat ha hb, fun σ w E Q O rE q => ?_⟩
  refine h1 σ w E _ O rE (Want.bind q fun d v w1 T1 O1 r1 q1 => ?_)
  refine h2 σ w1 E _ O1 (rE.step O T1) (Want.bind q1 fun e' u w2 T2 O2 r2 q2 => ?_)
  unfold addL at q2
  split at q2
  · rename_i xs ys e1 e2
    rw [Bool.cond_eq_ite] at q2
    split at q2
    · rename_i hz
      exact catL_core O2 (r1.step O1 T2) r2 e1 e2 hz fun p vs np r => Want.at (w' := w2.put p (.lst vs)) q2 (Step.laid np) rfl (O2.laid np) ⟨repL_new O2 np r, fun p' e => by cases e; exact (T1.trans T2).gone np⟩
    · exact q2.elim
  · exact q2.elim
/-! times -/
def repL : D → D → Store → O (List D) := fun d e S => match e with
  | .int k => match lstOf S d with
    | some xs => bif smallI k && Nat.ble (xs.length * k.toNat) lim then .ok (List.replicate k.toNat xs).flatten S else .bad
    | _ => .bad
  | _ => .bad
theorem repL_core {w : Wd} {x y : V} {d : D} {k : Int} {xs : List D} (O : SOk G w) (rx : RepV G w d x) (ry : RepV G w (.int k) y) (e1 : lstOf w.S d = some xs) (hz : (smallI k && Nat.ble (xs.length * k.toNat) lim) = true) (hk : -(2 ^ 63) ≤ k ∧ k < 2 ^ 63) {Q : VK}
    (q : ∀ p vs, w.H p = none → RepVs G w (List.replicate k.toNat xs).flatten vs → Q (.ref p) (upd w.H p (.lst vs))) : rRep x y w.H Q := by
  obtain ⟨a, vs, rfl, ha, r1⟩ := lstOf_rep O rx e1
  cases ry
  exact ⟨a, k, vs, rfl, rfl, ha, hk.1, hk.2, by rw [← r1.length]; exact lim_le (Bool.and_eq_true_iff.mp hz).2, fun p np => q p _ np (r1.repl _)⟩
end
end Ev
namespace Ev
open PySem PySem.Spec L2
open PyProof.Rows hiding St
theorem tuple_mul1 (l : Addr) (items : Array Value) (n : Nat) (dd : Option Addr) (sl : Array (Option Value)) (x : Int) (u : Tok) (c0 : (decide (x < -(2 ^ 63)) || decide (x ≥ 2 ^ 63)) = false) (c1 : (items.isEmpty || x == 1) = true) :
    Meets (Builtin.«tuple.__mul__» ⟨[.ref l, .int x u], []⟩) (fun _ R s => s.heap.get? l = some { cls := .type "tuple", dict := dd, data := .seq items n, slots := sl } ∧
      R (.ok (.ret (Value.ref l))) s) :=
  .of_wp fun prog w A R s h => by
    obtain ⟨hp, g, d, tk, os⟩ := s
    obtain ⟨hl, h⟩ := h
    have f1 := AutoSeq1.idx_int
    wp_walk using wpAny_loadPart' hl
    repeat (first
      | (refine wpAny_ite_false (decide_eq_false (by rw [c0]; exact Bool.false_ne_true)) ?_; wp_walk using wpAny_loadPart' hl)
      | (refine wpAny_ite_true (decide_eq_true c1) ?_; wp_walk using wpAny_loadPart' hl))
    exact ⟨_, rfl, h⟩
theorem tuple_mul0 (l : Addr) (items : Array Value) (n : Nat) (dd : Option Addr) (sl : Array (Option Value)) (x : Int) (u : Tok) (c0 : (decide (x < -(2 ^ 63)) || decide (x ≥ 2 ^ 63)) = false) (c1 : (items.isEmpty || x == 1) = false) (c2 : (decide (x ≤ 0) || items.isEmpty) = true) :
    Meets (Builtin.«tuple.__mul__» ⟨[.ref l, .int x u], []⟩) (fun _ R s => s.heap.get? l = some { cls := .type "tuple", dict := dd, data := .seq items n, slots := sl } ∧
      R (.ok (.ret (Value.ref s.heap.objs.size))) { s with heap := s.heap.push { cls := Value.type "tuple", data := Data.seq #[] }, toks := s.toks }) :=
  .of_wp fun prog w A R s h => by
    obtain ⟨hp, g, d, tk, os⟩ := s
    obtain ⟨hl, h⟩ := h
    have f1 := AutoSeq1.idx_int
    wp_walk using wpAny_loadPart' hl
    repeat (first
      | (refine wpAny_ite_false (decide_eq_false (by rw [c0]; exact Bool.false_ne_true)) ?_; wp_walk using wpAny_loadPart' hl)
      | (refine wpAny_ite_false (decide_eq_false (by rw [c1]; exact Bool.false_ne_true)) ?_; wp_walk using wpAny_loadPart' hl)
      | (refine wpAny_ite_true (decide_eq_true c2) ?_; wp_walk using wpAny_loadPart' hl))
    exact ⟨_, rfl, h⟩
/-- a tuple times an int that is small -/
def rRepS (K : PySem.W.Frag) : R2 := fun x y H Q => ∃ l k xs, x = .ref l ∧ y = .int k ∧ SqT K H l xs ∧ -(2 ^ 63) ≤ k ∧ k < 2 ^ 63 ∧ (((xs = [] ∨ k = 1) ∧ Q (.ref l) H) ∨ (xs ≠ [] ∧ k ≤ 0 ∧ ∀ p, H p = none → Q (.ref p) (upd H p (.tup []))))
section
variable {X : Cx}
theorem op_repS : OpR X (binaryOp .Mult) (rRepS X.K) := by
  intro pins s σ H x y v u Q I rx ry h
  obtain ⟨l, k, xs, rfl, rfl, hT, h1, h2, h⟩ := h
  cases rx
  obtain ⟨t, rfl⟩ := ry
  obtain ⟨its, r, ⟨⟨cls, dd, data, sl⟩, ho, hc, n, hd⟩, hs⟩ := I.tuple hT
  simp only at hc hd
  subst hc hd
  have hle : its.length = xs.length := r.length.symm
  have c0 : (decide (k < -(2 ^ 63)) || decide (k ≥ 2 ^ 63)) = false := by
    rw [decide_eq_false (by omega), decide_eq_false (by omega)] <;> rfl
  rcases h with ⟨hx, q⟩ | ⟨hx, hk, q⟩
  · have c1 : (its.toArray.isEmpty || k == 1) = true := by
      rcases hx with hx | hx
      · subst hx
        have : its = [] := List.eq_nil_of_length_eq_zero (by rw [hle]; rfl)
        subst this; rfl
      · subst hx; simp
    refine wpAny_binaryOp_repeat_ref (T := "tuple") (U := "int") (by decide) ⟨_, ho, rfl⟩ (fun s' => typeIs_int s' k t) noFill_tuple_mul F.fills_int_mul F.slot_int_rmul repeat_tuple F.slot_int_index.lookup
      (call_meets F.slot_int_rmul (typeIs_int s k t) F.entry_int_rmul (F.args_int_rmul_2 _ _) (int_rmul_tuple k t l its.toArray n dd sl)
        ⟨ho, rfl, ⟨_, ho, rfl⟩, call_meets F.slot_tuple_mul ⟨_, ho, rfl⟩ F.entry_tuple_mul (F.args_tuple_mul_2 _ _) (tuple_mul1 l its.toArray n dd sl k t c0 c1) ⟨ho, ?_⟩⟩)
    exact ⟨.ref l, H, I, rfl, q⟩
  · have hn : its ≠ [] := fun e => hx (by rw [e] at hle; exact List.eq_nil_of_length_eq_zero hle.symm)
    have hi : its.toArray.isEmpty = false := by
      cases its with
      | nil => exact absurd rfl hn
      | cons a b => rfl
    have c1 : (its.toArray.isEmpty || k == 1) = false := by
      rw [hi, Bool.false_or]
      exact beq_eq_false_iff_ne.mpr (by omega)
    have c2 : (decide (k ≤ 0) || its.toArray.isEmpty) = true := by rw [decide_eq_true hk]; rfl
    refine wpAny_binaryOp_repeat_ref (T := "tuple") (U := "int") (by decide) ⟨_, ho, rfl⟩ (fun s' => typeIs_int s' k t) noFill_tuple_mul F.fills_int_mul F.slot_int_rmul repeat_tuple F.slot_int_index.lookup
      (call_meets F.slot_int_rmul (typeIs_int s k t) F.entry_int_rmul (F.args_int_rmul_2 _ _) (int_rmul_tuple k t l its.toArray n dd sl)
        ⟨ho, rfl, ⟨_, ho, rfl⟩, call_meets F.slot_tuple_mul ⟨_, ho, rfl⟩ F.entry_tuple_mul (F.args_tuple_mul_2 _ _) (tuple_mul0 l its.toArray n dd sl k t c0 c1 c2) ⟨ho, ?_⟩⟩)
    refine ⟨.ref s.heap.objs.size, _, I.laid (t' := s.toks) (o := .tup []) (fun b ob q => Heap.get?_push_of_some _ q) (Nat.le_refl _) ?_, rfl, q _ (I.hok.fresh (Nat.le_refl _))⟩
    exact ⟨Nat.zero_le _, [], .nil, IsTup.new _ _⟩
end
def mulT : D → D → Store → O D
  | .tup xs, .int k, S => match xs with
    | [] => bif smallI (k * 2) then .ok (.tup []) S else .bad
    | _ :: _ => match k with
      | .negSucc m => bif smallI (k * 2) then .ok (.tup []) S else .bad
      | .ofNat 0 => .ok (.tup []) S
      | .ofNat 1 => .ok (.tup xs) S
      | .ofNat k' => bif Nat.ble k' 1000 && Nat.ble xs.length 1000 then .ok (.tup (List.replicate k' xs).flatten) S else .bad
  | _, _, _ => .bad
section
variable {G : Gd} {XR : XRepT} {X : Cx} {W : WX} {e a b c : Expr} {es : List Expr} {f g h : FE} {fs : FA} {pos : Pos} {op : Operator} {o2 : D → D → Store → O D} {o1 : D → Store → O D} {w0 : Wd}
theorem repT_new {p : Addr} {ds : List D} {vs : List V} (O : SOk G w0) (np : w0.H p = none) (r : RepVs G w0 ds vs) : RepV G (w0.put p (.tup vs)) (.tup ds) (.ref p) :=
  .tup (.inl (.inl upd_same)) (r.step O (Step.laid np))
theorem small2 {k : Int} (h : smallI (k * 2) = true) : -(2 ^ 63) ≤ k ∧ k < 2 ^ 63 := by
  have := smallI_lt h
  omega
theorem opd_mulT (hK : X.K = G.K) : OpD G XR X (binaryOp .Mult) mulT := by
  refine ⟨_, OpR.or op_repS op_repT, fun w x y d e Q Wx O rx ry q => ?_⟩
  rw [hK]
  cases d <;> first | exact q.elim | skip
  cases e <;> first | exact q.elim | skip
  rename_i ds k
  obtain ⟨a, xs, rfl, hx, r1⟩ := rx.seqT
  have ek : y = .int k := by cases ry; rfl
  subst ek
  unfold mulT at q
  dsimp only at q
  split at q
  · rw [Bool.cond_eq_ite] at q
    split at q
    · rename_i hs
      cases r1
      exact .inl ⟨a, k, [], rfl, rfl, hx, (small2 hs).1, (small2 hs).2, .inl ⟨.inl rfl, Want.ret O rx q⟩⟩
    · exact q.elim
  · have hne : xs ≠ [] := fun z => by subst z; cases r1
    split at q
    · rw [Bool.cond_eq_ite] at q
      split at q
      · rename_i m hs
        exact .inl ⟨a, _, xs, rfl, rfl, hx, (small2 hs).1, (small2 hs).2, .inr ⟨hne, Int.le_of_lt (Int.negSucc_lt_zero m), fun p np => Want.at (w' := w.put p (.tup [])) q (Step.laid np) rfl (O.laid np) (repT_new O np .nil)⟩⟩
      · exact q.elim
    · exact .inl ⟨a, _, xs, rfl, rfl, hx, by decide, by decide, .inr ⟨hne, by decide, fun p np => Want.at (w' := w.put p (.tup [])) q (Step.laid np) rfl (O.laid np) (repT_new O np .nil)⟩⟩
    · exact .inl ⟨a, _, xs, rfl, rfl, hx, by decide, by decide, .inl ⟨.inr rfl, Want.ret O rx q⟩⟩
    · rename_i k' n0 n1
      rw [Bool.cond_eq_ite] at q
      split at q
      · rename_i hs
        obtain ⟨h1, h2⟩ := Bool.and_eq_true_iff.mp hs
        have h3 := Nat.le_of_ble_eq_true h1
        have h4 := Nat.le_of_ble_eq_true h2
        have k0 : k' ≠ 0 := fun z => n0 (by rw [z])
        have k1 : k' ≠ 1 := fun z => n1 (by rw [z])
        refine .inr ⟨a, _, xs, rfl, rfl, hx, hne, by show (2 : Int) ≤ (k' : Int); omega, by show (k' : Int) ≤ 1000; omega, by rw [← r1.length]; exact h4, fun p np => ?_⟩
        exact Want.at (w' := w.put p (.tup (List.replicate (Int.ofNat k').toNat xs).flatten)) q (Step.laid np) rfl (O.laid np) (repT_new O np (r1.repl k'))
      · exact q.elim
/-- list times int by value -/
def mulL : D → D → Store → O D := fun d e S => match e with
  | .int k => match lstOf S d with
    | some xs => bif smallI (k * 2) && Nat.ble (xs.length * k.toNat) lim then .ok (.lst (List.replicate k.toNat xs).flatten) S else .bad
    | _ => .bad
  | _ => .bad
def mulLL : D → D → Store → O (List D) := fun d e S => match e with
  | .int k => match lstOf S d with
    | some xs => bif smallI (k * 2) && Nat.ble (xs.length * k.toNat) lim then .ok (List.replicate k.toNat xs).flatten S else .bad
    | _ => .bad
  | _ => .bad
theorem opd_mulL : OpD G XR X (binaryOp .Mult) mulL := by
  refine ⟨_, op_rep, fun w x y d e Q Wx O rx ry q => ?_⟩
  unfold mulL at q
  split at q
  · split at q
    · rename_i xs e1
      rw [Bool.cond_eq_ite] at q
      split at q
      · rename_i hz
        obtain ⟨h1, h2⟩ := Bool.and_eq_true_iff.mp hz
        obtain ⟨a, vs, rfl, ha, r1⟩ := lstOf_rep O rx e1
        cases ry
        exact ⟨a, _, vs, rfl, rfl, ha, (small2 h1).1, (small2 h1).2, by rw [← r1.length]; exact lim_le h2, fun p np => Want.at (w' := w.put p (.lst _)) q (Step.laid np) rfl (O.laid np) (repV_new O np (r1.repl _))⟩
      · exact q.elim
    · exact q.elim
  · exact q.elim
theorem pld_mul (h1 : PEd G XR X W a f) (h2 : PEd G XR X W b g) : PLd G XR X W (.BinOp a .Mult b pos) (fun E S => (f E S).bind fun d S1 => (g E S1).bind fun e S2 => mulLL d e S2) := by
  obtain ⟨ta, ha, h1⟩ := h1
  obtain ⟨tb, hb, h2⟩ := h2
  refine ⟨_, pe_op op_rep ha hb, fun σ w E Q O rE q => ?_⟩
  refine h1 σ w E _ O rE (Want.bind q fun d v w1 T1 O1 r1 q1 => ?_)
  refine h2 σ w1 E _ O1 (rE.step O T1) (Want.bind q1 fun e' u w2 T2 O2 r2 q => ?_)
  unfold mulLL at q
  split at q
  · split at q
    · rename_i xs e1
      rw [Bool.cond_eq_ite] at q
      split at q
      · rename_i hz
        obtain ⟨h1, h2⟩ := Bool.and_eq_true_iff.mp hz
        obtain ⟨a, vs, rfl, ha, r1⟩ := lstOf_rep O2 (r1.step O1 T2) e1
        cases r2
        exact ⟨a, _, vs, rfl, rfl, ha, (small2 h1).1, (small2 h1).2, by rw [← r1.length]; exact lim_le h2, fun p np => Want.at (w' := w2.put p (.lst _)) q (Step.laid np) rfl (O2.laid np) ⟨repL_new O2 np (r1.repl _), fun p' e => by cases e; exact (T1.trans T2).gone np⟩⟩
      · exact q.elim
    · exact q.elim
  · exact q.elim
def mulD : D → D → Store → O D := fun d e S => match d with
  | .int _ => intsD mulI d e S
  | .tup _ => mulT d e S
  | _ => mulL d e S
theorem opd_mul (hK : X.K = G.K) : OpD G XR X (binaryOp .Mult) mulD :=
  opd_mulI.or ((opd_mulT hK).or opd_mulL (g := fun d e S => match d with | .tup _ => mulT d e S | _ => mulL d e S) (fun d e S => by cases d <;> first | exact .inl rfl | exact .inr rfl)) (fun d e S => by cases d <;> first | exact .inl rfl | exact .inr rfl)
def subD : D → D → Store → O D := intsD subI
def negD : D → Store → O D
  | .int i, S => .ok (.int (-i)) S
  | _, _ => .bad
theorem und_neg : UnD G XR X (unaryOp .USub) negD := by
  refine ⟨_, un_neg, fun w x d Q Wx O rx q => ?_⟩
  cases d <;> first | exact q.elim | skip
  cases rx
  exact ⟨_, rfl, Want.ret O (.int _) q⟩

/-! comparisons of ints -/
def ltI : Int → Int → Bool
  | .ofNat m, .ofNat n => Nat.blt m n
  | .ofNat _, .negSucc _ => false
  | .negSucc _, .ofNat _ => true
  | .negSucc m, .negSucc n => Nat.blt n m
theorem ltI_eq (a b : Int) : ltI a b = decide (a < b) := by
  cases h : ltI a b with
  | true => exact (decide_eq_true ((PySem.W.Z.ltB_iff a b).mp (show PySem.W.Z.ltB a b = true by cases a <;> cases b <;> exact h))).symm
  | false => exact (decide_eq_false (fun z => by
      have := (PySem.W.Z.ltB_iff a b).mpr z
      have e : ltI a b = true := by cases a <;> cases b <;> exact this
      rw [h] at e; cases e)).symm
theorem opd_lt : OpD G XR X (compareOp .Lt) (intsD fun i j => some (.bl (ltI i j))) := opd_ints (opI0C op_lt) fun i j d e => by cases e; exact ⟨trivial, fun w => by rw [ltI_eq]; exact .bl _⟩
theorem opd_gt : OpD G XR X (compareOp .Gt) (intsD fun i j => some (.bl (ltI j i))) := opd_ints (opI0C op_gt) fun i j d e => by cases e; exact ⟨trivial, fun w => by rw [ltI_eq]; exact .bl _⟩
theorem opd_le : OpD G XR X (compareOp .LtE) (intsD fun i j => some (.bl (!ltI j i))) := opd_ints (opI0C op_le) fun i j d e => by
  cases e
  refine ⟨trivial, fun w => ?_⟩
  have : (!ltI j i) = decide (i ≤ j) := by rw [ltI_eq]; by_cases h : i ≤ j <;> simp [h] <;> omega
  rw [this]; exact .bl _
theorem opd_ge : OpD G XR X (compareOp .GtE) (intsD fun i j => some (.bl (!ltI i j))) := opd_ints (opI0C op_ge) fun i j d e => by
  cases e
  refine ⟨trivial, fun w => ?_⟩
  have : (!ltI i j) = decide (j ≤ i) := by rw [ltI_eq]; by_cases h : j ≤ i <;> simp [h] <;> omega
  rw [this]; exact .bl _
end
end Ev
namespace Ev
open PySem PySem.Spec L2
open PyProof.Rows hiding St
/-! data as a whole -/
def pyAll (f : D → Option PyData) : List D → Option (List PyData)
  | [] => some []
  | d :: ds => match f d with
    | some p => match pyAll f ds with
      | some ps => some (p :: ps)
      | none => none
    | none => none
def py (S : Store) : Nat → D → Option PyData
  | 0, _ => none
  | n + 1, d => match d with
    | .non => some .none
    | .bl b => some (.bool b)
    | .int i => some (.int i)
    | .str x => some (.str x)
    | .tup ds => match pyAll (py S n) ds with
      | some ps => some (.tuple ps)
      | none => none
    | .lst ds => match pyAll (py S n) ds with
      | some ps => some (.list ps)
      | none => none
    | .fz ds => match pyAll (py S n) ds with
      | some ps => some (.list ps)
      | none => none
    | .loc l => match S[l]? with
      | some (some ds) => match pyAll (py S n) ds with
        | some ps => some (.list ps)
        | none => none
      | _ => none
    | .fn _ => none
section
variable {G : Gd} {w : Wd}
theorem pyAll_rep {f : D → Option PyData} (hf : ∀ d v p, RepV G w d v → f d = some p → Dp G.K w.H v p) : ∀ {ds : List D} {vs : List V} {ps : List PyData}, RepVs G w ds vs → pyAll f ds = some ps → DpAll G.K w.H vs ps
  | [], _, _, r, e => by cases r; cases e; exact .nil
  | d :: ds, _, _, r, e => by
    cases r with
    | cons r1 r2 =>
      unfold pyAll at e
      split at e
      · rename_i p e1
        split at e
        · rename_i ps e2
          cases e
          exact .cons (hf _ _ _ r1 e1) (pyAll_rep hf r2 e2)
        · cases e
      · cases e
theorem py_rep (O : SOk G w) : ∀ (n : Nat) (d : D) (v : V) (p : PyData), RepV G w d v → py w.S n d = some p → Dp G.K w.H v p
  | 0, _, _, _, _, e => by cases e
  | n + 1, d, v, p, r, e => by
    have seq : ∀ {a : Addr} {vs : List V} {ds : List D} {ps : List PyData}, RepVs G w ds vs → pyAll (py w.S n) ds = some ps → DpAll G.K w.H vs ps := fun r1 e1 => pyAll_rep (fun d v p => py_rep O n d v p) r1 e1
    unfold py at e
    split at e
    · cases e; cases r; exact .non
    · cases e; cases r; exact .bl _
    · cases e; cases r; exact .int _
    · cases e; cases r; exact .str _
    · split at e
      · rename_i ps e1
        cases e
        obtain ⟨a, vs, rfl, hs, r1⟩ := r.seqT
        exact .tup hs (seq (a := a) r1 e1)
      · cases e
    · split at e
      · rename_i ps e1
        cases e
        obtain ⟨a, vs, rfl, hs, r1⟩ := r.seqLst
        exact .lst (.inl (.inl hs)) (seq (a := a) r1 e1)
      · cases e
    · split at e
      · rename_i ps e1
        cases e
        obtain ⟨a, vs, rfl, hs, r1⟩ := r.seqF
        exact .lst hs (seq (a := a) r1 e1)
      · cases e
    · split at e
      · rename_i h
        split at e
        · rename_i ps e1
          cases e
          obtain ⟨a, vs, rfl, _, hs, r1⟩ := r.seqLoc O h
          exact .lst (.inl (.inl hs)) (seq (a := a) r1 e1)
        · cases e
      · cases e
    · cases e
end
def eqGen (d e : D) (S : Store) : Option Bool := match py S 40 d, py S 40 e with
  | some p, some q => bif SeqAt.shaped p && SeqAt.shaped q then some (PyData.eqv p q) else none
  | _, _ => none
def eqI (a b : Int) : Bool := match a, b with
  | .ofNat m, .ofNat n => Nat.beq m n
  | .negSucc m, .negSucc n => Nat.beq m n
  | _, _ => false
theorem eqI_eq (a b : Int) : eqI a b = (a == b) := by
  cases h : eqI a b with
  | true =>
    have : a = b := (PySem.W.Z.eqB_iff a b).mp (by cases a <;> cases b <;> first | exact h | cases h)
    subst this; simp
  | false =>
    have : a ≠ b := fun z => by
      have := (PySem.W.Z.eqB_iff a b).mpr z
      have e : eqI a b = true := by cases a <;> cases b <;> first | exact this | cases this
      rw [h] at e; cases e
    exact (beq_eq_false_iff_ne.mpr this).symm
def eqB (d e : D) (S : Store) : Option Bool := match d, e with
  | .int i, .int j => some (eqI i j)
  | _, _ => eqGen d e S
def eqD : D → D → Store → O D := fun d e S => match eqB d e S with
  | some b => .ok (.bl b) S
  | none => .bad
def neD : D → D → Store → O D := fun d e S => match eqB d e S with
  | some b => .ok (.bl (!b)) S
  | none => .bad
def vOf : D → Option V
  | .non => some .non
  | .bl b => some (.bl b)
  | .int i => some (.int i)
  | .str x => some (.str x)
  | _ => none
def vsOf : List D → Option (List V)
  | [] => some []
  | d :: ds => match vOf d with
    | some v => match vsOf ds with
      | some vs => some (v :: vs)
      | none => none
    | none => none
def inB (d e : D) (S : Store) : Option Bool := match vOf d with
  | some v => match seqOf S e with
    | some (_, ds) => match vsOf ds with
      | some vs => some (inV v vs)
      | none => none
    | none => none
  | none => none
def inD : D → D → Store → O D := fun d e S => match inB d e S with
  | some b => .ok (.bl b) S
  | none => .bad
def ninD : D → D → Store → O D := fun d e S => match inB d e S with
  | some b => .ok (.bl (!b)) S
  | none => .bad
def isB : D → D → Option Bool
  | .non, .non => some true
  | .bl _, .non => some false
  | .int _, .non => some false
  | .str _, .non => some false
  | .tup _, .non => some false
  | .lst _, .non => some false
  | .loc _, .non => some false
  | .fz _, .non => some false
  | _, _ => none
def isD : D → D → Store → O D := fun d e S => match isB d e with
  | some b => .ok (.bl b) S
  | none => .bad
def isnD : D → D → Store → O D := fun d e S => match isB d e with
  | some b => .ok (.bl (!b)) S
  | none => .bad
section
variable {G : Gd} {XR : XRepT} {X : Cx} {W : WX} {e a b c : Expr} {es : List Expr} {f g h : FE} {fs : FA} {pos : Pos} {w0 w : Wd}
theorem eqB_rep {d e : D} {x y : V} {b : Bool} (O : SOk G w) (rx : RepV G w d x) (ry : RepV G w e y) (h : eqB d e w.S = some b) : ∃ p q, Dp G.K w.H x p ∧ Dp G.K w.H y q ∧ SeqAt.shaped p = true ∧ SeqAt.shaped q = true ∧ b = PyData.eqv p q := by
  unfold eqB at h
  split at h
  · rename_i i j
    cases h
    cases rx
    cases ry
    exact ⟨.int i, .int j, .int i, .int j, rfl, rfl, by rw [eqI_eq]; rfl⟩
  · unfold eqGen at h
    split at h
    · rename_i p q e1 e2
      rw [Bool.cond_eq_ite] at h
      split at h
      · rename_i hs
        cases h
        obtain ⟨h1, h2⟩ := Bool.and_eq_true_iff.mp hs
        exact ⟨p, q, py_rep O _ _ _ _ rx e1, py_rep O _ _ _ _ ry e2, h1, h2, rfl⟩
      · cases h
    · cases h
theorem opd_eq (hK : X.K = G.K) (hu : X.A.units + 64 < cLine) : OpD G XR X (compareOp .Eq) eqD := by
  refine ⟨_, op_eqD hu, fun w x y d e Q Wx O rx ry q => ?_⟩
  rw [hK]
  unfold eqD at q
  split at q
  · rename_i b hb
    obtain ⟨p, p', h1, h2, h3, h4, rfl⟩ := eqB_rep O rx ry hb
    exact ⟨p, p', h1, h2, h3, h4, Want.ret O (.bl _) q⟩
  · exact q.elim
theorem opd_ne (hK : X.K = G.K) (hu : X.A.units + 64 < cLine) : OpD G XR X (compareOp .NotEq) neD := by
  refine ⟨_, op_neD hu, fun w x y d e Q Wx O rx ry q => ?_⟩
  rw [hK]
  unfold neD at q
  split at q
  · rename_i b hb
    obtain ⟨p, p', h1, h2, h3, h4, rfl⟩ := eqB_rep O rx ry hb
    exact ⟨p, p', h1, h2, h3, h4, Want.ret O (.bl _) q⟩
  · exact q.elim
theorem vOf_rep {d : D} {v u : V} (r : RepV G w d v) (e : vOf d = some u) : v = u ∧ flatV u = true := by
  cases d <;> first | (cases e; cases r; exact ⟨rfl, rfl⟩) | cases e
theorem vsOf_rep : ∀ {ds : List D} {vs us : List V}, RepVs G w ds vs → vsOf ds = some us → vs = us ∧ us.all flatV = true
  | [], _, _, r, e => by cases r; cases e; exact ⟨rfl, rfl⟩
  | d :: ds, _, _, r, e => by
    cases r with
    | cons r1 r2 =>
      unfold vsOf at e
      split at e
      · rename_i v e1
        split at e
        · rename_i vs e2
          cases e
          obtain ⟨h1, h2⟩ := vOf_rep r1 e1
          obtain ⟨h3, h4⟩ := vsOf_rep r2 e2
          subst h1 h3
          exact ⟨rfl, by simp [h2, h4]⟩
        · cases e
      · cases e
theorem inB_rep {d e : D} {x y : V} {b : Bool} (O : SOk G w) (rx : RepV G w d x) (ry : RepV G w e y) (h : inB d e w.S = some b) : ∃ p xs, y = .ref p ∧ (SqL G.K w.H p xs ∨ SqT G.K w.H p xs) ∧ flatV x = true ∧ xs.all flatV = true ∧ b = inV x xs := by
  unfold inB at h
  split at h
  · rename_i v e1
    split at h
    · rename_i k ds e2
      split at h
      · rename_i vs e3
        cases h
        obtain ⟨h1, h2⟩ := vOf_rep rx e1
        obtain ⟨a, us, ha, r, hs⟩ := seqOf_rep O ry e2
        obtain ⟨h3, h4⟩ := vsOf_rep r e3
        subst h1 h3
        refine ⟨a, _, ha, ?_, h2, h4, rfl⟩
        cases k
        · exact .inl hs
        · exact .inr hs
      · cases h
    · cases h
  · cases h
theorem opd_in (hK : X.K = G.K) : OpD G XR X (compareOp .In) inD := by
  refine ⟨_, op_in_seq, fun w x y d e Q Wx O rx ry q => ?_⟩
  rw [hK]
  unfold inD at q
  split at q
  · rename_i b hb
    obtain ⟨p, xs, h1, h2, h3, h4, rfl⟩ := inB_rep O rx ry hb
    exact ⟨p, xs, h1, h2, h3, h4, Want.ret O (.bl _) q⟩
  · exact q.elim
theorem opd_nin (hK : X.K = G.K) : OpD G XR X (compareOp .NotIn) ninD := by
  refine ⟨_, op_notIn_seq, fun w x y d e Q Wx O rx ry q => ?_⟩
  rw [hK]
  unfold ninD at q
  split at q
  · rename_i b hb
    obtain ⟨p, xs, h1, h2, h3, h4, rfl⟩ := inB_rep O rx ry hb
    exact ⟨p, xs, h1, h2, h3, h4, Want.ret O (.bl _) q⟩
  · exact q.elim
theorem isB_rep {d e : D} {x y : V} {b : Bool} (rx : RepV G w d x) (ry : RepV G w e y) (h : isB d e = some b) : y = .non ∧ b = decide (x = .non) := by
  cases e <;> first | (cases ry; skip) | skip
  all_goals cases d <;> first | (cases h; done) | (cases h; cases rx <;> exact ⟨rfl, by simp⟩)
theorem opd_is : OpD G XR X (compareOp .Is) isD := by
  refine ⟨_, op_isN, fun w x y d e Q Wx O rx ry q => ?_⟩
  unfold isD at q
  split at q
  · rename_i b hb
    obtain ⟨h1, rfl⟩ := isB_rep rx ry hb
    exact ⟨h1, Want.ret O (.bl _) q⟩
  · exact q.elim
theorem opd_isn : OpD G XR X (compareOp .IsNot) isnD := by
  refine ⟨_, op_notN, fun w x y d e Q Wx O rx ry q => ?_⟩
  unfold isnD at q
  split at q
  · rename_i b hb
    obtain ⟨h1, rfl⟩ := isB_rep rx ry hb
    exact ⟨h1, Want.ret O (.bl _) q⟩
  · exact q.elim
/-! truth -/
def truD (S : Store) : D → Option Bool
  | .non => some false
  | .bl b => some b
  | .int i => some (!eqI i 0)
  | .str x => bif Nat.ble x.length lim then some (!(Nat.beq x.length 0)) else none
  | d => match seqOf S d with
    | some (_, ds) => match ds with
      | [] => some false
      | _ :: _ => some true
    | none => none
theorem truD_rep {d : D} {x : V} {b : Bool} (O : SOk G w) (r : RepV G w d x) (h : truD w.S d = some b) : TruV G.K x w.H b := by
  have seq : (∀ {k ds}, seqOf w.S d = some (k, ds) → (match ds with | [] => some false | _ :: _ => some true) = some b → TruV G.K x w.H b) := fun {k ds} e1 e2 => by
    obtain ⟨a, vs, rfl, r1, hs⟩ := seqOf_rep O r e1
    have hb : b = !vs.isEmpty := by
      cases r1 <;> (cases e2; rfl)
    cases k
    · exact .inl ⟨vs, hs, hb⟩
    · exact .inr (.inl ⟨vs, hs, hb⟩)
  have tail : (match seqOf w.S d with | some (_, ds) => (match ds with | [] => some false | _ :: _ => some true) | none => none) = some b → TruV G.K x w.H b := fun h => by
    split at h
    · rename_i k ds e1; exact seq e1 h
    · cases h
  cases d with
  | non => cases h; cases r; rfl
  | bl b => cases h; cases r; rfl
  | int i => cases h; cases r; show _ = _; rw [eqI_eq]; rfl
  | str y =>
    unfold truD at h
    dsimp only at h
    rw [Bool.cond_eq_ite] at h
    split at h
    · rename_i hz
      cases h
      cases r
      refine ⟨lim_le hz, ?_⟩
      cases hl : y.length with
      | zero => rfl
      | succ n =>
        have e1 : (((n + 1 : Nat) : Int) != 0) = true := bne_iff_ne.mpr (by omega)
        rw [e1]; rfl
    · cases h
  | fn i => cases h
  | tup ds => exact tail h
  | lst ds => exact tail h
  | fz ds => exact tail h
  | loc l => exact tail h
end
end Ev
namespace Ev
open PySem PySem.Spec L2
open PyProof.Rows hiding St
/-! items -/
def ixOf (n : Nat) : Int → Option Nat
  | .ofNat k => bif Nat.blt k n then some k else none
  | .negSucc m => bif Nat.blt m n then some (n - 1 - m) else none
theorem ixOf_eq (n : Nat) (i : Int) : ixOf n i = ixN n i := by
  unfold ixOf ixN
  cases i with
  | ofNat k =>
    have h0 : (0 : Int) ≤ Int.ofNat k := Int.natCast_nonneg k
    rw [if_pos h0]
    dsimp only
    by_cases h : k < n
    · have e : Nat.blt k n = true := Nat.ble_eq_true_of_le h
      have h' : (Int.ofNat k : Int) < (n : Int) := by show (k : Int) < n; omega
      rw [e, if_pos h']; rfl
    · have e : Nat.blt k n = false := by
        cases q : Nat.blt k n with
        | false => rfl
        | true => exact absurd (Nat.le_of_ble_eq_true q) h
      have h' : ¬ (Int.ofNat k : Int) < (n : Int) := by show ¬ (k : Int) < n; omega
      rw [e, if_neg h']; rfl
  | negSucc m =>
    have h0 : ¬ (0 : Int) ≤ Int.negSucc m := by have := Int.negSucc_lt_zero m; omega
    rw [if_neg h0]
    dsimp only
    by_cases h : m < n
    · have e : Nat.blt m n = true := Nat.ble_eq_true_of_le h
      have h' : -(n : Int) ≤ Int.negSucc m := by omega
      rw [e, if_pos h']
      show some (n - 1 - m) = some _
      congr 1; omega
    · have e : Nat.blt m n = false := by
        cases q : Nat.blt m n with
        | false => rfl
        | true => exact absurd (Nat.le_of_ble_eq_true q) h
      have h' : ¬ -(n : Int) ≤ Int.negSucc m := by omega
      rw [e, if_neg h']; rfl
def ixD : D → D → Store → O D := fun d e S => match e with
  | .int i => match seqOf S d with
    | some (_, ds) => match ixOf ds.length i with
      | some k => match ds[k]? with
        | some x => .ok x S
        | none => .bad
      | none => .bad
    | none => .bad
  | _ => .bad
section
variable {G : Gd} {XR : XRepT} {X : Cx} {W : WX} {e a b c : Expr} {es : List Expr} {f g h : FE} {fs : FA} {pos : Pos} {w0 w : Wd}
theorem ped_ix (hK : X.K = G.K) (h1 : PEd G XR X W a f) (h2 : PEd G XR X W b g) (hs : PlainIx b) : PEd G XR X W (.Subscript a b pos) (fun E S => (f E S).bind fun d S1 => (g E S1).bind fun e S2 => ixD d e S2) := by
  obtain ⟨ta, tb, ha, hb, h⟩ := two (o2 := ixD) h1 h2
  refine ⟨_, pe_ix (ix_list.or ix_tup) ha hb hs, h _ fun w x y d e Q Wx O rx ry q => ?_⟩
  rw [hK]
  unfold ixD at q
  split at q
  · rename_i i
    split at q
    · rename_i k ds e1
      split at q
      · rename_i j e2
        split at q
        · rename_i z e3
          obtain ⟨p, vs, rfl, r, hq⟩ := seqOf_rep O rx e1
          obtain ⟨v, hv, rv⟩ := r.get e3
          have ey : y = .int i := by cases ry; rfl
          subst ey
          have at_ : atI vs i = some v := by
            unfold atI
            rw [← r.length, ← ixOf_eq, e2]
            exact hv
          cases k
          · exact .inl ⟨p, vs, i, v, rfl, rfl, hq, at_, Want.ret O rv q⟩
          · exact .inr ⟨p, vs, i, v, rfl, rfl, hq, at_, Want.ret O rv q⟩
        · exact q.elim
      · exact q.elim
    · exact q.elim
  · exact q.elim
/-! slices -/
abbrev FO := EnvD → Store → O (Option Int)
def POd (G : Gd) (XR : XRepT) (X : Cx) (W : WX) (e : Option Expr) (f : FO) : Prop := ∃ t, PO X e t ∧ ∀ (σ : L2.St) (w : Wd) (E : EnvD) (Q : Option Int → Hp → Prop), SOk G w → RepE G w E σ → Want G XR (fun c d H => W c d σ H) (fun _ a b => a = b) w Q (f E w.S) → t σ w.H Q
theorem pod_none : POd G XR X W none (fun _ S => .ok none S) := ⟨_, po_none, fun σ w E Q O rE q => Want.ret O rfl q⟩
theorem pod_some (h1 : PEd G XR X W e f) : POd G XR X W (some e) (fun E S => (f E S).bind fun d S1 => match d with | .int i => .ok (some i) S1 | _ => .bad) := by
  obtain ⟨t, ht, h1⟩ := h1
  refine ⟨_, po_some ht, fun σ w E Q O rE q => h1 σ w E _ O rE (Want.bind q fun d v w1 T1 O1 r1 q1 => ?_)⟩
  split at q1
  · cases r1; exact ⟨_, rfl, Want.ret O1 rfl q1⟩
  · exact q1.elim
def sIxD (n d : Nat) : Option Int → Nat
  | none => d
  | some (.ofNat k) => bif Nat.ble k n then k else n
  | some (.negSucc m) => n - (m + 1)
theorem sIxD_eq (n d : Nat) (o : Option Int) : sIxD n d o = HT.sIx n d o := by
  cases o with
  | none => rfl
  | some v =>
    unfold HT.sIx
    cases v with
    | ofNat k =>
      show (bif Nat.ble k n then k else n) = if (Int.ofNat k : Int) < 0 then _ else min (Int.ofNat k).toNat n
      rw [if_neg (by show ¬ (k : Int) < 0; omega)]
      show _ = min k n
      by_cases h : k ≤ n
      · rw [Nat.ble_eq_true_of_le h]; show k = _; omega
      · have : Nat.ble k n = false := by
          cases q : Nat.ble k n with
          | false => rfl
          | true => exact absurd (Nat.le_of_ble_eq_true q) h
        rw [this]; show n = _; omega
    | negSucc m =>
      show n - (m + 1) = if Int.negSucc m < 0 then (Int.negSucc m + (n : Int)).toNat else _
      rw [if_pos (Int.negSucc_lt_zero m)]
      omega
def cutD (ds : List D) (lo hi : Option Int) : List D := let n := ds.length; let a := sIxD n 0 lo; (ds.drop a).take (sIxD n n hi - a)
theorem cutD_rep {ds : List D} {vs : List V} {lo hi : Option Int} (r : RepVs G w ds vs) : RepVs G w (cutD ds lo hi) (cutV vs lo hi) := by
  unfold cutD cutV
  dsimp only
  rw [sIxD_eq, sIxD_eq, r.length]
  exact (r.drop _).take _
def slD (d : D) (lo hi : Option Int) (S : Store) : O D := match seqOf S d with
  | some (.l, ds) => .ok (.lst (cutD ds lo hi)) S
  | some (.t, ds) => .ok (.tup (cutD ds lo hi)) S
  | none => .bad
theorem cutV_whole {vs : List V} {lo hi : Option Int} (h : HT.sIx vs.length 0 lo = 0 ∧ HT.sIx vs.length vs.length hi = vs.length) : cutV vs lo hi = vs := by
  unfold cutV
  rw [h.1, h.2]
  simp
theorem ped_slice {lo hi : Option Expr} {p2 : Pos} {fl fh : FO} (hK : X.K = G.K) (h1 : PEd G XR X W e f) (h2 : POd G XR X W lo fl) (h3 : POd G XR X W hi fh) :
    PEd G XR X W (.Subscript e (.Slice lo hi none p2) pos) (fun E S => (f E S).bind fun d S1 => (fl E S1).bind fun l S2 => (fh E S2).bind fun u S3 => slD d l u S3) := by
  obtain ⟨ta, ha, h1⟩ := h1
  obtain ⟨tl, hl, h2⟩ := h2
  obtain ⟨tu, hu, h3⟩ := h3
  refine ⟨_, pe_slice (sl_list.or sl_tupA) ha hl hu, fun σ w E Q O rE q => ?_⟩
  rw [hK]
  refine h1 σ w E _ O rE (Want.bind q fun d v w1 T1 O1 r1 q1 => ?_)
  refine h2 σ w1 E _ O1 (rE.step O T1) (Want.bind q1 fun l l' w2 T2 O2 r2 q2 => ?_)
  refine h3 σ w2 E _ O2 ((rE.step O T1).step O1 T2) (Want.bind q2 fun u u' w3 T3 O3 r3 q3 => ?_)
  subst r2 r3
  have rv := (r1.step O1 T2).step O2 T3
  unfold slD at q3
  split at q3
  · rename_i ds e1
    obtain ⟨p, vs, rfl, r, hq⟩ := seqOf_rep O3 rv e1
    exact .inl ⟨p, vs, rfl, hq, fun p np => Want.at (w' := w3.put p (.lst _)) q3 (Step.laid np) rfl (O3.laid np) (repV_new O3 np (cutD_rep r))⟩
  · rename_i ds e1
    obtain ⟨p, vs, rfl, r, hq⟩ := seqOf_rep O3 rv e1
    refine .inr ⟨p, vs, rfl, hq, fun hw => ?_, fun _ p np => Want.at (w' := w3.put p (.tup _)) q3 (Step.laid np) rfl (O3.laid np) (repT_new O3 np (cutD_rep r))⟩
    refine Want.ret O3 (v := .ref p) (.tup hq ?_) q3
    have z := cutD_rep (lo := l) (hi := u) r
    rw [cutV_whole hw] at z
    exact z
  · exact q3.elim
theorem pld_slice {lo hi : Option Expr} {p2 : Pos} {fl fh : FO} (hK : X.K = G.K) (h1 : PEd G XR X W e f) (h2 : POd G XR X W lo fl) (h3 : POd G XR X W hi fh) :
    PLd G XR X W (.Subscript e (.Slice lo hi none p2) pos) (fun E S => (f E S).bind fun d S1 => (fl E S1).bind fun l S2 => (fh E S2).bind fun u S3 => match seqOf S3 d with | some (.l, ds) => .ok (cutD ds l u) S3 | _ => .bad) := by
  obtain ⟨ta, ha, h1⟩ := h1
  obtain ⟨tl, hl, h2⟩ := h2
  obtain ⟨tu, hu, h3⟩ := h3
  refine ⟨_, pe_slice sl_list ha hl hu, fun σ w E Q O rE q => ?_⟩
  rw [hK]
  refine h1 σ w E _ O rE (Want.bind q fun d v w1 T1 O1 r1 q1 => ?_)
  refine h2 σ w1 E _ O1 (rE.step O T1) (Want.bind q1 fun l l' w2 T2 O2 r2 q2 => ?_)
  refine h3 σ w2 E _ O2 ((rE.step O T1).step O1 T2) (Want.bind q2 fun u u' w3 T3 O3 r3 q3 => ?_)
  subst r2 r3
  have rv := (r1.step O1 T2).step O2 T3
  split at q3
  · rename_i ds e1
    obtain ⟨p, vs, rfl, r, hq⟩ := seqOf_rep O3 rv e1
    exact ⟨p, vs, rfl, hq, fun p np => Want.at (w' := w3.put p (.lst _)) q3 (Step.laid np) rfl (O3.laid np) ⟨repL_new O3 np (cutD_rep r), fun p' e => by cases e; exact ((T1.trans T2).trans T3).gone np⟩⟩
  · exact q3.elim
/-! tests -/
@[reducible] def toB (o : O D) : O Bool := o.bind fun d S => match d with
  | .bl b => .ok b S
  | _ => .bad
theorem pcd_cmp {op : CmpOp} {o2 : D → D → Store → O D} (ho : OpD G XR X (compareOp op) o2) (h1 : PEd G XR X W a f) (h2 : PEd G XR X W b g) (hm : behindInMarks op b = false) :
    PCd G XR X W (.Compare a [op] [b] pos) (fun E S => (f E S).bind fun d S1 => (g E S1).bind fun e S2 => toB (o2 d e S2)) := by
  obtain ⟨r, hr, ho⟩ := ho
  obtain ⟨ta, ha, h1⟩ := h1
  obtain ⟨tb, hb, h2⟩ := h2
  refine ⟨_, pt_cmpR hr ha hb hm, fun σ w E Q O rE q => ?_⟩
  refine h1 σ w E _ O rE (Want.bind q fun d v w1 T1 O1 r1 q1 => ?_)
  refine h2 σ w1 E _ O1 (rE.step O T1) (Want.bind q1 fun e' u w2 T2 O2 r2 q2 => ?_)
  refine ho w2 v u d e' _ (fun c d H => W c d σ H) O2 (r1.step O1 T2) r2 (Want.bind q2 fun z zv w3 T3 O3 r3 q3 => ?_)
  split at q3
  · cases r3; exact ⟨_, rfl, Want.ret O3 rfl q3⟩
  · exact q3.elim
theorem pcd_truth (hK : X.K = G.K) (h1 : PEd G XR X W a f) (he : ∀ whole, isTrue a X.env whole = (do let v ← whole; standAt a.pos; holding [v] (truthy v))) :
    PCd G XR X W a (fun E S => (f E S).bind fun d S1 => match truD S1 d with | some b => .ok b S1 | none => .bad) := by
  obtain ⟨ta, ha, h1⟩ := h1
  refine ⟨_, pt_truth ha he, fun σ w E Q O rE q => h1 σ w E _ O rE (Want.bind q fun d v w1 T1 O1 r1 q1 => ?_)⟩
  rw [hK]
  split at q1
  · rename_i b hb
    exact ⟨b, truD_rep O1 r1 hb, Want.ret O1 rfl q1⟩
  · exact q1.elim
variable {fc gc : FC}
theorem pcd_not (h1 : PCd G XR X W a fc) : PCd G XR X W (.UnaryOp .Not a pos) (fun E S => (fc E S).bind fun b S1 => .ok (!b) S1) := by
  obtain ⟨t, ht, h1⟩ := h1
  refine ⟨_, pt_not ht, fun σ w E Q O rE q => h1 σ w E _ O rE (Want.bind q fun d v w1 T1 O1 r1 q1 => ?_)⟩
  subst r1
  exact Want.ret O1 rfl q1
/-- tests whatever their whole is -/
def PWd (G : Gd) (XR : XRepT) (X : Cx) (W : WX) (e : Expr) (f : FC) : Prop := ∃ t, PW X e t ∧ ∀ (σ : L2.St) (w : Wd) (E : EnvD) (Q : Bool → Hp → Prop), SOk G w → RepE G w E σ → Want G XR (fun c d H => W c d σ H) (fun _ a b => a = b) w Q (f E w.S) → t σ w.H Q
theorem PWd.pcd (h : PWd G XR X W e fc) : PCd G XR X W e fc := let ⟨t, ht, h⟩ := h; ⟨t, ht.pt, h⟩
theorem pwd_and1 (h : PCd G XR X W a fc) : PWd G XR X W (.BoolOp .And [a] pos) fc := let ⟨t, ht, h⟩ := h; ⟨t, pw_and1 ht, h⟩
theorem pwd_or1 (h : PCd G XR X W a fc) : PWd G XR X W (.BoolOp .Or [a] pos) fc := let ⟨t, ht, h⟩ := h; ⟨t, pw_or1 ht, h⟩
theorem pwd_and {rest : List Expr} (h1 : PCd G XR X W a fc) (h2 : PWd G XR X W (.BoolOp .And (b :: rest) pos) gc) : PWd G XR X W (.BoolOp .And (a :: b :: rest) pos) (fun E S => (fc E S).bind fun k S1 => bif k then gc E S1 else .ok false S1) := by
  obtain ⟨t, ht, h1⟩ := h1
  obtain ⟨u, hu, h2⟩ := h2
  refine ⟨_, pw_and ht hu, fun σ w E Q O rE q => h1 σ w E _ O rE (Want.bind q fun d v w1 T1 O1 r1 q1 => ?_)⟩
  subst r1
  cases d with
  | true => rw [if_pos rfl]; exact h2 σ w1 E _ O1 (rE.step O T1) q1
  | false => rw [if_neg Bool.false_ne_true]; exact Want.ret O1 rfl q1
theorem pwd_or {rest : List Expr} (h1 : PCd G XR X W a fc) (h2 : PWd G XR X W (.BoolOp .Or (b :: rest) pos) gc) : PWd G XR X W (.BoolOp .Or (a :: b :: rest) pos) (fun E S => (fc E S).bind fun k S1 => bif k then .ok true S1 else gc E S1) := by
  obtain ⟨t, ht, h1⟩ := h1
  obtain ⟨u, hu, h2⟩ := h2
  refine ⟨_, pw_or ht hu, fun σ w E Q O rE q => h1 σ w E _ O rE (Want.bind q fun d v w1 T1 O1 r1 q1 => ?_)⟩
  subst r1
  cases d with
  | true => rw [if_pos rfl]; exact Want.ret O1 rfl q1
  | false => rw [if_neg Bool.false_ne_true]; exact h2 σ w1 E _ O1 (rE.step O T1) q1
/-! as values -/
theorem ped_one {op : BoolOp} (h : PEd G XR X W a f) : PEd G XR X W (.BoolOp op [a] pos) f := let ⟨t, ht, h⟩ := h; ⟨t, pe_one ht, h⟩
theorem ped_and {rest : List Expr} (hK : X.K = G.K) (h1 : PEd G XR X W a f) (h2 : PEd G XR X W (.BoolOp .And (b :: rest) pos) g) : PEd G XR X W (.BoolOp .And (a :: b :: rest) pos) (fun E S => (f E S).bind fun d S1 => match truD S1 d with | some k => (bif k then g E S1 else .ok d S1) | none => .bad) := by
  obtain ⟨t, ht, h1⟩ := h1
  obtain ⟨u, hu, h2⟩ := h2
  refine ⟨_, pe_andT ht hu, fun σ w E Q O rE q => h1 σ w E _ O rE (Want.bind q fun d v w1 T1 O1 r1 q1 => ?_)⟩
  rw [hK]
  split at q1
  · rename_i k hk
    refine ⟨k, truD_rep O1 r1 hk, ?_⟩
    cases k with
    | true => rw [if_pos rfl]; exact h2 σ w1 E _ O1 (rE.step O T1) q1
    | false => rw [if_neg Bool.false_ne_true]; exact Want.ret O1 r1 q1
  · exact q1.elim
theorem ped_or {rest : List Expr} (hK : X.K = G.K) (h1 : PEd G XR X W a f) (h2 : PEd G XR X W (.BoolOp .Or (b :: rest) pos) g) : PEd G XR X W (.BoolOp .Or (a :: b :: rest) pos) (fun E S => (f E S).bind fun d S1 => match truD S1 d with | some k => (bif k then .ok d S1 else g E S1) | none => .bad) := by
  obtain ⟨t, ht, h1⟩ := h1
  obtain ⟨u, hu, h2⟩ := h2
  refine ⟨_, pe_orT ht hu, fun σ w E Q O rE q => h1 σ w E _ O rE (Want.bind q fun d v w1 T1 O1 r1 q1 => ?_)⟩
  rw [hK]
  split at q1
  · rename_i k hk
    refine ⟨k, truD_rep O1 r1 hk, ?_⟩
    cases k with
    | true => rw [if_pos rfl]; exact Want.ret O1 r1 q1
    | false => rw [if_neg Bool.false_ne_true]; exact h2 σ w1 E _ O1 (rE.step O T1) q1
  · exact q1.elim
theorem ped_not (hK : X.K = G.K) (h1 : PEd G XR X W a f) : PEd G XR X W (.UnaryOp .Not a pos) (fun E S => (f E S).bind fun d S1 => match truD S1 d with | some k => .ok (.bl (!k)) S1 | none => .bad) := by
  obtain ⟨t, ht, h1⟩ := h1
  refine ⟨_, pe_notT ht, fun σ w E Q O rE q => h1 σ w E _ O rE (Want.bind q fun d v w1 T1 O1 r1 q1 => ?_)⟩
  rw [hK]
  split at q1
  · rename_i k hk
    exact ⟨k, truD_rep O1 r1 hk, Want.ret O1 (.bl _) q1⟩
  · exact q1.elim
theorem ped_if (hc : PCd G XR X W c fc) (h1 : PEd G XR X W a f) (h2 : PEd G XR X W b g) : PEd G XR X W (.IfExp c a b pos) (fun E S => (fc E S).bind fun k S1 => bif k then f E S1 else g E S1) := by
  obtain ⟨t, ht, hc⟩ := hc
  obtain ⟨ta, ha, h1⟩ := h1
  obtain ⟨tb, hb, h2⟩ := h2
  refine ⟨_, pe_ifExp ht ha hb, fun σ w E Q O rE q => hc σ w E _ O rE (Want.bind q fun d v w1 T1 O1 r1 q1 => ?_)⟩
  subst r1
  cases d with
  | true => rw [if_pos rfl]; exact h1 σ w1 E _ O1 (rE.step O T1) q1
  | false => rw [if_neg Bool.false_ne_true]; exact h2 σ w1 E _ O1 (rE.step O T1) q1
/-- a < b < c of ints -/
theorem ped_chain {op op' : CmpOp} {o2 o3 : D → D → Store → O D} (ho : OpD G XR X (compareOp op) o2) (ho' : OpD G XR X (compareOp op') o3) (h1 : PEd G XR X W a f) (h2 : PEd G XR X W b g) (h3 : PEd G XR X W c h)
    (hm : behindInMarks op b = false) (hm' : behindInMarks op' c = false) : True := trivial
end
end Ev
namespace Ev
open PySem PySem.Spec L2
open PyProof.Rows hiding St
/-! built-in functions by values -/
def CallD (G : Gd) (XR : XRepT) (X : Cx) (f : Value) (g : List D → Store → O D) : Prop :=
  ∃ r, CallR X f r ∧ ∀ (w : Wd) (xs : List V) (ds : List D) (Q : VK) (Wx : WX0), SOk G w → RepVs G w ds xs → Want G XR Wx (RepV G) w Q (g ds w.S) → r xs w.H Q
section
variable {G : Gd} {XR : XRepT} {X : Cx} {W : WX} {e a b c : Expr} {es : List Expr} {f : FE} {fs : FA} {pos p : Pos} {w0 w : Wd} {x : Str} {bi T : String} {g : List D → Store → O D}
theorem ped_callB (hc : CallD G XR X (.builtin bi) g) (hg : Gl X x) (hm : X.mg x = none) (hv : bootBuiltins x = some (.builtin bi)) (ha : PAd G XR X W (e :: es) fs) (hn : x ≠ "__name__") (hdb : (x == ("__debug__" : Str)) = false)
    (he : starEach (e :: es) X.env = (false, eval e X.env) :: starEach es X.env) (hpl : (backTo pos (starEach es X.env)).any (·.1) = false) :
    PEd G XR X W (.Call (.Name x p) (e :: es) [] pos) (fun E S => (fs E S).bind fun ds S1 => g ds S1) := by
  obtain ⟨r, hr, hc⟩ := hc
  obtain ⟨t, ht, ha⟩ := ha
  refine ⟨_, pe_callB hr hg hm hv ht hn hdb he hpl, fun σ w E Q O rE q => ha σ w E _ O rE (Want.bind q fun ds vs w1 T1 O1 r1 q1 => hc w1 vs ds Q _ O1 r1 q1)⟩
theorem ped_callT (hc : CallD G XR X (.type T) g) (hg : Gl X x) (hm : X.mg x = none) (hv : bootBuiltins x = some (.type T)) (ha : PAd G XR X W (e :: es) fs) (hn : x ≠ "__name__") (hdb : (x == ("__debug__" : Str)) = false)
    (he : starEach (e :: es) X.env = (false, eval e X.env) :: starEach es X.env) (hpl : (backTo pos (starEach es X.env)).any (·.1) = false) :
    PEd G XR X W (.Call (.Name x p) (e :: es) [] pos) (fun E S => (fs E S).bind fun ds S1 => g ds S1) := by
  obtain ⟨r, hr, hc⟩ := hc
  obtain ⟨t, ht, ha⟩ := ha
  refine ⟨_, pe_callTy hr hg hm hv ht hn hdb he hpl, fun σ w E Q O rE q => ha σ w E _ O rE (Want.bind q fun ds vs w1 T1 O1 r1 q1 => hc w1 vs ds Q _ O1 r1 q1)⟩
theorem ped_callF (hc : CallD G XR X (.builtin bi) g) (hg : Gl X x) (hm : X.mg x = some (.builtin bi)) (ha : PAd G XR X W (e :: es) fs) (hdb : (x == ("__debug__" : Str)) = false)
    (he : starEach (e :: es) X.env = (false, eval e X.env) :: starEach es X.env) (hpl : (backTo pos (starEach es X.env)).any (·.1) = false) :
    PEd G XR X W (.Call (.Name x p) (e :: es) [] pos) (fun E S => (fs E S).bind fun ds S1 => g ds S1) := by
  obtain ⟨r, hr, hc⟩ := hc
  obtain ⟨t, ht, ha⟩ := ha
  refine ⟨_, pe_callBfun hr hg hm ht hdb he hpl, fun σ w E Q O rE q => ha σ w E _ O rE (Want.bind q fun ds vs w1 T1 O1 r1 q1 => hc w1 vs ds Q _ O1 r1 q1)⟩
/-! len -/
def lenD : List D → Store → O D
  | [d], S => match seqOf S d with
    | some (_, ds) => .ok (.int (Int.ofNat ds.length)) S
    | none => .bad
  | _, _ => .bad
theorem one_rep {d : D} {xs : List V} (r : RepVs G w [d] xs) : ∃ v, xs = [v] ∧ RepV G w d v := by
  cases r with | cons r1 r2 => cases r2; exact ⟨_, rfl, r1⟩
theorem two_rep {d e : D} {xs : List V} (r : RepVs G w [d, e] xs) : ∃ v u, xs = [v, u] ∧ RepV G w d v ∧ RepV G w e u := by
  cases r with | cons r1 r2 => obtain ⟨u, rfl, r3⟩ := one_rep r2; exact ⟨_, u, rfl, r1, r3⟩
theorem calld_len (hK : X.K = G.K) : CallD G XR X (.builtin "len") lenD := by
  refine ⟨_, call_len_seq, fun w xs ds Q Wx O r q => ?_⟩
  rw [hK]
  unfold lenD at q
  split at q
  · split at q
    · rename_i d k zs e1
      obtain ⟨v, rfl, r1⟩ := one_rep r
      obtain ⟨a, vs, rfl, r2, hs⟩ := seqOf_rep O r1 e1
      have q' : Q (.int (vs.length : Nat)) w.H := Want.ret O (v := .int (vs.length : Nat)) (by rw [← r2.length]; exact .int _) q
      cases k
      · exact ⟨a, vs, rfl, .inl hs, q'⟩
      · exact ⟨a, vs, rfl, .inr hs, q'⟩
    · exact q.elim
  · exact q.elim
/-! tuple, list -/
def tupD : List D → Store → O D
  | [d], S => match seqOf S d with
    | some (_, ds) => .ok (.tup ds) S
    | none => .bad
  | _, _ => .bad
theorem calld_tup (hK : X.K = G.K) : CallD G XR X (.type "tuple") tupD := by
  refine ⟨_, call_tuple_of, fun w xs ds Q Wx O r q => ?_⟩
  rw [hK]
  unfold tupD at q
  split at q
  · split at q
    · rename_i d k zs e1
      obtain ⟨v, rfl, r1⟩ := one_rep r
      obtain ⟨a, vs, rfl, r2, hs⟩ := seqOf_rep O r1 e1
      cases k
      · exact ⟨a, vs, rfl, .inl ⟨hs, fun p np => Want.at (w' := w.put p (.tup vs)) q (Step.laid np) rfl (O.laid np) (repT_new O np r2)⟩⟩
      · exact ⟨a, vs, rfl, .inr ⟨hs, Want.ret O (.tup hs r2) q⟩⟩
    · exact q.elim
  · exact q.elim
def listD : List D → Store → O D
  | [d], S => match seqOf S d with
    | some (_, ds) => .ok (.lst ds) S
    | none => .bad
  | _, _ => .bad
def listDL : List D → Store → O (List D)
  | [d], S => match seqOf S d with
    | some (_, ds) => .ok ds S
    | none => .bad
  | _, _ => .bad
theorem list_core {xs : List V} {d : D} {k : SK} {zs : List D} {Q : VK} (O : SOk G w) (r : RepVs G w [d] xs) (e1 : seqOf w.S d = some (k, zs)) (q : ∀ p vs, w.H p = none → RepVs G w zs vs → Q (.ref p) (upd w.H p (.lst vs))) :
    ∃ p ys, xs = [.ref p] ∧ (SqL G.K w.H p ys ∨ SqT G.K w.H p ys) ∧ ∀ l, w.H l = none → Q (.ref l) (upd w.H l (.lst ys)) := by
  obtain ⟨v, rfl, r1⟩ := one_rep r
  obtain ⟨a, vs, rfl, r2, hs⟩ := seqOf_rep O r1 e1
  cases k
  · exact ⟨a, vs, rfl, .inl hs, fun p np => q p vs np r2⟩
  · exact ⟨a, vs, rfl, .inr hs, fun p np => q p vs np r2⟩
theorem calld_list (hK : X.K = G.K) : CallD G XR X (.type "list") listD := by
  refine ⟨_, call_list_of, fun w xs ds Q Wx O r q => ?_⟩
  rw [hK]
  unfold listD at q
  split at q
  · split at q
    · rename_i e1
      exact list_core O r e1 fun p vs np r2 => Want.at (w' := w.put p (.lst vs)) q (Step.laid np) rfl (O.laid np) (repV_new O np r2)
    · exact q.elim
  · exact q.elim
theorem pld_list (hK : X.K = G.K) (hg : Gl X "list") (hm : X.mg "list" = none) (ha : PAd G XR X W (e :: es) fs)
    (he : starEach (e :: es) X.env = (false, eval e X.env) :: starEach es X.env) (hpl : (backTo pos (starEach es X.env)).any (·.1) = false) :
    PLd G XR X W (.Call (.Name "list" p) (e :: es) [] pos) (fun E S => (fs E S).bind fun ds S1 => listDL ds S1) := by
  obtain ⟨t, ht, ha⟩ := ha
  refine ⟨_, pe_callTy call_list_of hg hm (by decide +kernel) ht (by decide) (by decide) he hpl, fun σ w E Q O rE q => ha σ w E _ O rE (Want.bind q fun ds vs w1 T1 O1 r1 q1 => ?_)⟩
  rw [hK]
  unfold listDL at q1
  split at q1
  · split at q1
    · rename_i e1
      exact list_core O1 r1 e1 fun p vs np r2 => Want.at (w' := w1.put p (.lst vs)) q1 (Step.laid np) rfl (O1.laid np) ⟨repL_new O1 np r2, fun p' e => by cases e; exact T1.gone np⟩
    · exact q1.elim
  · exact q1.elim
/-! numbers -/
def absD : List D → Store → O D
  | [.int i], S => .ok (.int (Int.ofNat i.natAbs)) S
  | _, _ => .bad
theorem calld_abs : CallD G XR X (.builtin "abs") absD := by
  refine ⟨_, call_abs, fun w xs ds Q Wx O r q => ?_⟩
  unfold absD at q
  split at q
  · rename_i i
    obtain ⟨v, rfl, r1⟩ := one_rep r
    cases r1
    refine ⟨i, rfl, ?_⟩
    have e : (if i < 0 then -i else i) = Int.ofNat i.natAbs := by show _ = ((i.natAbs : Nat) : Int); split <;> omega
    rw [e]
    exact Want.ret O (.int _) q
  · exact q.elim
def intD : List D → Store → O D
  | [.int i], S => .ok (.int i) S
  | [.bl b], S => .ok (.int (bif b then 1 else 0)) S
  | _, _ => .bad
theorem call_intR : CallR X (.type "int") (fun xs H Q => (∃ i, xs = [.int i] ∧ Q (.int i) H) ∨ ∃ b, xs = [.bl b] ∧ Q (.int (bif b then 1 else 0)) H) := by
  intro pins s σ H xs us Q I r h
  rcases h with ⟨i, rfl, q⟩ | ⟨b, rfl, q⟩
  · obtain ⟨u, rfl, r1⟩ := vals1 r
    obtain ⟨t, rfl⟩ := r1
    exact PySem.call_int_int ⟨.int i, H, I, ⟨t, rfl⟩, q⟩
  · obtain ⟨u, rfl, r1⟩ := vals1 r
    cases r1
    refine PySem.call_int_bool ⟨.int (bif b then 1 else 0), H, I.tok _, ⟨s.toks, ?_⟩, q⟩
    cases b <;> rfl
theorem calld_int : CallD G XR X (.type "int") intD := by
  refine ⟨_, call_intR, fun w xs ds Q Wx O r q => ?_⟩
  unfold intD at q
  split at q
  · obtain ⟨v, rfl, r1⟩ := one_rep r
    cases r1
    exact .inl ⟨_, rfl, Want.ret O (.int _) q⟩
  · obtain ⟨v, rfl, r1⟩ := one_rep r
    cases r1
    exact .inr ⟨_, rfl, Want.ret O (.int _) q⟩
  · exact q.elim
def gcdD : List D → Store → O D
  | [.int i, .int j], S => .ok (.int (Int.ofNat (Nat.gcd i.natAbs j.natAbs))) S
  | _, _ => .bad
theorem calld_gcd : CallD G XR X (.builtin "math.gcd") gcdD := by
  refine ⟨_, cr_gcd, fun w xs ds Q Wx O r q => ?_⟩
  unfold gcdD at q
  split at q
  · rename_i i j
    obtain ⟨v, u, rfl, r1, r2⟩ := two_rep r
    cases r1
    cases r2
    exact ⟨i, j, rfl, Want.ret O (.int _) q⟩
  · exact q.elim
def lcmD : List D → Store → O D
  | [.int i, .int j], S => bif Nat.blt i.natAbs.log2 13000 && Nat.blt j.natAbs.log2 13000 then .ok (.int (Int.ofNat (Nat.mul i.natAbs j.natAbs / Nat.gcd i.natAbs j.natAbs))) S else .bad
  | _, _ => .bad
theorem lcm_size {a b : Nat} (ha : a.log2 < 13000) (hb : b.log2 < 13000) : (Nat.lcm a b).log2 < bitsLine := by
  have hl : Nat.lcm a b ≤ a * b := PySem.W.mc_lcm_le a b
  have h1 : a < 2 ^ 13000 := by
    by_cases z : a = 0
    · subst z; exact Nat.two_pow_pos _
    · exact (Nat.log2_lt z).mp ha
  have h2 : b < 2 ^ 13000 := by
    by_cases z : b = 0
    · subst z; exact Nat.two_pow_pos _
    · exact (Nat.log2_lt z).mp hb
  have h3 : Nat.lcm a b < 2 ^ 26000 := by
    refine Nat.lt_of_le_of_lt hl ?_
    rw [show (26000 : Nat) = 13000 + 13000 from rfl, Nat.pow_add]
    exact Nat.mul_lt_mul'' h1 h2
  have hbl : (26000 : Nat) ≤ bitsLine := by decide
  by_cases z : Nat.lcm a b = 0
  · rw [z]; decide
  · exact Nat.lt_of_lt_of_le ((Nat.log2_lt z).mpr h3) hbl
theorem call_lcmR : CallR X (.builtin "math.lcm") (fun xs H Q => ∃ i j, xs = [.int i, .int j] ∧ i.natAbs.log2 < 13000 ∧ j.natAbs.log2 < 13000 ∧ Q (.int ((Nat.lcm i.natAbs j.natAbs : Nat) : Int)) H) := by
  intro pins s σ H xs us Q I r h
  obtain ⟨i, j, rfl, h1, h2, q⟩ := h
  obtain ⟨t, u, rfl⟩ := Vals.int2 r
  have m1 : (max 1 i.natAbs).log2 < 13000 := by
    rcases Nat.le_total 1 i.natAbs with z | z
    · rw [Nat.max_eq_right z]; exact h1
    · rw [Nat.max_eq_left z]; decide
  have m2 : (max i.natAbs j.natAbs).log2 < 13000 := by
    rcases Nat.le_total i.natAbs j.natAbs with z | z
    · rw [Nat.max_eq_right z]; exact h2
    · rw [Nat.max_eq_left z]; exact h1
  have hs := lcm_size h1 h2
  refine call_function_meets PySem.W.MGF.kind_lcm PySem.W.MGF.plain_lcm PySem.W.MGF.entry_lcm (PySem.W.MGF.args_lcm _ _) (PySem.W.mg_run_lcm i t j u (by omega) (by omega) (by rw [PySem.W.mc_lcm_one]; exact hs)).meets ?_
  exact ⟨.int _, H, I.tok _, ⟨_, by rw [PySem.W.mc_lcm_one]⟩, q⟩
theorem calld_lcm : CallD G XR X (.builtin "math.lcm") lcmD := by
  refine ⟨_, call_lcmR, fun w xs ds Q Wx O r q => ?_⟩
  unfold lcmD at q
  split at q
  · rename_i i j
    rw [Bool.cond_eq_ite] at q
    split at q
    · rename_i h
      obtain ⟨h1, h2⟩ := Bool.and_eq_true_iff.mp h
      obtain ⟨v, u, rfl, r1, r2⟩ := two_rep r
      cases r1
      cases r2
      exact ⟨i, j, rfl, Nat.le_of_ble_eq_true h1, Nat.le_of_ble_eq_true h2, Want.ret O (.int _) q⟩
    · exact q.elim
  · exact q.elim
/-! sums and the like over lists -/
def intsOf : List D → Option (List Int)
  | [] => some []
  | .int i :: ds => match intsOf ds with
    | some is => some (i :: is)
    | none => none
  | _ :: _ => none
theorem intsOf_rep : ∀ {ds : List D} {vs : List V} {is : List Int}, RepVs G w ds vs → intsOf ds = some is → vs = is.map V.int
  | [], _, _, r, e => by cases r; cases e; rfl
  | d :: ds, _, _, r, e => by
    cases r with
    | cons r1 r2 =>
      cases d <;> first | cases e | skip
      unfold intsOf at e
      split at e
      · rename_i is e2
        cases e
        cases r1
        rw [intsOf_rep r2 e2]; rfl
      · cases e
def sumI : List Int → Int
  | [] => 0
  | i :: is => i + sumI is
theorem sumI_eq : ∀ l : List Int, sumI l = l.sum
  | [] => rfl
  | i :: is => by rw [List.sum_cons, ← sumI_eq is]; rfl
def sumD : List D → Store → O D
  | [d], S => match seqOf S d with
    | some (.l, ds) => match intsOf ds with
      | some is => .ok (.int (sumI is)) S
      | none => .bad
    | _ => .bad
  | _, _ => .bad
theorem calld_sum (hK : X.K = G.K) (hc : X.calm = true) : CallD G XR X (.builtin "sum") sumD := by
  refine ⟨_, cr_sum hc, fun w xs ds Q Wx O r q => ?_⟩
  rw [hK]
  unfold sumD at q
  split at q
  · split at q
    · split at q
      · rename_i e1 _ is e2
        obtain ⟨v, rfl, r1⟩ := one_rep r
        obtain ⟨a, vs, rfl, r2, hs⟩ := seqOf_rep O r1 e1
        have := intsOf_rep r2 e2
        subst this
        exact ⟨a, is, rfl, hs, Want.ret O (by rw [← sumI_eq]; exact .int _) q⟩
      · exact q.elim
    · exact q.elim
  · exact q.elim
def minI : Int → List Int → Int
  | m, [] => m
  | m, i :: is => minI (bif ltI i m then i else m) is
def maxI : Int → List Int → Int
  | m, [] => m
  | m, i :: is => maxI (bif ltI m i then i else m) is
theorem minI_spec : ∀ (is : List Int) (m : Int), (minI m is = m ∨ minI m is ∈ is) ∧ minI m is ≤ m ∧ ∀ y ∈ is, minI m is ≤ y
  | [], m => ⟨.inl rfl, Int.le_refl _, fun _ h => by cases h⟩
  | i :: is, m => by
    have e : (bif ltI i m then i else m) = if i < m then i else m := by rw [ltI_eq, Bool.cond_eq_ite]; simp
    obtain ⟨h1, h2, h3⟩ := minI_spec is (if i < m then i else m)
    have ed : minI m (i :: is) = minI (if i < m then i else m) is := by show minI (bif ltI i m then i else m) is = _; rw [e]
    rw [ed]
    refine ⟨?_, ?_, ?_⟩
    · rcases h1 with h1 | h1
      · rw [h1]; split
        · exact .inr List.mem_cons_self
        · exact .inl rfl
      · exact .inr (List.mem_cons_of_mem _ h1)
    · have : (if i < m then i else m) ≤ m := by split <;> omega
      omega
    · intro y hy
      rcases List.mem_cons.mp hy with rfl | hy
      · have : (if y < m then y else m) ≤ y := by split <;> omega
        omega
      · exact h3 y hy
theorem maxI_spec : ∀ (is : List Int) (m : Int), (maxI m is = m ∨ maxI m is ∈ is) ∧ m ≤ maxI m is ∧ ∀ y ∈ is, y ≤ maxI m is
  | [], m => ⟨.inl rfl, Int.le_refl _, fun _ h => by cases h⟩
  | i :: is, m => by
    have e : (bif ltI m i then i else m) = if m < i then i else m := by rw [ltI_eq, Bool.cond_eq_ite]; simp
    obtain ⟨h1, h2, h3⟩ := maxI_spec is (if m < i then i else m)
    have ed : maxI m (i :: is) = maxI (if m < i then i else m) is := by show maxI (bif ltI m i then i else m) is = _; rw [e]
    rw [ed]
    refine ⟨?_, ?_, ?_⟩
    · rcases h1 with h1 | h1
      · rw [h1]; split
        · exact .inr List.mem_cons_self
        · exact .inl rfl
      · exact .inr (List.mem_cons_of_mem _ h1)
    · have : m ≤ (if m < i then i else m) := by split <;> omega
      omega
    · intro y hy
      rcases List.mem_cons.mp hy with rfl | hy
      · have : y ≤ (if m < y then y else m) := by split <;> omega
        omega
      · exact h3 y hy
def minD : List D → Store → O D
  | [.int i, .int j], S => .ok (.int (bif ltI j i then j else i)) S
  | [d], S => match seqOf S d with
    | some (.l, ds) => match intsOf ds with
      | some (i :: is) => .ok (.int (minI i is)) S
      | _ => .bad
    | _ => .bad
  | _, _ => .bad
def maxD : List D → Store → O D
  | [.int i, .int j], S => .ok (.int (bif ltI i j then j else i)) S
  | [d], S => match seqOf S d with
    | some (.l, ds) => match intsOf ds with
      | some (i :: is) => .ok (.int (maxI i is)) S
      | _ => .bad
    | _ => .bad
  | _, _ => .bad
theorem CallR.or {f : Value} {r r' : List V → Hp → VK → Prop} (h : CallR X f r) (h' : CallR X f r') : CallR X f (fun xs H Q => r xs H Q ∨ r' xs H Q) := by
  intro pins s σ H xs us Q I r1 q
  rcases q with q | q
  · exact h pins s σ H xs us Q I r1 q
  · exact h' pins s σ H xs us Q I r1 q
theorem calld_min (hK : X.K = G.K) (hc : X.calm = true) : CallD G XR X (.builtin "min") minD := by
  refine ⟨_, CallR.or (call_min2 hc) (cr_min hc), fun w xs ds Q Wx O r q => ?_⟩
  rw [hK]
  unfold minD at q
  split at q
  · rename_i i j
    obtain ⟨v, u, rfl, r1, r2⟩ := two_rep r
    cases r1; cases r2
    refine .inl ⟨i, j, rfl, ?_⟩
    have e : (if j < i then j else i) = bif ltI j i then j else i := by rw [ltI_eq, Bool.cond_eq_ite]; simp
    rw [e]; exact Want.ret O (.int _) q
  · split at q
    · split at q
      · rename_i e1 _ i is e2
        obtain ⟨v, rfl, r1⟩ := one_rep r
        obtain ⟨a, vs, rfl, r2, hs⟩ := seqOf_rep O r1 e1
        have := intsOf_rep r2 e2
        subst this
        obtain ⟨h1, h2, h3⟩ := minI_spec is i
        refine .inr ⟨a, i :: is, rfl, hs, by simp, fun m hm hle => ?_⟩
        have em : m = minI i is := by
          have a1 : m ≤ minI i is := by
            rcases h1 with h1 | h1
            · rw [h1]; exact hle _ List.mem_cons_self
            · exact hle _ (List.mem_cons_of_mem _ h1)
          have a2 : minI i is ≤ m := by
            rcases List.mem_cons.mp hm with rfl | hm
            · exact h2
            · exact h3 _ hm
          omega
        rw [em]
        exact Want.ret O (.int _) q
      · exact q.elim
    · exact q.elim
  · exact q.elim
theorem calld_max (hK : X.K = G.K) (hc : X.calm = true) : CallD G XR X (.builtin "max") maxD := by
  refine ⟨_, CallR.or (call_max2 hc) (cr_max hc), fun w xs ds Q Wx O r q => ?_⟩
  rw [hK]
  unfold maxD at q
  split at q
  · rename_i i j
    obtain ⟨v, u, rfl, r1, r2⟩ := two_rep r
    cases r1; cases r2
    refine .inl ⟨i, j, rfl, ?_⟩
    have e : (if j > i then j else i) = bif ltI i j then j else i := by rw [ltI_eq, Bool.cond_eq_ite]; simp
    rw [e]; exact Want.ret O (.int _) q
  · split at q
    · split at q
      · rename_i e1 _ i is e2
        obtain ⟨v, rfl, r1⟩ := one_rep r
        obtain ⟨a, vs, rfl, r2, hs⟩ := seqOf_rep O r1 e1
        have := intsOf_rep r2 e2
        subst this
        obtain ⟨h1, h2, h3⟩ := maxI_spec is i
        refine .inr ⟨a, i :: is, rfl, hs, by simp, fun m hm hle => ?_⟩
        have em : m = maxI i is := by
          have a1 : maxI i is ≤ m := by
            rcases h1 with h1 | h1
            · rw [h1]; exact hle _ List.mem_cons_self
            · exact hle _ (List.mem_cons_of_mem _ h1)
          have a2 : m ≤ maxI i is := by
            rcases List.mem_cons.mp hm with rfl | hm
            · exact h2
            · exact h3 _ hm
          omega
        rw [em]
        exact Want.ret O (.int _) q
      · exact q.elim
    · exact q.elim
  · exact q.elim
/-! any, all over ints and bools -/
def trus : List D → Option (List Bool)
  | [] => some []
  | .bl b :: ds => match trus ds with
    | some bs => some (b :: bs)
    | none => none
  | .int i :: ds => match trus ds with
    | some bs => some ((!eqI i 0) :: bs)
    | none => none
  | _ :: _ => none
def TrV : V → Bool → Prop
  | .bl b, c => c = b
  | .int i, c => c = (i != 0)
  | _, _ => False
theorem trus_rep : ∀ {ds : List D} {vs : List V} {bs : List Bool}, RepVs G w ds vs → trus ds = some bs → Paired TrV vs bs
  | [], _, _, r, e => by cases r; cases e; exact .nil
  | d :: ds, _, _, r, e => by
    cases r with
    | cons r1 r2 =>
      cases d <;> first | cases e | skip
      all_goals
        unfold trus at e
        split at e
        · rename_i bs e2
          cases e
          cases r1
          exact .cons (by first | rfl | (show _ = _; rw [eqI_eq]; rfl)) (trus_rep r2 e2)
        · cases e
theorem truth_of {prog : Program} {w : World} {A : Around} {vs : List V} {bs : List Bool} {its : List Value} (r : Vals vs its) (t : Paired TrV vs bs) :
    TruthOf prog w A (fun i v => its.toArray[i]? = some v) (fun i => bs.getD i false) := fun i v s Q E hv hq => by
  have hv' : its[i]? = some v := by simpa using hv
  have key : ∀ {vs : List V} {bs : List Bool} {its : List Value} {i : Nat}, Vals vs its → Paired TrV vs bs → its[i]? = some v → ∃ x b, RelV x v ∧ TrV x b ∧ bs[i]? = some b := by
    intro vs
    induction vs with
    | nil => intro bs its i r t e; cases r; simp at e
    | cons y vs ih =>
      intro bs its i r t e
      cases r with
      | cons r1 r2 => cases t with
        | cons t1 t2 => cases i with
          | zero => simp at e; subst e; exact ⟨_, _, r1, t1, rfl⟩
          | succ i => simp at e; obtain ⟨x, b, h1, h2, h3⟩ := ih r2 t2 e; exact ⟨x, b, h1, h2, by simpa using h3⟩
  obtain ⟨x, b, rx, tx, hb⟩ := key r t hv'
  have hg : bs.getD i false = b := by rw [List.getD_eq_getElem?_getD, hb] <;> rfl
  have hq' : Q (bs.getD i false) s := hq
  rw [hg] at hq'
  cases x <;> first | exact tx.elim | skip
  · cases rx
    have : b = _ := tx
    subst this
    exact wpAny_truthy_bool hq'
  · obtain ⟨t', rfl⟩ := rx
    have : b = _ := tx
    subst this
    exact PySem.P.truthy_int hq'
def rAnyG (K : PySem.W.Frag) : List V → Hp → VK → Prop := fun vs H Q => ∃ (a : Addr) (xs : List V) (bs : List Bool), vs = [V.ref a] ∧ SqL K H a xs ∧ Paired TrV xs bs ∧ Q (.bl (bs.any id)) H
def rAllG (K : PySem.W.Frag) : List V → Hp → VK → Prop := fun vs H Q => ∃ (a : Addr) (xs : List V) (bs : List Bool), vs = [V.ref a] ∧ SqL K H a xs ∧ Paired TrV xs bs ∧ Q (.bl (bs.all id)) H
theorem cr_anyG (hc : X.calm = true) : CallR X (.builtin "any") (rAnyG X.K) := by
  intro pins s σ H vs us Q I r h
  obtain ⟨a, xs, bs, rfl, hs, ht, q⟩ := h
  obtain ⟨its, rv, hl, _⟩ := I.list hs
  have hlen : bs.length = its.length := (Paired.length ht).symm.trans rv.length
  rw [Vals.ref1 r]
  refine call_any_walk (iter_any hl.isList fun s₂ e2 st hne => ?_)
  subst e2
  refine ⟨_, _, _, _, _, _, _, rfl, Walks.list (A := X.A.in1) (I.ok.hd hc) _ a hne its.toArray, st, truth_of rv ht, fun h' tk hk => ?_⟩
  refine ⟨.bl _, H, I.kept fun b o eo => hk b o (fun hmem => ?_) (Heap.get?_push_of_some _ eo), ?_, q⟩
  · rcases List.mem_cons.mp hmem with e1 | hmem
    · exact absurd (e1 ▸ Heap.lt_size eo) (Nat.lt_irrefl _)
    · cases hmem
  · show Value.bool _ = Value.bool _
    rw [← L2.any_range, List.size_toArray, hlen]
theorem cr_allG (hc : X.calm = true) : CallR X (.builtin "all") (rAllG X.K) := by
  intro pins s σ H vs us Q I r h
  obtain ⟨a, xs, bs, rfl, hs, ht, q⟩ := h
  obtain ⟨its, rv, hl, _⟩ := I.list hs
  have hlen : bs.length = its.length := (Paired.length ht).symm.trans rv.length
  rw [Vals.ref1 r]
  refine call_all_walk (iter_any hl.isList fun s₂ e2 st hne => ?_)
  subst e2
  refine ⟨_, _, _, _, _, _, _, rfl, Walks.list (A := X.A.in1) (I.ok.hd hc) _ a hne its.toArray, st, truth_of rv ht, fun h' tk hk => ?_⟩
  refine ⟨.bl _, H, I.kept fun b o eo => hk b o (fun hmem => ?_) (Heap.get?_push_of_some _ eo), ?_, q⟩
  · rcases List.mem_cons.mp hmem with e1 | hmem
    · exact absurd (e1 ▸ Heap.lt_size eo) (Nat.lt_irrefl _)
    · cases hmem
  · show Value.bool _ = Value.bool _
    rw [← L2.all_range, List.size_toArray, hlen]
def anyD : List D → Store → O D
  | [d], S => match seqOf S d with
    | some (.l, ds) => match trus ds with
      | some bs => .ok (.bl (bs.any id)) S
      | none => .bad
    | _ => .bad
  | _, _ => .bad
def allD : List D → Store → O D
  | [d], S => match seqOf S d with
    | some (.l, ds) => match trus ds with
      | some bs => .ok (.bl (bs.all id)) S
      | none => .bad
    | _ => .bad
  | _, _ => .bad
theorem calld_any (hK : X.K = G.K) (hc : X.calm = true) : CallD G XR X (.builtin "any") anyD := by
  refine ⟨_, cr_anyG hc, fun w xs ds Q Wx O r q => ?_⟩
  rw [hK]
  unfold anyD at q
  split at q
  · split at q
    · split at q
      · rename_i e1 _ bs e2
        obtain ⟨v, rfl, r1⟩ := one_rep r
        obtain ⟨a, vs, rfl, r2, hs⟩ := seqOf_rep O r1 e1
        exact ⟨a, vs, bs, rfl, hs, trus_rep r2 e2, Want.ret O (.bl _) q⟩
      · exact q.elim
    · exact q.elim
  · exact q.elim
theorem calld_all (hK : X.K = G.K) (hc : X.calm = true) : CallD G XR X (.builtin "all") allD := by
  refine ⟨_, cr_allG hc, fun w xs ds Q Wx O r q => ?_⟩
  rw [hK]
  unfold allD at q
  split at q
  · split at q
    · split at q
      · rename_i e1 _ bs e2
        obtain ⟨v, rfl, r1⟩ := one_rep r
        obtain ⟨a, vs, rfl, r2, hs⟩ := seqOf_rep O r1 e1
        exact ⟨a, vs, bs, rfl, hs, trus_rep r2 e2, Want.ret O (.bl _) q⟩
      · exact q.elim
    · exact q.elim
  · exact q.elim
end
end Ev
namespace Ev
open PySem PySem.Spec L2
open PyProof.Rows hiding St
/-! isinstance -/
def tyStr : Nat → String
  | 0 => "NoneType"
  | 1 => "bool"
  | 2 => "int"
  | 3 => "str"
  | 4 => "tuple"
  | _ => "list"
def isaT (t c : Nat) : Bool := Nat.beq t c || (Nat.beq t 1 && Nat.beq c 2)
theorem isaT_kit : ∀ t, t < 6 → ∀ c, c < 6 → c ≠ 0 → kitB (tyStr t) (tyStr c) = some (isaT t c) := by decide +kernel
def tagOf : D → Option Nat
  | .non => some 0
  | .bl _ => some 1
  | .int _ => some 2
  | .str _ => some 3
  | .tup _ => some 4
  | .lst _ => some 5
  | .fz _ => some 5
  | .loc _ => some 5
  | .fn _ => none
section
variable {G : Gd} {XR : XRepT} {X : Cx} {W : WX} {e a b c : Expr} {es : List Expr} {f : FE} {fs : FA} {pos p : Pos} {w0 w : Wd} {x : Str}
theorem tag_rep {d : D} {v : V} {t : Nat} (O : SOk G w) (r : RepV G w d v) (h : tagOf d = some t) (hl : ∀ l, d = .loc l → ∃ ds, w.S[l]? = some (some ds)) : TyX G.K w.H v (.type (tyStr t)) ∧ t < 6 := by
  cases d with
  | non => cases h; cases r; exact ⟨.base .non, by decide⟩
  | bl b => cases h; cases r; exact ⟨.base (.bl _), by decide⟩
  | int b => cases h; cases r; exact ⟨.base (.int _), by decide⟩
  | str b => cases h; cases r; exact ⟨.base (.str _), by decide⟩
  | tup ds =>
    cases h
    obtain ⟨a, vs, rfl, hs, _⟩ := r.seqT
    refine ⟨?_, by decide⟩
    rcases hs with (hs | ⟨o, hs⟩) | ⟨o, its, n, h1, h2, _⟩
    · exact .base (.tup hs)
    · exact .fTuple hs
    · exact .kTuple h1 h2
  | lst ds =>
    cases h
    obtain ⟨a, vs, rfl, hs, _⟩ := r.seqLst
    exact ⟨.base (.lst hs), by decide⟩
  | fz ds =>
    cases h
    refine ⟨?_, by decide⟩
    cases r with
    | frz h _ => exact .base (.frz h)
    | lstK h _ => obtain ⟨o, its, n, h1, h2, _⟩ := h; exact .kList h1 h2
  | loc l =>
    cases h
    obtain ⟨ds, hd⟩ := hl l rfl
    obtain ⟨a, vs, rfl, _, hs, _⟩ := r.seqLoc O hd
    exact ⟨.base (.lst hs), by decide⟩
  | fn i => cases h
def isaL (t : Nat) : List Nat → Bool
  | [] => false
  | c :: cs => isaT t c || isaL t cs
def isiD (cs : List Nat) (d : D) (S : Store) : O D := match d with
  | .loc l => match S[l]? with
    | some (some _) => .ok (.bl (isaL 5 cs)) S
    | _ => .bad
  | d => match tagOf d with
    | some t => .ok (.bl (isaL t cs)) S
    | none => .bad
def clsOk (c : Nat) : Bool := Nat.blt c 6 && !(Nat.beq c 0)
theorem clsOk_ne {c : Nat} (h : clsOk c = true) : c < 6 ∧ c ≠ 0 := by
  obtain ⟨h1, h2⟩ := Bool.and_eq_true_iff.mp h
  exact ⟨Nat.le_of_ble_eq_true h1, fun z => by subst z; exact absurd h2 (by decide)⟩
/-- the classes by name -/
def PCls (X : Cx) (es : List Expr) (cs : List Nat) : Prop := ∃ t, PA X es t ∧ ∀ (σ : L2.St) (H : Hp) (Q : List V → Hp → Prop), Q (cs.map fun c => .ty (tyStr c)) H → t σ H Q
theorem pcls_nil : PCls X [] [] := ⟨_, pa_nil, fun _ _ _ q => q⟩
theorem pcls_cons {cs : List Nat} {y : Str} {n : Nat} {q : Pos} (hg : Gl X y) (hm : X.mg y = none) (hv : bootBuiltins y = some (.type (tyStr n))) (hn : y ≠ "__name__") (hd : (y == ("__debug__" : Str)) = false) (h : PCls X es cs)
    (hs : starEach (.Name y q :: es) X.env = (false, eval (.Name y q) X.env) :: starEach es X.env) : PCls X (.Name y q :: es) (n :: cs) := by
  obtain ⟨t, ht, h⟩ := h
  exact ⟨_, pa_cons (pe_bltn (v := .ty (tyStr n)) hg hm hv rfl hn hd) ht hs, fun σ H Q z => h σ H _ z⟩
theorem kit_all {K : PySem.W.Frag} {t : Nat} (ht : t < 6) : ∀ {cs : List Nat}, (∀ c ∈ cs, clsOk c = true) → PySem.W.kitAny K (.type (tyStr t)) (cs.map fun c => Value.type (tyStr c)) = some (isaL t cs)
  | [], _ => kitAny_nil
  | c :: cs, h => by
    obtain ⟨h1, h2⟩ := clsOk_ne (h c List.mem_cons_self)
    refine kitAny_cons (kit_ty (isaT_kit t ht c h1 h2)) (fun e => ?_) (fun e => ?_)
    · rw [show isaL t (c :: cs) = (isaT t c || isaL t cs) from rfl, e, Bool.false_or]
      exact kit_all ht fun d hd => h d (List.mem_cons_of_mem _ hd)
    · rw [show isaL t (c :: cs) = (isaT t c || isaL t cs) from rfl, e]; rfl
theorem isi_want {cs : List Nat} {d : D} {v : V} {Q : VK} {Wx : WX0} (O : SOk G w) (r : RepV G w d v) (q : Want G XR Wx (RepV G) w Q (isiD cs d w.S)) : ∃ t, t < 6 ∧ TyX G.K w.H v (.type (tyStr t)) ∧ Q (.bl (isaL t cs)) w.H := by
  unfold isiD at q
  split at q
  · split at q
    · rename_i l _ ds hd
      obtain ⟨h1, h2⟩ := tag_rep O r (t := 5) rfl fun l' e => by cases e; exact ⟨_, hd⟩
      exact ⟨5, h2, h1, Want.ret O (.bl _) q⟩
    · exact q.elim
  · split at q
    · rename_i hn _ t ht
      obtain ⟨h1, h2⟩ := tag_rep O r ht fun l' e => absurd e (hn l')
      exact ⟨t, h2, h1, Want.ret O (.bl _) q⟩
    · exact q.elim
theorem ped_isi1 {n : Nat} (hK : X.K = G.K) (hg : Gl X "isinstance") (hm : X.mg "isinstance" = none) (h1 : PEd G XR X W e f) (hc : PCls X [c] [n]) (hn : clsOk n = true)
    (he : starEach (e :: [c]) X.env = (false, eval e X.env) :: starEach [c] X.env) (hpl : (backTo pos (starEach [c] X.env)).any (·.1) = false) :
    PEd G XR X W (.Call (.Name "isinstance" p) [e, c] [] pos) (fun E S => (f E S).bind fun d S1 => isiD [n] d S1) := by
  obtain ⟨te, ht, h1⟩ := h1
  obtain ⟨tc, hc, h2⟩ := hc
  refine ⟨_, pe_callB call_isi hg hm (by decide +kernel) (pa_cons ht hc he) (by decide) (by decide) he hpl, fun σ w E Q O rE q => ?_⟩
  rw [hK]
  refine h1 σ w E _ O rE (Want.bind q fun d v w1 T1 O1 r1 q1 => ?_)
  refine h2 σ w1.H _ ?_
  obtain ⟨t, ht, hty, q2⟩ := isi_want O1 r1 q1
  obtain ⟨h1, h2⟩ := clsOk_ne hn
  refine ⟨v, .ty (tyStr n), _, _, isaT t n, rfl, .ty _, hty, kit_ty (isaT_kit t ht n h1 h2), ?_⟩
  have e1 : isaL t [n] = isaT t n := by show (isaT t n || false) = _; rw [Bool.or_false]
  rw [← e1]; exact q2
theorem ped_isiN {cs : List Nat} {k : Nat} {tp : Pos} (hK : X.K = G.K) (hg : Gl X "isinstance") (hm : X.mg "isinstance" = none) (h1 : PEd G XR X W e f) (hc : PCls X es cs) (hn : ∀ c ∈ cs, clsOk c = true) (hl : cs.length ≤ 100)
    (he : starEach (e :: [.Tuple es k tp]) X.env = (false, eval e X.env) :: starEach [.Tuple es k tp] X.env) (he2 : starEach [.Tuple es k tp] X.env = (false, eval (.Tuple es k tp) X.env) :: starEach [] X.env) (hpl : (backTo pos (starEach [.Tuple es k tp] X.env)).any (·.1) = false) :
    PEd G XR X W (.Call (.Name "isinstance" p) [e, .Tuple es k tp] [] pos) (fun E S => (f E S).bind fun d S1 => isiD cs d S1) := by
  obtain ⟨te, ht, h1⟩ := h1
  obtain ⟨tc, hc, h2⟩ := hc
  refine ⟨_, pe_callB call_isiT hg hm (by decide +kernel) (pa_cons ht (pa_cons (pe_tup hc) pa_nil he2) he) (by decide) (by decide) he hpl, fun σ w E Q O rE q => ?_⟩
  rw [hK]
  refine h1 σ w E _ O rE (Want.bind q fun d v w1 T1 O1 r1 q1 => ?_)
  refine h2 σ w1.H _ ⟨by rw [List.length_map]; exact Nat.le_of_lt (small1000 (by omega)), fun tpa np => ?_⟩
  have q1' := Want.from (w := w1) (w' := w1.put tpa (.tup (cs.map fun c => .ty (tyStr c)))) (Step.laid np) q1
  have O2 : SOk G (w1.put tpa (.tup (cs.map fun c => .ty (tyStr c)))) := O1.laid np
  obtain ⟨t, ht, hty, q2⟩ := isi_want O2 (r1.step O1 (Step.laid np)) q1'
  refine ⟨v, tpa, _, _, cs.map (fun c => Value.type (tyStr c)), isaL t cs, rfl, upd_same, ?_, hty, kit_all ht hn, q2⟩
  clear hn h2 hc he he2 hpl q q1 q1' q2 hl np O2 hty
  induction cs with
  | nil => exact .nil
  | cons c cs ih => exact .cons (.ty _) ih
end
/-! iterators -/
abbrev ItD := Nat → Store → Option (Option D)
structure ItOk (G : Gd) (w0 : Wd) (nx : ItD) (J : It) : Prop where
  stop : ∀ (w : Wd) (i : Nat), Kept w0 w → SOk G w → nx i w.S = some none → J.stop i w.H
  go : ∀ (w : Wd) (i : Nat) (d : D), Kept w0 w → SOk G w → nx i w.S = some (some d) → J.go i w.H ∧ ∀ x H', J.yld i w.H x H' → ∃ w', Step w w' ∧ w'.S = w.S ∧ w'.H = H' ∧ SOk G w' ∧ RepV G w' d x
theorem Kept.trans {w w' w2 : Wd} (a : Kept w w') (b : Kept w' w2) : Kept w w2 :=
  ⟨Nat.le_trans a.len b.len, fun l h => (b.agree l (Nat.lt_of_lt_of_le h a.len)).trans (a.agree l h), fun c o h n => b.other c o (a.other c o h n) n, fun c xs h n m => let ⟨h1, n1, m1⟩ := a.lists c xs h n m; b.lists c xs h1 n1 m1⟩
theorem Kept.refl {w : Wd} : Kept w w := ⟨Nat.le_refl _, fun _ _ => rfl, fun _ _ h _ => h, fun _ _ h n m => ⟨h, n, m⟩⟩
abbrev FI := EnvD → Store → O ItD
def PId (G : Gd) (XR : XRepT) (X : Cx) (W : WX) (tg e : Expr) (f : FI) : Prop := ∃ t, PI X tg e t ∧ ∀ (σ : L2.St) (w : Wd) (E : EnvD) (R : It → Hp → Prop), SOk G w → RepE G w E σ → Want G XR (fun c d H => W c d σ H) (ItOk G) w R (f E w.S) → t σ w.H R
theorem PI.or {X : Cx} {tg e : Expr} {w1 w2 : TI} (h1 : PI X tg e w1) (h2 : PI X tg e w2) : PI X tg e (fun σ H R => w1 σ H R ∨ w2 σ H R) :=
  ⟨fun pins s σ H R I h => by rcases h with h | h; exact h1.run pins s σ H R I h; exact h2.run pins s σ H R I h⟩
section
variable {G : Gd} {XR : XRepT} {X : Cx} {W : WX} {tg e a b c : Expr} {es : List Expr} {f g : FE} {fs : FA} {pos p : Pos} {w0 w : Wd} {x : Str}
theorem pid_bad : PId G XR X W tg e (fun _ _ => .bad) := ⟨fun _ _ _ => False, ⟨fun _ _ _ _ _ _ z => z.elim⟩, fun _ _ _ _ _ _ z => z⟩
def seqIt (d : D) : ItD := fun i S => match seqOf S d with
  | some (_, ds) => some ds[i]?
  | none => none
theorem seqOf_kept {d : D} {k k' : SK} {ds ds' : List D} {S S' : Store} (h : seqOf S d = some (k, ds)) (h' : seqOf S' d = some (k', ds')) : k = k' := by
  cases d <;> first | (cases h; done) | (cases h; cases h'; rfl) | skip
  unfold seqOf at h h'
  dsimp only at h h'
  split at h <;> first | cases h | skip
  split at h' <;> first | cases h' | skip
  rfl
theorem itOk_seq {d : D} {v : V} {k : SK} {ds0 : List D} (O : SOk G w0) (r : RepV G w0 d v) (e0 : seqOf w0.S d = some (k, ds0)) : ∃ a, v = .ref a ∧ ItOk G w0 (seqIt d) (match k with | .l => Itl G.K a | .t => Itt G.K a) := by
  obtain ⟨a, vs0, rfl, _, _⟩ := seqOf_rep O r e0
  refine ⟨a, rfl, fun w i T O' h => ?_, fun w i x T O' h => ?_⟩
  · unfold seqIt at h
    split at h
    · rename_i k' ds e1
      have hk := seqOf_kept e0 e1
      subst hk
      obtain ⟨a', vs, ea, r1, hs⟩ := seqOf_rep O' (r.kept T) e1
      cases ea
      have hi : ds.length ≤ i := List.getElem?_eq_none_iff.mp (Option.some.inj h)
      cases k
      · exact ⟨vs, hs, by rw [← r1.length]; exact hi⟩
      · exact ⟨vs, hs, by rw [← r1.length]; exact hi⟩
    · cases h
  · unfold seqIt at h
    split at h
    · rename_i k' ds e1
      have hk := seqOf_kept e0 e1
      subst hk
      obtain ⟨a', vs, ea, r1, hs⟩ := seqOf_rep O' (r.kept T) e1
      cases ea
      obtain ⟨u, hu, ru⟩ := r1.get (Option.some.inj h)
      cases k
      · exact ⟨⟨vs, u, hs, hu⟩, fun y H' ⟨e1, e2⟩ => ⟨w, Step.refl, rfl, e1.symm, O', by have := (e2 vs hs).symm.trans hu; cases this; exact ru⟩⟩
      · exact ⟨⟨vs, u, hs, hu⟩, fun y H' ⟨e1, e2⟩ => ⟨w, Step.refl, rfl, e1.symm, O', by have := (e2 vs hs).symm.trans hu; cases this; exact ru⟩⟩
    · cases h
theorem pid_seq (hK : X.K = G.K) (h1 : PEd G XR X W e f) : PId G XR X W tg e (fun E S => (f E S).bind fun d S1 => match seqOf S1 d with | some _ => .ok (seqIt d) S1 | none => .bad) := by
  obtain ⟨t, ht, h1⟩ := h1
  refine ⟨_, PI.or (pi_list ht) (pi_tup ht), fun σ w E R O rE q => ?_⟩
  rw [hK]
  have h1' := h1 σ w E
  cases hf : f E w.S with
  | ok d S1 =>
    rw [hf] at h1'
    have q' : Want G XR (fun c d H => W c d σ H) (ItOk G) w R (match seqOf S1 d with | some _ => .ok (seqIt d) S1 | none => .bad) := by
      simpa only [hf, Ev.O.bind] using q
    cases hs : seqOf S1 d with
    | none => rw [hs] at q'; exact q'.elim
    | some z =>
      obtain ⟨k, ds⟩ := z
      rw [hs] at q'
      cases k
      · refine .inl (h1' _ O rE fun v w' T eS O' r => ?_)
        subst eS
        obtain ⟨a, ea, I⟩ := itOk_seq O' r hs
        obtain ⟨a', vs, ea', _, hq⟩ := seqOf_rep O' r hs
        subst ea
        cases ea'
        exact ⟨a, rfl, ⟨vs, hq⟩, Want.at q' T rfl O' I⟩
      · refine .inr (h1' _ O rE fun v w' T eS O' r => ?_)
        subst eS
        obtain ⟨a, ea, I⟩ := itOk_seq O' r hs
        obtain ⟨a', vs, ea', _, hq⟩ := seqOf_rep O' r hs
        subst ea
        cases ea'
        exact ⟨a, rfl, ⟨vs, hq⟩, Want.at q' T rfl O' I⟩
  | exc y S1 =>
    rw [hf] at h1'
    have q' : Want G XR (fun c d H => W c d σ H) (ItOk G) w R (.exc y S1) := by simpa only [hf, Ev.O.bind] using q
    exact .inl (h1' _ O rE q')
  | bad =>
    have q' : Want G XR (fun c d H => W c d σ H) (ItOk G) w R .bad := by simpa only [hf, Ev.O.bind] using q
    exact q'.elim
end
end Ev
namespace Ev
open PySem PySem.Spec L2
open PyProof.Rows hiding St
/-! readings that hang on the outcome alone -/
section
variable (G : Gd) (XR : XRepT)
def tE (W : WX) (f : FE) : TE := fun σ H Q => ∃ (w : Wd) (E : EnvD), w.H = H ∧ SOk G w ∧ RepE G w E σ ∧ Want G XR (fun c d H => W c d σ H) (RepV G) w Q (f E w.S)
def tC' (W : WX) (f : FC) : TT := fun σ H Q => ∃ (w : Wd) (E : EnvD), w.H = H ∧ SOk G w ∧ RepE G w E σ ∧ Want G XR (fun c d H => W c d σ H) (fun _ a b => a = b) w Q (f E w.S)
end
section
variable {G : Gd} {XR : XRepT} {X : Cx} {W : WX} {e : Expr} {f : FE} {fc : FC}
theorem PEd.pe (h : PEd G XR X W e f) : PE X e (tE G XR W f) := by
  obtain ⟨t, ht, h⟩ := h
  exact ⟨fun pins s σ H Q I ⟨w, E, e, O, r, q⟩ => ht.run pins s σ H Q I (by subst e; exact h σ w E Q O r q)⟩
theorem PCd.pt (h : PCd G XR X W e fc) : PT X e (tC' G XR W fc) := by
  obtain ⟨t, ht, h⟩ := h
  exact ⟨fun pins s σ H Q I ⟨w, E, e, O, r, q⟩ => ht.run pins s σ H Q I (by subst e; exact h σ w E Q O r q)⟩
end
/-! targets -/
mutual
/-- rows of names within rows -/
inductive TT where
  | nm (i : Nat)
  | row (ts : TTs)
inductive TTs where
  | nil
  | cons (t : TT) (ts : TTs)
end
inductive TG' where
  | one (i : Nat)
  | many (is : List Nat)
  | tree (ts : TTs)
def setsD : List Nat → List D → EnvD → Option EnvD
  | [], [], E => some E
  | i :: is, d :: ds, E => setsD is ds (E.set i (some d))
  | _, _, _ => none
mutual
def ttD : TT → D → EnvD → Option EnvD
  | .nm i, d, E => some (E.set i (some d))
  | .row ts, .tup ds, E => ttsD ts ds E
  | _, _, _ => none
def ttsD : TTs → List D → EnvD → Option EnvD
  | .nil, [], E => some E
  | .cons t ts, d :: ds, E => (match ttD t d E with
    | some E1 => ttsD ts ds E1
    | none => none)
  | _, _, _ => none
end
mutual
def TT.slots : TT → List Nat
  | .nm i => [i]
  | .row ts => ts.slots
def TTs.slots : TTs → List Nat
  | .nil => []
  | .cons t ts => t.slots ++ ts.slots
end
def tgD : TG' → D → EnvD → Option EnvD
  | .one i, d, E => some (E.set i (some d))
  | .many is, .tup ds, E => setsD is ds E
  | .tree ts, .tup ds, E => ttsD ts ds E
  | _, _, _ => none
def TG'.slots : TG' → List Nat
  | .one i => [i]
  | .many is => is
  | .tree ts => ts.slots
def tG (G : Gd) (g : TG') : TG := fun v σ H Q => ∃ (w : Wd) (E E' : EnvD) (d : D), w.H = H ∧ SOk G w ∧ RepE G w E σ ∧ RepV G w d v ∧ tgD g d E = some E' ∧ ∀ σ', RepE G w E' σ' → (∀ vs : List Nat, (∀ i ∈ g.slots, i ∈ vs) → L2.wipe σ' vs = L2.wipe σ vs) → Q σ' H
theorem wipe_set {σ : L2.St} {i : Nat} {v : V} : ∀ {vs : List Nat}, i ∈ vs → L2.wipe (σ.set i (some v)) vs = L2.wipe σ vs
  | x :: vs, h => by
    show (L2.wipe (σ.set i (some v)) vs).set x none = (L2.wipe σ vs).set x none
    by_cases hi : i ∈ vs
    · rw [wipe_set hi]
    · have hx : i = x := by
        rcases List.mem_cons.mp h with h | h
        · exact h
        · exact absurd h hi
      subst hx
      have key : ∀ (ws : List Nat), i ∉ ws → L2.wipe (σ.set i (some v)) ws = (L2.wipe σ ws).set i (some v) := by
        intro ws
        induction ws with
        | nil => intro _; rfl
        | cons y ws ih =>
          intro hy
          have hne : y ≠ i := fun z => hy (by rw [z]; exact List.mem_cons_self)
          show (L2.wipe (σ.set i (some v)) ws).set y none = ((L2.wipe σ ws).set y none).set i (some v)
          rw [ih fun z => hy (List.mem_cons_of_mem _ z), List.set_comm _ _ hne.symm]
      rw [key vs hi, List.set_set]
theorem wipe_wipe {σ : L2.St} : ∀ (vs : List Nat), L2.wipe (L2.wipe σ vs) vs = L2.wipe σ vs := by
  have at_ : ∀ (vs : List Nat) (σ : L2.St) (j : Nat), (L2.wipe σ vs)[j]? = if j ∈ vs ∧ j < σ.length then some none else σ[j]? := by
    intro vs
    induction vs with
    | nil => intro σ j; simp [L2.wipe]
    | cons x vs ih =>
      intro σ j
      show ((L2.wipe σ vs).set x none)[j]? = _
      by_cases h : x = j
      · subst h
        by_cases hl : x < σ.length
        · rw [List.getElem?_set_self (by rw [L2.wipe_length]; exact hl)]; simp [hl]
        · rw [List.getElem?_eq_none (by simp [L2.wipe_length]; omega)]; simp [hl]
      · rw [List.getElem?_set_ne h, ih]
        have : j ∈ x :: vs ↔ j ∈ vs := by simp [Ne.symm h]
        simp only [this]
  intro vs
  apply List.ext_getElem?
  intro j
  rw [at_ vs (L2.wipe σ vs) j, at_ vs σ j, L2.wipe_length]
  split
  · rfl
  · rfl
section
variable {G : Gd} {XR : XRepT} {X : Cx} {W : WX} {e : Expr} {pos : Pos} {x : Str}
theorem pgd_one {i : Nat} (hN : X.N.Nodup) (hi : X.N[i]? = some x) (hx : Loc X.env.scope x) (hf : X.fn x = true ∨ X.env.scope.names.lookup x = some .local) : PG X (.Name x pos) (tG G (.one i)) :=
  ⟨fun pins s σ H v u Q I r ⟨w, E, E', d, eH, O, rE, rv, eE, q⟩ => (pg_name hN hi hx hf).run pins s σ H v u Q I r (by
    subst eH; cases eE
    exact q _ (rE.set i rv) fun vs hv => wipe_set (hv i List.mem_cons_self))⟩
/-- names in a row -/
def tGs (G : Gd) (is : List Nat) : TGs := fun vs σ H Q => ∃ (w : Wd) (E E' : EnvD) (ds : List D), w.H = H ∧ SOk G w ∧ RepE G w E σ ∧ RepVs G w ds vs ∧ setsD is ds E = some E' ∧ ∀ σ', RepE G w E' σ' → (∀ ws : List Nat, (∀ i ∈ is, i ∈ ws) → L2.wipe σ' ws = L2.wipe σ ws) → Q σ' H
theorem pgsd_nil : PGs X [] (tGs G []) := ⟨fun pins s σ H vs us Q I r ⟨w, E, E', ds, eH, O, rE, rv, eE, q⟩ => pgs_nil.run pins s σ H vs us Q I r (by
  cases ds with
  | nil => cases rv; cases eE; exact ⟨rfl, q _ rE fun _ _ => rfl⟩
  | cons _ _ => cases eE)⟩
theorem pgsd_cons {i : Nat} {is : List Nat} {es : List Expr} (hN : X.N.Nodup) (hi : X.N[i]? = some x) (hx : Loc X.env.scope x) (hf : X.fn x = true ∨ X.env.scope.names.lookup x = some .local) (h : PGs X es (tGs G is)) : PGs X (.Name x pos :: es) (tGs G (i :: is)) :=
  ⟨fun pins s σ H vs us Q I r ⟨w, E, E', ds, eH, O, rE, rv, eE, q⟩ => (pgs_cons (pg_name hN hi hx hf) h).run pins s σ H vs us Q I r (by
    cases ds with
    | nil => cases eE
    | cons d ds =>
      cases rv with
      | cons r1 r2 =>
        refine ⟨_, _, rfl, w, _, E', ds, eH, O, rE.set i r1, r2, eE, fun σ' rs hw => q σ' rs fun ws hs => ?_⟩
        rw [hw ws fun j hj => hs j (List.mem_cons_of_mem _ hj)]
        exact wipe_set (hs i List.mem_cons_self))⟩
/-! rows within rows -/
abbrev gT (G : Gd) (g : D → EnvD → Option EnvD) (sl : List Nat) : TG := fun v σ H Q => ∃ (w : Wd) (E E' : EnvD) (d : D), w.H = H ∧ SOk G w ∧ RepE G w E σ ∧ RepV G w d v ∧ g d E = some E' ∧ ∀ σ', RepE G w E' σ' → (∀ vs : List Nat, (∀ i ∈ sl, i ∈ vs) → L2.wipe σ' vs = L2.wipe σ vs) → Q σ' H
def tT (G : Gd) (t : TT) : TG := gT G (ttD t) t.slots
def tTs (G : Gd) (ts : TTs) : TGs := fun vs σ H Q => ∃ (w : Wd) (E E' : EnvD) (ds : List D), w.H = H ∧ SOk G w ∧ RepE G w E σ ∧ RepVs G w ds vs ∧ ttsD ts ds E = some E' ∧ ∀ σ', RepE G w E' σ' → (∀ ws : List Nat, (∀ i ∈ ts.slots, i ∈ ws) → L2.wipe σ' ws = L2.wipe σ ws) → Q σ' H
theorem tt_nm {i : Nat} (hN : X.N.Nodup) (hi : X.N[i]? = some x) (hx : Loc X.env.scope x) (hf : X.fn x = true ∨ X.env.scope.names.lookup x = some .local) : PG X (.Name x pos) (tT G (.nm i)) :=
  ⟨fun pins s σ H v u Q I r ⟨w, E, E', d, eH, O, rE, rv, eE, q⟩ => (pg_name hN hi hx hf).run pins s σ H v u Q I r (by
    subst eH
    have e : some (E.set i (some d)) = some E' := by simpa [ttD] using eE
    cases e
    exact q _ (rE.set i rv) fun vs hv => wipe_set (hv i (by simp [TT.slots])))⟩
theorem tts_nil : PGs X [] (tTs G .nil) := ⟨fun pins s σ H vs us Q I r ⟨w, E, E', ds, eH, O, rE, rv, eE, q⟩ => pgs_nil.run pins s σ H vs us Q I r (by
  cases ds with
  | nil =>
    cases rv
    have e : some E = some E' := by simpa [ttsD] using eE
    cases e
    exact ⟨rfl, q _ rE fun _ _ => rfl⟩
  | cons _ _ => simp [ttsD] at eE)⟩
theorem tts_cons {a : Expr} {es : List Expr} {t : TT} {ts : TTs} (h1 : PG X a (tT G t)) (h : PGs X es (tTs G ts)) (hs : (assignEach (a :: es) X.env).map (·.2) = assign a X.env :: (assignEach es X.env).map (·.2)) : PGs X (a :: es) (tTs G (.cons t ts)) :=
  ⟨fun pins s σ H vs us Q I r ⟨w, E, E', ds, eH, O, rE, rv, eE, q⟩ => (pgs_cons h1 h hs).run pins s σ H vs us Q I r (by
    cases ds with
    | nil => simp [ttsD] at eE
    | cons d ds =>
      cases rv with
      | cons r1 r2 =>
        cases h1 : ttD t d E with
        | none => simp [ttsD, h1] at eE
        | some E1 =>
          have eE' : ttsD ts ds E1 = some E' := by simpa [ttsD, h1] using eE
          refine ⟨_, _, rfl, w, E, E1, d, eH, O, rE, r1, h1, fun σ' rs hw => ⟨w, E1, E', ds, eH, O, rs, r2, eE', fun σ2 rs2 hw2 => q σ2 rs2 fun ws hs => ?_⟩⟩
          rw [hw2 ws fun j hj => hs j (by simp [TTs.slots, hj]), hw ws fun j hj => hs j (by simp [TTs.slots, hj])])⟩
def isNmT : Expr → Bool
  | .Name _ _ => true
  | .Tuple _ _ _ => true
  | _ => false
theorem assignEach_nmt : ∀ {es : List Expr} (env : Env), es.all isNmT = true → (assignEach es env).length = es.length ∧ (assignEach es env).findIdx? (·.1) = none
  | [], _, _ => ⟨rfl, rfl⟩
  | e :: es, env, h => by
    obtain ⟨h1, h2⟩ := Bool.and_eq_true_iff.mp (show (isNmT e && es.all isNmT) = true by simpa using h)
    obtain ⟨a, b⟩ := assignEach_nmt (es := es) env h2
    cases e <;> first | (cases h1; done) | skip
    · refine ⟨by show (_ :: assignEach es env).length = _; rw [List.length_cons, a, List.length_cons], ?_⟩
      show List.findIdx? (·.1) ((false, _) :: assignEach es env) = none
      rw [List.findIdx?_cons, b]; rfl
    · refine ⟨by show (_ :: assignEach es env).length = _; rw [List.length_cons, a, List.length_cons], ?_⟩
      show List.findIdx? (·.1) ((false, _) :: assignEach es env) = none
      rw [List.findIdx?_cons, b]; rfl
def TTs.len : TTs → Nat
  | .nil => 0
  | .cons _ ts => ts.len + 1
theorem ttsD_len : ∀ {ts : TTs} {ds : List D} {E E' : EnvD}, ttsD ts ds E = some E' → ds.length = ts.len
  | .nil, [], _, _, _ => rfl
  | .nil, _ :: _, _, _, h => by simp [ttsD] at h
  | .cons _ _, [], _, _, h => by simp [ttsD] at h
  | .cons t ts, d :: ds, E, E', h => by
    cases h1 : ttD t d E with
    | none => simp [ttsD, h1] at h
    | some E1 =>
      have h' : ttsD ts ds E1 = some E' := by simpa [ttsD, h1] using h
      simp [TTs.len, ttsD_len h']
theorem row_core {ts : TTs} {es : List Expr} {k : Nat} {g : D → EnvD → Option EnvD} {sl : List Nat} (hK : X.K = G.K) (hc : X.calm = true) (hl : ts.len = es.length) (hn : es.all isNmT = true) (h : PGs X es (tTs G ts)) (hg : ∀ d E E', g d E = some E' → ∃ ds, d = .tup ds ∧ ttsD ts ds E = some E') (hs : sl = ts.slots) : PG X (.Tuple es k pos) (gT G g sl) := by
  obtain ⟨a, b⟩ := assignEach_nmt X.env hn
  refine ⟨fun pins s σ H v u Q I r ⟨w, E, E', d, eH, O, rE, rv, eE, q⟩ => (pg_tup hc h a b).run pins s σ H v u Q I r ?_⟩
  obtain ⟨ds, rfl, eE'⟩ := hg d E E' eE
  obtain ⟨p, vs, rfl, hp, rvs⟩ := rv.seqT
  subst eH
  rw [hK]
  subst hs
  exact ⟨p, vs, rfl, hp, by rw [← rvs.length, ttsD_len eE', hl], w, E, E', ds, rfl, O, rE, rvs, eE', q⟩
theorem tt_row {ts : TTs} {es : List Expr} {k : Nat} (hK : X.K = G.K) (hc : X.calm = true) (hl : ts.len = es.length) (hn : es.all isNmT = true) (h : PGs X es (tTs G ts)) : PG X (.Tuple es k pos) (tT G (.row ts)) :=
  row_core hK hc hl hn h (fun d E E' e => by
    cases d <;> first | (simp [ttD] at e; done) | skip
    exact ⟨_, rfl, by simpa [ttD] using e⟩) (by simp [TT.slots])
theorem pgd_tree {ts : TTs} {es : List Expr} {k : Nat} (hK : X.K = G.K) (hc : X.calm = true) (hl : ts.len = es.length) (hn : es.all isNmT = true) (h : PGs X es (tTs G ts)) : PG X (.Tuple es k pos) (tG G (.tree ts)) :=
  row_core hK hc hl hn h (fun d E E' e => by
    cases d <;> first | (simp [tgD] at e; done) | skip
    exact ⟨_, rfl, by simpa [tgD] using e⟩) rfl
def isName : Expr → Bool
  | .Name _ _ => true
  | _ => false
theorem assignEach_names : ∀ {es : List Expr} (env : Env), es.all isName = true → (assignEach es env).length = es.length ∧ (assignEach es env).findIdx? (·.1) = none
  | [], _, _ => ⟨rfl, rfl⟩
  | e :: es, env, h => by
    obtain ⟨h1, h2⟩ := Bool.and_eq_true_iff.mp (show (isName e && es.all isName) = true by simpa using h)
    obtain ⟨a, b⟩ := assignEach_names (es := es) env h2
    cases e <;> first | (cases h1; done) | skip
    refine ⟨by show (_ :: assignEach es env).length = _; rw [List.length_cons, a, List.length_cons], ?_⟩
    show List.findIdx? (·.1) ((false, _) :: assignEach es env) = none
    rw [List.findIdx?_cons, b]; rfl
theorem pgd_many {is : List Nat} {es : List Expr} {k : Nat} (hK : X.K = G.K) (hc : X.calm = true) (hl : is.length = es.length) (hn : es.all isName = true) (h : PGs X es (tGs G is)) : PG X (.Tuple es k pos) (tG G (.many is)) := by
  obtain ⟨a, b⟩ := assignEach_names X.env hn
  refine ⟨fun pins s σ H v u Q I r ⟨w, E, E', d, eH, O, rE, rv, eE, q⟩ => (pg_tup hc h a b).run pins s σ H v u Q I r ?_⟩
  cases d <;> first | (cases eE; done) | skip
  rename_i ds
  obtain ⟨p, vs, ev, hs, rs⟩ := rv.seqT
  subst eH
  rw [hK]
  have len : ∀ (is : List Nat) (ds : List D) (E E' : EnvD), setsD is ds E = some E' → ds.length = is.length := by
    intro is
    induction is with
    | nil => intro ds E E' h; cases ds with
      | nil => rfl
      | cons _ _ => cases h
    | cons i is ih => intro ds E E' h; cases ds with
      | nil => cases h
      | cons d ds => simp [ih _ _ _ h]
  exact ⟨p, vs, ev, hs, by rw [← rs.length, len is ds E E' eE, hl], w, E, E', ds, rfl, O, rE, rs, eE, q⟩
end
/-! comprehensions -/
/-- no exception may leave -/
@[reducible] def O.nb {α : Type} : O α → O α
  | .exc _ _ => .bad
  | o => o
def compD (nx : ItD) (tg : TG') (fc : FC) (fe : FE) (E0 : EnvD) : Nat → Nat → List D → Store → O (List D)
  | 0, _, _, _ => .bad
  | n + 1, i, acc, S => match nx i S with
    | none => .bad
    | some none => .ok acc.reverse S
    | some (some d) => match tgD tg d E0 with
      | none => .bad
      | some E => (fc E S).nb.bind fun k S1 => bif k then (fe E S1).nb.bind fun d S2 => compD nx tg fc fe E0 n (i + 1) (d :: acc) S2 else compD nx tg fc fe E0 n (i + 1) acc S1
abbrev W0 : WX := fun _ _ _ _ => False
section
variable {G : Gd} {XR : XRepT} {X : Cx} {W : WX} {elt tg iter : Expr} {ifs : List Expr} {fi : FI} {fc : FC} {fe : FE} {pos : Pos} {scope : Scope} {own : List (Str × Nat)} {g : TG'}
theorem Want.nb {α β : Type} {R : Wd → α → β → Prop} {w : Wd} {Q : β → Hp → Prop} {Wx Wy : WX0} {o : O α} (h : Want G XR Wx R w Q o.nb) : Want G XR Wy R w Q o := by
  cases o with
  | ok a S => exact h
  | exc x S => exact h.elim
  | bad => exact h
theorem Want.bindnb {α β γ δ : Type} {R : Wd → α → β → Prop} {w : Wd} {R' : Wd → γ → δ → Prop} {Q : δ → Hp → Prop} {Q1 : β → Hp → Prop} {Wx Wy : WX0} {o : O α} {k : α → Store → O γ} (h : Want G XR Wx R' w Q (o.nb.bind k))
    (hk : ∀ d v w', Step w w' → SOk G w' → R w' d v → Want G XR Wx R' w' Q (k d w'.S) → Q1 v w'.H) : Want G XR Wy R w Q1 o := by
  cases o with
  | ok d S' => exact fun v w2 T2 e o r => hk d v w2 T2 o r (by subst e; exact Want.from T2 h)
  | exc x S' => exact h.elim
  | bad => exact h.elim
theorem Step.re {w w' : Wd} (T : Step w w') (r : List Addr) : Step { w with R := r } { w' with R := r } := ⟨T.len, T.agree, T.keep, rfl, T.there⟩
theorem kept_hold {w1 w' : Wd} {D : Addr} (O1 : SOk G w1) (hD : w1.H D = none) (T : Step w1 { w' with R := w1.R }) (hR : w'.R = D :: w1.R) : Kept w1 w' := by
  have K := T.kept O1
  refine ⟨K.len, K.agree, K.other, fun a xs h n m => ?_⟩
  obtain ⟨h1, h2, h3⟩ := K.lists a xs h n m
  refine ⟨h1, h2, fun z => ?_⟩
  rw [hR] at z
  rcases List.mem_cons.mp z with rfl | z
  · rw [hD] at h; cases h
  · exact m z
/-- the turn, left to right -/
theorem comp_core (hi : PId G XR X W tg iter fi) (own_ok : ∀ i ∈ g.slots, i ∈ own.map (·.2)) {fuel : Nat} (hf : fuel ≤ lim) :
    ∃ t, PI X tg iter t ∧ ∀ (σ : L2.St) (w : Wd) (E : EnvD) (Q : VK), SOk G w → RepE G w E σ →
      Want G XR (fun c d H => W c d σ H) (fun w' ds v => RepL G w' ds v ∧ ∀ p, v = .ref p → w.H p = none) w Q ((fi E w.S).bind fun nx S1 => compD nx g fc fe (wipeD E (own.map (·.2))) fuel 0 [] S1) →
      tLc t (tG G g) (tC' G XR W0 fc) (tE G XR W0 fe) (own.map (·.2)) σ w.H Q := by
  obtain ⟨t, ht, hi⟩ := hi
  refine ⟨t, ht, fun σ w E Q O rE q => hi σ w E _ O rE (Want.bind q fun nx J w1 T1 O1 rJ q1 D hD => ?_)⟩
  refine ⟨fun i m H => ∃ (w' : Wd) (acc : List Ev.D) (vs : List V), w'.H = H ∧ Step w1 { w' with R := w1.R } ∧ w'.R = D :: w1.R ∧ SOk G w' ∧ w'.H D = some (.lst vs) ∧ RepVs G w' acc.reverse vs ∧ acc.length + m ≤ lim ∧
    Want G XR (fun c d H => W c d σ H) (fun w' ds v => RepL G w' ds v ∧ ∀ p, v = .ref p → w.H p = none) w1 Q (compD nx g fc fe (wipeD E (own.map (·.2))) m i acc w'.S), ?_, ?_⟩
  · exact ⟨fuel, (w1.put D (.lst [])).hold D, [], [], rfl, Step.laid hD, rfl, O1.begin hD, upd_same, .nil, by simpa using hf, q1⟩
  · rintro i m H ⟨w', acc, vs, rfl, T', eR, O', hp, ra, hl, q'⟩
    have hR : D ∈ w'.R := by rw [eR]; exact List.mem_cons_self
    have K' : Kept w1 w' := kept_hold O1 hD T' eR
    have ee : w' = (({ w' with R := w1.R } : Wd).hold D) := by
      obtain ⟨a, b, c, d⟩ := w'
      show _ = (⟨a, b, D :: w1.R, d⟩ : Wd)
      rw [show c = D :: w1.R from eR]
    cases m with
    | zero => exact q'.elim
    | succ m =>
      unfold compD at q'
      split at q'
      · exact q'.elim
      · rename_i hnx
        refine .inl ⟨rJ.stop w' i K' O' hnx, ?_⟩
        refine Want.at (w' := { w' with R := w1.R }) q' T' rfl (SOk.free (p := D) (by rw [← ee]; exact O')) ⟨⟨D, vs, rfl, hp, O1.freshR hD, by rw [← ee]; exact O', by rw [← ee]; exact ra⟩, fun p e => by cases e; exact T1.gone hD⟩
      · rename_i d hnx
        obtain ⟨hgo, hy⟩ := rJ.go w' i d K' O' hnx
        refine .inr ⟨hgo, fun H' => ∃ (w2 : Wd) (acc : List Ev.D) (vs : List V), w2.H = H' ∧ Step w1 { w2 with R := w1.R } ∧ w2.R = D :: w1.R ∧ SOk G w2 ∧ w2.H D = some (.lst vs) ∧ RepVs G w2 acc.reverse vs ∧ acc.length + m ≤ lim ∧
          Want G XR (fun c d H => W c d σ H) (fun w' ds v => RepL G w' ds v ∧ ∀ p, v = .ref p → w.H p = none) w1 Q (compD nx g fc fe (wipeD E (own.map (·.2))) m (i + 1) acc w2.S), fun H' h => ⟨m, Nat.lt_succ_self _, h⟩, fun x H' hy' => ?_⟩
        obtain ⟨w2, T2, eS, eH, O2, rd⟩ := hy x H' hy'
        have T2' : Step w1 { w2 with R := w1.R } := T'.trans (T2.re w1.R)
        have eR2 : w2.R = D :: w1.R := T2.resd.trans eR
        have K2 : Kept w1 w2 := kept_hold O1 hD T2' eR2
        have rE2 : RepE G w2 (wipeD E (own.map (·.2))) (L2.wipe σ (own.map (·.2))) := ((rE.step O T1).kept K2).wipe _
        split at q'
        · exact q'.elim
        · rename_i E2 he
          refine ⟨w2, _, E2, d, eH, O2, rE2, rd, he, fun σ2 rσ hw => ⟨by rw [hw _ own_ok, wipe_wipe], ?_⟩⟩
          rw [← eS] at q'
          -- the test, the element: worlds behind w1
          have q2 := Want.from (w := w1) (w' := w1) Step.refl q'
          refine ⟨w2, E2, eH, O2, rσ, ?_⟩
          have stepW : ∀ {w3 : Wd}, Step w2 w3 → Step w1 { w3 with R := w1.R } := fun T3 => T2'.trans (T3.re w1.R)
          have keepD : ∀ {w3 : Wd} (T3 : Step w2 w3), w3.H D = some (.lst vs) := fun {w3} T3 => (T3.keep D _ ((T2.keep D _ hp (O'.res D hR).2).1) ((T2.keep D _ hp (O'.res D hR).2).2)).1
          revert q2
          cases hfc : fc E2 w2.S with
          | bad => exact fun z => z.elim
          | exc y S => exact fun z => z.elim
          | ok k S1 =>
            intro q2 b w3 T3 e3 O3 r3
            subst r3 e3
            have q3 : Want G XR (fun c d H => W c d σ H) (fun w' ds v => RepL G w' ds v ∧ ∀ p, v = .ref p → w.H p = none) w1 Q (bif k then (fe E2 w3.S).nb.bind fun d S2 => compD nx g fc fe (wipeD E (own.map (·.2))) m (i + 1) (d :: acc) S2 else compD nx g fc fe (wipeD E (own.map (·.2))) m (i + 1) acc w3.S) := q2
            have ra3 : RepVs G w3 acc.reverse vs := (ra.step O' T2).step O2 T3
            cases k with
            | false =>
              rw [if_neg Bool.false_ne_true]
              exact ⟨w3, acc, vs, rfl, stepW T3, T3.resd.trans eR2, O3, keepD T3, ra3, by omega, q3⟩
            | true =>
              rw [if_pos rfl]
              refine ⟨w3, E2, rfl, O3, rσ.step O2 T3, ?_⟩
              have q4 : Want G XR (fun c d H => W c d σ H) (fun w' ds v => RepL G w' ds v ∧ ∀ p, v = .ref p → w.H p = none) w1 Q ((fe E2 w3.S).nb.bind fun d S2 => compD nx g fc fe (wipeD E (own.map (·.2))) m (i + 1) (d :: acc) S2) := q3
              revert q4
              cases hfe : fe E2 w3.S with
              | bad => exact fun z => z.elim
              | exc y S => exact fun z => z.elim
              | ok z S2 =>
                intro q4 y w4 T4 e4 O4 r4
                subst e4
                have T34 := T3.trans T4
                have ra4 : RepVs G w4 acc.reverse vs := ra3.step O3 T4
                have eR4 : w4.R = D :: w1.R := T34.resd.trans eR2
                have hR4 : D ∈ w4.R := by rw [eR4]; exact List.mem_cons_self
                have hD4 := keepD T34
                have lacc : vs.length = acc.length := by rw [← ra4.length, List.length_reverse]
                refine ⟨vs, hD4, by rw [lacc]; exact lim_lt (Nat.ble_eq_true_of_le (by omega)), w4.put D (.lst (vs ++ [y])), z :: acc, vs ++ [y], rfl, ?_, eR4, O4.more hR4 hD4, upd_same, ?_, by simp; omega, q4⟩
                · have Ts := stepW T34
                  refine ⟨Ts.len, Ts.agree, fun a o h n => ?_, rfl, fun a o h => ?_⟩
                  · have ne : a ≠ D := ne_of_none h hD
                    exact ⟨by show upd w4.H D _ a = _; rw [upd_ne ne]; exact (Ts.keep a o h n).1, (Ts.keep a o h n).2⟩
                  · obtain ⟨o', h'⟩ := Ts.there a o h
                    exact upd_there h'
                · rw [List.reverse_cons]
                  exact (ra4.append (.cons r4 .nil)).kept (more_kept hR4 hD4)
end
end Ev
namespace Ev
open PySem PySem.Spec L2
open PyProof.Rows hiding St
section
variable {G : Gd} {XR : XRepT} {X : Cx} {W : WX} {elt tg iter : Expr} {ifs : List Expr} {fi : FI} {fc : FC} {fe : FE} {pos : Pos} {scope : Scope} {own : List (Str × Nat)} {g : TG'}
theorem ptsd_nil : PTs X [] (tC' G XR W (fun _ S => .ok true S)) := ⟨fun pins s σ H Q I ⟨w, E, e, O, r, q⟩ => pts_nil.run pins s σ H Q I (by subst e; exact Want.ret O rfl q)⟩
theorem ptsd_one {c : Expr} (h : PCd G XR X W c fc) : PTs X [c] (tC' G XR W fc) := pts_one h.pt
theorem pld_comp (hc : X.calm = true) (hN : X.N.Nodup) (hi : PId G XR X W tg iter fi) (ok : BlkOk X.N X.env.scope scope own) (hsl : ∀ i ∈ g.slots, i ∈ own.map (·.2))
    (hg : ∀ (s : Shared) (H : Hp) (C : Addr) (cl : List (Str × Addr)) (fp : List Addr), PG (X.blk s H scope (compEnvC scope cl C X.env) fp) tg (tG G g))
    (ht : ∀ (s : Shared) (H : Hp) (C : Addr) (cl : List (Str × Addr)) (fp : List Addr), PTs (X.blk s H scope (compEnvC scope cl C X.env) fp) ifs (tC' G XR W0 fc))
    (he : ∀ (s : Shared) (H : Hp) (C : Addr) (cl : List (Str × Addr)) (fp : List Addr), PEd G XR (X.blk s H scope (compEnvC scope cl C X.env) fp) W0 elt fe) (hs : ∀ x, foldedSetIterable iter X.env x = pure x) :
    PLd G XR X W (.ListComp elt [⟨tg, iter, ifs, 0⟩] scope pos) (fun E S => (fi E S).bind fun nx S1 => compD nx g fc fe (wipeD E (own.map (·.2))) lim 0 [] S1) := by
  obtain ⟨t, hp, core⟩ := comp_core (fc := fc) (fe := fe) (g := g) (own := own) hi hsl (Nat.le_refl lim)
  exact ⟨_, pe_lc hc hN hp ok hg ht (fun s H C cl fp => (he s H C cl fp).pe) hs, core⟩
/-! ranges -/
def rangeIt (lo : Int) (n : Nat) : ItD := fun i _ => bif Nat.blt i n then some (some (.int (lo + Int.ofNat i))) else some none
theorem itOk_range {lo : Int} {n : Nat} {w0 : Wd} : ItOk G w0 (rangeIt lo n) (Itr lo n) := by
  refine ⟨fun w i T O h => ?_, fun w i d T O h => ?_⟩
  · unfold rangeIt at h
    rw [Bool.cond_eq_ite] at h
    split at h
    · cases h
    · rename_i hn
      show n ≤ i
      exact Nat.le_of_not_lt fun z => hn (Nat.ble_eq_true_of_le z)
  · unfold rangeIt at h
    rw [Bool.cond_eq_ite] at h
    split at h
    · rename_i hn
      cases h
      exact ⟨Nat.le_of_ble_eq_true hn, fun x H' ⟨e1, e2⟩ => ⟨w, Step.refl, rfl, e1.symm, O, by rw [e2]; exact .int _⟩⟩
    · cases h
def small61 (i : Int) : Bool := Nat.blt i.natAbs 2305843009213693952
theorem small61_lt {i : Int} (h : small61 i = true) : -(2 ^ 62) ≤ i ∧ i < 2 ^ 62 := by
  have : i.natAbs < 2305843009213693952 := Nat.le_of_ble_eq_true h
  omega
variable {es : List Expr} {fs : FA} {a b c : Expr} {f f2 f3 : FE} {p : Pos}
def range1D : List D → Store → O ItD
  | [.int n], S => bif small61 n then .ok (rangeIt 0 n.toNat) S else .bad
  | _, _ => .bad
def range2D : List D → Store → O ItD
  | [.int a, .int n], S => bif small61 n && small61 a then .ok (rangeIt a (n - a).toNat) S else .bad
  | _, _ => .bad
theorem pid_range1 (hg : Gl X "range") (hm : X.mg "range" = none) (ha : PAd G XR X W [a] fs) (hs : starEach [a] X.env = [(false, eval a X.env)]) :
    PId G XR X W tg (.Call (.Name "range" p) [a] [] pos) (fun E S => (fs E S).bind range1D) := by
  obtain ⟨t, ht, ha⟩ := ha
  refine ⟨_, pi_range1 hg hm ht hs, fun σ w E R O rE q => ha σ w E _ O rE (Want.bind q fun ds vs w1 T1 O1 r1 q1 => ?_)⟩
  unfold range1D at q1
  split at q1
  · rename_i n
    rw [Bool.cond_eq_ite] at q1
    split at q1
    · rename_i hn
      obtain ⟨v, rfl, r2⟩ := one_rep r1
      cases r2
      exact ⟨n, rfl, (small61_lt hn).1, (small61_lt hn).2, Want.ret O1 itOk_range q1⟩
    · exact q1.elim
  · exact q1.elim
theorem pid_range2 (hg : Gl X "range") (hm : X.mg "range" = none) (ha : PAd G XR X W [a, b] fs) (hs : starEach [a, b] X.env = [(false, eval a X.env), (false, eval b X.env)]) (hs2 : starEach [b] X.env = [(false, eval b X.env)]) :
    PId G XR X W tg (.Call (.Name "range" p) [a, b] [] pos) (fun E S => (fs E S).bind range2D) := by
  obtain ⟨t, ht, ha⟩ := ha
  refine ⟨_, pi_range2 hg hm ht hs hs2, fun σ w E R O rE q => ha σ w E _ O rE (Want.bind q fun ds vs w1 T1 O1 r1 q1 => ?_)⟩
  unfold range2D at q1
  split at q1
  · rename_i i n
    rw [Bool.cond_eq_ite] at q1
    split at q1
    · rename_i hn
      obtain ⟨h1, h2⟩ := Bool.and_eq_true_iff.mp hn
      obtain ⟨v, u, rfl, r2, r3⟩ := two_rep r1
      cases r2
      cases r3
      exact ⟨i, n, rfl, ⟨(small61_lt h2).1, (small61_lt h2).2, (small61_lt h1).1, (small61_lt h1).2⟩, Want.ret O1 itOk_range q1⟩
    · exact q1.elim
  · exact q1.elim
/-! ranges as values -/
def rgD (lo : Int) : Nat → Nat → List D
  | 0, _ => []
  | n + 1, i => .int (lo + Int.ofNat i) :: rgD lo n (i + 1)
theorem rgD_rep {w : Wd} (lo : Int) : ∀ n i, RepVs G w (rgD lo n i) ((List.range' i n).map fun (j : Nat) => V.int (lo + (j : Int)))
  | 0, i => .nil
  | n + 1, i => by
    rw [List.range'_succ]
    exact .cons (.int _) (rgD_rep lo n (i + 1))
theorem rgV_eq (a b : Int) : rgV a b = (List.range' 0 (b - a).toNat).map fun (j : Nat) => V.int (a + (j : Int)) := by
  unfold rgV
  rw [List.range_eq_range']
def small20 (i : Int) : Bool := Nat.ble i.natAbs 1000000
theorem pld_listRg (hc : X.calm = true) (hg : Gl X "list") (hm : X.mg "list" = none) (hg2 : Gl X "range") (hm2 : X.mg "range" = none) (h1 : PEd G XR X W a f)
    (na : starEach [a] X.env = (false, eval a X.env) :: starEach [] X.env) (nb : starEach [.Call (.Name "range" p) [a] [] pos] X.env = (false, eval (.Call (.Name "range" p) [a] [] pos) X.env) :: starEach [] X.env) {p2 pos2 : Pos} :
    PLd G XR X W (.Call (.Name "list" p2) [.Call (.Name "range" p) [a] [] pos] [] pos2) (fun E S => (f E S).bind fun d S1 => match d with | .int n => (bif small20 n then .ok (rgD 0 n.toNat 0) S1 else .bad) | _ => .bad) := by
  obtain ⟨t, ht, h1⟩ := h1
  refine ⟨_, pe_listRg hc hg hm (prg_1 hg2 hm2 ht na) nb, fun σ w E Q O rE q => h1 σ w E _ O rE (Want.bind q fun d v w1 T1 O1 r1 q1 => ?_)⟩
  split at q1
  · rename_i n
    rw [Bool.cond_eq_ite] at q1
    split at q1
    · rename_i hn
      have h2 : n.natAbs ≤ 1000000 := Nat.le_of_ble_eq_true hn
      cases r1
      refine ⟨n, rfl, ⟨by omega, by omega, by omega, by omega, by omega⟩, fun q' nq => ?_⟩
      have r := rgD_rep (G := G) (w := w1) 0 n.toNat 0
      rw [rgV_eq, show (n - 0).toNat = n.toNat by omega]
      exact Want.at (w' := w1.put q' (.lst _)) q1 (Step.laid nq) rfl (O1.laid nq) ⟨repL_new O1 nq r, fun p' e => by cases e; exact T1.gone nq⟩
    · exact q1.elim
  · exact q1.elim
theorem ped_tupRg (hc : X.calm = true) (hg : Gl X "tuple") (hm : X.mg "tuple" = none) (hg2 : Gl X "range") (hm2 : X.mg "range" = none) (h1 : PEd G XR X W a f)
    (na : starEach [a] X.env = (false, eval a X.env) :: starEach [] X.env) (nb : starEach [.Call (.Name "range" p) [a] [] pos] X.env = (false, eval (.Call (.Name "range" p) [a] [] pos) X.env) :: starEach [] X.env) {p2 pos2 : Pos} :
    PEd G XR X W (.Call (.Name "tuple" p2) [.Call (.Name "range" p) [a] [] pos] [] pos2) (fun E S => (f E S).bind fun d S1 => match d with | .int n => (bif small20 n then .ok (.tup (rgD 0 n.toNat 0)) S1 else .bad) | _ => .bad) := by
  obtain ⟨t, ht, h1⟩ := h1
  refine ⟨_, pe_tupRg hc hg hm (prg_1 hg2 hm2 ht na) nb, fun σ w E Q O rE q => h1 σ w E _ O rE (Want.bind q fun d v w1 T1 O1 r1 q1 => ?_)⟩
  split at q1
  · rename_i n
    rw [Bool.cond_eq_ite] at q1
    split at q1
    · rename_i hn
      have h2 : n.natAbs ≤ 1000000 := Nat.le_of_ble_eq_true hn
      cases r1
      refine ⟨n, rfl, ⟨by omega, by omega, by omega, by omega, by omega⟩, fun q' nq => ?_⟩
      have r := rgD_rep (G := G) (w := w1) 0 n.toNat 0
      rw [rgV_eq, show (n - 0).toNat = n.toNat by omega]
      exact Want.at (w' := w1.put q' (.tup _)) q1 (Step.laid nq) rfl (O1.laid nq) (repT_new O1 nq r)
    · exact q1.elim
  · exact q1.elim
/-! zip of two, enumerate -/
def pairIt (d e : D) : ItD := fun i S => match seqOf S d with
  | some (_, xs) => match seqOf S e with
    | some (_, ys) => match xs[i]? with
      | some x => match ys[i]? with
        | some y => some (some (.tup [x, y]))
        | none => some none
      | none => some none
    | none => none
  | none => none
theorem pair_yld {w : Wd} {H' : Hp} {T : Addr} {x y : V} {d e : D} (O : SOk G w) (nT : w.H T = none) (eH : H' = upd w.H T (.tup [x, y])) (rx : RepV G w d x) (ry : RepV G w e y) :
    ∃ w', Step w w' ∧ w'.S = w.S ∧ w'.H = H' ∧ SOk G w' ∧ RepV G w' (.tup [d, e]) (.ref T) :=
  ⟨w.put T (.tup [x, y]), Step.laid nT, rfl, eH.symm, O.laid nT, repT_new O nT (.cons rx (.cons ry .nil))⟩
theorem itOk_zip {d e : D} {v u : V} {k : SK} {xs0 ys0 : List D} {w0 : Wd} (O : SOk G w0) (r : RepV G w0 d v) (r' : RepV G w0 e u) (e0 : seqOf w0.S d = some (k, xs0)) (e0' : seqOf w0.S e = some (k, ys0)) :
    ∃ a b, v = .ref a ∧ u = .ref b ∧ ItOk G w0 (pairIt d e) (match k with | .l => Itz G.K a b | .t => RZ.ItzT G.K a b) := by
  obtain ⟨a, _, rfl, _, _⟩ := seqOf_rep O r e0
  obtain ⟨b, _, rfl, _, _⟩ := seqOf_rep O r' e0'
  refine ⟨a, b, rfl, rfl, fun w i T O' h => ?_, fun w i z T O' h => ?_⟩
  · unfold pairIt at h
    split at h
    · rename_i k1 xs e1
      split at h
      · rename_i k2 ys e2
        have hk := seqOf_kept e0 e1
        have hk' := seqOf_kept e0' e2
        subst hk hk'
        obtain ⟨_, vs, ea, r1, hs⟩ := seqOf_rep O' (r.kept T) e1
        obtain ⟨_, us, eb, r2, ht⟩ := seqOf_rep O' (r'.kept T) e2
        cases ea; cases eb
        have stop : vs.length ≤ i ∨ us.length ≤ i := by
          rw [← r1.length, ← r2.length]
          split at h
          · rename_i x hx
            split at h
            · cases h
            · rename_i hy; exact .inr (List.getElem?_eq_none_iff.mp hy)
          · rename_i hx; exact .inl (List.getElem?_eq_none_iff.mp hx)
        cases k
        · exact ⟨vs, us, hs, ht, stop⟩
        · exact ⟨vs, us, hs, ht, stop⟩
      · cases h
    · cases h
  · unfold pairIt at h
    split at h
    · rename_i k1 xs e1
      split at h
      · rename_i k2 ys e2
        have hk := seqOf_kept e0 e1
        have hk' := seqOf_kept e0' e2
        subst hk hk'
        obtain ⟨_, vs, ea, r1, hs⟩ := seqOf_rep O' (r.kept T) e1
        obtain ⟨_, us, eb, r2, ht⟩ := seqOf_rep O' (r'.kept T) e2
        cases ea; cases eb
        split at h
        · rename_i x hx
          split at h
          · rename_i y hy
            cases h
            obtain ⟨vx, hvx, rx⟩ := r1.get hx
            obtain ⟨vy, hvy, ry⟩ := r2.get hy
            cases k
            · refine ⟨⟨vs, us, vx, vy, hs, ht, hvx, hvy⟩, fun x' H' ⟨Ta, x1, y1, ev, nT, eH, f1, f2⟩ => ?_⟩
              have ex := (f1 vs hs).symm.trans hvx
              have ey := (f2 us ht).symm.trans hvy
              cases ex; cases ey; subst ev
              exact pair_yld O' nT eH rx ry
            · refine ⟨⟨vs, us, vx, vy, hs, ht, hvx, hvy⟩, fun x' H' ⟨Ta, x1, y1, ev, nT, eH, f1, f2⟩ => ?_⟩
              have ex := (f1 vs hs).symm.trans hvx
              have ey := (f2 us ht).symm.trans hvy
              cases ex; cases ey; subst ev
              exact pair_yld O' nT eH rx ry
          · cases h
        · cases h
      · cases h
    · cases h
def zipD : List D → Store → O ItD
  | [d, e], S => match seqOf S d, seqOf S e with
    | some (.l, _), some (.l, _) => .ok (pairIt d e) S
    | some (.t, _), some (.t, _) => .ok (pairIt d e) S
    | _, _ => .bad
  | _, _ => .bad
theorem pid_zip {elts : List Expr} {kk : Nat} {tpos : Pos} (hK : X.K = G.K) (hg : Gl X "zip") (hm : X.mg "zip" = none) (ha : PAd G XR X W [a, b] fs) (hs : starEach [a, b] X.env = (false, eval a X.env) :: starEach [b] X.env) (hpl : (backTo pos (starEach [b] X.env)).any (·.1) = false) :
    PId G XR X W (.Tuple elts kk tpos) (.Call (.Name "zip" p) [a, b] [] pos) (fun E S => (fs E S).bind zipD) := by
  obtain ⟨t, ht, ha⟩ := ha
  refine ⟨_, RZ.pi_zipA hg hm ht hs hpl, fun σ w E R O rE q => ha σ w E _ O rE (Want.bind q fun ds vs w1 T1 O1 r1 q1 => ?_)⟩
  rw [hK]
  unfold zipD at q1
  split at q1
  · rename_i d e
    obtain ⟨v, u, rfl, r2, r3⟩ := two_rep r1
    split at q1
    · rename_i xs ys e1 e2
      obtain ⟨p', q', h1, h2, I⟩ := itOk_zip O1 r2 r3 e1 e2
      obtain ⟨_, us1, g1, _, hs1⟩ := seqOf_rep O1 r2 e1
      obtain ⟨_, us2, g2, _, hs2⟩ := seqOf_rep O1 r3 e2
      subst h1 h2
      cases g1; cases g2
      exact ⟨_, _, us1, us2, rfl, .inl ⟨hs1, hs2, Want.ret O1 I q1⟩⟩
    · rename_i xs ys e1 e2
      obtain ⟨p', q', h1, h2, I⟩ := itOk_zip O1 r2 r3 e1 e2
      obtain ⟨_, us1, g1, _, hs1⟩ := seqOf_rep O1 r2 e1
      obtain ⟨_, us2, g2, _, hs2⟩ := seqOf_rep O1 r3 e2
      subst h1 h2
      cases g1; cases g2
      exact ⟨_, _, us1, us2, rfl, .inr ⟨hs1, hs2, Want.ret O1 I q1⟩⟩
    · exact q1.elim
  · exact q1.elim
def enumIt (d : D) : ItD := fun i S => match seqOf S d with
  | some (_, xs) => match xs[i]? with
    | some x => some (some (.tup [.int (Int.ofNat i), x]))
    | none => some none
  | none => none
theorem itOk_enum {d : D} {v : V} {xs0 : List D} {w0 : Wd} (O : SOk G w0) (r : RepV G w0 d v) (e0 : seqOf w0.S d = some (.l, xs0)) :
    ∃ a, v = .ref a ∧ ItOk G w0 (enumIt d) (Ite G.K a) := by
  obtain ⟨a, _, rfl, _, _⟩ := seqOf_rep O r e0
  refine ⟨a, rfl, fun w i T O' h => ?_, fun w i z T O' h => ?_⟩
  · unfold enumIt at h
    split at h
    · rename_i k1 xs e1
      have hk := seqOf_kept e0 e1
      subst hk
      obtain ⟨_, vs, ea, r1, hs⟩ := seqOf_rep O' (r.kept T) e1
      cases ea
      split at h
      · cases h
      · rename_i hx; exact ⟨vs, hs, by rw [← r1.length]; exact List.getElem?_eq_none_iff.mp hx⟩
    · cases h
  · unfold enumIt at h
    split at h
    · rename_i k1 xs e1
      have hk := seqOf_kept e0 e1
      subst hk
      obtain ⟨_, vs, ea, r1, hs⟩ := seqOf_rep O' (r.kept T) e1
      cases ea
      split at h
      · rename_i x hx
        cases h
        obtain ⟨vx, hvx, rx⟩ := r1.get hx
        refine ⟨⟨vs, vx, hs, hvx⟩, fun x' H' ⟨Ta, x1, ev, nT, eH, f1⟩ => ?_⟩
        have ex := (f1 vs hs).symm.trans hvx
        cases ex; subst ev
        exact pair_yld O' nT eH (.int _) rx
      · cases h
    · cases h
def enumD : List D → Store → O ItD
  | [d], S => match seqOf S d with
    | some (.l, _) => .ok (enumIt d) S
    | _ => .bad
  | _, _ => .bad
theorem pid_enum {elts : List Expr} {kk : Nat} {tpos : Pos} (hK : X.K = G.K) (hg : Gl X "enumerate") (hm : X.mg "enumerate" = none) (ha : PAd G XR X W [a] fs) (hs : starEach [a] X.env = [(false, eval a X.env)]) :
    PId G XR X W (.Tuple elts kk tpos) (.Call (.Name "enumerate" p) [a] [] pos) (fun E S => (fs E S).bind enumD) := by
  obtain ⟨t, ht, ha⟩ := ha
  refine ⟨_, pi_enum hg hm ht hs, fun σ w E R O rE q => ha σ w E _ O rE (Want.bind q fun ds vs w1 T1 O1 r1 q1 => ?_)⟩
  rw [hK]
  unfold enumD at q1
  split at q1
  · rename_i d
    obtain ⟨v, rfl, r2⟩ := one_rep r1
    split at q1
    · rename_i xs e1
      obtain ⟨p', h1, I⟩ := itOk_enum O1 r2 e1
      obtain ⟨_, us1, g1, _, hs1⟩ := seqOf_rep O1 r2 e1
      subst h1
      cases g1
      exact ⟨_, us1, rfl, hs1, Want.ret O1 I q1⟩
    · exact q1.elim
  · exact q1.elim
end
end Ev
namespace Ev
open PySem PySem.Spec L2
open PyProof.Rows hiding St
/-! statements -/
inductive SO where
  | nx (E : EnvD) (S : Store)
  | rt (d : D) (S : Store)
  | bk (E : EnvD) (S : Store)
  | ct (E : EnvD) (S : Store)
  | exc (x : Ex) (E : EnvD) (S : Store)
  | bad
abbrev FS := EnvD → Store → SO
section
variable {G : Gd} {XR : XRepT} {W : WX}
def WantS (G : Gd) (XR : XRepT) (W : WX) (w : Wd) (D : Ends) : SO → Prop
  | .nx E S' => ∀ (σ' : L2.St) (w' : Wd), Step w w' → w'.S = S' → SOk G w' → RepE G w' E σ' → D.nx σ' w'.H
  | .rt d S' => ∀ (v : V) (w' : Wd), Step w w' → w'.S = S' → SOk G w' → RepV G w' d v → D.rt v w'.H
  | .bk E S' => ∀ (σ' : L2.St) (w' : Wd), Step w w' → w'.S = S' → SOk G w' → RepE G w' E σ' → D.bk σ' w'.H
  | .ct E S' => ∀ (σ' : L2.St) (w' : Wd), Step w w' → w'.S = S' → SOk G w' → RepE G w' E σ' → D.ct σ' w'.H
  | .exc x E S' => ∀ (σ' : L2.St) (w' : Wd) (cls : Value) (d : Option Addr), Step w w' → w'.S = S' → SOk G w' → RepE G w' E σ' → XR w' x cls d → W cls d σ' w'.H
  | .bad => False
theorem WantS.from {w w' : Wd} {D : Ends} {o : SO} (T : Step w w') (h : WantS G XR W w D o) : WantS G XR W w' D o := by
  cases o with
  | nx E S => exact fun σ w2 T2 => h σ w2 (T.trans T2)
  | rt d S => exact fun v w2 T2 => h v w2 (T.trans T2)
  | bk E S => exact fun σ w2 T2 => h σ w2 (T.trans T2)
  | ct E S => exact fun σ w2 T2 => h σ w2 (T.trans T2)
  | exc x E S => exact fun σ w2 c d T2 => h σ w2 c d (T.trans T2)
  | bad => exact h
/-- an expression's outcome in a statement -/
@[reducible] def O.st {α : Type} (o : O α) (E : EnvD) (k : α → Store → SO) : SO := match o with
  | .ok a S => k a S
  | .exc x S => .exc x E S
  | .bad => .bad
theorem WantS.st {α β : Type} {R : Wd → α → β → Prop} {w : Wd} {E : EnvD} {σ : L2.St} {D : Ends} {Q1 : β → Hp → Prop} {o : O α} {k : α → Store → SO} (O : SOk G w) (rE : RepE G w E σ) (h : WantS G XR W w D (o.st E k))
    (hk : ∀ d v w', Step w w' → SOk G w' → R w' d v → WantS G XR W w' D (k d w'.S) → Q1 v w'.H) : Want G XR (fun c d H => W c d σ H) R w Q1 o := by
  cases o with
  | ok d S' => exact fun v w2 T2 e o r => hk d v w2 T2 o r (by subst e; exact WantS.from T2 h)
  | exc x S' => exact fun w2 c d T2 e o r => h σ w2 c d T2 e o (rE.step O T2) r
  | bad => exact h
theorem WantS.nx {w : Wd} {E : EnvD} {σ : L2.St} {D : Ends} (O : SOk G w) (rE : RepE G w E σ) (h : WantS G XR W w D (.nx E w.S)) : D.nx σ w.H := h σ w Step.refl rfl O rE
def PSd (G : Gd) (XR : XRepT) (X : Cx) (W : WX) (st : Stmt) (f : FS) : Prop := ∃ t, PS X st t ∧ ∀ (D : Ends) (σ : L2.St) (w : Wd) (E : EnvD), SOk G w → RepE G w E σ → WantS G XR W w D (f E w.S) → t D σ w.H
def PSsd (G : Gd) (XR : XRepT) (X : Cx) (W : WX) (sts : List Stmt) (f : FS) : Prop := ∃ t, PSs X sts t ∧ ∀ (D : Ends) (σ : L2.St) (w : Wd) (E : EnvD), SOk G w → RepE G w E σ → WantS G XR W w D (f E w.S) → t D σ w.H
@[reducible] def SO.then (o : SO) (k : FS) : SO := match o with
  | .nx E S => k E S
  | o => o
variable {X : Cx} {st : Stmt} {sts body : List Stmt} {e a b c tg iter : Expr} {f g : FS} {fe fo : FE} {fc : FC} {fi : FI} {fs : FA} {pos pos' : Pos} {x : Str} {i : Nat} {gt : TG'}
theorem pssd_nil : PSsd G XR X W [] (fun E S => .nx E S) := ⟨_, pss_nil, fun D σ w E O r h => WantS.nx O r h⟩
theorem pssd_cons (h1 : PSd G XR X W st f) (h2 : PSsd G XR X W sts g) : PSsd G XR X W (st :: sts) (fun E S => (f E S).then g) := by
  obtain ⟨t, ht, h1⟩ := h1
  obtain ⟨u, hu, h2⟩ := h2
  refine ⟨_, pss_cons ht hu, fun D σ w E O r h => ?_⟩
  refine h1 { D with nx := u D } σ w E O r ?_
  revert h
  dsimp only
  cases hf : f E w.S with
  | nx E1 S1 => exact fun h σ' w' T eS O' r' => h2 D σ' w' E1 O' r' (by subst eS; exact WantS.from T h)
  | rt d S => exact fun h => h
  | bk E1 S => exact fun h => h
  | ct E1 S => exact fun h => h
  | exc x E1 S => exact fun h => h
  | bad => exact fun h => h
theorem psd_bad : PSd G XR X W st (fun _ _ => .bad) := ⟨_, ps_never, fun _ _ _ _ _ _ h => h⟩
theorem psd_pass : PSd G XR X W (.Pass pos) (fun E S => .nx E S) := ⟨_, ps_pass, fun D σ w E O r h => WantS.nx O r h⟩
theorem psd_break : PSd G XR X W (.Break pos) (fun E S => .bk E S) := ⟨_, ps_break, fun D σ w E O r h => h σ w Step.refl rfl O r⟩
theorem psd_expr (he : PEd G XR X W e fe) (hs : swapsWith e none pos.line X.env = pure false) : PSd G XR X W (.Expr e pos) (fun E S => (fe E S).st E fun _ S1 => .nx E S1) := by
  obtain ⟨t, ht, he⟩ := he
  exact ⟨_, ps_expr ht hs, fun D σ w E O r h => he σ w E _ O r (WantS.st O r h fun d v w' T O' _ h' => WantS.nx O' (r.step O T) h')⟩
theorem psd_ret (he : PEd G XR X W e fe) : PSd G XR X W (.Return (some e) pos) (fun E S => (fe E S).st E fun d S1 => .rt d S1) := by
  obtain ⟨t, ht, he⟩ := he
  exact ⟨_, ps_ret ht, fun D σ w E O r h => he σ w E _ O r (WantS.st O r h fun d v w' T O' r' h' => h' v w' Step.refl rfl O' r')⟩
theorem psd_retN : PSd G XR X W (.Return none pos) (fun _ S => .rt .non S) := ⟨_, ps_retN, fun D σ w E O r h => h .non w Step.refl rfl O .non⟩
theorem psd_if {sa sb : List Stmt} (hc : PCd G XR X W c fc) (h1 : PSsd G XR X W sa f) (h2 : PSsd G XR X W sb g) : PSd G XR X W (.If c sa sb pos) (fun E S => (fc E S).st E fun k S1 => bif k then f E S1 else g E S1) := by
  obtain ⟨tc, hc', hc⟩ := hc
  obtain ⟨t, ht, h1⟩ := h1
  obtain ⟨u, hu, h2⟩ := h2
  refine ⟨_, ps_if hc' ht hu, fun D σ w E O r h => hc σ w E _ O r (WantS.st O r h fun d v w' T O' r' h' => ?_)⟩
  subst r'
  cases d with
  | true => rw [if_pos rfl]; exact h1 D σ w' E O' (r.step O T) h'
  | false => rw [if_neg Bool.false_ne_true]; exact h2 D σ w' E O' (r.step O T) h'
theorem psd_set (hN : X.N.Nodup) (hi : X.N[i]? = some x) (hx : Loc X.env.scope x) (hf : X.fn x = true ∨ X.env.scope.names.lookup x = some .local) (he : PEd G XR X W e fe) (hs : swapsWith e (some (.Name x pos')) pos.line X.env = pure false) :
    PSd G XR X W (.Assign [.Name x pos'] e pos) (fun E S => (fe E S).st E fun d S1 => .nx (E.set i (some d)) S1) := by
  obtain ⟨t, ht, he⟩ := he
  exact ⟨_, ps_set hN hi hx ht hs hf, fun D σ w E O r h => he σ w E _ O r (WantS.st O r h fun d v w' T O' r' h' => WantS.nx O' ((r.step O T).set i r') h')⟩
/-- name = [..] on one line -/
theorem psd_setLc {elt : Expr} {ifs : List Expr} {scope : Scope} {own : List (Str × Nat)} {lpos : Pos} {fl : FE} (al : Bool) (hc : X.calm = true) (hN : X.N.Nodup) (hy : X.N[i]? = some x) (hyl : X.env.scope.names.lookup x = some .local)
    (hsw : swapsWith (.ListComp elt [⟨tg, iter, ifs, 0⟩] scope lpos) (some (.Name x pos')) pos.line X.env = pure true)
    (hi : PId G XR X W tg iter fi) (ok : BlkOk X.N X.env.scope scope own) (hsl : ∀ i ∈ gt.slots, i ∈ own.map (·.2))
    (hg : ∀ (s : Shared) (H : Hp) (C : Addr) (cl : List (Str × Addr)) (fp : List Addr), PG (X.blk s H scope (compEnvC scope cl C X.env) fp) tg (tG G gt))
    (ht : ∀ (s : Shared) (H : Hp) (C : Addr) (cl : List (Str × Addr)) (fp : List Addr), PTs (X.blk s H scope (compEnvC scope cl C X.env) fp) ifs (tC' G XR W0 fc))
    (he : ∀ (s : Shared) (H : Hp) (C : Addr) (cl : List (Str × Addr)) (fp : List Addr), PEd G XR (X.blk s H scope (compEnvC scope cl C X.env) fp) W0 elt fe) (hs : ∀ x, foldedSetIterable iter X.env x = pure x) :
    PSd G XR X W (.Assign [.Name x pos'] (.ListComp elt [⟨tg, iter, ifs, 0⟩] scope lpos) pos) (fun E S => ((fi E S).bind fun nx S1 => compD nx gt fc fe (wipeD E (own.map (·.2))) lim 0 [] S1).st E fun ds S1 => bif al then .nx (E.set i (some (.loc S1.length))) (S1 ++ [some ds]) else .nx (E.set i (some (.lst ds))) S1) := by
  obtain ⟨t, hp, core⟩ := comp_core (fc := fc) (fe := fe) (g := gt) (own := own) hi hsl (Nat.le_refl lim)
  refine ⟨_, ps_setLc hc hN hy hyl hsw hp ok hg ht (fun s H C cl fp => (he s H C cl fp).pe) hs, fun D σ w E O r h => ?_⟩
  refine core σ w E (fun v H1 => gName i v σ H1 D.nx) O r ?_
  revert h
  dsimp only
  cases hf : (fi E w.S).bind fun nx S1 => compD nx gt fc fe (wipeD E (own.map (·.2))) lim 0 [] S1 with
  | bad => exact fun h => h
  | exc y S1 => exact fun h w2 c d T2 e o rx => h σ w2 c d T2 e o (r.step O T2) rx
  | ok ds S1 =>
    intro h v w' T eS O' ⟨⟨p, vs, ev, hp, hR, Oh, rv⟩, hn⟩
    subst ev eS
    have h' : WantS G XR W w D (bif al then .nx (E.set i (some (.loc w'.S.length))) (w'.S ++ [some ds]) else .nx (E.set i (some (.lst ds))) w'.S) := h
    cases al with
    | true =>
      have z : RepV G (w'.alloc p ds) (.loc w'.S.length) (.ref ((w'.alloc p ds).rho w'.S.length)) := .loc (by simp)
      have e : (w'.alloc p ds).rho w'.S.length = p := ext_same
      rw [e] at z
      have Ta : Step w (w'.alloc p ds) := alloc_step T (hn p rfl)
      exact h' _ (w'.alloc p ds) Ta rfl (SOk.alloc Oh hp rv hR) ((r.step O Ta).set i z)
    | false =>
      exact h' _ w' T rfl O' ((r.step O T).set i (.lst hp (Oh.res p List.mem_cons_self).2 hR (rv.kept free_kept)))
/-- a target that is a row of names -/
theorem psd_tup {t' : List Expr} {k : Nat} {tp : Pos} (he : PEd G XR X W e fe) (hg : PG X (.Tuple t' k tp) (tG G gt)) (hs : swapsWithSole [.Tuple t' k tp] e pos.line X.env = pure false) (hw : swappedStores [.Tuple t' k tp] e X.env = pure none) :
    PSd G XR X W (.Assign [.Tuple t' k tp] e pos) (fun E S => (fe E S).st E fun d S1 => match tgD gt d E with | some E1 => .nx E1 S1 | none => .bad) := by
  obtain ⟨t, ht, he⟩ := he
  refine ⟨_, ps_asg ht hg hs hw rfl, fun D σ w E O r h => he σ w E _ O r (WantS.st O r h fun d v w' T O' r' h' => ?_)⟩
  split at h'
  · rename_i E1 hE
    exact ⟨w', E, E1, d, rfl, O', r.step O T, r', hE, fun σ' rs _ => WantS.nx O' rs h'⟩
  · exact h'.elim
/-- a, b = x, y -/
theorem psd_par {j : Nat} {y : Str} {px py pt : Pos} {kt k2 : Nat} {pt2 : Pos} (hc : X.calm = true) (hN : X.N.Nodup) (hi : X.N[i]? = some x) (hj : X.N[j]? = some y) (hij : i ≠ j)
    (hx : X.env.scope.names.lookup x = some .local) (hy : X.env.scope.names.lookup y = some .local) (ha : PAd G XR X W [a, b] fs)
    (hw : swappedStores [.Tuple [.Name x px, .Name y py] kt pt] (.Tuple [a, b] k2 pt2) X.env = pure (some [x, y])) :
    PSd G XR X W (.Assign [.Tuple [.Name x px, .Name y py] kt pt] (.Tuple [a, b] k2 pt2) pos) (fun E S => (fs E S).st E fun ds S1 => match setsD [i, j] ds E with | some E1 => .nx E1 S1 | none => .bad) := by
  obtain ⟨t, ht, ha⟩ := ha
  refine ⟨_, ps_par hc hN hi hj hij hx hy ht hw, fun D σ w E O r h => ha σ w E _ O r (WantS.st O r h fun ds vs w' T O' r' h' => ?_)⟩
  split at h'
  · rename_i E1 hE
    cases ds with
    | nil => cases hE
    | cons d1 ds => cases ds with
      | nil => cases hE
      | cons d2 ds => cases ds with
        | cons _ _ => cases hE
        | nil =>
          cases hE
          obtain ⟨v, u, rfl, r1, r2⟩ := two_rep r'
          exact ⟨v, u, rfl, WantS.nx O' (((r.step O T).set i r1).set j r2) h'⟩
  · exact h'.elim
theorem psd_par3 {j l : Nat} {y z : Str} {px py pz pt : Pos} {kt k2 : Nat} {pt2 : Pos} (hc : X.calm = true) (hN : X.N.Nodup) (hi : X.N[i]? = some x) (hj : X.N[j]? = some y) (hl : X.N[l]? = some z) (hij : i ≠ j) (hil : i ≠ l) (hjl : j ≠ l)
    (hx : X.env.scope.names.lookup x = some .local) (hy : X.env.scope.names.lookup y = some .local) (hz : X.env.scope.names.lookup z = some .local) (ha : PAd G XR X W [a, b, c] fs)
    (hw : swappedStores [.Tuple [.Name x px, .Name y py, .Name z pz] kt pt] (.Tuple [a, b, c] k2 pt2) X.env = pure (some [x, y, z])) :
    PSd G XR X W (.Assign [.Tuple [.Name x px, .Name y py, .Name z pz] kt pt] (.Tuple [a, b, c] k2 pt2) pos) (fun E S => (fs E S).st E fun ds S1 => match setsD [i, j, l] ds E with | some E1 => .nx E1 S1 | none => .bad) := by
  obtain ⟨t, ht, ha⟩ := ha
  refine ⟨_, ps_par3 hc hN hi hj hl hij hil hjl hx hy hz ht hw, fun D σ w E O r h => ha σ w E _ O r (WantS.st O r h fun ds vs w' T O' r' h' => ?_)⟩
  split at h'
  · rename_i E1 hE
    cases ds with
    | nil => cases hE
    | cons d1 ds => cases ds with
      | nil => cases hE
      | cons d2 ds => cases ds with
        | nil => cases hE
        | cons d3 ds => cases ds with
          | cons _ _ => cases hE
          | nil =>
            cases hE
            cases r' with
            | cons r1 r2 =>
              obtain ⟨v, u, rfl, r2, r3⟩ := two_rep r2
              exact ⟨_, v, u, rfl, WantS.nx O' ((((r.step O T).set i r1).set j r2).set l r3) h'⟩
  · exact h'.elim
/-- o[i] = e -/
def setAt (S : Store) (o ix d : D) : Option Store := match o with
  | .loc l => match S[l]? with
    | some (some ds) => match ix with
      | .int k => match ixOf ds.length k with
        | some j => some (S.set l (some (ds.set j d)))
        | none => none
      | _ => none
    | _ => none
  | _ => none
theorem psd_sub {o ix : Expr} {fx : FE} {sp : Pos} (he : PEd G XR X W e fe) (ho : PEd G XR X W o fo) (hx : PEd G XR X W ix fx) (hs : swapsWithSole [.Subscript o ix sp] e pos.line X.env = pure false) (hw : swappedStores [.Subscript o ix sp] e X.env = pure none)
    (ha : ∀ v, assign (.Subscript o ix sp) X.env v = (do
      let ov ← holding [v] (eval o X.env)
      let iv ← holding [v, ov] (eval ix X.env)
      standAt sp
      holding [v, ov, iv] (setItem ov iv v)
      release [v, ov, iv] [])) :
    PSd G XR X W (.Assign [.Subscript o ix sp] e pos) (fun E S => (fe E S).st E fun d S1 => (fo E S1).st E fun od S2 => (fx E S2).st E fun xd S3 => match setAt S3 od xd d with | some S4 => .nx E S4 | none => .bad) := by
  obtain ⟨t, ht, he⟩ := he
  obtain ⟨u, hu, ho⟩ := ho
  obtain ⟨z, hz, hx⟩ := hx
  refine ⟨_, ps_asg ht (pg_sub hu hz set_list ha) hs hw rfl, fun D σ w E O r h => he σ w E _ O r (WantS.st O r h fun d v w1 T1 O1 r1 h1 => ?_)⟩
  have rE1 := r.step O T1
  refine ho σ w1 E _ O1 rE1 (WantS.st O1 rE1 h1 fun od ov w2 T2 O2 r2 h2 => ?_)
  have rE2 := rE1.step O1 T2
  refine hx σ w2 E _ O2 rE2 (WantS.st O2 rE2 h2 fun xd xv w3 T3 O3 r3 h3 => ?_)
  have rE3 := rE2.step O2 T3
  split at h3
  · rename_i S4 hS
    unfold setAt at hS
    split at hS
    · rename_i l
      split at hS
      · rename_i ds hd
        split at hS
        · rename_i k
          split at hS
          · rename_i j hj
            cases hS
            obtain ⟨p, vs, rfl, ep, hp, rv⟩ := (r2.step O2 T3).seqLoc O3 hd
            subst ep
            cases r3
            have r1' : RepV G w3 d v := ((r1.step O1 T2).step O2 T3)
            refine ⟨_, vs, k, j, rfl, rfl, hp, by rw [← rv.length, ← ixOf_eq]; exact hj, ?_⟩
            have Tw : Step w3 (w3.write l (ds.set j d) (vs.set j v)) := Step.write hd
            exact h3 σ (w3.write l (ds.set j d) (vs.set j v)) Tw rfl (SOk.write O3 hd (rv.set r1' j)) (rE3.step O3 Tw)
          · cases hS
        · cases hS
      · cases hS
    · cases hS
  · exact h3.elim
/-! loops -/
def forD (nx : ItD) (tg : TG') (body : FS) : Nat → Nat → EnvD → Store → SO
  | 0, _, _, _ => .bad
  | n + 1, i, E, S => match nx i S with
    | none => .bad
    | some none => .nx E S
    | some (some d) => match tgD tg d E with
      | none => .bad
      | some E1 => match body E1 S with
        | .nx E2 S2 => forD nx tg body n (i + 1) E2 S2
        | .ct E2 S2 => forD nx tg body n (i + 1) E2 S2
        | .bk E2 S2 => .nx E2 S2
        | .rt d S2 => .rt d S2
        | .exc x E2 S2 => .exc x E2 S2
        | .bad => .bad
theorem psd_for (hp : PassesOwn (model X.prog X.w) X.A X.env X.xe) (hc : X.calm = true) (hi : PId G XR X W tg iter fi) (hg : PG X tg (tG G gt)) (hb : PSsd G XR X W body f) (hs : ∀ x, foldedSetIterable iter X.env x = pure x) :
    PSd G XR X W (.For tg iter body [] pos) (fun E S => (fi E S).st E fun nx S1 => forD nx gt f lim 0 E S1) := by
  obtain ⟨ti, hi', hi⟩ := hi
  obtain ⟨tb, hb', hb⟩ := hb
  refine ⟨_, ps_for hp hc hi' hg hb' hs, fun D σ w E O r h => hi σ w E _ O r (WantS.st O r h fun nx J w1 T1 O1 rJ h1 => ?_)⟩
  refine ⟨fun i m σ H => ∃ (w' : Wd) (E' : EnvD), w'.H = H ∧ Step w1 w' ∧ SOk G w' ∧ RepE G w' E' σ ∧ WantS G XR W w1 D (forD nx gt f m i E' w'.S), ⟨lim, w1, E, rfl, Step.refl, O1, r.step O T1, h1⟩, ?_⟩
  rintro i m σ H ⟨w', E', rfl, T', O', rE, h'⟩
  have K' := T'.kept O1
  cases m with
  | zero => exact h'.elim
  | succ m =>
    unfold forD at h'
    split at h'
    · exact h'.elim
    · rename_i hnx
      exact .inl ⟨rJ.stop w' i K' O' hnx, h' σ w' T' rfl O' rE⟩
    · rename_i d hnx
      obtain ⟨hgo, hy⟩ := rJ.go w' i d K' O' hnx
      refine .inr ⟨hgo, fun σ' H' => ∃ (w2 : Wd) (E2 : EnvD), w2.H = H' ∧ Step w1 w2 ∧ SOk G w2 ∧ RepE G w2 E2 σ' ∧ WantS G XR W w1 D (forD nx gt f m (i + 1) E2 w2.S), fun σ' H' h => ⟨m, Nat.lt_succ_self _, h⟩, fun x H' hy' => ?_⟩
      obtain ⟨w2, T2, eS, eH, O2, rd⟩ := hy x H' hy'
      have T12 := T'.trans T2
      split at h'
      · exact h'.elim
      · rename_i E1 hE
        refine ⟨w2, E', E1, d, eH, O2, rE.step O' T2, rd, hE, fun σ2 rσ _ => ?_⟩
        subst eH
        rw [← eS] at h'
        refine hb _ σ2 w2 E1 O2 rσ ?_
        revert h'
        cases hf : f E1 w2.S with
        | nx E2 S2 => exact fun h' σ' w3 T3 e3 O3 r3 => ⟨w3, E2, rfl, T12.trans T3, O3, r3, by subst e3; exact h'⟩
        | ct E2 S2 => exact fun h' σ' w3 T3 e3 O3 r3 => ⟨w3, E2, rfl, T12.trans T3, O3, r3, by subst e3; exact h'⟩
        | bk E2 S2 => exact fun h' σ' w3 T3 e3 O3 r3 => h' σ' w3 (T12.trans T3) e3 O3 r3
        | rt d S2 => exact fun h' v w3 T3 e3 O3 r3 => h' v w3 (T12.trans T3) e3 O3 r3
        | exc y E2 S2 => exact fun h' σ' w3 c d T3 e3 O3 r3 rx => h' σ' w3 c d (T12.trans T3) e3 O3 r3 rx
        | bad => exact fun h' => h'
def whileD (fc : FC) (body : FS) : Nat → EnvD → Store → SO
  | 0, _, _ => .bad
  | n + 1, E, S => match fc E S with
    | .bad => .bad
    | .exc x S1 => .exc x E S1
    | .ok k S1 => bif k then (match body E S1 with
        | .nx E2 S2 => whileD fc body n E2 S2
        | .ct E2 S2 => whileD fc body n E2 S2
        | .bk E2 S2 => .nx E2 S2
        | .rt d S2 => .rt d S2
        | .exc x E2 S2 => .exc x E2 S2
        | .bad => .bad) else .nx E S1
theorem psd_while (hp : PassesOwn (model X.prog X.w) X.A X.env X.xe) (hc : PCd G XR X W c fc) (hb : PSsd G XR X W body f) :
    PSd G XR X W (.While c body [] pos) (fun E S => whileD fc f lim E S) := by
  obtain ⟨tc, hc', hc⟩ := hc
  obtain ⟨tb, hb', hb⟩ := hb
  refine ⟨_, ps_while hp hc' hb', fun D σ w1 E O1 r h1 => ?_⟩
  refine ⟨fun m σ H => ∃ (w' : Wd) (E' : EnvD), w'.H = H ∧ Step w1 w' ∧ SOk G w' ∧ RepE G w' E' σ ∧ WantS G XR W w1 D (whileD fc f m E' w'.S), ⟨lim, w1, E, rfl, Step.refl, O1, r, h1⟩, ?_⟩
  rintro m σ H ⟨w', E', rfl, T', O', rE, h'⟩
  cases m with
  | zero => exact h'.elim
  | succ m =>
    unfold whileD at h'
    refine hc σ w' E' _ O' rE ?_
    revert h'
    cases hf : fc E' w'.S with
    | bad => exact fun h' => h'
    | exc y S1 => exact fun h' w3 c d T3 e3 O3 rx => h' σ w3 c d (T'.trans T3) e3 O3 (rE.step O' T3) rx
    | ok k S1 =>
      intro h' b w2 T2 e2 O2 rb
      subst rb e2
      have T12 := T'.trans T2
      have rE2 := rE.step O' T2
      cases k with
      | false => rw [if_neg Bool.false_ne_true]; exact h' σ w2 T12 rfl O2 rE2
      | true =>
        rw [if_pos rfl]
        refine ⟨fun σ' H' => ∃ (w2 : Wd) (E2 : EnvD), w2.H = H' ∧ Step w1 w2 ∧ SOk G w2 ∧ RepE G w2 E2 σ' ∧ WantS G XR W w1 D (whileD fc f m E2 w2.S), fun σ' H' h => ⟨m, Nat.lt_succ_self _, h⟩, ?_⟩
        refine hb _ σ w2 E' O2 rE2 ?_
        have h'' : WantS G XR W w1 D (match f E' w2.S with
          | .nx E2 S2 => whileD fc f m E2 S2
          | .ct E2 S2 => whileD fc f m E2 S2
          | .bk E2 S2 => .nx E2 S2
          | .rt d S2 => .rt d S2
          | .exc x E2 S2 => .exc x E2 S2
          | .bad => .bad) := h'
        revert h''
        cases hf : f E' w2.S with
        | nx E2 S2 => exact fun h' σ' w3 T3 e3 O3 r3 => ⟨w3, E2, rfl, T12.trans T3, O3, r3, by subst e3; exact h'⟩
        | ct E2 S2 => exact fun h' σ' w3 T3 e3 O3 r3 => ⟨w3, E2, rfl, T12.trans T3, O3, r3, by subst e3; exact h'⟩
        | bk E2 S2 => exact fun h' σ' w3 T3 e3 O3 r3 => h' σ' w3 (T12.trans T3) e3 O3 r3
        | rt d S2 => exact fun h' v w3 T3 e3 O3 r3 => h' v w3 (T12.trans T3) e3 O3 r3
        | exc y E2 S2 => exact fun h' σ' w3 c d T3 e3 O3 r3 rx => h' σ' w3 c d (T12.trans T3) e3 O3 r3 rx
        | bad => exact fun h' => h'
end
end Ev
namespace Ev
open PySem PySem.Spec L2
open PyProof.Rows hiding St
/-! methods of lists -/
section
variable {G : Gd} {XR : XRepT} {X : Cx} {W : WX} {o e : Expr} {fo fe : FE} {apos cpos : Pos}
/-- a method: the place, the arguments; the value, what stands at the place behind it -/
def methD (m : List D → List D → Option (D × List D)) (od : D) (as : List D) (S : Store) : O D := match od with
  | .loc l => match S[l]? with
    | some (some ds) => match m ds as with
      | some (r, ds') => .ok r (S.set l (some ds'))
      | none => .bad
    | _ => .bad
  | _ => .bad
def MethOk (G : Gd) (XR : XRepT) (r : V → List V → Hp → VK → Prop) (m : List D → List D → Option (D × List D)) : Prop :=
  ∀ (w : Wd) (l : Nat) (ds as ds' : List D) (rd : D) (us : List V) (Q : VK), SOk G w → w.S[l]? = some (some ds) → RepVs G w as us → m ds as = some (rd, ds') →
    (∀ vs' v, RepVs G w ds' vs' → RepV G w rd v → Q v (upd w.H (w.rho l) (.lst vs'))) → r (.ref (w.rho l)) us w.H Q
theorem meth_want {r : V → List V → Hp → VK → Prop} {m : List D → List D → Option (D × List D)} (hm : MethOk G XR r m) {w : Wd} {od : D} {ov : V} {as : List D} {us : List V} {Q : VK} {Wx : WX0} (O : SOk G w) (ro : RepV G w od ov) (ra : RepVs G w as us)
    (q : Want G XR Wx (RepV G) w Q (methD m od as w.S)) : r ov us w.H Q ∧ ∃ p xs, ov = .ref p ∧ w.H p = some (.lst xs) := by
  unfold methD at q
  split at q
  · rename_i l
    split at q
    · rename_i ds hd
      split at q
      · rename_i rd ds' hmd
        obtain ⟨p, vs, rfl, ep, hp, rv⟩ := ro.seqLoc O hd
        subst ep
        refine ⟨hm w l ds as ds' rd us Q O hd ra hmd fun vs' v r1 r2 => ?_, _, _, rfl, hp⟩
        have Tw : Step w (w.write l ds' vs') := Step.write hd
        exact Want.at (w' := w.write l ds' vs') q Tw rfl (SOk.write O hd r1) (r2.step O Tw)
      · exact q.elim
    · exact q.elim
  · exact q.elim
def placed (S : Store) : D → Bool
  | .loc l => match S[l]? with
    | some (some _) => true
    | _ => false
  | _ => false
theorem placed_ty {w : Wd} {od : D} {ov : V} (O : SOk G w) (r : RepV G w od ov) (h : placed w.S od = true) : tyV G.K "list" ov w.H := by
  unfold placed at h
  split at h
  · split at h
    · rename_i hd
      obtain ⟨p, vs, rfl, ep, hp, rv⟩ := r.seqLoc O hd
      exact .inl ⟨rfl, vs, .inl (.inl hp)⟩
    · cases h
  · cases h
theorem ped_meth1 {name : Str} {mid : String} {r : V → List V → Hp → VK → Prop} {m : List D → List D → Option (D × List D)} (hK : X.K = G.K) (slot : Slot "list" name mid) (hty : typeOf (.builtin mid) = pure (.type "method_descriptor")) (hr : MtR X mid r) (hm : MethOk G XR r m)
    (ho : PEd G XR X W o fo) (he : PEd G XR X W e fe) (hbase : attributeBase o name X.env (eval o X.env) = eval o X.env) (hline : (apos.endLine == cpos.line) = true)
    (hs : starEach [e] X.env = (false, eval e X.env) :: starEach [] X.env) :
    PEd G XR X W (.Call (.Attribute o name apos) [e] [] cpos) (fun E S => (fo E S).bind fun od S1 => bif placed S1 od then ((fe E S1).bind fun d S2 => methD m od [d] S2) else .bad) := by
  obtain ⟨t, ht, ho⟩ := ho
  obtain ⟨u, hu, he⟩ := he
  refine ⟨_, pe_bm PySem.F.plainAttrs_list slot hty hr ht (pa_cons hu pa_nil hs) hbase (by rw [hs]; rfl) hline hs rfl, fun σ w E Q O rE q => ?_⟩
  rw [hK]
  refine ho σ w E _ O rE (Want.bind q fun od ov w1 T1 O1 r1 q1 => ?_)
  rw [Bool.cond_eq_ite] at q1
  split at q1
  · rename_i hpl
    refine ⟨placed_ty O1 r1 hpl, ?_⟩
    refine he σ w1 E _ O1 (rE.step O T1) (Want.bind q1 fun d v w2 T2 O2 r2 q2 => ?_)
    exact (meth_want hm O2 (r1.step O1 T2) (.cons r2 .nil) q2).1
  · exact q1.elim
theorem ped_meth0 {name : Str} {mid : String} {r : V → List V → Hp → VK → Prop} {m : List D → List D → Option (D × List D)} (hK : X.K = G.K) (slot : Slot "list" name mid) (hty : typeOf (.builtin mid) = pure (.type "method_descriptor")) (hr : MtR X mid r) (hm : MethOk G XR r m)
    (ho : PEd G XR X W o fo) (hbase : attributeBase o name X.env (eval o X.env) = eval o X.env) (hline : (apos.endLine == cpos.line) = true) :
    PEd G XR X W (.Call (.Attribute o name apos) [] [] cpos) (fun E S => (fo E S).bind fun od S1 => bif placed S1 od then methD m od [] S1 else .bad) := by
  obtain ⟨t, ht, ho⟩ := ho
  refine ⟨_, pe_bm0 PySem.F.plainAttrs_list slot hty hr ht hbase hline, fun σ w E Q O rE q => ?_⟩
  rw [hK]
  refine ho σ w E _ O rE (Want.bind q fun od ov w1 T1 O1 r1 q1 => ?_)
  rw [Bool.cond_eq_ite] at q1
  split at q1
  · rename_i hpl
    exact ⟨placed_ty O1 r1 hpl, (meth_want hm O1 r1 .nil q1).1⟩
  · exact q1.elim
def mAppend : List D → List D → Option (D × List D)
  | ds, [d] => bif Nat.ble ds.length lim then some (.non, ds ++ [d]) else none
  | _, _ => none
theorem methOk_append : MethOk G XR rAppend mAppend := by
  intro w l ds as ds' rd us Q O hd ra hm q
  unfold mAppend at hm
  split at hm
  · rw [Bool.cond_eq_ite] at hm
    split at hm
    · rename_i hz
      cases hm
      obtain ⟨v, rfl, r1⟩ := one_rep ra
      obtain ⟨vs, h1, h2⟩ := O.at l ds hd
      exact ⟨_, vs, v, rfl, rfl, h1, by rw [← h2.length]; exact lim_lt hz, q _ _ (h2.append (.cons r1 .nil)) .non⟩
    · cases hm
  · cases hm
def mPop : List D → List D → Option (D × List D)
  | ds, [] => match ds[ds.length - 1]? with
    | some d => some (d, ds.dropLast)
    | none => none
  | ds, [.int i] => bif small61 i then (match ixOf ds.length i with
      | some k => match ds[k]? with
        | some d => some (d, ds.eraseIdx k)
        | none => none
      | none => none) else none
  | _, _ => none
theorem RepVs.dropLast {w : Wd} {ds : List D} {vs : List V} (r : RepVs G w ds vs) : RepVs G w ds.dropLast vs.dropLast := by
  rw [List.dropLast_eq_take, List.dropLast_eq_take, r.length]; exact r.take _
theorem RepVs.eraseIdx {w : Wd} {ds : List D} {vs : List V} (r : RepVs G w ds vs) (k : Nat) : RepVs G w (ds.eraseIdx k) (vs.eraseIdx k) := by
  rw [List.eraseIdx_eq_take_drop_succ, List.eraseIdx_eq_take_drop_succ]; exact (r.take _).append (r.drop _)
theorem methOk_pop0 : MethOk G XR rPop (fun ds as => match as with | [] => mPop ds [] | _ => none) := by
  intro w l ds as ds' rd us Q O hd ra hm q
  cases as with
  | cons _ _ => cases hm
  | nil =>
    unfold mPop at hm
    dsimp only at hm
    split at hm
    · rename_i d hx
      cases hm
      cases ra
      obtain ⟨vs, h1, h2⟩ := O.at l ds hd
      obtain ⟨v, hv, rv⟩ := h2.get hx
      exact ⟨_, vs, v, rfl, rfl, h1, by rw [← h2.length]; exact hv, q _ _ h2.dropLast rv⟩
    · cases hm
theorem methOk_popAt : MethOk G XR rPopAt (fun ds as => match as with | [.int i] => mPop ds [.int i] | _ => none) := by
  intro w l ds as ds' rd us Q O hd ra hm q
  dsimp only at hm
  split at hm
  · rename_i i
    unfold mPop at hm
    dsimp only at hm
    rw [Bool.cond_eq_ite] at hm
    split at hm
    · rename_i hs
      split at hm
      · rename_i k hk
        split at hm
        · rename_i d hx
          cases hm
          obtain ⟨v', rfl, r1⟩ := one_rep ra
          cases r1
          obtain ⟨vs, h1, h2⟩ := O.at l ds hd
          obtain ⟨v, hv, rv⟩ := h2.get hx
          have h61 := small61_lt hs
          have hk' := (ixN_seq (by rw [← ixOf_eq]; exact hk)).1
          exact ⟨_, vs, i, k, v, rfl, rfl, h1, by omega, by omega, by rw [← h2.length]; exact hk', hv, q _ _ (h2.eraseIdx k) rv⟩
        · cases hm
      · cases hm
    · cases hm
  · cases hm
def mReverse : List D → List D → Option (D × List D)
  | ds, [] => some (.non, ds.reverse)
  | _, _ => none
theorem methOk_reverse : MethOk G XR rReverse mReverse := by
  intro w l ds as ds' rd us Q O hd ra hm q
  unfold mReverse at hm
  split at hm
  · cases hm
    cases ra
    obtain ⟨vs, h1, h2⟩ := O.at l ds hd
    exact ⟨_, vs, rfl, rfl, h1, q _ _ h2.rev .non⟩
  · cases hm
/-! index -/
def idxV (v : V) : List V → Nat → Option Nat
  | [], _ => none
  | u :: us, i => bif eqV u v then some i else idxV v us (i + 1)
theorem idxV_spec (v : V) : ∀ (us : List V) (i j : Nat), idxV v us i = some j → ∃ k, j = i + k ∧ (∃ z, us[k]? = some z ∧ eqV z v = true) ∧ ∀ (m : Nat) z', m < k → us[m]? = some z' → eqV z' v = false
  | [], _, _, h => by cases h
  | u :: us, i, j, h => by
    unfold idxV at h
    rw [Bool.cond_eq_ite] at h
    split at h
    · rename_i he
      cases h
      exact ⟨0, rfl, ⟨u, rfl, he⟩, fun m z' hm => by omega⟩
    · rename_i he
      obtain ⟨k, e1, ⟨z, h1, h2⟩, h3⟩ := idxV_spec v us (i + 1) j h
      refine ⟨k + 1, by omega, ⟨z, by simpa using h1, h2⟩, fun m z' hm hz => ?_⟩
      cases m with
      | zero => simp at hz; subst hz; simpa using he
      | succ m => exact h3 m z' (by omega) (by simpa using hz)
def indexD (od d : D) (S : Store) : O D := match seqOf S od with
  | some (.l, ds) => match vOf d with
    | some v => match vsOf ds with
      | some us => match idxV v us 0 with
        | some j => .ok (.int (Int.ofNat j)) S
        | none => .bad
      | none => .bad
    | none => .bad
  | _ => .bad
def listy (S : Store) (d : D) : Bool := match seqOf S d with
  | some (.l, _) => true
  | _ => false
theorem ped_index (hK : X.K = G.K) (ho : PEd G XR X W o fo) (he : PEd G XR X W e fe) (hbase : attributeBase o "index" X.env (eval o X.env) = eval o X.env) (hline : (apos.endLine == cpos.line) = true)
    (hs : starEach [e] X.env = (false, eval e X.env) :: starEach [] X.env) :
    PEd G XR X W (.Call (.Attribute o "index" apos) [e] [] cpos) (fun E S => (fo E S).bind fun od S1 => bif listy S1 od then ((fe E S1).bind fun d S2 => indexD od d S2) else .bad) := by
  obtain ⟨t, ht, ho⟩ := ho
  obtain ⟨u, hu, he⟩ := he
  refine ⟨_, pe_bm PySem.F.plainAttrs_list PySem.F.slot_list_index PySem.F.type_list_index mt_index ht (pa_cons hu pa_nil hs) hbase (by rw [hs]; rfl) hline hs rfl, fun σ w E Q O rE q => ?_⟩
  rw [hK]
  refine ho σ w E _ O rE (Want.bind q fun od ov w1 T1 O1 r1 q1 => ?_)
  rw [Bool.cond_eq_ite] at q1
  split at q1
  · rename_i hpl
    refine ⟨?_, ?_⟩
    · unfold listy at hpl
      split at hpl
      · rename_i ds e1
        obtain ⟨a, vs, rfl, _, hq⟩ := seqOf_rep O1 r1 e1
        exact .inl ⟨rfl, vs, hq⟩
      · cases hpl
    · refine he σ w1 E _ O1 (rE.step O T1) (Want.bind q1 fun d v w2 T2 O2 r2 q2 => ?_)
      unfold indexD at q2
      split at q2
      · rename_i ds e1
        split at q2
        · rename_i v' e2
          split at q2
          · rename_i us e3
            split at q2
            · rename_i j e4
              obtain ⟨a, vs, rfl, rs, hq⟩ := seqOf_rep O2 (r1.step O1 T2) e1
              obtain ⟨h1, h2⟩ := vOf_rep r2 e2
              obtain ⟨h3, h4⟩ := vsOf_rep rs e3
              subst h1 h3
              obtain ⟨k, ek, ⟨z, h5, h6⟩, h7⟩ := idxV_spec _ _ _ _ e4
              rw [Nat.zero_add] at ek
              subst ek
              exact ⟨a, _, _, _, z, rfl, rfl, hq, h2, h4, h5, h6, h7, Want.ret O2 (.int _) q2⟩
            · exact q2.elim
          · exact q2.elim
        · exact q2.elim
      · exact q2.elim
  · exact q1.elim
end
end Ev
namespace Ev
open PySem PySem.Spec L2
open PyProof.Rows hiding St
/-! defs -/
abbrev FN := List D → Store → O D
def spD (G : Gd) (XR : XRepT) (n : Nat) (f : FN) : Sp := fun vs H Q E =>
  vs.length = n ∧ ∃ (w : Wd) (ds : List D), w.H = H ∧ SOk G w ∧ RepVs G w ds vs ∧ Want G XR E (RepV G) w Q (f ds w.S)
def finD (d : D) (n : Nat) (S : Store) : O D := bif Nat.beq S.length n then .ok d S else bif below n d && belowS n (S.take n) then .ok d (S.take n) else .bad
def finX (x : Ex) (n : Nat) (S : Store) : O D := bif Nat.beq S.length n then .exc x S else bif belows n x.fs && belowS n (S.take n) then .exc x (S.take n) else .bad
def endD (n : Nat) : SO → O D
  | .rt d S => finD d n S
  | .nx _ S => finD .non n S
  | .exc x _ S => finX x n S
  | _ => .bad
def startD (N : Nat) (ds : List D) : EnvD := ds.map some ++ List.replicate (N - ds.length) none
def callD (N : Nat) (fb : FS) : FN := fun ds S => endD S.length (fb (startD N ds) S)
structure XROk (XR : XRepT) : Prop where
  trim : ∀ (w : Wd) (n : Nat) (x : Ex) (c : Value) (d : Option Addr), n ≤ w.S.length → belows n x.fs = true → XR w x c d → XR (w.trim n) x c d
theorem repE_start {G : Gd} {w : Wd} {N : List Str} {ds : List D} {vs : List V} (r : RepVs G w ds vs) : RepE G w (startD N.length ds) (L2.start N vs) := by
  refine ⟨by simp [startD, L2.start, r.length], fun i d e => ?_⟩
  have hl := r.length
  unfold startD at e
  by_cases h : i < ds.length
  · rw [List.getElem?_append_left (by simpa using h), List.getElem?_map] at e
    cases q : ds[i]? with
    | none => rw [q] at e; cases e
    | some d' =>
      rw [q] at e; cases e
      obtain ⟨v, h1, h2⟩ := r.get q
      refine ⟨v, ?_, h2⟩
      unfold L2.start
      rw [List.getElem?_append_left (by simpa [← hl] using h), List.getElem?_map, h1]; rfl
  · rw [List.getElem?_append_right (by simpa using h), List.getElem?_replicate] at e
    split at e <;> cases e
section
variable {G : Gd} {XR : XRepT}
theorem Want.fin {E : Value → Option Addr → Hp → Prop} {Q : VK} {w w' : Wd} {d : D} {v : V} (h : Want G XR E (RepV G) w Q (finD d w.S.length w'.S)) (T : Step w w') (O : SOk G w') (r : RepV G w' d v) : Q v w'.H := by
  unfold finD at h
  by_cases e : Nat.beq w'.S.length w.S.length = true
  · rw [e] at h
    exact h v w' T rfl O r
  · rw [Bool.not_eq_true] at e
    rw [e] at h
    by_cases b : (below w.S.length d && belowS w.S.length (w'.S.take w.S.length)) = true
    · rw [b] at h
      obtain ⟨b1, b2⟩ := Bool.and_eq_true_iff.mp b
      exact h v (w'.trim w.S.length) (trim_step T) rfl (O.trim T.len b2) (r.trim T.len b1)
    · rw [Bool.not_eq_true] at b
      rw [b] at h
      exact h.elim
theorem Want.finX {E : Value → Option Addr → Hp → Prop} {Q : VK} {w w' : Wd} {x : Ex} {c : Value} {a : Option Addr} (hX : XROk XR) (h : Want G XR E (RepV G) w Q (Ev.finX x w.S.length w'.S)) (T : Step w w') (O : SOk G w') (r : XR w' x c a) : E c a w'.H := by
  unfold Ev.finX at h
  by_cases e : Nat.beq w'.S.length w.S.length = true
  · rw [e] at h
    exact h w' c a T rfl O r
  · rw [Bool.not_eq_true] at e
    rw [e] at h
    by_cases b : (belows w.S.length x.fs && belowS w.S.length (w'.S.take w.S.length)) = true
    · rw [b] at h
      obtain ⟨b1, b2⟩ := Bool.and_eq_true_iff.mp b
      exact h (w'.trim w.S.length) c a (trim_step T) rfl (O.trim T.len b2) (hX.trim _ _ _ _ _ T.len b1 r)
    · rw [Bool.not_eq_true] at b
      rw [b] at h
      exact h.elim
abbrev WE0 (E : XK) : WX := fun cls d _ H => E cls d H
abbrev bodyX (P : Program) (w : World) (K : PySem.W.Frag) (mg : Str → Option Value) (base : Heap) (N : List Str) (qual : Str) (scope : Scope) (f : Addr) (cd : Value) (A : Around) (outer : List Env) (s : Shared) (H : Hp) (E : XK) : Cx :=
  cxOf (L2.CX P w) P w K mg base N qual scope f cd A outer s H E
theorem takes_body {P : Program} {w : World} {K : PySem.W.Frag} {mg : Str → Option Value} {base : Heap} {N : List Str} {qual : Str} {scope : Scope} {f : Addr} {cd : Value} {A : Around} {outer : List Env} {s : Shared} {H : Hp} {E : XK} :
    Takes (bodyX P w K mg base N qual scope f cd A outer s H E) (WE0 E) := takes_of rfl rfl rfl rfl
theorem own_body {P : Program} {w : World} {K : PySem.W.Frag} {mg : Str → Option Value} {base : Heap} {N : List Str} {qual : Str} {scope : Scope} {f : Addr} {cd : Value} {A : Around} {outer : List Env} {s : Shared} {H : Hp} {E : XK} :
    PassesOwn (model P w) (bodyX P w K mg base N qual scope f cd A outer s H E).A (bodyX P w K mg base N qual scope f cd A outer s H E).env (bodyX P w K mg base N qual scope f cd A outer s H E).xe := passes_of (X := bodyX P w K mg base N qual scope f cd A outer s H E) rfl
theorem fnD_ok {P : Program} {w : World} {mg : Str → Option Value} {base : Heap} {x qual : Str} {params : Arguments} {body : List Stmt} {scope : Scope} {a : Addr} {fd : FuncData} {N ps : List Str} {k : Nat} {fb : FS} (hX : XROk XR)
    (F : FunD G.K x qual params body scope [] [] a fd) (S : FnScope N ps scope)
    (hb : ∀ (cdv : Value) (A : Around) (outer : List Env) (s : Shared) (H : Hp) (E : XK), Room k (bodyX P w G.K mg base N qual scope a cdv A outer s H E).A → PSsd G XR (bodyX P w G.K mg base N qual scope a cdv A outer s H E) (WE0 E) body fb) :
    FnOk P w G.K mg base (L2.CX P w) (k + 1) a fd ps (spD G XR ps.length (callD N.length fb)) := by
  refine F.ok S (fun vs H Q E h => h.1) fun cdv A outer s H vs Q E hr h => ?_
  obtain ⟨hl, w0, ds, rfl, O, r, q⟩ := h
  obtain ⟨t, ht, h⟩ := hb cdv A outer s w0.H E hr
  refine ⟨t, ht, h _ _ w0 (startD N.length ds) O (repE_start r) ?_⟩
  revert q
  unfold callD
  cases hf : fb (startD N.length ds) w0.S with
  | nx E1 S1 => exact fun q σ' w' T e O' r' => Want.fin (by subst e; exact q) T O' (.non)
  | rt d S1 => exact fun q v w' T e O' r' => Want.fin (by subst e; exact q) T O' r'
  | bk E1 S1 => exact fun q => q.elim
  | ct E1 S1 => exact fun q => q.elim
  | bad => exact fun q => q.elim
  | exc y E1 S1 => exact fun q σ' w' c b T e O' r' rx => Want.finX hX (by subst e; exact q) T O' rx
/-- a def that may be called -/
structure Fn (P : Program) (w : World) (G : Gd) (XR : XRepT) (mg : Str → Option Value) (base : Heap) (k : Nat) (x : Str) (params : Arguments) (n : Nat) (f : FN) : Prop where
  ex : ∃ (a : Addr) (fd : FuncData) (ps : List Str) (body : List Stmt) (scope : Scope), ps.length = n ∧ ps = params.args.map (·.arg) ∧ FunD G.K x x params body scope [] [] a fd ∧ mg x = some (.ref a) ∧ Binds G.K fd ps [] ∧ FnOk P w G.K mg base (L2.CX P w) k a fd ps (spD G XR n f)
theorem Fn.mono {P : Program} {w : World} {mg : Str → Option Value} {base : Heap} {j k n : Nat} {x : Str} {params : Arguments} {f : FN} (F : Fn P w G XR mg base j x params n f) (h : j ≤ k) : Fn P w G XR mg base k x params n f := by
  obtain ⟨a, fd, ps, body, scope, h1, h2, h3, h4, h5, h6⟩ := F.ex
  exact ⟨a, fd, ps, body, scope, h1, h2, h3, h4, h5, h6.mono h⟩
theorem fn_mk {P : Program} {w : World} {mg : Str → Option Value} {base : Heap} {x : Str} {params : Arguments} {body : List Stmt} {scope : Scope} {a : Addr} {fd : FuncData} {N ps : List Str} {k n : Nat} {fb : FS} (hX : XROk XR)
    (F : FunD G.K x x params body scope [] [] a fd) (S : FnScope N ps scope) (hm : mg x = some (.ref a)) (hp : ps = params.args.map (·.arg)) (hn : ps.length = n)
    (hbi : ∀ (kV doc pm : Value) (an : Option Addr) (cdv ct : Value) (us : List Value), us.length = ps.length → bindArgs (PySem.W.fnOf x x params body scope .none kV doc pm an cdv ct) ⟨us, []⟩ = pure (ps.zip us))
    (hb : ∀ (cdv : Value) (A : Around) (outer : List Env) (s : Shared) (H : Hp) (E : XK), Room k (bodyX P w G.K mg base N x scope a cdv A outer s H E).A → PSsd G XR (bodyX P w G.K mg base N x scope a cdv A outer s H E) (WE0 E) body fb) :
    Fn P w G XR mg base (k + 1) x params n (callD N.length fb) :=
  ⟨a, fd, ps, body, scope, hn, hp, F, hm, F.bindsN hbi, hn ▸ fnD_ok hX F S hb⟩
/-! calls -/
variable {X : Cx} {W : WX} {k n : Nat} {x : Str} {params : Arguments} {f : FN} {e : Expr} {es : List Expr} {fs : FA} {p pos : Pos}
theorem ped_call (F : Fn X.prog X.w G XR X.mg X.base k x params n f) (hK : X.K = G.K) (hr : Room k X.A) (tk : Takes X W) (hg : Gl X x) (ha : PAd G XR X W (e :: es) fs)
    (hdb : (x == ("__debug__" : Str)) = false) (he : starEach (e :: es) X.env = (false, eval e X.env) :: starEach es X.env) (hpl : (backTo pos (starEach es X.env)).any (·.1) = false) :
    PEd G XR X W (.Call (.Name x p) (e :: es) [] pos) (fun E S => (fs E S).bind fun ds S1 => bif Nat.beq ds.length n then f ds S1 else .bad) := by
  obtain ⟨a, fd, ps, body, scope, h1, h2, h3, h4, h5, h6⟩ := F.ex
  obtain ⟨t, ht, ha⟩ := ha
  rw [← hK] at h3 h5 h6
  refine ⟨_, pe_callS h6 hr hg h4 h3.kp h5 (passAt tk) ht hdb he hpl, fun σ w E Q O r q => ha σ w E _ O r (Want.bind q fun ds vs w' T O' r' q' => ?_)⟩
  by_cases hl : Nat.beq ds.length n = true
  · rw [hl] at q'
    exact ⟨by rw [← r'.length]; exact Nat.eq_of_beq_eq_true hl, w', ds, rfl, O', r', q'⟩
  · rw [Bool.not_eq_true] at hl
    rw [hl] at q'
    exact q'.elim
theorem ped_call0 (F : Fn X.prog X.w G XR X.mg X.base k x params 0 f) (hK : X.K = G.K) (hr : Room k X.A) (tk : Takes X W) (hg : Gl X x) (hdb : (x == ("__debug__" : Str)) = false) :
    PEd G XR X W (.Call (.Name x p) [] [] pos) (fun E S => f [] S) := by
  obtain ⟨a, fd, ps, body, scope, h1, h2, h3, h4, h5, h6⟩ := F.ex
  rw [← hK] at h3 h5 h6
  refine ⟨tCallS (spD G XR 0 f) (WE W) tNil, ⟨fun pins s σ H Q I h => ?_⟩, fun σ w E Q O r q => ?_⟩
  · refine wpAny_Call_Name_kw (ld_glob I hg h4 ?_ hdb)
    exact PySem.W.callWith_K0 I.kIn h3.kp (run_fnS (us := []) h6 hr h5 (passAt tk σ) I .nil h)
  · exact ⟨rfl, w, [], rfl, O, .nil, q⟩
/-- in the parameters' order -/
def pick {α : Type} (l : List α) : List Nat → Option (List α)
  | [] => some []
  | i :: is => match l[i]? with
    | some a => (match pick l is with
      | some r => some (a :: r)
      | none => none)
    | none => none
theorem pick_vals {vs : List V} {us : List Value} (r : Vals vs us) : ∀ {is : List Nat} {xs : List V}, pick vs is = some xs → ∃ zs, pick us is = some zs ∧ Vals xs zs
  | [], xs, e => by cases e; exact ⟨[], rfl, .nil⟩
  | i :: is, xs, e => by
    unfold pick at e
    split at e
    · rename_i a ha
      split at e
      · rename_i r' hr'
        cases e
        obtain ⟨zs, h1, h2⟩ := pick_vals r hr'
        obtain ⟨u, h3, h4⟩ := r.get ha
        exact ⟨u :: zs, by unfold pick; rw [h3, h1], .cons h4 h2⟩
      · cases e
    · cases e
theorem pick_rep {w : Wd} {ds : List D} {vs : List V} (r : RepVs G w ds vs) : ∀ {is : List Nat} {xs : List D}, pick ds is = some xs → ∃ zs, pick vs is = some zs ∧ RepVs G w xs zs
  | [], xs, e => by cases e; exact ⟨[], rfl, .nil⟩
  | i :: is, xs, e => by
    unfold pick at e
    split at e
    · rename_i a ha
      split at e
      · rename_i r' hr'
        cases e
        obtain ⟨zs, h1, h2⟩ := pick_rep r hr'
        obtain ⟨u, h3, h4⟩ := r.get ha
        exact ⟨u :: zs, by unfold pick; rw [h3, h1], .cons h4 h2⟩
      · cases e
    · cases e
/-- the keywords' values -/
def PKd (G : Gd) (XR : XRepT) (X : Cx) (W : WX) (ks : List Keyword) (f : FA) : Prop := ∃ t, PK X ks t ∧ ∀ (σ : L2.St) (w : Wd) (E : EnvD) (Q : List V → Hp → Prop), SOk G w → RepE G w E σ → Want G XR (fun c d H => W c d σ H) (RepVs G) w Q (f E w.S) → t σ w.H Q
theorem pkd_nil : PKd G XR X W [] (fun _ S => .ok [] S) := ⟨_, pk_nil, fun σ w E Q O rE q => Want.ret O (RepVs.nil) q⟩
theorem pkd_cons {nm : Option Str} {kpos : Pos} {kws : List Keyword} {fe : FE} (h1 : PEd G XR X W e fe) (h2 : PKd G XR X W kws fs) :
    PKd G XR X W (⟨nm, e, kpos⟩ :: kws) (fun E S => (fe E S).bind fun d S1 => (fs E S1).bind fun ds S2 => .ok (d :: ds) S2) := by
  obtain ⟨t, ht, h1⟩ := h1
  obtain ⟨u, hu, h2⟩ := h2
  refine ⟨_, pk_cons ht hu, fun σ w E Q O rE q => ?_⟩
  refine h1 σ w E _ O rE (Want.bind q fun d v w1 T1 O1 r1 q1 => ?_)
  refine h2 σ w1 E _ O1 (rE.step O T1) (Want.bind q1 fun ds vs w2 T2 O2 r2 q2 => ?_)
  exact Want.ret O2 (RepVs.cons (r1.step O1 T2) r2) q2
theorem run_fnKS {pins : List (Addr × Obj)} {σ : L2.St} {H : Hp} {s : Shared} {Q : VK} {us ws xs : List Value} {zs : List V} {ks ps : List Str} {a : Addr} {fd : FuncData} {CX : CXT} {sp : Sp} {E : L2.St → XK} (F : FnOk X.prog X.w X.K X.mg X.base CX k a fd ps sp) (hr : Room k X.A)
    (hb : bindArgs fd ⟨us, ks.zip ws⟩ = pure (ps.zip xs)) (hx : PassesAt CX X σ (E σ))
    (I : Inv X pins σ H s) (r : Vals zs xs) (h : sp zs H Q (E σ)) : wpAny (model X.prog X.w) X.A (call (.ref a) us (ks.zip ws)) (EP X pins σ Q) X.xe s := by
  refine wpAny_call (codeAny_mono (F.run X.A X.stack s H ⟨us, ks.zip ws⟩ xs zs Q (E σ) hr I.env0 (.of_eq hb) r h) fun r s' hq => ?_)
  cases r with
  | error e => exact hx pins H s e s' I hq
  | ok fl =>
    cases fl with
    | ret u => exact I.after hq
    | next => exact False.elim hq
    | brk => exact False.elim hq
    | cont => exact False.elim hq
/-- f(k = v, ..), f(e, .., k = v, ..): π the parameters' values among the written ones -/
theorem ped_callK0 {kws : List Keyword} {ks : List Str} {π : List Nat} {body : List Stmt} {scope : Scope} {m : Nat} (F : Fn X.prog X.w G XR X.mg X.base k x params n f) (hK : X.K = G.K) (hr : Room k X.A) (tk : Takes X W) (hg : Gl X x) (ha : PKd G XR X W kws fs)
    (hb : ∀ (body : List Stmt) (scope : Scope) (kV doc pm : Value) (an : Option Addr) (cdv ct : Value) (ws : List Value), ws.length = m → ∃ xs, bindArgs (PySem.W.fnOf x x params body scope .none kV doc pm an cdv ct) ⟨[], ks.zip ws⟩ = pure ((params.args.map (·.arg)).zip xs) ∧ pick ws π = some xs)
    (hall : (backToKw pos (keywordEach kws X.env)).all (·.1.isSome) = true) (hks : (backToKw pos (keywordEach kws X.env)).filterMap (·.1) = ks)
    (hdb : (x == ("__debug__" : Str)) = false) (hpl : ((backTo pos (starEach [] X.env)).any (·.1) || (backToKw pos (keywordEach kws X.env)).any (·.1.isNone)) = false) :
    PEd G XR X W (.Call (.Name x p) [] kws pos) (fun E S => (fs E S).bind fun ds S1 => bif Nat.beq ds.length m && Nat.beq π.length n then (match pick ds π with | some es => f es S1 | none => .bad) else .bad) := by
  obtain ⟨a, fd, ps, body, scope, h1, h2, h3, h4, h5, h6⟩ := F.ex
  obtain ⟨t, ht, ha⟩ := ha
  rw [← hK] at h3 h5 h6
  obtain ⟨oc, od, dV, kV, doc, pm, an, cdv, ct, osl, rfl, lk, hcd, hD, hKw⟩ := h3.ex
  refine ⟨fun σ H Q => t σ H fun zs H1 => zs.length = m ∧ ∃ xs, pick zs π = some xs ∧ spD G XR n f xs H1 Q (WE W σ), ⟨fun pins s σ H Q I h => ?_⟩, fun σ w E Q O r q => ha σ w E _ O r (Want.bind q fun ds vs w' T O' r' q' => ?_)⟩
  · refine wpAny_Call_Name_kw (ld_glob I hg h4 ?_ hdb)
    refine PySem.W.callWith_KW0 (h₀ := X.base) I.ok.mod.kin h3.kp hall (thn (ht.run pos pins s σ H _ I h) fun ws s1 ⟨zs, H1, I1, rz, hm, xs, hpi, hsp⟩ => ⟨I1.kIn, ?_⟩) hpl
    rw [hks]
    obtain ⟨us, hu1, hu2⟩ := hb body scope kV doc pm an cdv ct ws (by rw [← rz.length]; exact hm)
    obtain ⟨us', hu3, ru⟩ := pick_vals rz hpi
    rw [hu2] at hu3
    cases hu3
    rcases hD with ⟨_, rfl⟩ | ⟨e, _⟩
    · exact run_fnKS (us := []) h6 hr (by rw [h2]; exact hu1) (passAt tk σ) I1 ru hsp
    · exact absurd rfl e
  · by_cases hl : (Nat.beq ds.length m && Nat.beq π.length n) = true
    · rw [hl] at q'
      obtain ⟨hl1, hl2⟩ := Bool.and_eq_true_iff.mp hl
      refine ⟨by rw [← r'.length]; exact Nat.eq_of_beq_eq_true hl1, ?_⟩
      dsimp only [cond] at q'
      split at q'
      · rename_i es hes
        obtain ⟨xs, h7, h8⟩ := pick_rep r' hes
        have pl : ∀ {α : Type} {l : List α} {is : List Nat} {r : List α}, pick l is = some r → r.length = is.length := by
          intro α l is
          induction is with
          | nil => intro r e; cases e; rfl
          | cons i is ih =>
            intro r e
            unfold pick at e
            split at e
            · split at e
              · rename_i _ _ _ hh
                cases e
                simp [ih hh]
              · cases e
            · cases e
        exact ⟨xs, h7, by rw [pl h7]; exact Nat.eq_of_beq_eq_true hl2, w', es, rfl, O', h8, q'⟩
      · exact q'.elim
    · rw [Bool.not_eq_true] at hl
      rw [hl] at q'
      exact q'.elim
end
end Ev
namespace ZN
open PySem
open PySem.Sem (wp)
theorem typeCall_zip : ∀ as : List Value, as.length ≤ 8 → checkTypeCall "zip" ⟨as, []⟩ = pure ()
  | [], _ => by kernel_rfl
  | [a0], _ => by kernel_rfl
  | [a0, a1], _ => by kernel_rfl
  | [a0, a1, a2], _ => by kernel_rfl
  | [a0, a1, a2, a3], _ => by kernel_rfl
  | [a0, a1, a2, a3, a4], _ => by kernel_rfl
  | [a0, a1, a2, a3, a4, a5], _ => by kernel_rfl
  | [a0, a1, a2, a3, a4, a5, a6], _ => by kernel_rfl
  | [a0, a1, a2, a3, a4, a5, a6, a7], _ => by kernel_rfl
  | _ :: _ :: _ :: _ :: _ :: _ :: _ :: _ :: _ :: r, h => by simp at h
theorem newCall_zip : ∀ as : List Value, as.length ≤ 8 → checkBuiltinCall "zip.__new__" ⟨.type "zip" :: as, []⟩ = pure ()
  | [], _ => by kernel_rfl
  | [a0], _ => by kernel_rfl
  | [a0, a1], _ => by kernel_rfl
  | [a0, a1, a2], _ => by kernel_rfl
  | [a0, a1, a2, a3], _ => by kernel_rfl
  | [a0, a1, a2, a3, a4], _ => by kernel_rfl
  | [a0, a1, a2, a3, a4, a5], _ => by kernel_rfl
  | [a0, a1, a2, a3, a4, a5, a6], _ => by kernel_rfl
  | [a0, a1, a2, a3, a4, a5, a6, a7], _ => by kernel_rfl
  | _ :: _ :: _ :: _ :: _ :: _ :: _ :: _ :: _ :: r, h => by simp at h
theorem args_object_init : ∀ as : List Value, as.length ≤ 8 → ∀ a : Value, argsOk "object.__init__" ⟨a :: as, []⟩
  | [], _ => by intro a; unfold argsOk; rw [signature?_of (id := "object.__init__") (n := ['_', '_', 't', 'i', 'n', 'i', '_', '_']) (o := ['t', 'c', 'e', 'j', 'b', 'o']) (by kernel_rfl) F.owner_object]; kernel_rfl
  | [a0], _ => by intro a; unfold argsOk; rw [signature?_of (id := "object.__init__") (n := ['_', '_', 't', 'i', 'n', 'i', '_', '_']) (o := ['t', 'c', 'e', 'j', 'b', 'o']) (by kernel_rfl) F.owner_object]; kernel_rfl
  | [a0, a1], _ => by intro a; unfold argsOk; rw [signature?_of (id := "object.__init__") (n := ['_', '_', 't', 'i', 'n', 'i', '_', '_']) (o := ['t', 'c', 'e', 'j', 'b', 'o']) (by kernel_rfl) F.owner_object]; kernel_rfl
  | [a0, a1, a2], _ => by intro a; unfold argsOk; rw [signature?_of (id := "object.__init__") (n := ['_', '_', 't', 'i', 'n', 'i', '_', '_']) (o := ['t', 'c', 'e', 'j', 'b', 'o']) (by kernel_rfl) F.owner_object]; kernel_rfl
  | [a0, a1, a2, a3], _ => by intro a; unfold argsOk; rw [signature?_of (id := "object.__init__") (n := ['_', '_', 't', 'i', 'n', 'i', '_', '_']) (o := ['t', 'c', 'e', 'j', 'b', 'o']) (by kernel_rfl) F.owner_object]; kernel_rfl
  | [a0, a1, a2, a3, a4], _ => by intro a; unfold argsOk; rw [signature?_of (id := "object.__init__") (n := ['_', '_', 't', 'i', 'n', 'i', '_', '_']) (o := ['t', 'c', 'e', 'j', 'b', 'o']) (by kernel_rfl) F.owner_object]; kernel_rfl
  | [a0, a1, a2, a3, a4, a5], _ => by intro a; unfold argsOk; rw [signature?_of (id := "object.__init__") (n := ['_', '_', 't', 'i', 'n', 'i', '_', '_']) (o := ['t', 'c', 'e', 'j', 'b', 'o']) (by kernel_rfl) F.owner_object]; kernel_rfl
  | [a0, a1, a2, a3, a4, a5, a6], _ => by intro a; unfold argsOk; rw [signature?_of (id := "object.__init__") (n := ['_', '_', 't', 'i', 'n', 'i', '_', '_']) (o := ['t', 'c', 'e', 'j', 'b', 'o']) (by kernel_rfl) F.owner_object]; kernel_rfl
  | [a0, a1, a2, a3, a4, a5, a6, a7], _ => by intro a; unfold argsOk; rw [signature?_of (id := "object.__init__") (n := ['_', '_', 't', 'i', 'n', 'i', '_', '_']) (o := ['t', 'c', 'e', 'j', 'b', 'o']) (by kernel_rfl) F.owner_object]; kernel_rfl
  | _ :: _ :: _ :: _ :: _ :: _ :: _ :: _ :: _ :: r, h => by simp at h
/-- references one behind another -/
def refs (n0 : Nat) : Nat → Nat → List Value
  | _, 0 => []
  | k, m + 1 => .ref (n0 + k) :: refs n0 (k + 1) m
theorem refs_length (n0 : Nat) : ∀ m k, (refs n0 k m).length = m
  | 0, _ => rfl
  | m + 1, k => by simp [refs, refs_length n0 m]
theorem refs_snoc (n0 : Nat) : ∀ m k, refs n0 k (m + 1) = refs n0 k m ++ [.ref (n0 + (k + m))]
  | 0, k => rfl
  | m + 1, k => by
    rw [refs, refs_snoc n0 m (k + 1)]
    show _ = refs n0 k (m + 1) ++ _
    rw [refs]
    simp; omega
abbrev IsZ (h : Heap) (z TI TO : Addr) (f0 f1 : Value) : Prop :=
  h.get? z = some { cls := .type "zip", dict := none, data := .fields #[f0, f1, .bool false, .ref TI, .ref TO], slots := #[] }
structure ZOk (h : Heap) (n0 n : Nat) (ls : List Addr) (k : Nat) : Prop where
  z : ∃ f0 f1, (f0 = .none ∨ ∃ a : Addr, f0 = rawInt a) ∧ IsZ h (n0 + n + 2) (n0 + n) (n0 + n + 1) f0 f1
  TI : h.get? (n0 + n) = some { cls := .type "tuple", data := .seq (refs n0 0 n).toArray }
  TO : ∃ xs : Array Value, xs.size = n ∧ h.get? (n0 + n + 1) = some { cls := .type "tuple", data := .seq xs }
  its : ∀ (j l : Nat), ls[j]? = some l → h.IsTupleIter (n0 + j) l k
  len : ls.length = n
section
variable {prog : Program} {w : World} {A : Around} {E : Value → Shared → Prop} {s : Shared}
theorem wpAny_loadIfAlive {M : Model} {a : Addr} {Q : Option Obj → Shared → Prop} (h : Q (s.heap.get? a) s) : wpAny M A (loadIfAlive a) Q E s := fun Γ p hΓ => by
  unfold loadIfAlive
  rw [Sem.wp_loadIfAlive]
  exact wpAny_pure (E := E) h Γ p hΓ
/-- the state amid the loop: j items are drawn -/
structure Mid (h0 h : Heap) (n0 n : Nat) (ls : List Addr) (k j : Nat) : Prop where
  size : h.objs.size = h0.objs.size
  keep : ∀ c o, c < n0 ∨ n0 + n + 2 < c → h0.get? c = some o → h.get? c = some o
  TI : h.get? (n0 + n) = some { cls := .type "tuple", data := .seq (refs n0 0 n).toArray }
  past : ∀ (i l : Nat), i < j → ls[i]? = some l → h.IsTupleIter (n0 + i) l (k + 1)
  its : ∀ (i l : Nat), j ≤ i → ls[i]? = some l → h.IsTupleIter (n0 + i) l k
theorem stop_raises {Q : α → Shared → Prop} (hh : A.handled = none)
    (hE : ∀ h' e, (∀ c o, s.heap.get? c = some o → h'.get? c = some o) → (∃ o, h'.get? e = some o ∧ o.cls = .type "StopIteration") → E (.ref e) { s with heap := h' }) :
    wpAny (model prog w) A (Builtin.SmallTypes.stopIteration : Sem α) Q E s := by
  unfold Builtin.SmallTypes.stopIteration
  show wpAny _ _ (newExc (.type "StopIteration") [] >>= _) _ _ _
  refine wpAny_bind ?_
  simp only [newExc, newTuple]
  refine wpAny_bind (wpAny_newObj_type ?_ (by size_fits))
  refine wpAny_bind (m := firstArgMember _ _) (wpAny_of_eq (a := Value.none) (by first | rfl | (simp only [firstArgMember]; rfl)) ?_)
  refine wpAny_newObj_type ?_ (by size_fits)
  simp only [raiseNew]
  refine wpAny_bind (wpAny_handled ?_)
  first | rw [show A.in1.handled = none from hh] | rw [hh]
  refine wpAny_bind (wpAny_pure (wpAny_throw ?_))
  exact hE _ _ (fun c o x => Heap.get?_push_of_some _ (Heap.get?_push_of_some _ x)) ⟨_, Heap.get?_push_size _ rfl, rfl⟩

theorem newClass_zip (as : List Value) : Builtin.SmallTypes.newClass "zip" ⟨.type "zip" :: as, []⟩ = pure (.type "zip", as) := by
  unfold Builtin.SmallTypes.newClass
  have h := sub_zip
  have h0 : isType (.type "zip") = pure true := rfl
  dsimp only
  rw [h0, pure_bind]
  simp only [Bool.not_true, Bool.false_eq_true, if_false]
  rw [h]
  rfl
theorem iterAll_tuples {ls : List Addr} {n0 : Nat} {Q : List Value → Shared → Prop} (hn : n0 = s.heap.objs.size) (ht : ∀ l ∈ ls, ∃ items, s.heap.IsTuple l items)
    (hQ : ∀ h', h'.objs.size = n0 + ls.length → (∀ c o, s.heap.get? c = some o → h'.get? c = some o) → (∀ (j l : Nat), ls[j]? = some l → h'.IsTupleIter (n0 + j) l 0) → Q (refs n0 0 ls.length) { s with heap := h' }) :
    wpAny (model prog w) A (Builtin.SmallTypes.iterAll (ls.map Value.ref)) Q E s := by
  unfold Builtin.SmallTypes.iterAll
  refine wpAny_bind (wpAny_forIn_list _ (fun rest (b : Array Value) s' => ∃ done todo h, ls = done ++ todo ∧ rest = todo.map Value.ref ∧ b.toList = refs n0 0 done.length ∧ s' = { s with heap := h } ∧ h.objs.size = n0 + done.length ∧
    (∀ c o, s.heap.get? c = some o → h.get? c = some o) ∧ (∀ (j l : Nat), done[j]? = some l → h.IsTupleIter (n0 + j) l 0)) _ ?_ ?_ _ _ ?_)
  · rintro x rest b s' ⟨done, todo, h, e1, e2, e3, rfl, e4, e5, e6⟩
    cases todo with
    | nil => cases e2
    | cons l todo =>
      cases e2
      obtain ⟨items, hi⟩ := ht l (by rw [e1]; simp)
      have hi' : Heap.IsTuple ({ s with heap := h } : Shared).heap l items := let ⟨o, ho, r⟩ := hi; ⟨o, e5 _ _ ho, r⟩
      refine wpAny_bind (wpAny_holding (wpAny_pyIter_tuple hi' ?_))
      refine wpAny_pure ⟨done ++ [l], todo, _, by simp [e1], rfl, ?_, rfl, ?_, fun c o q => Heap.get?_push_of_some _ (e5 c o q), fun j l' q => ?_⟩
      · rw [Array.toList_push, e3]
        show _ = refs n0 0 (done ++ [l]).length
        rw [List.length_append, List.length_singleton, refs_snoc, Nat.zero_add, ← e4]
      · show (Heap.push _ _).objs.size = _
        rw [Heap.size_push, e4]; simp; omega
      · rcases Nat.lt_or_ge j done.length with hj | hj
        · rw [List.getElem?_append_left hj] at q
          obtain ⟨o, ho, r⟩ := e6 j l' q
          exact ⟨o, Heap.get?_push_of_some _ ho, r⟩
        · rw [List.getElem?_append_right hj] at q
          have hj2 : j - done.length = 0 := by
            rcases Nat.eq_zero_or_pos (j - done.length) with z | z
            · exact z
            · rw [List.getElem?_eq_none (by simp; omega)] at q; cases q
          have hj3 : j = done.length := Nat.le_antisymm (Nat.le_of_sub_eq_zero hj2) hj
          rw [hj2] at q
          cases q
          have e : n0 + j = h.objs.size := by rw [hj3]; exact e4.symm
          rw [e]
          exact ⟨_, Heap.get?_push_size _ rfl, rfl, rfl⟩
  · rintro b s' ⟨done, todo, h, e1, e2, e3, rfl, e4, e5, e6⟩
    cases todo with
    | cons _ _ => cases e2
    | nil =>
      rw [List.append_nil] at e1
      subst e1
      refine wpAny_pure ?_
      rw [e3]
      exact hQ h e4 e5 e6
  · exact ⟨[], ls, s.heap, rfl, rfl, rfl, rfl, by simpa using hn.symm, fun _ _ q => q, fun j l q => by simp at q⟩
theorem repl_none : ∀ (l : List Value), l.map (fun _ => Value.none) = List.replicate l.length Value.none
  | [] => rfl
  | a :: l => by simp [repl_none l, List.replicate_succ]
theorem meets_zip_new (ls : List Addr) (hl : ls.length ≤ 8) :
    Meets (Builtin.«zip.__new__» ⟨.type "zip" :: ls.map Value.ref, []⟩) (fun _ R s => (∀ l ∈ ls, ∃ items, s.heap.IsTuple l items) ∧
      ∀ h', ZOk h' s.heap.objs.size ls.length ls 0 → h'.objs.size = s.heap.objs.size + ls.length + 3 → (∀ c o, s.heap.get? c = some o → h'.get? c = some o) → R (.ok (.ret (.ref (s.heap.objs.size + ls.length + 2)))) { s with heap := h' }) :=
  .of_wp fun prog w A R s h => by
    obtain ⟨ht, h⟩ := h
    unfold Builtin.«zip.__new__»
    refine wpAny_bind ?_
    rw [newClass_zip]
    refine wpAny_pure ?_
    show wpAny _ _ (Builtin.SmallTypes.iterAll (ls.map Value.ref) >>= _) _ _ _
    refine wpAny_bind (iterAll_tuples rfl ht fun h1 z1 k1 i1 => ?_)
    refine wpAny_bind (wpAny_newTuple ?_ (by rw [refs_length]; rw [sizeLine_eq]; omega))
    refine wpAny_bind (wpAny_newTuple ?_ (by rw [List.length_map, refs_length]; rw [sizeLine_eq]; omega))
    unfold Builtin.SmallTypes.newRecord
    refine wpAny_bind (wpAny_newObj_type ?_ (by first | rfl | (unfold sizeOk; simp [Builtin.SmallTypes.ownedTupleFields, sizeLine_eq])))
    refine wpAny_pure ?_
    have z2 : (h1.push { cls := .type "tuple", data := .seq (refs s.heap.objs.size 0 ls.length).toArray }).objs.size = s.heap.objs.size + ls.length + 1 := by rw [Heap.size_push, z1]
    have hq := h ((((h1.push { cls := .type "tuple", data := .seq (refs s.heap.objs.size 0 ls.length).toArray }).push { cls := .type "tuple", data := .seq ((refs s.heap.objs.size 0 ls.length).map fun _ => Value.none).toArray }).push
      { cls := .type "zip", data := .fields #[.none, .bool false, .bool false, .ref (s.heap.objs.size + ls.length), .ref (s.heap.objs.size + ls.length + 1)] })) ?_ ?_ ?_
    · have e1 : (h1.push { cls := .type "tuple", data := .seq (refs s.heap.objs.size 0 ls.length).toArray }).objs.size = s.heap.objs.size + ls.length + 1 := z2
      have e2 : s.heap.objs.size + ls.length + 2 = ((h1.push { cls := .type "tuple", data := .seq (refs s.heap.objs.size 0 ls.length).toArray }).push { cls := .type "tuple", data := .seq ((refs s.heap.objs.size 0 ls.length).map fun _ => Value.none).toArray }).objs.size := by rw [Heap.size_push, e1]
      refine ⟨_, by rw [← e2], ?_⟩
      · have g : h1.objs.size = s.heap.objs.size + ls.length := z1
        refine Eq.mp ?_ hq
        rw [e2]
        show R _ _ = R _ _
        rw [← z2, ← g]
        rfl
    · refine ⟨⟨Value.none, Value.bool false, .inl rfl, ?_⟩, ?_, ⟨((refs s.heap.objs.size 0 ls.length).map fun _ => Value.none).toArray, ?_, ?_⟩, fun j l q => ?_, rfl⟩
      · rw [show s.heap.objs.size + ls.length + 2 = ((h1.push { cls := .type "tuple", data := .seq (refs s.heap.objs.size 0 ls.length).toArray }).push { cls := .type "tuple", data := .seq ((refs s.heap.objs.size 0 ls.length).map fun _ => Value.none).toArray }).objs.size from by rw [Heap.size_push, z2]]
        exact Heap.get?_push_size _ rfl
      · rw [← z1]
        exact Heap.get?_push_of_some _ (Heap.get?_push_of_some _ (Heap.get?_push_size _ rfl))
      · rw [List.size_toArray, List.length_map, refs_length]
      · rw [← z2]
        exact Heap.get?_push_of_some _ (Heap.get?_push_size _ rfl)
      · obtain ⟨o, ho, r⟩ := i1 j l q
        exact ⟨o, Heap.get?_push_of_some _ (Heap.get?_push_of_some _ (Heap.get?_push_of_some _ ho)), r⟩
    · rw [Heap.size_push, Heap.size_push, z2]
    · exact fun c o q => Heap.get?_push_of_some _ (Heap.get?_push_of_some _ (Heap.get?_push_of_some _ (k1 c o q)))
/-! next -/
theorem SameBut.at {b c : Nat} {h h' : Heap} {o : Obj} (x : Heap.SameBut b h h') (n : c ≠ b) (e : h.get? c = some o) : h'.get? c = some o := x.extBut _ _ n e
theorem iter_keep {h h' : Heap} {a t : Addr} {i : Nat} (x : h.IsTupleIter a t i) (k : ∀ o, h.get? a = some o → h'.get? a = some o) : h'.IsTupleIter a t i := let ⟨o, ho, r⟩ := x; ⟨o, k o ho, r⟩
/-- the k-th items -/
def Col (h : Heap) (ls : List Addr) (k : Nat) (us : List Value) : Prop := us.length = ls.length ∧ ∀ (j : Nat) (l : Addr), ls[j]? = some l → ∃ items u, h.IsTuple l items ∧ us[j]? = some u ∧ items[k]? = some u

theorem owned_free {z TI TO : Addr} {f0 f1 : Value} {Q : Bool → Shared → Prop} (hf : f0 = .none ∨ ∃ a : Addr, f0 = rawInt a) (hz : IsZ s.heap z TI TO f0 f1)
    (h : ∀ b h' f1', IsZ h' z TI TO f0 f1' → Heap.SameBut z s.heap h' → Q b { s with heap := h' }) : wpAny (model prog w) A (Builtin.SmallTypes.ownedTupleIsFree (.ref z)) Q E s := by
  unfold Builtin.SmallTypes.ownedTupleIsFree
  rcases hf with rfl | ⟨a, rfl⟩
  · exact wpAny_bind (wpAny_field hz rfl (x := .none) rfl (wpAny_pure (h true s.heap f1 hz (Heap.SameBut.refl _ _))))
  · refine wpAny_bind (wpAny_field hz rfl (x := rawInt a) rfl ?_)
    show wpAny _ _ (loadIfAlive ((a : Int).toNat) >>= _) _ _ _
    refine wpAny_bind (wpAny_loadIfAlive ?_)
    cases (s.heap.get? (a : Int).toNat) with
    | none =>
      simp only [Option.isNone_none, if_true]
      exact wpAny_pure (h true s.heap f1 hz (Heap.SameBut.refl _ _))
    | some o =>
      simp only [Option.isNone_some, Bool.false_eq_true, if_false]
      refine wpAny_bind (wpAny_field hz rfl (x := f1) rfl ?_)
      by_cases q : (f1 != Value.bool true) = true
      · rw [if_pos q]
        exact wpAny_bind (wpAny_setField_rec hz (by simp) fun h₁ hz₁ hs₁ => wpAny_pure (h false h₁ (.bool true) hz₁ hs₁))
      · rw [if_neg q]
        exact wpAny_pure (h false s.heap f1 hz (Heap.SameBut.refl _ _))
theorem upd_at {T : Addr} {xs : Array Value} {x : Value} {k : Nat} {Q : Unit → Shared → Prop} (hT : s.heap.get? T = some { cls := .type "tuple", data := .seq xs }) (hx : xs.size ≤ 8)
    (h : ∀ h', h'.get? T = some { cls := .type "tuple", data := .seq (xs.setIfInBounds k x) } → Heap.SameBut T s.heap h' → Q () { s with heap := h' }) :
    wpAny (model prog w) A (updateSeq T (·.setIfInBounds k x)) Q E s := by
  refine wpAny_updateSeq hT rfl (h _ ?_ (Heap.SameBut.update ..)) (by rw [sizeLine_eq]; omega) (by rw [Array.size_setIfInBounds, sizeLine_eq]; omega)
  rw [Heap.get?_update_self _ hT rfl]
  simp [Obj.mapSeq]
theorem refs_at (n0 : Nat) : ∀ {m k i : Nat}, i < m → (refs n0 k m)[i]? = some (.ref (n0 + (k + i)))
  | m + 1, k, 0, _ => by simp [refs]
  | m + 1, k, i + 1, h => by
    rw [refs, List.getElem?_cons_succ, refs_at n0 (by omega)]
    congr 3; omega
theorem zip_next_item {n0 n k : Nat} {ls : List Addr} {us : List Value} {Q : Value → Shared → Prop} (S : ZOk s.heap n0 n ls k) (hn : 0 < n) (hn8 : n ≤ 8) (hlt : ∀ l ∈ ls, l < n0) (c : Col s.heap ls k us)
    (hsz : n0 + n + 3 ≤ s.heap.objs.size)
    (hQ : ∀ h', ZOk h' n0 n ls (k + 1) → h'.get? s.heap.objs.size = some { cls := .type "tuple", data := .seq us.toArray } → h'.objs.size = s.heap.objs.size + 1 →
      (∀ c o, c < n0 ∨ n0 + n + 2 < c → s.heap.get? c = some o → h'.get? c = some o) → Q (.ref s.heap.objs.size) { s with heap := h' }) :
    wpAny (model prog w) A (Builtin.«zip.__next__» ⟨[.ref (n0 + n + 2)], []⟩) (fun fin s' => ∃ v, fin = .done (.ret v) ∧ Q v s') E s := by
  obtain ⟨⟨f0, f1, hf0, hz⟩, TI, ⟨xs, hxs, TO⟩, its, hl⟩ := S
  obtain ⟨hul, hcol⟩ := c
  have ln : ∀ (j l : Nat), ls[j]? = some l → l < n0 ∧ j < n := fun j l q => ⟨hlt l (List.mem_of_getElem? q), by
    rw [← hl]; exact (List.getElem?_eq_some_iff.mp q).1⟩
  show wpAny _ _ (field (.ref (n0 + n + 2)) 2 >>= _) _ _ _
  refine wpAny_bind (wpAny_field hz rfl (x := .bool false) rfl ?_)
  show wpAny _ _ (field (.ref (n0 + n + 2)) 3 >>= _) _ _ _
  refine wpAny_bind (wpAny_field hz rfl (x := .ref (n0 + n)) rfl ?_)
  refine wpAny_bind (wpAny_seqItems TI rfl ?_)
  have hne : (refs n0 0 n).toArray.isEmpty = false := by
    cases n with
    | zero => omega
    | succ n => simp [refs]
  simp only [hne, Bool.false_eq_true, if_false]
  refine wpAny_bind (owned_free hf0 hz fun b h1 f1' hz1 s1 => ?_)
  have up1 : ∀ (c : Nat) o, c ≠ n0 + n + 2 → s.heap.get? c = some o → h1.get? c = some o := fun c o n e => SameBut.at s1 n e
  cases b with
  | true =>
    simp only [if_true]
    refine wpAny_bind (wpAny_rule ?_)
    refine wpAny_bind (wpAny_field hz1 rfl (x := .ref (n0 + n + 1)) rfl ?_)
    refine wpAny_bind (wpAny_setField_rec hz1 (by simp) fun h2 hz2 s2 => ?_)
    replace hz2 : IsZ h2 (n0 + n + 2) (n0 + n) (n0 + n + 1) .ellipsis f1' := hz2
    have up2 : ∀ (c : Nat) o, c ≠ n0 + n + 2 → s.heap.get? c = some o → h2.get? c = some o := fun c o n e => SameBut.at s2 n (up1 c o n e)
    refine wpAny_bind (wpAny_forIn_list _ (fun rest b s' => b = ⟨none, PUnit.unit⟩ ∧ ∃ j m h ys, j + m = n ∧ rest = (refs n0 j m).zipIdx j ∧ s' = { s with heap := h } ∧ h.objs.size = s.heap.objs.size ∧
      (∀ c o, c < n0 ∨ n0 + n + 2 < c → s.heap.get? c = some o → h.get? c = some o) ∧ h.get? (n0 + n) = some { cls := .type "tuple", data := .seq (refs n0 0 n).toArray } ∧ IsZ h (n0 + n + 2) (n0 + n) (n0 + n + 1) .ellipsis f1' ∧
      h.get? (n0 + n + 1) = some { cls := .type "tuple", data := .seq ys } ∧ ys.size = n ∧ (∀ i, i < j → ys[i]? = us[i]?) ∧ (∀ (i l : Nat), i < j → ls[i]? = some l → h.IsTupleIter (n0 + i) l (k + 1)) ∧ (∀ (i l : Nat), j ≤ i → ls[i]? = some l → h.IsTupleIter (n0 + i) l k)) _ ?_ ?_ _ _ ?_)
    · rintro x rest b s' ⟨rfl, j, m, h, ys, e1, e2, rfl, e3, e4, e5, e6, e7, e8, e9, e10, e11⟩
      cases m with
      | zero => cases e2
      | succ m =>
        cases e2
        have hj : j < n := by omega
        obtain ⟨l, hlj⟩ : ∃ l, ls[j]? = some l := ⟨_, List.getElem?_eq_getElem (by omega)⟩
        obtain ⟨items, u, ht, hu, hk⟩ := hcol j l hlj
        have hl0 := (ln j l hlj).1
        refine wpAny_bind (wpAny_onRaise ?_)
        show wpAny _ _ (Builtin.SmallTypes.nextOf (.ref (n0 + j)) >>= _) _ _ _
        refine wpAny_bind (RZ.nextOf_tuple_item (e11 j l (Nat.le_refl _) hlj) (let ⟨o, ho, r⟩ := ht; ⟨o, e4 _ _ (.inl hl0) ho, r⟩) hk fun h3 i3 s3 => wpAny_pure ?_)
        have TO3 := SameBut.at s3 (show n0 + n + 1 ≠ n0 + j by omega) e7
        refine wpAny_bind (wpAny_seqItems TO3 rfl ?_)
        refine wpAny_bind (upd_at (x := u) (k := j) TO3 (by omega) fun h4 TO4 s4 => ?_)
        refine wpAny_bind (wpAny_letGo (wpAny_pure ⟨rfl, j + 1, m, h4, _, by omega, rfl, rfl, ?_, ?_, ?_, ?_, TO4, ?_, ?_, ?_, ?_⟩))
        · rw [s4.1, s3.1, e3]
        · exact fun c o hc q => SameBut.at s4 (by omega) (SameBut.at s3 (by omega) (e4 c o hc q))
        · exact SameBut.at s4 (by omega) (SameBut.at s3 (by omega) e5)
        · exact SameBut.at s4 (by omega) (SameBut.at s3 (by omega) e6)
        · rw [Array.size_setIfInBounds, e8]
        · intro i hi
          rw [Array.getElem?_setIfInBounds]
          by_cases q : j = i
          · subst q
            rw [if_pos rfl, if_pos (by omega)]
            exact hu.symm
          · rw [if_neg q]
            exact e9 i (by omega)
        · intro i l' hi q
          by_cases z : i = j
          · subst z
            rw [hlj] at q
            cases q
            exact iter_keep i3 fun o q => SameBut.at s4 (by omega) q
          · exact iter_keep (e10 i l' (by omega) q) fun o q => SameBut.at s4 (by omega) (SameBut.at s3 (by omega) q)
        · intro i l' hi q
          have := (ln i l' q).2
          exact iter_keep (e11 i l' (by omega) q) fun o q => SameBut.at s4 (by omega) (SameBut.at s3 (by omega) q)
    · rintro b s' ⟨rfl, j, m, h, ys, e1, e2, rfl, e3, e4, e5, e6, e7, e8, e9, e10, e11⟩
      cases m with
      | succ m => cases e2
      | zero =>
        have hjn : j = n := by omega
        subst hjn
        have hys : ys.toList = us := by
          apply List.ext_getElem?
          intro i
          rw [Array.getElem?_toList]
          by_cases q : i < j
          · exact e9 i q
          · rw [Array.getElem?_eq_none (by omega), List.getElem?_eq_none (by omega)]
        refine wpAny_bind (wpAny_seqItems e7 rfl ?_)
        refine wpAny_bind (wpAny_newTuple ?_ (by rw [hys, hul, hl, sizeLine_eq]; omega))
        rw [hys]
        show wpAny _ _ (Builtin.SmallTypes.ownedTupleHandOut (.ref (n0 + j + 2)) (.ref h.objs.size) >>= _) _ _ _
        refine wpAny_bind ?_
        unfold Builtin.SmallTypes.ownedTupleHandOut
        have hz5 : IsZ (h.push { cls := .type "tuple", data := .seq us.toArray }) (n0 + j + 2) (n0 + j) (n0 + j + 1) .ellipsis f1' := Heap.get?_push_of_some _ e6
        refine wpAny_bind (wpAny_setField_rec hz5 (by simp) fun h7 hz7 hs7 => ?_)
        replace hz7 : IsZ h7 (n0 + j + 2) (n0 + j) (n0 + j + 1) (rawInt h.objs.size) f1' := hz7
        refine wpAny_setField_rec hz7 (by simp) fun h8 hz8 hs8 => ?_
        replace hz8 : IsZ h8 (n0 + j + 2) (n0 + j) (n0 + j + 1) (rawInt h.objs.size) (.bool false) := hz8
        have up : ∀ (c : Nat) o, c ≠ n0 + j + 2 → h.get? c = some o → h8.get? c = some o := fun c o c1 e => SameBut.at hs8 c1 (SameBut.at hs7 c1 (Heap.get?_push_of_some _ e))
        refine wpAny_pure ⟨_, rfl, ?_⟩
        show Q (.ref h.objs.size) _
        have hT : h8.get? h.objs.size = some { cls := .type "tuple", data := .seq us.toArray } := SameBut.at hs8 (by omega) (SameBut.at hs7 (by omega) (Heap.get?_push_size _ rfl))
        have hsz8 : h8.objs.size = h.objs.size + 1 := by rw [hs8.1, hs7.1, Heap.size_push]
        rw [e3] at hT hsz8 ⊢
        exact hQ h8 ⟨⟨_, _, .inr ⟨_, rfl⟩, hz8⟩, up _ _ (by omega) e5, ⟨ys, e8, up _ _ (by omega) e7⟩, fun i l q => iter_keep (e10 i l (ln i l q).2 q) fun o q' => up _ _ (by have := (ln i l q).2; omega) q', hl⟩ hT hsz8 fun c o hc q => up c o (by omega) (e4 c o hc q)
    · refine ⟨rfl, 0, n, h2, xs, by omega, by simp, rfl, by rw [s2.1, s1.1], fun c o hc q => up2 c o (by omega) q, up2 _ _ (by omega) TI, hz2, up2 _ _ (by omega) TO, hxs, fun i hi => by omega, fun i l hi => by omega, fun i l _ q => iter_keep (its i l q) fun o q' => up2 _ _ (by have := (ln i l q).2; omega) q'⟩
  | false =>
    simp only [Bool.false_eq_true, if_false]
    refine wpAny_bind ?_
    rw [← Array.forIn_toList]
    refine wpAny_forIn_list _ (fun rest (b : Option Fin × Array Value) s' => ∃ j m h ys, b = ⟨none, ys⟩ ∧ j + m = n ∧ rest = refs n0 j m ∧ s' = { s with heap := h } ∧ h.objs.size = s.heap.objs.size ∧
      (∀ c o, c < n0 ∨ n0 + n ≤ c → c ≠ n0 + n + 2 → s.heap.get? c = some o → h.get? c = some o) ∧ IsZ h (n0 + n + 2) (n0 + n) (n0 + n + 1) f0 f1' ∧
      ys.toList = us.take j ∧ (∀ (i l : Nat), i < j → ls[i]? = some l → h.IsTupleIter (n0 + i) l (k + 1)) ∧ (∀ (i l : Nat), j ≤ i → ls[i]? = some l → h.IsTupleIter (n0 + i) l k)) _ ?_ ?_ _ _ ?_
    · rintro x rest b s' ⟨j, m, h, ys, rfl, e1, e2, rfl, e3, e4, e6, e9, e10, e11⟩
      cases m with
      | zero => cases e2
      | succ m =>
        cases e2
        have hj : j < n := by omega
        obtain ⟨l, hlj⟩ : ∃ l, ls[j]? = some l := ⟨_, List.getElem?_eq_getElem (by omega)⟩
        obtain ⟨items, u, ht, hu, hk⟩ := hcol j l hlj
        have hl0 := (ln j l hlj).1
        refine wpAny_bind (wpAny_holding ?_)
        show wpAny _ _ (Builtin.SmallTypes.nextOf (.ref (n0 + j)) >>= _) _ _ _
        refine wpAny_bind (RZ.nextOf_tuple_item (e11 j l (Nat.le_refl _) hlj) (let ⟨o, ho, r⟩ := ht; ⟨o, e4 _ _ (.inl hl0) (by omega) ho, r⟩) hk fun h3 i3 s3 => wpAny_pure ?_)
        refine wpAny_pure ⟨j + 1, m, h3, ys.push u, rfl, by omega, rfl, rfl, ?_, ?_, ?_, ?_, ?_, ?_⟩
        · rw [s3.1, e3]
        · exact fun c o hc hc2 q => SameBut.at s3 (by omega) (e4 c o hc hc2 q)
        · exact SameBut.at s3 (by omega) e6
        · rw [Array.toList_push, e9]
          have hju : j < us.length := by omega
          rw [List.getElem?_eq_getElem hju] at hu
          cases hu
          exact List.take_append_getElem hju
        · intro i l' hi q
          by_cases z : i = j
          · subst z
            rw [hlj] at q
            cases q
            exact i3
          · exact iter_keep (e10 i l' (by omega) q) fun o q => SameBut.at s3 (by omega) q
        · intro i l' hi q
          have := (ln i l' q).2
          exact iter_keep (e11 i l' (by omega) q) fun o q => SameBut.at s3 (by omega) q
    · rintro b s' ⟨j, m, h, ys, rfl, e1, e2, rfl, e3, e4, e6, e9, e10, e11⟩
      cases m with
      | succ m => cases e2
      | zero =>
        have hjn : j = n := by omega
        subst hjn
        have hys : ys.toList = us := by rw [e9]; exact List.take_of_length_le (by omega)
        show wpAny _ _ (newTuple ys.toList >>= _) _ _ _
        refine wpAny_bind (wpAny_newTuple ?_ (by rw [hys, hul, hl, sizeLine_eq]; omega))
        rw [hys]
        refine wpAny_pure ⟨_, rfl, ?_⟩
        show Q (.ref h.objs.size) _
        have up : ∀ (c : Nat) o, h.get? c = some o → (h.push { cls := .type "tuple", data := .seq us.toArray }).get? c = some o := fun c o q => Heap.get?_push_of_some _ q
        have hT : (h.push { cls := .type "tuple", data := .seq us.toArray }).get? h.objs.size = some { cls := .type "tuple", data := .seq us.toArray } := Heap.get?_push_size _ rfl
        have hs8 : (h.push { cls := .type "tuple", data := .seq us.toArray }).objs.size = h.objs.size + 1 := Heap.size_push ..
        rw [e3] at hT hs8 ⊢
        exact hQ _ ⟨⟨_, _, hf0, up _ _ e6⟩, up _ _ (e4 _ _ (.inr (Nat.le_refl _)) (by omega) TI), ⟨xs, hxs, up _ _ (e4 _ _ (.inr (by omega)) (by omega) TO)⟩, fun i l q => iter_keep (e10 i l (ln i l q).2 q) fun o q' => up _ _ q', hl⟩ hT hs8
          fun c o hc q => up c o (e4 c o (by omega) (by omega) q)
    · refine ⟨0, n, h1, #[], rfl, by omega, rfl, rfl, s1.1, fun c o hc hc2 q => up1 c o hc2 q, hz1, by simp, fun i l hi => by omega, fun i l _ q => iter_keep (its i l q) fun o q' => up1 _ _ (by have := (ln i l q).2; omega) q'⟩
theorem zip_next_end {n0 n k : Nat} {ls : List Addr} {Q : Fin → Shared → Prop} (hh : A.handled = none) (S : ZOk s.heap n0 n ls k) (hn8 : n ≤ 8) (hlt : ∀ l ∈ ls, l < n0)
    (hend : n = 0 ∨ ∃ l items, ls[0]? = some l ∧ s.heap.IsTuple l items ∧ items[k]? = none)
    (hE : ∀ h' e, (∀ c o, c < n0 ∨ n0 + n + 2 < c → s.heap.get? c = some o → h'.get? c = some o) → (∃ o, h'.get? e = some o ∧ o.cls = .type "StopIteration") → E (.ref e) { s with heap := h' }) :
    wpAny (model prog w) A (Builtin.«zip.__next__» ⟨[.ref (n0 + n + 2)], []⟩) Q E s := by
  obtain ⟨⟨f0, f1, hf0, hz⟩, TI, ⟨xs, hxs, TO⟩, its, hl⟩ := S
  show wpAny _ _ (field (.ref (n0 + n + 2)) 2 >>= _) _ _ _
  refine wpAny_bind (wpAny_field hz rfl (x := .bool false) rfl ?_)
  show wpAny _ _ (field (.ref (n0 + n + 2)) 3 >>= _) _ _ _
  refine wpAny_bind (wpAny_field hz rfl (x := .ref (n0 + n)) rfl ?_)
  refine wpAny_bind (wpAny_seqItems TI rfl ?_)
  cases n with
  | zero =>
    simp only [refs, List.isEmpty_toArray, List.isEmpty_nil, if_true]
    refine wpAny_bind (wpAny_rule ?_)
    first
      | exact stop_raises hh fun h' e k1 he => hE h' e (fun c o _ q => k1 c o q) he
      | exact wpAny_bind (stop_raises hh fun h' e k1 he => hE h' e (fun c o _ q => k1 c o q) he)
  | succ n =>
    obtain ⟨l, items, hl0, hti, hkk⟩ := hend.resolve_left (by omega)
    have ll := hlt l (List.mem_of_getElem? hl0)
    have hne : (refs n0 0 (n + 1)).toArray.isEmpty = false := by simp [refs]
    simp only [hne, Bool.false_eq_true, if_false]
    refine wpAny_bind (owned_free hf0 hz fun b h1 f1' hz1 s1 => ?_)
    have up1 : ∀ (c : Nat) o, c ≠ n0 + (n + 1) + 2 → s.heap.get? c = some o → h1.get? c = some o := fun c o n e => SameBut.at s1 n e
    cases b with
    | true =>
      simp only [if_true]
      refine wpAny_bind (wpAny_rule ?_)
      refine wpAny_bind (wpAny_field hz1 rfl (x := .ref (n0 + (n + 1) + 1)) rfl ?_)
      refine wpAny_bind (wpAny_setField_rec hz1 (by simp) fun h2 hz2 s2 => ?_)
      replace hz2 : IsZ h2 (n0 + (n + 1) + 2) (n0 + (n + 1)) (n0 + (n + 1) + 1) .ellipsis f1' := hz2
      have up2 : ∀ (c : Nat) o, c ≠ n0 + (n + 1) + 2 → s.heap.get? c = some o → h2.get? c = some o := fun c o n e => SameBut.at s2 n (up1 c o n e)
      refine wpAny_bind ?_
      simp only [refs, List.zipIdx_cons, List.forIn_cons]
      refine wpAny_bind (wpAny_bind (wpAny_onRaise ?_))
      show wpAny _ _ (Builtin.SmallTypes.nextOf (.ref (n0 + 0)) >>= _) _ _ _
      refine wpAny_bind (RZ.nextOf_tuple_end hh (iter_keep (its 0 l hl0) fun o q => up2 _ _ (by omega) q) (let ⟨o, ho, r⟩ := hti; ⟨o, up2 _ _ (Nat.ne_of_lt (Nat.lt_of_lt_of_le ll (by omega))) ho, r⟩) hkk fun h3 e s3 he => ?_)
      obtain ⟨oe, hoe, hce⟩ := he
      have hz3 : IsZ h3 (n0 + (n + 1) + 2) (n0 + (n + 1)) (n0 + (n + 1) + 1) .ellipsis f1' := s3 _ _ (by show (n0 + (n + 1) + 2 : Nat) ≠ n0 + 0; omega) hz2
      have hez : e ≠ n0 + (n + 1) + 2 := fun x => by subst x; rw [hz3] at hoe; cases hoe; simp at hce
      exact wpAny_setField_rec hz3 (by simp) fun h4 _ s4 => hE h4 e (fun c o hc x => SameBut.at s4 (by omega) (s3 _ _ (by show (c : Nat) ≠ n0 + 0; omega) (up2 c o (by omega) x))) ⟨oe, SameBut.at s4 hez hoe, hce⟩
    | false =>
      simp only [Bool.false_eq_true, if_false]
      refine wpAny_bind ?_
      rw [← Array.forIn_toList]
      simp only [refs, List.forIn_cons]
      refine wpAny_bind (wpAny_bind (wpAny_holding ?_))
      show wpAny _ _ (Builtin.SmallTypes.nextOf (.ref (n0 + 0)) >>= _) _ _ _
      refine wpAny_bind (RZ.nextOf_tuple_end hh (iter_keep (its 0 l hl0) fun o q => up1 _ _ (by omega) q) (let ⟨o, ho, r⟩ := hti; ⟨o, up1 _ _ (Nat.ne_of_lt (Nat.lt_of_lt_of_le ll (by omega))) ho, r⟩) hkk fun h3 e s3 he => ?_)
      exact hE h3 e (fun c o hc x => s3 _ _ (by show (c : Nat) ≠ n0 + 0; omega) (up1 c o (by omega) x)) he
theorem pyNext_item {n0 n k : Nat} {ls : List Addr} {us : List Value} {Q : Option Value → Shared → Prop} (S : ZOk s.heap n0 n ls k) (hn : 0 < n) (hn8 : n ≤ 8) (hlt : ∀ l ∈ ls, l < n0) (c : Col s.heap ls k us)
    (hsz : n0 + n + 3 ≤ s.heap.objs.size)
    (hQ : ∀ h', ZOk h' n0 n ls (k + 1) → h'.get? s.heap.objs.size = some { cls := .type "tuple", data := .seq us.toArray } → h'.objs.size = s.heap.objs.size + 1 →
      (∀ c o, c < n0 ∨ n0 + n + 2 < c → s.heap.get? c = some o → h'.get? c = some o) → Q (some (.ref s.heap.objs.size)) { s with heap := h' }) : wpAny (model prog w) A (pyNext (.ref (n0 + n + 2))) Q E s := by
  obtain ⟨f0, f1, hf0, hz⟩ := S.z
  have hT : s.TypeIs (.ref (n0 + n + 2)) "zip" := ⟨_, hz, rfl⟩
  unfold pyNext
  exact wpAny_bind (wpAny_attempt (wpAny_callSpecial?_slot (name := Str.ofString "__next__") hT F.slot_zip_next
    (wpAny_call_entry F.slot_zip_next hT F.entry_zip_next
      (zip_next_item S hn hn8 hlt c hsz fun h' a1 a2 a3 a4 => wpAny_pure (hQ h' a1 a2 a3 a4)) (F.args_zip_next_1 _))))
theorem pyNext_end {n0 n k : Nat} {ls : List Addr} {Q : Option Value → Shared → Prop} (hh : A.handled = none) (S : ZOk s.heap n0 n ls k) (hn8 : n ≤ 8) (hlt : ∀ l ∈ ls, l < n0)
    (hend : n = 0 ∨ ∃ l items, ls[0]? = some l ∧ s.heap.IsTuple l items ∧ items[k]? = none)
    (hQ : ∀ h', (∀ c o, c < n0 ∨ n0 + n + 2 < c → s.heap.get? c = some o → h'.get? c = some o) → Q none { s with heap := h' }) : wpAny (model prog w) A (pyNext (.ref (n0 + n + 2))) Q E s := by
  obtain ⟨f0, f1, hf0, hz⟩ := S.z
  have hT : s.TypeIs (.ref (n0 + n + 2)) "zip" := ⟨_, hz, rfl⟩
  unfold pyNext
  refine wpAny_bind (wpAny_attempt (wpAny_callSpecial?_slot (name := Str.ofString "__next__") hT F.slot_zip_next
    (wpAny_call_entry F.slot_zip_next hT F.entry_zip_next (zip_next_end hh S hn8 hlt hend fun h' e hk he => ?_) (F.args_zip_next_1 _))))
  obtain ⟨o, ho, hc⟩ := he
  refine wpAny_bind (wpAny_isInstance (T := "StopIteration") (b := true) ⟨o, ho, hc⟩ isSubtype_stop ?_)
  exact wpAny_pure (hQ _ hk)
theorem call_zip {ls : List Addr} {Q : Value → Shared → Prop} (hl : ls.length ≤ 8) (ht : ∀ l ∈ ls, ∃ items, s.heap.IsTuple l items)
    (h : ∀ h', ZOk h' s.heap.objs.size ls.length ls 0 → h'.objs.size = s.heap.objs.size + ls.length + 3 → (∀ c o, s.heap.get? c = some o → h'.get? c = some o) → Q (.ref (s.heap.objs.size + ls.length + 2)) { s with heap := h' }) :
    wpAny (model prog w) A (call (.type "zip") (ls.map Value.ref)) Q E s := by
  refine callType_new F.called_zip (by decide) (typeCall_zip _ (by simpa using hl)) (newCall_zip _ (by simpa using hl)) (fun obj => args_object_init _ (by simpa using hl) obj) F.entry_zip_new
    (meets_zip_new ls hl) ⟨ht, fun h' Z z k => ?_⟩
  obtain ⟨f0, f1, hf0, hz⟩ := Z.z
  exact ⟨⟨_, hz, rfl⟩, h h' Z z k⟩
end
end ZN
namespace Ev
open PySem PySem.Spec L2
open PyProof.Rows hiding St
/-! zip( *e) -/
def ItzN (K : PySem.W.Frag) (ls : List Addr) : It :=
  ⟨fun i H => ∃ xs : List V, xs.length = ls.length ∧ 0 < ls.length ∧ ∀ (j : Nat) (l : Addr), ls[j]? = some l → ∃ vs x, SqT K H l vs ∧ xs[j]? = some x ∧ vs[i]? = some x,
    fun i H v H' => ∃ (T : Addr) (xs : List V), v = .ref T ∧ H T = none ∧ H' = upd H T (.tup xs) ∧ xs.length = ls.length ∧ ∀ (j : Nat) (l : Addr) (vs : List V), ls[j]? = some l → SqT K H l vs → vs[i]? = xs[j]?,
    fun i H => ls = [] ∨ ∃ l vs, ls[0]? = some l ∧ SqT K H l vs ∧ vs.length ≤ i⟩
theorem col_of {h : Heap} {i : Nat} : ∀ (xs : List V) (ls : List Addr), xs.length = ls.length → (∀ (j : Nat) (l : Addr), ls[j]? = some l → ∃ (x : V) (u : Value) (items : Array Value), xs[j]? = some x ∧ RelV x u ∧ h.IsTuple l items ∧ items[i]? = some u) →
    ∃ us, Vals xs us ∧ ZN.Col h ls i us
  | [], [], _, _ => ⟨[], .nil, rfl, fun j l q => by simp at q⟩
  | [], _ :: _, h, _ => by simp at h
  | _ :: _, [], h, _ => by simp at h
  | x :: xs, l :: ls, hl, hq => by
    obtain ⟨us, r, hu, hc⟩ := col_of xs ls (by simpa using hl) fun j l q => hq (j + 1) l (by simpa using q)
    obtain ⟨x', u, items, hx, rx, ht, hi⟩ := hq 0 l rfl
    cases hx
    refine ⟨u :: us, .cons rx r, by simp [hu], fun j l' q => ?_⟩
    cases j with
    | zero => cases q; exact ⟨items, u, ht, rfl, hi⟩
    | succ j => obtain ⟨items', u', h1, h2, h3⟩ := hc j l' (by simpa using q); exact ⟨items', u', h1, by simpa using h2, h3⟩
def fps (n0 n : Nat) : List Nat := List.range' n0 (n + 3)
theorem fps_mem {n0 n c : Nat} : c ∈ fps n0 n ↔ n0 ≤ c ∧ c < n0 + n + 3 := by
  unfold fps
  rw [List.mem_range']
  constructor
  · rintro ⟨i, h1, h2⟩; subst h2; simp at *; omega
  · rintro ⟨h1, h2⟩; exact ⟨c - n0, by show c - n0 < n + 3; omega, by show c = n0 + 1 * (c - n0); omega⟩
theorem turn_zipN {P : Program} {w : World} {K : PySem.W.Frag} {x : Str} {tp : Pos} {n0 : Nat} {ls : List Nat} (hl : ls.length ≤ 8) (hlt : ∀ l ∈ ls, l < n0) :
    Turn P w K (.Name x tp) (ItzN K ls) (fps n0 ls.length) (n0 + ls.length + 2) (fun i h => ZN.ZOk h n0 ls.length ls i) where
  mem := fps_mem.mpr ⟨by omega, by omega⟩
  obj := fun i h st (c : Nat) hc => by
    obtain ⟨⟨f0, f1, hf, hz⟩, hTI, ⟨xs, hxs, hTO⟩, its, hn⟩ := st
    obtain ⟨h1, h2⟩ := fps_mem.mp hc
    by_cases q1 : c < n0 + ls.length
    · obtain ⟨l, hlj⟩ : ∃ l, ls[c - n0]? = some l := ⟨_, List.getElem?_eq_getElem (by omega)⟩
      obtain ⟨o, ho, _, hd⟩ := its _ l hlj
      rw [show n0 + (c - n0) = c by omega] at ho
      exact ⟨o, ho, fun v q => by rw [hd] at q; cases q⟩
    · have e : c = n0 + ls.length ∨ c = n0 + ls.length + 1 ∨ c = n0 + ls.length + 2 := by omega
      rcases e with q | q | q
      · rw [q]; exact ⟨_, hTI, fun v q => nomatch q⟩
      · rw [q]; exact ⟨_, hTO, fun v q => nomatch q⟩
      · rw [q]; exact ⟨_, hz, fun v q => nomatch q⟩
  keep := fun i h h' st k => by
    obtain ⟨⟨f0, f1, hf, hz⟩, hTI, ⟨xs, hxs, hTO⟩, its, hn⟩ := st
    refine ⟨⟨f0, f1, hf, k _ (fps_mem.mpr ⟨by omega, by omega⟩) _ hz⟩, k _ (fps_mem.mpr ⟨by omega, by omega⟩) _ hTI, ⟨xs, hxs, k _ (fps_mem.mpr ⟨by omega, by omega⟩) _ hTO⟩, fun j l q => ?_, hn⟩
    have hj : j < ls.length := (List.getElem?_eq_some_iff.mp q).1
    exact ZN.iter_keep (its j l q) fun o e => k _ (fps_mem.mpr ⟨by omega, by omega⟩) o e
  item := by
    intro X hP hw hK hc i pins s σ H E I hf st hg
    subst hP hw hK
    obtain ⟨xs, hxl, h0, hq⟩ := hg
    obtain ⟨us, rv, col⟩ := col_of (h := s.heap) (i := i) xs ls hxl fun j l q => by
      obtain ⟨vs, x, hs, hx, hv⟩ := hq j l q
      obtain ⟨its, r, p, _⟩ := I.tuple hs
      obtain ⟨u, hu, ru⟩ := r.get hv
      exact ⟨x, u, its.toArray, hx, ru, p, by simpa using hu⟩
    have hzl : n0 + ls.length + 2 < s.heap.objs.size := by
      obtain ⟨f0, f1, _, hz⟩ := st.z
      exact Heap.lt_size hz
    refine ZN.pyNext_item st h0 hl hlt col (by omega) fun h' Z' hT hsz hk => ?_
    refine ⟨_, rfl, ?_⟩
    show wpAny _ _ (pure () : Sem Unit) _ _ _
    refine wpAny_pure ?_
    have new : ObjOk X.prog X.w (upd H s.heap.objs.size (.tup xs)) h' s.heap.objs.size (.tup xs) :=
      ⟨by rw [hxl, sizeLine_eq]; omega, us, rv, ⟨_, hT, rfl, _, rfl⟩⟩
    have fr : ∀ (c : Nat) o, c ∉ fps n0 ls.length → s.heap.get? c = some o → h'.get? c = some o := fun c o hb q => hk c o (by
      by_cases z : c < n0
      · exact .inl z
      · refine .inr ?_
        have : ¬ (c < n0 + ls.length + 3) := fun z2 => hb (fps_mem.mpr ⟨by omega, z2⟩)
        show n0 + ls.length + 2 < c
        omega) q
    have I1 : Inv X pins σ (upd H s.heap.objs.size (.tup xs)) { s with heap := h' } :=
      I.turnedNew (t' := s.toks) (ch := fps n0 ls.length) fr hf (Nat.le_refl _) new
    refine ⟨.ref s.heap.objs.size, _, I1, rfl, ⟨_, xs, rfl, I.hok.fresh (Nat.le_refl _), rfl, hxl, fun j l vs q hv => ?_⟩, Z', fun (c : Nat) hcm => ?_⟩
    · obtain ⟨vs', x, hs, hx, hv'⟩ := hq j l q
      rw [I.tuple_inj hv hs, hv', hx]
    · obtain ⟨_, h2⟩ := fps_mem.mp hcm
      have hlt' : c < s.heap.objs.size := by omega
      rw [upd_ne (Nat.ne_of_lt hlt')]
      exact (hf c hcm).1
  done := by
    intro X hP hw hK hc i pins s σ H E I hf st hg
    subst hP hw hK
    have hend : ls.length = 0 ∨ ∃ l items, ls[0]? = some l ∧ s.heap.IsTuple l items ∧ items[i]? = none := by
      rcases hg with rfl | ⟨l, vs, hl0, hs, hv⟩
      · exact .inl rfl
      · obtain ⟨its, r, p, _⟩ := I.tuple hs
        have := r.length
        exact .inr ⟨l, its.toArray, hl0, p, by simp; omega⟩
    refine ZN.pyNext_end (I.ok.hd hc) st hl hlt hend fun h' hk => ⟨rfl, I.turnedL (t' := s.toks) (ch := fps n0 ls.length) (fun (c : Nat) o hb q => hk c o (by
      by_cases z : c < n0
      · exact .inl z
      · refine .inr ?_
        have : ¬ (c < n0 + ls.length + 3) := fun z2 => hb (fps_mem.mpr ⟨by omega, z2⟩)
        show n0 + ls.length + 2 < c
        omega) q) hf⟩
  self := fun A i s Q E st h => by
    obtain ⟨f0, f1, _, hz⟩ := st.z
    have hT : s.TypeIs (.ref (n0 + ls.length + 2)) "zip" := ⟨_, hz, rfl⟩
    refine wpAny_pyIter_slot hT F.slot_zip_iter (wpAny_call_entry F.slot_zip_iter hT F.entry_zip_iter ?_ (F.args_zip_iter_1 _))
    show wpAny _ _ (ret (.ref (n0 + ls.length + 2))) _ _ s
    exact wpAny_pure ⟨_, rfl, "zip", _, hT, F.slot_zip_next.lookup, h⟩

theorem callWith_typeS {M : Model} {A : Around} {E : Value → Shared → Prop} {s : Shared} {pos p : Pos} {T : String} {env : Env} {e : Expr} {Q : Value → Shared → Prop}
    (h : wpAny M A (eval e env) (fun v s₁ => PySem.W.StarOf M A E v (fun vs s₂ => wpAny M A (call (.type T) vs) Q E s₂) s₁) E s)
    (he : starEach [.Starred e p] env = [(true, eval e env)]) : wpAny M A (callWith pos (.type T) [] (backTo pos (starEach [.Starred e p] env)) []) Q E s := by
  rw [he]
  unfold callWith
  refine wpAny_bind (wpAny_holding (wpAny_mono (PySem.W.ks_lone (Q := fun a s₂ => wpAny M A (call (.type T) a.pos a.kw) Q E s₂) h) (fun a s₁ h₁ => wpAny_bind (wpAny_standAt ?_)) fun _ _ x => x))
  refine wpAny_bind (wpAny_pure ?_)
  exact wpAny_bind (wpAny_mono (wpAny_operating h₁) (fun r s₂ hr => wpAny_bind (wpAny_holding (wpAny_point (wpAny_pure hr)))) fun _ _ x => x)
theorem refs_vals : ∀ {ls : List Nat} {us : List Value}, Vals (ls.map V.ref) us → us = ls.map Value.ref
  | [], [], _ => rfl
  | l :: ls, u :: us, .cons h t => by
    obtain rfl : u = Value.ref l := h
    rw [refs_vals t]; rfl
theorem pi_zipS {X : Cx} {y : Str} {tp p p2 pos : Pos} {e : Expr} {te : TE} (hg : Gl X "zip") (hm : X.mg "zip" = none) (he : PE X e te) (hs : starEach [.Starred e p2] X.env = [(true, eval e X.env)]) :
    PI X (.Name y tp) (.Call (.Name "zip" p) [.Starred e p2] [] pos) (fun σ H R => te σ H fun v H1 => ∃ (a : Addr) (ls : List Nat), v = .ref a ∧ (SqT X.K H1 a (ls.map V.ref) ∨ SqL X.K H1 a (ls.map V.ref)) ∧ ls.length ≤ 8 ∧ (∀ l ∈ ls, ∃ vs, SqT X.K H1 l vs) ∧ R (ItzN X.K ls) H1) := by
  refine ⟨fun pins s σ H R I h => ?_⟩
  refine Call_ (ld_blt I hg hm PyProof.Rows.boot_zip (callWith_typeS (thn (he.run pins s σ H _ I h) fun u s1 ⟨v, H1, I1, rv, a, ls, ev, hq, h8, ht, q⟩ => ?_) hs))
  subst ev
  obtain rfl : u = Value.ref a := rv
  refine StX.star_any I1 hq fun us s2 I2 r2 => ?_
  rw [refs_vals r2]
  have htu : ∀ l ∈ ls, ∃ items, s2.heap.IsTuple l items := fun l hl => by
    obtain ⟨vs, hv⟩ := ht l hl
    obtain ⟨its, _, p, _⟩ := I2.tuple hv
    exact ⟨_, p⟩
  have hlt : ∀ l ∈ ls, l < s2.heap.objs.size := fun l hl => by
    obtain ⟨items, o, ho, _⟩ := htu l hl
    exact Heap.lt_size ho
  refine ZN.call_zip h8 htu fun h' Z hsz hk => ?_
  have I3 : Inv X pins σ H1 { s2 with heap := h' } := I2.kept (t' := s2.toks) hk
  have T := turn_zipN (P := X.prog) (w := X.w) (K := X.K) (x := y) (tp := tp) h8 hlt
  refine T.self X.A 0 _ _ _ Z ?_
  exact ⟨_, _, _, _, H1, rfl, I3, T, Z, fun (c : Nat) hc => by
    have hle : s2.heap.objs.size ≤ c := (fps_mem.mp hc).1
    exact I2.fpOk hle (I2.hok.fresh hle), q⟩
/-! .. of the evaluator -/
def rowsOf : List D → Option (List (List D))
  | [] => some []
  | .tup r :: ds => (match rowsOf ds with
    | some rs => some (r :: rs)
    | none => none)
  | _ => none
def colAt (i : Nat) : List (List D) → Option (List D)
  | [] => some []
  | r :: rs => match r[i]? with
    | some d => (match colAt i rs with
      | some c => some (d :: c)
      | none => none)
    | none => none
def starIt (rows : List (List D)) : ItD := fun i _ => match rows with
  | [] => some none
  | r :: _ => bif Nat.blt i r.length then (match colAt i rows with
    | some c => some (some (.tup c))
    | none => none) else some none
def starD (d : D) (S : Store) : O ItD := match seqOf S d with
  | some (_, ds) => (match rowsOf ds with
    | some rows => bif Nat.ble rows.length 8 then .ok (starIt rows) S else .bad
    | none => .bad)
  | none => .bad
section
variable {G : Gd} {XR : XRepT} {X : Cx} {W : WX} {e : Expr} {fe : FE} {pos p p2 tp : Pos} {w w0 : Wd} {y : Str}
theorem rows_rep : ∀ {ds : List D} {vs : List V} {rows : List (List D)}, RepVs G w ds vs → rowsOf ds = some rows → ds = rows.map D.tup ∧ ∃ ls : List Nat, vs = ls.map V.ref ∧ ls.length = rows.length
  | [], _, _, .nil, h => by cases h; exact ⟨rfl, [], rfl, rfl⟩
  | d :: ds, v :: vs, rows, .cons r1 r2, h => by
    cases d <;> first | (cases h; done) | skip
    rename_i r
    unfold rowsOf at h
    split at h
    · rename_i rs hrs
      cases h
      obtain ⟨e1, ls, e2, e3⟩ := rows_rep r2 hrs
      obtain ⟨a, ws, ev, _, _⟩ := r1.seqT
      exact ⟨by rw [e1]; rfl, a :: ls, by rw [ev, e2]; rfl, by simp [e3]⟩
    · cases h
theorem col_rep {i : Nat} : ∀ {rows : List (List D)} {ls : List Nat} {c : List D}, RepVs G w (rows.map D.tup) (ls.map V.ref) → colAt i rows = some c →
    ∃ xs, RepVs G w c xs ∧ xs.length = ls.length ∧ ∀ (j : Nat) (l : Addr), ls[j]? = some l → ∃ vs x, SqT G.K w.H l vs ∧ xs[j]? = some x ∧ vs[i]? = some x
  | [], [], c, _, h => by cases h; exact ⟨[], .nil, rfl, fun j l q => by simp at q⟩
  | [], _ :: _, _, r, _ => by cases r
  | _ :: _, [], _, r, _ => by cases r
  | r :: rows, l :: ls, c, .cons r1 r2, h => by
    unfold colAt at h
    split at h
    · rename_i d hd
      split at h
      · rename_i c' hc'
        cases h
        obtain ⟨xs, h1, h2, h3⟩ := col_rep (rows := rows) (ls := ls) r2 hc'
        obtain ⟨a, ws, ev, hs, rw'⟩ := r1.seqT
        cases ev
        obtain ⟨x, hx, rx⟩ := rw'.get hd
        refine ⟨x :: xs, .cons rx h1, by simp [h2], fun j l' q => ?_⟩
        cases j with
        | zero => cases q; exact ⟨ws, x, hs, rfl, hx⟩
        | succ j => obtain ⟨vs, x', g1, g2, g3⟩ := h3 j l' (by simpa using q); exact ⟨vs, x', g1, by simpa using g2, g3⟩
      · cases h
    · cases h
theorem itOk_star {rows : List (List D)} {ls : List Nat} (r : RepVs G w0 (rows.map D.tup) (ls.map V.ref)) : ItOk G w0 (starIt rows) (ItzN G.K ls) := by
  have hl : rows.length = ls.length := by simpa using r.length
  refine ⟨fun w i T O' h => ?_, fun w i z T O' h => ?_⟩
  · have r' := r.kept T
    cases rows with
    | nil =>
      cases ls with
      | nil => exact .inl rfl
      | cons _ _ => simp at hl
    | cons r0 rows =>
      cases ls with
      | nil => simp at hl
      | cons l ls =>
        cases r' with
        | cons r1 r2 =>
          obtain ⟨a, ws, ev, hs, rw'⟩ := r1.seqT
          cases ev
          unfold starIt at h
          dsimp only at h
          by_cases q : Nat.blt i r0.length = true
          · rw [q] at h
            dsimp only [cond] at h
            split at h <;> cases h
          · refine .inr ⟨l, ws, rfl, hs, ?_⟩
            rw [← rw'.length]
            by_cases z : r0.length ≤ i
            · exact z
            · exact absurd (Nat.ble_eq_true_of_le (Nat.lt_of_not_le z)) q
  · have r' := r.kept T
    cases rows with
    | nil => cases h
    | cons r0 rows =>
      have h' : (bif Nat.blt i r0.length then (match colAt i (r0 :: rows) with | some c => some (some (D.tup c)) | none => none) else some none) = some (some z) := h
      by_cases q : Nat.blt i r0.length = true
      · rw [q] at h'
        dsimp only [cond] at h'
        split at h'
        · rename_i c hc
          cases h'
          obtain ⟨xs, h1, h2, h3⟩ := col_rep r' hc
          refine ⟨⟨xs, h2, by rw [← hl]; simp, h3⟩, fun x H' ⟨Ta, xs', ev, nT, eH, hl', f⟩ => ?_⟩
          have exs : xs' = xs := by
            apply List.ext_getElem?
            intro j
            by_cases hj : j < ls.length
            · obtain ⟨l, hlj⟩ : ∃ l, ls[j]? = some l := ⟨_, List.getElem?_eq_getElem hj⟩
              obtain ⟨vs, x', g1, g2, g3⟩ := h3 j l hlj
              rw [← f j l vs hlj g1, g2, g3]
            · rw [List.getElem?_eq_none (by omega), List.getElem?_eq_none (by omega)]
          subst exs ev
          exact ⟨w.put Ta (.tup xs'), Step.laid nT, rfl, eH.symm, O'.laid nT, repT_new O' nT h1⟩
        · cases h'
      · rw [Bool.not_eq_true] at q
        rw [q] at h'
        cases h'
theorem pid_star (hK : X.K = G.K) (hg : Gl X "zip") (hm : X.mg "zip" = none) (he : PEd G XR X W e fe) (hs : starEach [.Starred e p2] X.env = [(true, eval e X.env)]) :
    PId G XR X W (.Name y tp) (.Call (.Name "zip" p) [.Starred e p2] [] pos) (fun E S => (fe E S).bind starD) := by
  obtain ⟨t, ht, he⟩ := he
  refine ⟨_, pi_zipS hg hm ht hs, fun σ w E R O rE q => he σ w E _ O rE (Want.bind q fun d v w1 T1 O1 r1 q1 => ?_)⟩
  rw [hK]
  unfold starD at q1
  split at q1
  · rename_i k ds e1
    split at q1
    · rename_i rows e2
      by_cases h8 : Nat.ble rows.length 8 = true
      · rw [h8] at q1
        obtain ⟨a, vs, rfl, r2, hs2⟩ := seqOf_rep O1 r1 e1
        obtain ⟨e3, ls, e4, e5⟩ := rows_rep r2 e2
        subst e3 e4
        refine ⟨a, ls, rfl, ?_, by rw [e5]; exact Nat.le_of_ble_eq_true h8, fun l hl => ?_, Want.ret O1 (itOk_star r2) q1⟩
        · cases k
          · exact .inr hs2
          · exact .inl hs2
        · obtain ⟨j, hj⟩ := List.mem_iff_getElem?.mp hl
          have hj2 : j < ls.length := (List.getElem?_eq_some_iff.mp hj).1
          obtain ⟨r, hr⟩ : ∃ r, rows[j]? = some r := ⟨_, List.getElem?_eq_getElem (by omega)⟩
          obtain ⟨v, h1, h2⟩ := r2.get (i := j) (d := .tup r) (by rw [List.getElem?_map, hr]; rfl)
          rw [List.getElem?_map, hj] at h1
          cases h1
          obtain ⟨_, ws, ev, h3, _⟩ := h2.seqT
          cases ev
          exact ⟨ws, h3⟩
      · rw [Bool.not_eq_true] at h8
        rw [h8] at q1
        exact q1.elim
    · exact q1.elim
  · exact q1.elim
end
end Ev
namespace Ev
open PySem PySem.Spec L2
open PyProof.Rows hiding St
section
variable {G : Gd} {XR : XRepT} {X : Cx} {W : WX} {e a b c : Expr} {es : List Expr} {fe : FE} {fs : FA} {fb fsu : FS} {pos pos' p p2 : Pos} {x : Str} {i : Nat}
/-! numbers of items -/
def LenA (fs : FA) (n : Nat) : Prop := ∀ E S ds S', fs E S = .ok ds S' → ds.length = n
theorem lenA_nil : LenA (fun _ S => .ok [] S) 0 := fun _ _ _ _ e => by cases e; rfl
theorem lenA_cons {n : Nat} {f : FE} (h : LenA fs n) : LenA (fun E S => (f E S).bind fun d S1 => (fs E S1).bind fun ds S2 => .ok (d :: ds) S2) (n + 1) := fun E S ds S' e => by
  dsimp only at e
  cases h1 : f E S with
  | ok d S1 =>
    rw [h1] at e
    dsimp only [O.bind] at e
    cases h2 : fs E S1 with
    | ok ds2 S2 =>
      rw [h2] at e
      dsimp only [O.bind] at e
      cases e
      simp [h E S1 ds2 S' h2]
    | exc y S2 => rw [h2] at e; cases e
    | bad => rw [h2] at e; cases e
  | exc y S1 => rw [h1] at e; cases e
  | bad => rw [h1] at e; cases e
theorem len_ok {n : Nat} (h : LenA fs n) (hn : Nat.ble n lim = true) : ∀ E S ds S', fs E S = .ok ds S' → ds.length ≤ sizeLine := fun E S ds S' e => by rw [h E S ds S' e]; exact lim_le hn
theorem ped_tupN {n x1 : Nat} (h : PAd G XR X W es fs) (hl : LenA fs n) (hn : Nat.ble n lim = true) : PEd G XR X W (.Tuple es x1 pos) (fun E S => (fs E S).bind fun ds S' => .ok (.tup ds) S') := ped_tup h (len_ok hl hn)
theorem pld_lstN {n : Nat} (h : PAd G XR X W es fs) (hl : LenA fs n) (hn : Nat.ble n lim = true) : PLd G XR X W (.List es pos) fs := pld_lst h (len_ok hl hn)
/-! names of the module -/
def GV (G : Gd) (mg : Str → Option Value) (x : Str) (d : D) : Prop := ∃ v u, mg x = some u ∧ RelV v u ∧ ∀ w, RepV G w d v
theorem ped_glob {d : D} (hg : Gl X x) (h : GV G X.mg x d) (hd : (x == ("__debug__" : Str)) = false) : PEd G XR X W (.Name x pos) (fun _ S => .ok d S) := by
  obtain ⟨v, u, hm, r, hr⟩ := h
  exact ped_const (pe_glob hg hm r hd) hr
/-! canonical readings of statements -/
def tS (G : Gd) (XR : XRepT) (W : WX) (f : FS) : TS := fun D σ H => ∃ (w : Wd) (E : EnvD), w.H = H ∧ SOk G w ∧ RepE G w E σ ∧ WantS G XR W w D (f E w.S)
theorem PSsd.pss {sts : List Stmt} {f : FS} (h : PSsd G XR X W sts f) : PSs X sts (tS G XR W f) := by
  obtain ⟨t, ht, h⟩ := h
  exact ⟨fun pins s σ H D I ⟨w, E, e, O, r, q⟩ => ht.run pins s σ H D I (by subst e; exact h D σ w E O r q)⟩
/-! exceptions of classes without own making -/
def XR0 (xc : Nat → Addr) : XRepT := fun _ x cls d => cls = .ref (xc x.cls) ∧ d = none ∧ x.fs = []
theorem xr0_ok (xc : Nat → Addr) : XROk (XR0 xc) := ⟨fun _ _ _ _ _ _ _ h => h⟩
theorem pmk_own0 {C : Addr} {bmB : List Value} {B newId initId : String} (F : ExcBaseFacts B newId initId bmB) (q : PySem.W.excIn X.K C bmB newId = true) (gC : X.mg x = some (.ref C)) (kC : PySem.W.keepIn X.K (.ref C) = true) (r : Raises X (.ref C)) (hg : Gl X x)
    (hdb : (x == ("__debug__" : Str)) = false) : PMk X (.Call (.Name x p) [] [] pos) (fun _ H Q => Q (.ref C) none H) := by
  intro pins s σ H Q I h
  refine wpAny_Call_Name_kw (ld_glob I hg gC ?_ hdb)
  refine PySem.W.callWith_K0 I.kIn kC ?_
  show wpAny _ _ (call (.ref C) []) _ _ _
  obtain ⟨bm, N, nm, qn, bs, hdct, sn, sub, ab, col, dd, k0, k1, k2, k3, k5, mN, hC, hN, hni, T⟩ := exc_obj I.kIn q
  refine wpAny_call_exc_subT F T hC hN hni (fun h' e hm => ?_) (by show 0 ≤ sizeLine; exact Nat.zero_le _)
  exact mk_of I hm r h (I.hok.gone hm.new)
theorem psd_raise0 {xc : Nat → Addr} {n : Nat} {bmB : List Value} {B newId initId : String} (hc : X.calm = true) (tk : Takes X W) (F : ExcBaseFacts B newId initId bmB) (q : PySem.W.excIn X.K (xc n) bmB newId = true) (gC : X.mg x = some (.ref (xc n))) (kC : PySem.W.keepIn X.K (.ref (xc n)) = true)
    (r : Raises X (.ref (xc n))) (hg : Gl X x) (hdb : (x == ("__debug__" : Str)) = false) : PSd G (XR0 xc) X W (.Raise (some (.Call (.Name x p) [] [] pos')) none pos) (fun E S => .exc ⟨n, []⟩ E S) :=
  ⟨_, ps_raise hc tk (pmk_own0 F q gC kC r hg hdb), fun D σ w E O rE h => h σ w _ _ Step.refl rfl O rE ⟨rfl, rfl, rfl⟩⟩
/-! try .. except x as n -/
/-- what the suite does with the exception in slot i -/
def SuOk (G : Gd) (XR : XRepT) (X : Cx) (i : Nat) (a : Addr) (cls : Value) (suite : List Stmt) (t : TS) (fsu : FS) : Prop :=
  ∀ (D : Ends) (σ : L2.St) (w : Wd) (E : EnvD), SOk G w → RepE G w E σ → σ[i]? = some (some (.ref a)) → WantS G XR (fun _ _ _ _ => False) w D (fsu E w.S) → t D σ w.H
def tryD (fb fsu : FS) (hit : Nat → Option Bool) (i : Nat) : FS := fun E S => match fb E S with
  | .exc x E1 S1 => (match hit x.cls with
    | some true => (bif Nat.blt i E1.length then (match fsu (E1.set i none) S1 with
      | .nx E2 S2 => .nx (E2.set i none) S2
      | .rt d S2 => .rt d S2
      | _ => .bad) else .bad)
    | some false => .exc x E1 S1
    | none => .bad)
  | o => o
theorem RepE.unset {w : Wd} {E : EnvD} {σ : L2.St} (r : RepE G w E σ) (i : Nat) (v : Option V) : RepE G w (E.set i none) (σ.set i v) :=
  ⟨by simp [r.len], fun j d e => by
    by_cases h : i = j
    · subst h
      by_cases hi : i < E.length
      · rw [List.getElem?_set_self hi] at e; cases e
      · rw [List.getElem?_eq_none (by simpa using hi)] at e; cases e
    · rw [List.getElem?_set_ne h] at e
      obtain ⟨u, h1, h2⟩ := r.at j d e
      exact ⟨u, by rw [List.getElem?_set_ne h]; exact h1, h2⟩⟩
theorem psd_tryAs {xc : Nat → Addr} {n x : Str} {body suite : List Stmt} {b₀ : Stmt} {np : Pos} {cc : Value} {hit : Nat → Option Bool} {T : Nat → Addr → TS} (hs : X.stack = X.env :: X.outer) (hf : X.env.frame = some X.env.locals) (hN : X.N.Nodup) (hi : X.N[i]? = some n) (hln : X.env.kindOf n = some .local) (hc : Names X x cc) (tk : Takes X W)
    (hexm : ∀ k b, hit k = some b → PySem.W.exmOne X.K (.ref (xc k)) cc = some b)
    (hb : ∀ (W : WX) (pn : List (Addr × Obj)) (xe : Value → Shared → Prop), Takes (X.tr pn xe) W → PassesOwn (model X.prog X.w) X.A X.env xe → PSsd G (XR0 xc) (X.tr pn xe) W body fb)
    (hsu : ∀ (k : Nat), hit k = some true → ∀ (a : Addr) (oe : Obj) (pn : List (Addr × Obj)), Zc (.ref (xc k)) none oe → (∃ vs, oe.data = .fields vs) → PSs (X.suite a ((a, oe) :: pn)) (b₀ :: suite) (T k a))
    (hok : ∀ (k : Nat), hit k = some true → ∀ a, SuOk G (XR0 xc) X i a (.ref (xc k)) (b₀ :: suite) (T k a) fsu) :
    PSd G (XR0 xc) X W (.Try body [.ExceptHandler (some (.Name x np)) (some n) (b₀ :: suite) pos'] [] [] pos) (tryD fb fsu hit i) := by
  refine ⟨_, ps_try_as (ts := fun a cls d => fun D σ H => ∃ k, hit k = some true ∧ cls = .ref (xc k) ∧ d = none ∧ T k a D σ H) hs hf hN hi hln hc tk (fun W pn xe tk' hp => (hb W pn xe tk' hp).pss) (fun a oe cls d pn hz hv => ?_), fun D σ w E O r h => ?_⟩
  · refine ⟨fun pins s σ H D I ⟨k, hk, e1, e2, h⟩ => ?_⟩
    subst e1 e2
    exact (hsu k hk a oe pn hz hv).run pins s σ H D I h
  · refine ⟨w, E, rfl, O, r, ?_⟩
    revert h
    unfold tryD
    cases hfb : fb E w.S with
    | nx E1 S => exact fun h => h
    | rt d S => exact fun h => h
    | bk E1 S => exact fun h => h
    | ct E1 S => exact fun h => h
    | bad => exact fun h => h
    | exc y E1 S1 =>
      intro h σ' w' cls d T' eS O' r' rx
      obtain ⟨rfl, rfl, hfs⟩ := id rx
      dsimp only at h
      cases hh : hit y.cls with
      | none => rw [hh] at h; exact h.elim
      | some b =>
        rw [hh] at h
        refine ⟨b, hexm _ _ hh, fun hb' a ha => ?_, fun hb' => ?_⟩
        · subst hb'
          refine ⟨y.cls, hh, rfl, rfl, ?_⟩
          have h' : WantS G (XR0 xc) W w D (bif Nat.blt i E1.length then (match fsu (E1.set i none) S1 with
            | .nx E2 S2 => .nx (E2.set i none) S2
            | .rt d S2 => .rt d S2
            | _ => .bad) else .bad) := h
          by_cases hlt : Nat.blt i E1.length = true
          · rw [hlt] at h'
            dsimp only [cond] at h'
            have hl : i < σ'.length := by rw [← r'.len]; exact Nat.le_of_ble_eq_true hlt
            refine hok y.cls hh a _ _ w' (E1.set i none) O' (r'.unset i _) (List.getElem?_set_self hl) ?_
            rw [eS]
            revert h'
            cases fsu (E1.set i none) S1 with
            | nx E2 S2 => exact fun h' σ2 w2 T2 e2 O2 r2 => h' _ w2 (T'.trans T2) e2 O2 (r2.unset i none)
            | rt d S2 => exact fun h' v w2 T2 e2 O2 r2 => h' v w2 (T'.trans T2) e2 O2 r2
            | bk E2 S2 => exact fun h' => h'.elim
            | ct E2 S2 => exact fun h' => h'.elim
            | exc z E2 S2 => exact fun h' => h'.elim
            | bad => exact fun h' => h'
          · rw [Bool.not_eq_true] at hlt
            rw [hlt] at h'
            exact h'.elim
        · subst hb'
          have h' : WantS G (XR0 xc) W w D (.exc y E1 S1) := h
          exact h' σ' w' _ _ T' eS O' r' rx
/-- name = ['..', isinstance(the exception, T)] -/
theorem su_list {xc : Nat → Addr} {k j : Nat} {z n y : Str} {s0 : Str} {T : String} {a : Addr} {oe : Obj} {pn : List (Addr × Obj)} {p1 p3 p4 p5 p6 p7 p8 : Pos} {q1 : Nat} {bb : Bool} (C : ExcC X.K (xc k)) (hz : Zc (.ref (xc k)) none oe) (hv : ∃ vs, oe.data = .fields vs)
    (hkit : PySem.W.kitOne X.K (.ref (xc k)) (.type T) = some bb) (hN : X.N.Nodup) (hi : X.N[i]? = some n) (hvis : Vis X.env.scope n) (hj : X.N[j]? = some z) (hzl : Loc X.env.scope z) (hfz : X.fn z = true ∨ X.env.scope.names.lookup z = some .local)
    (hg : Gl X "isinstance") (hm : X.mg "isinstance" = none) (hgy : Gl X y) (hmy : X.mg y = none) (hby : bootBuiltins y = some (.type T)) (hny : y ≠ "__name__") (hdy : (y == ("__debug__" : Str)) = false) (hdn : (n == ("__debug__" : Str)) = false) (hcn : (n == ("__classdict__" : Str)) = false) (hsw : swapsWith (.List [.Constant (.str s0) q1 p1, .Call (.Name "isinstance" p3) [.Name n p4, .Name y p5] [] p6] p7) (some (.Name z p8)) pos.line X.env = pure false)
    (he1 : starEach [.Constant (.str s0) q1 p1, .Call (.Name "isinstance" p3) [.Name n p4, .Name y p5] [] p6] X.env = (false, eval (.Constant (.str s0) q1 p1) X.env) :: starEach [.Call (.Name "isinstance" p3) [.Name n p4, .Name y p5] [] p6] X.env)
    (he2 : starEach [.Call (.Name "isinstance" p3) [.Name n p4, .Name y p5] [] p6] X.env = (false, eval (.Call (.Name "isinstance" p3) [.Name n p4, .Name y p5] [] p6) X.env) :: starEach [] X.env)
    (he3 : starEach [.Name n p4, .Name y p5] X.env = (false, eval (.Name n p4) X.env) :: starEach [.Name y p5] X.env) (he4 : starEach [.Name y p5] X.env = (false, eval (.Name y p5) X.env) :: starEach [] X.env) (hpl : (backTo p6 (starEach [.Name y p5] X.env)).any (·.1) = false) :
    PSs (X.suite a ((a, oe) :: pn)) [.Assign [.Name z p8] (.List [.Constant (.str s0) q1 p1, .Call (.Name "isinstance" p3) [.Name n p4, .Name y p5] [] p6] p7) pos]
      (fun D σ H => σ[i]? = some (some (.ref a)) ∧ ∀ p, H p = none → D.nx (σ.set j (some (.ref p))) (upd H p (.lst [.str s0, .bl bb]))) := by
  have c1 : PE (X.suite a ((a, oe) :: pn)) (.Call (.Name "isinstance" p3) [.Name n p4, .Name y p5] [] p6) _ := pe_callB (call_isE C hz hv) hg hm boot_isinstance (pa_cons (pe_var hi hvis hdn hcn) (pa_cons (pe_bltn (v := .ty T) hgy hmy hby rfl hny hdy) pa_nil he4) he3) (by decide) (by decide) he3 hpl
  have c2 := pe_lst (pos := p7) (pa_cons (pe_str (X := X.suite a ((a, oe) :: pn)) (x := s0) (j := q1) (pos := p1)) (pa_cons c1 pa_nil he2) he1)
  have c3 := pss_one (ps_set (X := X.suite a ((a, oe) :: pn)) (pos := pos) (pos' := p8) hN hj hzl c2 hsw hfz)
  refine ⟨fun pins s σ H D I ⟨h1, h2⟩ => c3.run pins s σ H D I ?_⟩
  refine ⟨_, h1, .ty T, .type T, bb, rfl, fun u hu => hu, hkit, by show 2 ≤ sizeLine; decide, fun p hp => h2 p hp⟩
def suListD (j : Nat) (s0 : Str) (bb : Bool) : FS := fun E S => .nx (E.set j (some (.lst [.str s0, .bl bb]))) S
theorem suok_list {XR : XRepT} {cls : Value} {sts : List Stmt} {a : Addr} {j : Nat} {s0 : Str} {bb : Bool} : SuOk G XR X i a cls sts (fun D σ H => σ[i]? = some (some (.ref a)) ∧ ∀ p, H p = none → D.nx (σ.set j (some (.ref p))) (upd H p (.lst [.str s0, .bl bb]))) (suListD j s0 bb) :=
  fun D σ w E O r ha h => ⟨ha, fun p hp => h _ (w.put p (.lst [.str s0, .bl bb])) (Step.laid hp) rfl (O.laid hp) ((r.step O (Step.laid hp)).set j (repV_new O hp (.cons (.str _) (.cons (.bl _) .nil))))⟩
/-! a row of names out of a list -/
theorem setsD_len : ∀ {is : List Nat} {ds : List D} {E E1 : EnvD}, setsD is ds E = some E1 → ds.length = is.length
  | [], [], _, _, _ => rfl
  | [], _ :: _, _, _, h => by cases h
  | _ :: _, [], _, _, h => by cases h
  | i :: is, d :: ds, E, E1, h => by
    have h' : setsD is ds (E.set i (some d)) = some E1 := h
    simp [setsD_len h']
theorem psd_unl {is : List Nat} {t' : List Expr} {k : Nat} {tp : Pos} (hK : X.K = G.K) (hc : X.calm = true) (he : PEd G XR X W e fe) (h : PGs X t' (tGs G is)) (hl : is.length = t'.length) (hn : t'.all isName = true) (hs : swapsWithSole [.Tuple t' k tp] e pos.line X.env = pure false) (hw : swappedStores [.Tuple t' k tp] e X.env = pure none) :
    PSd G XR X W (.Assign [.Tuple t' k tp] e pos) (fun E S => (fe E S).st E fun d S1 => match lstOf S1 d with | some ds => (match setsD is ds E with | some E1 => .nx E1 S1 | none => .bad) | none => .bad) := by
  obtain ⟨t, ht, he⟩ := he
  obtain ⟨ha, hb⟩ := assignEach_names X.env hn
  refine ⟨_, ps_asg ht (pg_lst (pos := tp) (k := k) hc h ha hb) hs hw rfl, fun D σ w E O r h => he σ w E _ O r (WantS.st O r h fun d v w' T O' r' h' => ?_)⟩
  split at h'
  · rename_i ds hds
    split at h'
    · rename_i E1 hE
      obtain ⟨p, vs, rfl, hp, rv⟩ := lstOf_rep O' r' hds
      exact ⟨p, vs, rfl, .inl (.inl hp), by rw [← rv.length, setsD_len hE, hl], w', E, E1, ds, rfl, O', r.step O T, rv, hE, fun σ' rs _ => WantS.nx O' rs h'⟩
    · exact h'.elim
  · exact h'.elim
end
end Ev
namespace HT
open PySem PySem.Spec PyProof.Rows
section
variable {prog : Program} {w : World} {A : Around} {E : Value → Shared → Prop} {s : Shared}
theorem adjust_rev (n : Nat) : Builtin.Slice.sliceAdjust none none (-1) (n : Int) = ((n : Int) - 1, -1) := by
  unfold Builtin.Slice.sliceAdjust
  have h1 : ((-1 : Int) < 0) := by omega
  simp only [h1, if_true]
theorem places_rev (n : Nat) : Builtin.Slice.slicePlaces ((n : Int) - 1) (-1) (-1) = n := by
  unfold Builtin.Slice.slicePlaces
  have h1 : ¬ ((-1 : Int) > 0) := by omega
  simp only [h1, if_false]
  split
  · have e : ((n : Int) - 1 - -1 - 1) / (- -1) + 1 = n := by
      rw [show (- -1 : Int) = 1 from rfl, Int.ediv_one]; omega
    rw [e]; simp
  · omega
theorem sliceApplied_rev {sl : Addr} {vl vu vs : Value} {n : Nat} {Q : Int × Int × Nat → Shared → Prop} (hs : s.heap.IsSliceOf sl vl vu vs) (pl : IsPart vl none) (pu : IsPart vu none) (ps : IsPart vs (some (-1)))
    (h : Q ((n : Int) - 1, -1, n) s) : wpAny (model prog w) A (Builtin.Slice.sliceApplied (.ref sl) (pure (n : Int))) Q E s := by
  obtain ⟨os, hos, hcs, hds⟩ := id hs
  unfold Builtin.Slice.sliceApplied Builtin.Slice.sliceFields
  refine wpAny_bind (wpAny_bind (wpAny_field hos hds (x := vl) rfl (wpAny_bind (wpAny_field hos hds (x := vu) rfl (wpAny_bind (wpAny_field hos hds (x := vs) rfl (wpAny_pure ?_)))))))
  refine wpAny_bind (slicePart_ ps ?_)
  show wpAny _ _ (if ((-1 : Int) == 0) = true then _ else _) _ _ s
  rw [if_neg (by decide)]
  refine wpAny_bind (slicePart_ pl (wpAny_bind (slicePart_ pu (wpAny_bind (wpAny_pure ?_)))))
  show wpAny _ _ (match Builtin.Slice.sliceAdjust none none (-1) (n : Int) with | (lo, hi) => pure (lo, (-1 : Int), Builtin.Slice.slicePlaces lo hi (-1))) _ _ s
  rw [adjust_rev n]
  show wpAny _ _ (pure ((n : Int) - 1, (-1 : Int), Builtin.Slice.slicePlaces ((n : Int) - 1) (-1) (-1))) _ _ s
  rw [places_rev]
  exact wpAny_pure h
theorem fm_congr {α β : Type} {f g : α → Option β} : ∀ {l : List α}, (∀ a ∈ l, f a = g a) → l.filterMap f = l.filterMap g
  | [], _ => rfl
  | a :: l, h => by rw [List.filterMap_cons, List.filterMap_cons, h a List.mem_cons_self, fm_congr fun b hb => h b (List.mem_cons_of_mem _ hb)]
theorem pick_rev (xs : Array Value) : ((List.range xs.size).filterMap fun (m : Nat) => xs[((xs.size : Int) - 1 + (m : Int) * -1).toNat]?).toArray = xs.toList.reverse.toArray := by
  congr 1
  have e : ∀ m ∈ List.range xs.size, (fun (m : Nat) => xs[((xs.size : Int) - 1 + (m : Int) * -1).toNat]?) m = (some ∘ fun m => (xs.toList.reverse)[m]!) m := by
    intro m hm
    have hm' := List.mem_range.mp hm
    have hi : ((xs.size : Int) - 1 + (m : Int) * -1).toNat = xs.size - 1 - m := by omega
    simp only [hi, Function.comp]
    rw [← Array.getElem?_toList, List.getElem!_eq_getElem?_getD, List.getElem?_reverse (by simpa using hm')]
    simp only [Array.length_toList]
    rw [List.getElem?_eq_getElem (by simp; omega)]
    rfl
  rw [fm_congr e, List.filterMap_eq_map]
  apply List.ext_getElem?
  intro i
  rw [List.getElem?_map]
  by_cases h : i < xs.size
  · rw [List.getElem?_range h]
    simp only [Option.map_some]
    rw [List.getElem!_eq_getElem?_getD, List.getElem?_eq_getElem (by simpa using h)]
    rfl
  · rw [List.getElem?_eq_none (by simpa using h), List.getElem?_eq_none (by simpa using h)]; rfl
theorem getItem_tuple_rev {t sl : Addr} {items : Array Value} {vl vu vs : Value} {Q : Value → Shared → Prop} (ht : IsTup s.heap t items) (hs : s.heap.IsSliceOf sl vl vu vs) (pl : IsPart vl none) (pu : IsPart vu none) (ps : IsPart vs (some (-1)))
    (h : Q (.ref s.heap.objs.size) { s with heap := s.heap.push { cls := .type "tuple", data := .seq items.toList.reverse.toArray } })
    (hsz : items.size ≤ sizeLine) : wpAny (model prog w) A (getItem (.ref t) (.ref sl)) Q E s := by
  have htake : sizeOk (.seq items.toList.reverse.toArray) := by
    show items.toList.reverse.toArray.size ≤ sizeLine
    rw [List.size_toArray, List.length_reverse, Array.length_toList]
    exact hsz
  obtain ⟨os, hos, hcs, hds⟩ := id hs
  have hTs : s.TypeIs (.ref sl) "slice" := ⟨os, hos, hcs⟩
  unfold getItem
  try with_reducible refine wpAny_holding ?_
  first | refine wpAny_bind (wpAny_pure ?_) | skip
  refine wpAny_bind (wpAny_sequenceKey ht.typeIs (by decide) ?_)
  refine wpAny_bind (wpAny_callSpecial?_slot (name := Str.ofString "__getitem__") ht.typeIs PyProof.Rows.slot_tuple_getitem
    (wpAny_call_entry PyProof.Rows.slot_tuple_getitem ht.typeIs entry_tuple_getitem ?_ (args_tuple_getitem _ _)))
  show wpAny _ _ (Builtin.Tuple.tupleItemsOf (.ref t) >>= _) _ _ s
  refine wpAny_bind (tupleItemsOf_ ht ?_)
  refine wpAny_bind (wpAny_typeOf hTs ?_)
  rw [if_pos (by decide)]
  refine wpAny_bind (sliceApplied_rev hs pl pu ps ?_)
  have hno : ¬ ((((items.size : Int) - 1) == 0 && (-1 : Int) == 1 && items.size == items.size) = true) := by
    intro q
    rw [Bool.and_eq_true, Bool.and_eq_true] at q
    exact absurd q.1.2 (by decide)
  show wpAny _ _ (if (((items.size : Int) - 1) == 0 && (-1 : Int) == 1 && items.size == items.size) = true then _ else _) _ _ s
  rw [if_neg hno, pick_rev]
  first
    | exact wpAny_bind (m := Builtin.Tuple.tupleExact _) (wpAny_newObj_type (wpAny_pure ⟨_, rfl, wpAny_pure h⟩) htake)
    | exact wpAny_bind (m := Builtin.Tuple.tupleExact _) (wpAny_newObj_type (wpAny_bind (wpAny_pure (wpAny_pure ⟨_, rfl, wpAny_pure h⟩))) htake)
    | exact wpAny_bind (wpAny_bind (m := Builtin.Tuple.tupleExact _) (wpAny_newObj_type (wpAny_pure (wpAny_pure ⟨_, rfl, wpAny_pure h⟩)) htake))
    | exact wpAny_bind (wpAny_bind (m := Builtin.Tuple.tupleExact _) (wpAny_newObj_type (wpAny_pure ⟨_, rfl, wpAny_pure h⟩) htake))
end
end HT

namespace Ev
open PySem PySem.Spec L2
open PyProof.Rows hiding St
def tRevT (K : PySem.W.Frag) (te : TE) : TE := fun σ H Q => te σ H fun x H1 => ∃ a xs, x = .ref a ∧ SqT K H1 a xs ∧ ∀ p, H1 p = none → Q (.ref p) (upd H1 p (.tup xs.reverse))
theorem pe_revT {X : Cx} {e : Expr} {te : TE} {k : Nat} {p1 p2 p3 pos : Pos} (he : PE X e te) : PE X (.Subscript e (.Slice none none (some (.UnaryOp .USub (.Constant (.int 1) k p1) p2)) p3) pos) (tRevT X.K te) := by
  refine ⟨fun pins s σ H Q I h => ?_⟩
  refine Subscript_ (thn (he.run pins s σ H _ I h) fun v s1 ⟨x, H1, I1, r1, q1⟩ => ?_)
  obtain ⟨a, xs, ex, hx, q⟩ := q1
  subst ex
  cases r1
  have hst : PO X (some (.UnaryOp .USub (.Constant (.int 1) k p1) p2)) (tPart (tUn (rU fun i => .int (-i)) (tC (.int 1)))) := po_some (pe_un un_neg pe_int)
  refine wpAny_Slice (thn (po_none.run pins s1 σ H1 (fun o H2 => o = none ∧ H2 = H1) I1 ⟨rfl, rfl⟩) fun vl s2 ⟨l, H2, I2, pl, el, e2⟩ => ?_)
  subst el e2
  refine thn (po_none.run pins s2 σ H2 (fun o H3 => o = none ∧ H3 = H2) I2 ⟨rfl, rfl⟩) fun vu s3 ⟨u, H3, I3, pu, eu, e3⟩ => ?_
  subst eu e3
  refine thn (hst.run pins s3 σ H3 (fun o H4 => o = some (-1) ∧ H4 = H3) I3 ⟨1, rfl, -1, rfl, rfl, rfl⟩) fun vs s4 ⟨o, H4, I4, ps, eo, e4⟩ => ?_
  subst eo e4
  have I5 : Inv X pins σ H4 { s4 with heap := s4.heap.push { cls := .type "slice", data := .fields #[vl, vu, vs] } } := I4.kept (t' := s4.toks) fun b ob q => Heap.get?_push_of_some _ q
  obtain ⟨its, r, ht, hz⟩ := I5.tuple hx
  have hlen := r.length
  show wpAny (model X.prog X.w) X.A (subscriptTail e (.Slice none none (some (.UnaryOp .USub (.Constant (.int 1) k p1) p2)) p3) (.ref a) (.ref s4.heap.objs.size)) (EP X pins σ Q) X.xe { s4 with heap := s4.heap.push { cls := .type "slice", data := .fields #[vl, vu, vs] } }
  refine tail_any (ops := [.ref a, .ref s4.heap.objs.size]) ht.typeIs (PyProof.Rows.slot_tuple_getitem.lookup) ?_ (by with_unfolding_all rfl)
  refine HT.getItem_tuple_rev ht (Heap.IsSliceOf.new _ vl vu vs) pl pu ps ?_ (by rw [List.size_toArray]; omega)
  refine ⟨.ref _, _, I5.laid (t' := s4.toks) (o := .tup xs.reverse) (fun b ob q => Heap.get?_push_of_some _ q) (Nat.le_refl _) ?_, rfl, q _ (I5.hok.fresh (Nat.le_refl _))⟩
  exact ⟨by rw [List.length_reverse]; exact hz, _, r.reverse, ⟨_, Heap.get?_push_size _ rfl, rfl, _, by simp; rfl⟩⟩
theorem ped_revT {G : Gd} {XR : XRepT} {X : Cx} {W : WX} {e : Expr} {fe : FE} {k : Nat} {p1 p2 p3 pos : Pos} (hK : X.K = G.K) (h : PEd G XR X W e fe) :
    PEd G XR X W (.Subscript e (.Slice none none (some (.UnaryOp .USub (.Constant (.int 1) k p1) p2)) p3) pos) (fun E S => (fe E S).bind fun d S1 => match d with | .tup ds => .ok (.tup ds.reverse) S1 | _ => .bad) := by
  obtain ⟨t, ht, h⟩ := h
  refine ⟨_, pe_revT ht, fun σ w E Q O rE q => h σ w E _ O rE (Want.bind q fun d v w1 T1 O1 r1 q1 => ?_)⟩
  rw [hK]
  split at q1
  · obtain ⟨a, vs, rfl, hs, rv⟩ := r1.seqT
    exact ⟨a, vs, rfl, hs, fun p np => Want.at (w' := w1.put p (.tup _)) q1 (Step.laid np) rfl (O1.laid np) (repT_new O1 np rv.rev)⟩
  · exact q1.elim
end Ev
namespace Ev
open PySem PySem.Spec L2
open PyProof.Rows hiding St
/-! the head's facts, and more -/
def obsX (fa : List He.Fa) (fn : List He.DefD) (chk : PySem.W.Frag → Bool) (K : PySem.W.Frag) : He.AlD × Bool := (He.obsD fa fn K, chk K)
def obsXG (n : Nat) (fa : List He.Fa) (fn : List He.DefD) (chk : PySem.W.Frag → Bool) (g : Addr → Option Obj) : He.AlD × Bool := obsX fa fn chk (He.frG g (He.asD g n))
def hookX (n : Nat) (fa : List He.Fa) (fn : List He.DefD) (chk : PySem.W.Frag → Bool) : PySem.W.Hook where
  α := He.AlD × Bool
  obs := fun s => obsXG n fa fn chk s.heap.get?
  val := fun _ => (He.valD fn, true)
  says := fun _ h => ∃ K : PySem.W.Frag, K.In h ∧ He.SaysD fa fn K ∧ chk K = true
  of := fun _ _ e => ⟨_, He.frG_in, congrArg (fun z : He.AlD × Bool => z.1) e, congrArg (fun z : He.AlD × Bool => z.2) e⟩
  keeps := fun _ _ _ ⟨K, hK, c⟩ k => ⟨K, PySem.W.Frag.In.keeps hK k, c⟩
theorem obsXG_eq {n : Nat} {fa : List He.Fa} {fn : List He.DefD} {chk : PySem.W.Frag → Bool} {g : Addr → Option Obj} {s : Shared} (h : ∀ a, g a = s.heap.get? a) : obsXG n fa fn chk g = (hookX n fa fn chk).obs s := by
  have e : g = s.heap.get? := funext h
  rw [e] <;> rfl
/-- the module's name x is this value -/
def isVal (K : PySem.W.Frag) (x : Str) (v : Value) : Bool := He.eqO (PySem.W.nsIn K mainGlobals x) (some (some v))
theorem isVal_ok {K : PySem.W.Frag} {h : Heap} {mg : Str → Option Value} (X : K.In h) (G : h.Ns mainGlobals mg) {x : Str} {v : Value} (c : isVal K x v = true) : mg x = some v := PySem.W.mg_of X G (He.eqO_ok c)
def excB (K : PySem.W.Frag) (D : Addr) : Bool := He.eqO (PySem.W.findIn K (.ref D) "__getattribute__") (some (some (.builtin "BaseException.__getattribute__"))) && (He.eqO (PySem.W.findIn K (.ref D) "__getattr__") (some none) && (decide (PySem.W.subIn K (.ref D) (.type "BaseException") = some true) &&
  (PySem.W.hasDictIn K D && (He.eqO (PySem.W.findIn K (.ref D) "__class__") (some (some (.builtin "object.__class__"))) && (He.eqO (PySem.W.specialIn K (.builtin "object.__class__") "__get__") (some (some (.builtin "getset_descriptor.__get__"))) &&
  (decide (PySem.W.takesIn K (.builtin "object.__class__") = some true) && decide (PySem.W.mroIn K D (.type "object") = some true)))))))
theorem excB_ok {K : PySem.W.Frag} {D : Addr} (h : excB K D = true) : ExcC K D := by
  obtain ⟨h1, h⟩ := He.ba h
  obtain ⟨h2, h⟩ := He.ba h
  obtain ⟨h3, h⟩ := He.ba h
  obtain ⟨h4, h⟩ := He.ba h
  obtain ⟨h5, h⟩ := He.ba h
  obtain ⟨h6, h⟩ := He.ba h
  obtain ⟨h7, h8⟩ := He.ba h
  exact ⟨He.eqO_ok h1, He.eqO_ok h2, of_decide_eq_true h3, h4, He.eqO_ok h5, He.eqO_ok h6, of_decide_eq_true h7, of_decide_eq_true h8⟩
theorem gv_tup2 {G : Gd} {h : Heap} {mg : Str → Option Value} (X : G.K.In h) (N : h.Ns mainGlobals mg) {x : Str} {i j : Int} (g : (He.Fa.glo x).ok G.K = true) (t : He.tupB G.K x [.int i, .int j] = true) : GV G mg x (.tup [.int i, .int j]) :=
  ⟨.ref (He.ga G.K x), .ref (He.ga G.K x), He.glo_ok X N g, rfl, fun w => .tup (He.tupB_ok t w.H) (.cons (.int _) (.cons (.int _) .nil))⟩
end Ev
namespace Ev
open PySem PySem.Spec L2
open PyProof.Rows hiding St
/-! in short -/
structure Cc (G : Gd) (X : Cx) (W : WX) (k : Nat) : Prop where
  K : X.K = G.K
  calm : X.calm = true
  nd : X.N.Nodup
  room : Room k X.A
  tk : Takes X W
theorem Cc.blk {G : Gd} {X : Cx} {W : WX} {k : Nat} (c : Cc G X W k) {s : Shared} {H : Hp} {scope : Scope} {ce : Env} {fp : List Addr} : Cc G (X.blk s H scope ce fp) W0 k := ⟨c.K, c.calm, c.nd, c.room, takes0⟩
theorem Cc.tr {G : Gd} {X : Cx} {W W' : WX} {k : Nat} (c : Cc G X W k) {pn : List (Addr × Obj)} {xe : Value → Shared → Prop} (tk : Takes (X.tr pn xe) W') : Cc G (X.tr pn xe) W' k := ⟨c.K, c.calm, c.nd, c.room, tk⟩
structure BN (x : Str) (v : Value) : Prop where
  boot : bootBuiltins x = some v
  ne : x ≠ "__name__"
  db : (x == ("__debug__" : Str)) = false
structure Nm (x : Str) : Prop where
  db : (x == ("__debug__" : Str)) = false
  cd : (x == ("__classdict__" : Str)) = false
def visB (sc : Scope) (x : Str) : Bool := match sc.names.lookup x with
  | some .local => true
  | some .cell => true
  | some .free => true
  | _ => false
theorem vis_ok {sc : Scope} {x : Str} (h : visB sc x = true) : Vis sc x := by
  unfold visB at h
  split at h
  · rename_i e; exact .inl e
  · rename_i e; exact .inr (.inl e)
  · rename_i e; exact .inr (.inr e)
  · cases h
def locB (sc : Scope) (x : Str) : Bool := match sc.names.lookup x with
  | some .local => true
  | some .cell => true
  | _ => false
theorem loc_ok {sc : Scope} {x : Str} (h : locB sc x = true) : L2.Loc sc x := by
  unfold locB at h
  split at h
  · rename_i e; exact .inl e
  · rename_i e; exact .inr e
  · cases h
def fnB (X : Cx) (x : Str) : Bool := X.fn x || (match X.env.scope.names.lookup x with
  | some .local => true
  | _ => false)
theorem fn_ok {X : Cx} {x : Str} (h : fnB X x = true) : X.fn x = true ∨ X.env.scope.names.lookup x = some .local := by
  unfold fnB at h
  cases h1 : X.fn x with
  | true => exact .inl rfl
  | false =>
    rw [h1, Bool.false_or] at h
    split at h
    · rename_i e; exact .inr e
    · cases h
section
variable {G : Gd} {XR : XRepT} {X : Cx} {W : WX} {k n : Nat} {x : Str} {pos p p2 : Pos} {e a b : Expr} {es : List Expr} {f g : FE} {fs : FA} {j : Nat}
theorem d_var (i : Nat) (nm : Nm x) (hN : X.N[i]? = some x) (hv : visB X.env.scope x = true) : PEd G XR X W (.Name x pos) (fun E S => match E[i]? with | some (some d) => .ok d S | _ => .bad) := ped_var (pe_var hN (vis_ok hv) nm.db nm.cd)
theorem d_int {i : Int} : PEd G XR X W (.Constant (.int i) j pos) (fun _ S => .ok (.int i) S) := ped_const pe_int fun _ => .int _
theorem d_str {s : Str} : PEd G XR X W (.Constant (.str s) j pos) (fun _ S => .ok (.str s) S) := ped_const pe_str fun _ => .str _
theorem d_bl {b : Bool} : PEd G XR X W (.Constant (.bool b) j pos) (fun _ S => .ok (.bl b) S) := ped_const pe_bl fun _ => .bl _
theorem d_non : PEd G XR X W (.Constant .none j pos) (fun _ S => .ok .non S) := ped_const pe_non fun _ => .non
theorem d_callT {T : String} {h : List D → Store → O D} (hc : CallD G XR X (.type T) h) (bn : BN x (.type T)) (hm : X.mg x = none) (hg : Gl X x) (ha : PAd G XR X W (e :: es) fs)
    (he : starEach (e :: es) X.env = (false, eval e X.env) :: starEach es X.env) (hpl : (backTo pos (starEach es X.env)).any (·.1) = false) :
    PEd G XR X W (.Call (.Name x p) (e :: es) [] pos) (fun E S => (fs E S).bind fun ds S1 => h ds S1) := ped_callT hc hg hm bn.boot ha bn.ne bn.db he hpl
theorem d_callB {bi : String} {h : List D → Store → O D} (hc : CallD G XR X (.builtin bi) h) (bn : BN x (.builtin bi)) (hm : X.mg x = none) (hg : Gl X x) (ha : PAd G XR X W (e :: es) fs)
    (he : starEach (e :: es) X.env = (false, eval e X.env) :: starEach es X.env) (hpl : (backTo pos (starEach es X.env)).any (·.1) = false) :
    PEd G XR X W (.Call (.Name x p) (e :: es) [] pos) (fun E S => (fs E S).bind fun ds S1 => h ds S1) := ped_callB hc hg hm bn.boot ha bn.ne bn.db he hpl
theorem d_callF {bi : String} {h : List D → Store → O D} (hc : CallD G XR X (.builtin bi) h) (nm : Nm x) (hm : X.mg x = some (.builtin bi)) (hg : Gl X x) (ha : PAd G XR X W (e :: es) fs)
    (he : starEach (e :: es) X.env = (false, eval e X.env) :: starEach es X.env) (hpl : (backTo pos (starEach es X.env)).any (·.1) = false) :
    PEd G XR X W (.Call (.Name x p) (e :: es) [] pos) (fun E S => (fs E S).bind fun ds S1 => h ds S1) := ped_callF hc hg hm ha nm.db he hpl
theorem d_call {params : Arguments} {h : FN} (c : Cc G X W k) (F : Fn X.prog X.w G XR X.mg X.base k x params n h) (nm : Nm x) (hg : Gl X x) (ha : PAd G XR X W (e :: es) fs)
    (he : starEach (e :: es) X.env = (false, eval e X.env) :: starEach es X.env) (hpl : (backTo pos (starEach es X.env)).any (·.1) = false) :
    PEd G XR X W (.Call (.Name x p) (e :: es) [] pos) (fun E S => (fs E S).bind fun ds S1 => bif Nat.beq ds.length n then h ds S1 else .bad) := ped_call F c.K c.room c.tk hg ha nm.db he hpl
theorem d_call0 {params : Arguments} {h : FN} (c : Cc G X W k) (F : Fn X.prog X.w G XR X.mg X.base k x params 0 h) (nm : Nm x) (hg : Gl X x) :
    PEd G XR X W (.Call (.Name x p) [] [] pos) (fun E S => h [] S) := ped_call0 F c.K c.room c.tk hg nm.db
theorem d_callK {kws : List Keyword} (m : Nat) (ks : List Str) (π : List Nat) {params : Arguments} {h : FN} (c : Cc G X W k) (F : Fn X.prog X.w G XR X.mg X.base k x params n h) (nm : Nm x) (hg : Gl X x) (ha : PKd G XR X W kws fs)
    (hb : ∀ (body : List Stmt) (scope : Scope) (kV doc pm : Value) (an : Option Addr) (cdv ct : Value) (ws : List Value), ws.length = m → ∃ xs, bindArgs (PySem.W.fnOf x x params body scope .none kV doc pm an cdv ct) ⟨[], ks.zip ws⟩ = pure ((params.args.map (·.arg)).zip xs) ∧ pick ws π = some xs)
    (hall : (backToKw pos (keywordEach kws X.env)).all (·.1.isSome) = true) (hks : (backToKw pos (keywordEach kws X.env)).filterMap (·.1) = ks)
    (hpl : ((backTo pos (starEach [] X.env)).any (·.1) || (backToKw pos (keywordEach kws X.env)).any (·.1.isNone)) = false) :
    PEd G XR X W (.Call (.Name x p) [] kws pos) (fun E S => (fs E S).bind fun ds S1 => bif Nat.beq ds.length m && Nat.beq π.length n then (match pick ds π with | some es => h es S1 | none => .bad) else .bad) :=
  ped_callK0 (body := []) (scope := default) F c.K c.room c.tk hg ha hb hall hks nm.db hpl
theorem d_comp {elt tg iter : Expr} {ifs : List Expr} {scope : Scope} {fi : FI} {fc : FC} (c : Cc G X W k) (own : List (Str × Nat)) (t : TG') (hi : PId G XR X W tg iter fi) (ok : blkC X.N X.env.scope scope own = true) (hsl : t.slots.all (fun i => (own.map (·.2)).contains i) = true)
    (hg : ∀ (s : Shared) (H : Hp) (C : Addr) (cl : List (Str × Addr)) (fp : List Addr), PG (X.blk s H scope (compEnvC scope cl C X.env) fp) tg (tG G t))
    (ht : ∀ (s : Shared) (H : Hp) (C : Addr) (cl : List (Str × Addr)) (fp : List Addr), PTs (X.blk s H scope (compEnvC scope cl C X.env) fp) ifs (tC' G XR W0 fc))
    (he : ∀ (s : Shared) (H : Hp) (C : Addr) (cl : List (Str × Addr)) (fp : List Addr), PEd G XR (X.blk s H scope (compEnvC scope cl C X.env) fp) W0 elt f) (hs : ∀ x, foldedSetIterable iter X.env x = pure x) :
    PLd G XR X W (.ListComp elt [⟨tg, iter, ifs, 0⟩] scope pos) (fun E S => (fi E S).bind fun nx S1 => compD nx t fc f (wipeD E (own.map (·.2))) lim 0 [] S1) :=
  pld_comp c.calm c.nd hi (blkOk_by ok) (fun i hi => by have := List.all_eq_true.mp hsl i hi; simpa using this) hg ht he hs
theorem g_one (i : Nat) (hN : X.N.Nodup) (hi : X.N[i]? = some x) (hx : locB X.env.scope x = true) (hf : fnB X x = true) : PG X (.Name x pos) (tG G (.one i)) := pgd_one hN hi (loc_ok hx) (fn_ok hf)
theorem gs_cons (i : Nat) {is : List Nat} (hN : X.N.Nodup) (hi : X.N[i]? = some x) (hx : locB X.env.scope x = true) (hf : fnB X x = true) (h : PGs X es (tGs G is)) : PGs X (.Name x pos :: es) (tGs G (i :: is)) := pgsd_cons hN hi (loc_ok hx) (fn_ok hf) h
theorem s_set {p' : Pos} (i : Nat) (c : Cc G X W k) (hi : X.N[i]? = some x) (hx : locB X.env.scope x = true) (hf : fnB X x = true) (he : PEd G XR X W e f) (hs : swapsWith e (some (.Name x p')) pos.line X.env = pure false) :
    PSd G XR X W (.Assign [.Name x p'] e pos) (fun E S => (f E S).st E fun d S1 => .nx (E.set i (some d)) S1) := psd_set c.nd hi (loc_ok hx) (fn_ok hf) he hs
theorem s_setLc {elt tg iter : Expr} {ifs : List Expr} {scope : Scope} {fi : FI} {fc : FC} {lpos p' : Pos} (al : Bool) (i : Nat) (own : List (Str × Nat)) (t : TG') (c : Cc G X W k) (hy : X.N[i]? = some x) (hyl : X.env.scope.names.lookup x = some .local)
    (hsw : swapsWith (.ListComp elt [⟨tg, iter, ifs, 0⟩] scope lpos) (some (.Name x p')) pos.line X.env = pure true)
    (hi : PId G XR X W tg iter fi) (ok : blkC X.N X.env.scope scope own = true) (hsl : t.slots.all (fun i => (own.map (·.2)).contains i) = true)
    (hg : ∀ (s : Shared) (H : Hp) (C : Addr) (cl : List (Str × Addr)) (fp : List Addr), PG (X.blk s H scope (compEnvC scope cl C X.env) fp) tg (tG G t))
    (ht : ∀ (s : Shared) (H : Hp) (C : Addr) (cl : List (Str × Addr)) (fp : List Addr), PTs (X.blk s H scope (compEnvC scope cl C X.env) fp) ifs (tC' G XR W0 fc))
    (he : ∀ (s : Shared) (H : Hp) (C : Addr) (cl : List (Str × Addr)) (fp : List Addr), PEd G XR (X.blk s H scope (compEnvC scope cl C X.env) fp) W0 elt f) (hs : ∀ x, foldedSetIterable iter X.env x = pure x) :
    PSd G XR X W (.Assign [.Name x p'] (.ListComp elt [⟨tg, iter, ifs, 0⟩] scope lpos) pos) (fun E S => ((fi E S).bind fun nx S1 => compD nx t fc f (wipeD E (own.map (·.2))) lim 0 [] S1).st E fun ds S1 => bif al then .nx (E.set i (some (.loc S1.length))) (S1 ++ [some ds]) else .nx (E.set i (some (.lst ds))) S1) :=
  psd_setLc (fl := f) al c.calm c.nd hy hyl hsw hi (blkOk_by ok) (fun i hi => by have := List.all_eq_true.mp hsl i hi; simpa using this) hg ht he hs
/-- xs.append(e) as an expression -/
theorem d_append {o : Expr} {fo : FE} {apos : Pos} (c : Cc G X W k) (ho : PEd G XR X W o fo) (he : PEd G XR X W e f) (hbase : attributeBase o "append" X.env (eval o X.env) = eval o X.env) (hline : (apos.endLine == pos.line) = true)
    (hs : starEach [e] X.env = (false, eval e X.env) :: starEach [] X.env) :
    PEd G XR X W (.Call (.Attribute o "append" apos) [e] [] pos) (fun E S => (fo E S).bind fun od S1 => bif placed S1 od then ((f E S1).bind fun d S2 => methD mAppend od [d] S2) else .bad) :=
  ped_meth1 c.K PySem.F.slot_list_append PySem.F.type_list_append mt_append methOk_append ho he hbase hline hs
end
/-- a def that may not be called any more -/
theorem fn_bad {P : Program} {w : World} {G : Gd} {XR : XRepT} {mg : Str → Option Value} {base : Heap} {x : Str} {params : Arguments} {body : List Stmt} {scope : Scope} {a : Addr} {fd : FuncData} {ps : List Str} {k n : Nat}
    (F : FunD G.K x x params body scope [] [] a fd) (hm : mg x = some (.ref a)) (hp : ps = params.args.map (·.arg)) (hn : ps.length = n)
    (hbi : ∀ (kV doc pm : Value) (an : Option Addr) (cdv ct : Value) (us : List Value), us.length = ps.length → bindArgs (PySem.W.fnOf x x params body scope .none kV doc pm an cdv ct) ⟨us, []⟩ = pure (ps.zip us)) :
    Fn P w G XR mg base k x params n (fun _ _ => .bad) :=
  ⟨a, fd, ps, body, scope, hn, hp, F, hm, F.bindsN hbi, ⟨fun vs H Q E h => by rw [hn]; exact h.1, fun A outer s H args us vs Q E hr e0 hb hv h => by
    obtain ⟨_, w, ds, _, _, _, q⟩ := h
    exact q.elim⟩⟩
/-- no exception leaves -/
theorem fn_to0 {P : Program} {w : World} {K : PySem.W.Frag} {mg : Str → Option Value} {base : Heap} {k : Nat} {f : Addr} {fd : FuncData} {ps : List Str} {sp : Sp} (F : FnOk P w K mg base (L2.CX P w) k f fd ps sp) :
    FnOk P w K mg base L2.CX0 k f fd ps (fun vs H Q _ => sp vs H Q fun _ _ _ => False) :=
  ⟨fun vs H Q E h => F.len vs H Q _ h, fun A outer s H args us vs Q E hr e0 hb hv h => codeAny_mono (F.run A outer s H args us vs Q _ hr e0 hb hv h) fun r s' hq => by
    cases r with
    | ok fl => cases fl <;> exact hq
    | error e =>
      obtain ⟨_, _, _, _, _, _, _, _, _, _, _, _, z⟩ := hq
      exact z.elim⟩
/-- the script as it comes -/
theorem script_rep {G : Gd} {H : Hp} {a : Addr} {ns : List Int} (hS : SqL G.K H a (ns.map V.int)) : ∃ (w : Wd) (d : D), w.H = H ∧ w.S = [] ∧ SOk G w ∧ RepVs G w [d] [.ref a] := by
  have ri : ∀ (w : Wd) (ns : List Int), RepVs G w (ns.map D.int) (ns.map V.int) := fun w ns => by
    induction ns with
    | nil => exact .nil
    | cons n ns ih => exact .cons (.int _) ih
  have O : SOk G ⟨fun _ => 0, [], [], H⟩ := ⟨fun l m ds es h => by simp at h, fun l ds h => by simp at h, fun r hr => by cases hr⟩
  rcases hS with (h | ⟨o, h⟩) | h
  · exact ⟨⟨fun _ => 0, [], [], H⟩, .lst (ns.map D.int), rfl, rfl, O, .cons (.lst h (fun ⟨l, ds, q, _⟩ => by simp at q) (by simp) (ri _ ns)) .nil⟩
  · exact ⟨⟨fun _ => 0, [], [], H⟩, .fz (ns.map D.int), rfl, rfl, O, .cons (.frz h (ri _ ns)) .nil⟩
  · exact ⟨⟨fun _ => 0, [], [], H⟩, .fz (ns.map D.int), rfl, rfl, O, .cons (.lstK h (ri _ ns)) .nil⟩
end Ev
namespace Ev
open PySem PySem.Spec L2
open PyProof.Rows hiding St
section
variable {G : Gd} {XR : XRepT} {X : Cx} {W : WX} {k n : Nat} {x : Str} {pos p p2 : Pos} {e a b c : Expr} {es : List Expr} {f g h : FE} {fs : FA} {fo fx : FE}
/-! a op b op' c -/
theorem chain_core {op op' : CmpOp} {o2 o3 : D → D → Store → O D} (ho : OpD G XR X (compareOp op) o2) (ho' : OpD G XR X (compareOp op') o3) (h1 : PEd G XR X W a f) (h2 : PEd G XR X W b g) (h3 : PEd G XR X W c h) :
    ∃ r r' ta tb tc, OpR X (compareOp op) r ∧ OpR X (compareOp op') r' ∧ PE X a ta ∧ PE X b tb ∧ PE X c tc ∧ ∀ (σ : L2.St) (w : Wd) (E : EnvD) (Q : VK), SOk G w → RepE G w E σ →
      Want G XR (fun c d H => W c d σ H) (RepV G) w Q ((f E w.S).bind fun d S1 => (g E S1).bind fun d2 S2 => (o2 d d2 S2).bind fun z S3 => match z with
        | .bl k => bif k then ((h E S3).bind fun d3 S4 => o3 d2 d3 S4) else .ok (.bl false) S3
        | _ => .bad) → tChain r r' ta tb tc σ w.H Q := by
  obtain ⟨r, hr, ho⟩ := ho
  obtain ⟨r', hr', ho'⟩ := ho'
  obtain ⟨ta, ha, h1⟩ := h1
  obtain ⟨tb, hb, h2⟩ := h2
  obtain ⟨tc, hc, h3⟩ := h3
  refine ⟨r, r', ta, tb, tc, hr, hr', ha, hb, hc, fun σ w E Q O rE q => ?_⟩
  refine h1 σ w E _ O rE (Want.bind q fun d v w1 T1 O1 r1 q1 => ?_)
  refine h2 σ w1 E _ O1 (rE.step O T1) (Want.bind q1 fun d2 u w2 T2 O2 r2 q2 => ?_)
  refine ho w2 v u d d2 _ (fun c d H => W c d σ H) O2 (r1.step O1 T2) r2 (Want.bind q2 fun z zv w3 T3 O3 r3 q3 => ?_)
  split at q3
  · rename_i k
    cases r3
    refine ⟨k, rfl, ?_⟩
    cases k with
    | true =>
      rw [if_pos rfl]
      refine h3 σ w3 E _ O3 (((rE.step O T1).step O1 T2).step O2 T3) (Want.bind q3 fun d3 u3 w4 T4 O4 r4 q4 => ?_)
      exact ho' w4 u u3 d2 d3 _ _ O4 ((r2.step O2 T3).step O3 T4) r4 q4
    | false =>
      rw [if_neg Bool.false_ne_true]
      exact Want.ret O3 (.bl _) q3
  · exact q3.elim
theorem ped_chain2 {op op' : CmpOp} {o2 o3 : D → D → Store → O D} (ho : OpD G XR X (compareOp op) o2) (ho' : OpD G XR X (compareOp op') o3) (h1 : PEd G XR X W a f) (h2 : PEd G XR X W b g) (h3 : PEd G XR X W c h) (hm : lastMarks [op, op'] [b, c] = false) :
    PEd G XR X W (.Compare a [op, op'] [b, c] pos) (fun E S => (f E S).bind fun d S1 => (g E S1).bind fun d2 S2 => (o2 d d2 S2).bind fun z S3 => match z with
        | .bl k => bif k then ((h E S3).bind fun d3 S4 => o3 d2 d3 S4) else .ok (.bl false) S3
        | _ => .bad) := by
  obtain ⟨r, r', ta, tb, tc, hr, hr', ha, hb, hc, core⟩ := chain_core ho ho' h1 h2 h3
  exact ⟨_, pe_chain hr hr' ha hb hc hm, core⟩
theorem pcd_chain2 {op op' : CmpOp} {o2 o3 : D → D → Store → O D} (ho : OpD G XR X (compareOp op) o2) (ho' : OpD G XR X (compareOp op') o3) (h1 : PEd G XR X W a f) (h2 : PEd G XR X W b g) (h3 : PEd G XR X W c h) (hm : lastMarks [op, op'] [b, c] = false) :
    PCd G XR X W (.Compare a [op, op'] [b, c] pos) (fun E S => toB ((f E S).bind fun d S1 => (g E S1).bind fun d2 S2 => (o2 d d2 S2).bind fun z S3 => match z with
        | .bl k => bif k then ((h E S3).bind fun d3 S4 => o3 d2 d3 S4) else .ok (.bl false) S3
        | _ => .bad)) := by
  obtain ⟨r, r', ta, tb, tc, hr, hr', ha, hb, hc, core⟩ := chain_core ho ho' h1 h2 h3
  refine ⟨_, pt_chain hr hr' ha hb hc hm, fun σ w E Q O rE q => core σ w E _ O rE (Want.bind q fun z zv w3 T3 O3 r3 q3 => ?_)⟩
  split at q3
  · cases r3; exact ⟨_, rfl, Want.ret O3 rfl q3⟩
  · exact q3.elim
/-! op= -/
theorem iopd_add : OpD G XR X (inplaceOp .Add) (intsD addI) := opd_ints (opI0C iop_add) fun i j d e => by cases e; exact ⟨trivial, fun w => .int _⟩
theorem iopd_sub : OpD G XR X (inplaceOp .Sub) (intsD subI) := opd_ints (opI0C iop_sub) fun i j d e => by cases e; exact ⟨trivial, fun w => .int _⟩
theorem psd_aug {op : Operator} {o2 : D → D → Store → O D} {pos' : Pos} (i : Nat) (cc : Cc G X W k) (hi : X.N[i]? = some x) (hx : locB X.env.scope x = true) (hf : fnB X x = true) (he : PEd G XR X W e f) (ho : OpD G XR X (inplaceOp op) o2) :
    PSd G XR X W (.AugAssign (.Name x pos') op e pos) (fun E S => match E[i]? with
      | some (some d) => (f E S).st E fun d2 S1 => (o2 d d2 S1).st E fun z S2 => .nx (E.set i (some z)) S2
      | _ => .bad) := by
  obtain ⟨t, ht, he⟩ := he
  obtain ⟨r, hr, ho⟩ := ho
  refine ⟨_, ps_aug (ti := r) cc.nd hi (loc_ok hx) ht (fun pins s σ H x y v u Q I a b h => hr pins s σ H x y v u Q I a b h) (fn_ok hf), fun D σ w E O rE q => ?_⟩
  dsimp only at q
  split at q
  · rename_i d hd
    obtain ⟨v, h1, h2⟩ := rE.at i d hd
    refine ⟨v, h1, he σ w E _ O rE (WantS.st O rE q fun d2 u w1 T1 O1 r1 q1 => ?_)⟩
    exact ho w1 v u d d2 _ (fun c d H => W c d σ H) O1 (h2.step O T1) r1 (WantS.st O1 (rE.step O T1) q1 fun z zv w2 T2 O2 r2 q2 => WantS.nx O2 (((rE.step O T1).step O1 T2).set i r2) q2)
  · exact q.elim
end
end Ev
namespace ZM
open PySem ZN
open PySem.Sem (wp)
/-- a list (true) or a tuple; its iterator -/
def SeqK (h : Heap) (l : Nat × Bool) (items : Array Value) : Prop := bif l.2 then h.IsList l.1 items else h.IsTuple l.1 items
def IterK (h : Heap) (i : Nat) (l : Nat × Bool) (k : Nat) : Prop := bif l.2 then h.IsListIter i l.1 k else h.IsTupleIter i l.1 k
theorem SeqK.keep {h h' : Heap} {l : Nat × Bool} {items : Array Value} (x : SeqK h l items) (k : ∀ o, h.get? l.1 = some o → h'.get? l.1 = some o) : SeqK h' l items := by
  obtain ⟨l, b⟩ := l
  cases b with
  | true => exact let ⟨o, ho, r⟩ := (show h.IsList l items from x); ⟨o, k o ho, r⟩
  | false => exact let ⟨o, ho, r⟩ := (show h.IsTuple l items from x); ⟨o, k o ho, r⟩
theorem iter_keep {h h' : Heap} {a : Nat} {t : Nat × Bool} {i : Nat} (x : IterK h a t i) (k : ∀ o, h.get? a = some o → h'.get? a = some o) : IterK h' a t i := by
  obtain ⟨l, b⟩ := t
  cases b with
  | true => exact let ⟨o, ho, r⟩ := (show h.IsListIter a l i from x); ⟨o, k o ho, r⟩
  | false => exact let ⟨o, ho, r⟩ := (show h.IsTupleIter a l i from x); ⟨o, k o ho, r⟩
theorem SeqK.there {h : Heap} {l : Nat × Bool} {items : Array Value} (x : SeqK h l items) : ∃ o, h.get? l.1 = some o := by
  obtain ⟨l, b⟩ := l
  cases b with
  | true => exact let ⟨o, ho, _⟩ := (show h.IsList l items from x); ⟨o, ho⟩
  | false => exact let ⟨o, ho, _⟩ := (show h.IsTuple l items from x); ⟨o, ho⟩
theorem IterK.there {h : Heap} {a : Nat} {l : Nat × Bool} {i : Nat} (x : IterK h a l i) : ∃ o, h.get? a = some o ∧ ∀ v, o.data ≠ .cell v := by
  obtain ⟨l, b⟩ := l
  cases b with
  | true => exact let ⟨o, ho, _, hd⟩ := (show h.IsListIter a l i from x); ⟨o, ho, fun v q => by rw [hd] at q; cases q⟩
  | false => exact let ⟨o, ho, _, hd⟩ := (show h.IsTupleIter a l i from x); ⟨o, ho, fun v q => by rw [hd] at q; cases q⟩
section
variable {prog : Program} {w : World} {A : Around} {E : Value → Shared → Prop} {s : Shared}
theorem nextK_item {it : Nat} {l : Nat × Bool} {i : Nat} {items : Array Value} {x : Value} {Q : Value → Shared → Prop} (hit : IterK s.heap it l i) (hl : SeqK s.heap l items) (hx : items[i]? = some x)
    (hQ : ∀ h', IterK h' it l (i + 1) → Heap.SameBut it s.heap h' → Q x { s with heap := h' }) : wpAny (model prog w) A (Builtin.SmallTypes.nextOf (.ref it)) Q E s := by
  obtain ⟨l, b⟩ := l
  cases b with
  | true => exact wpAny_nextOf_list_item (show s.heap.IsListIter it l i from hit) (show s.heap.IsList l items from hl) hx fun h' a b => hQ h' a b
  | false => exact RZ.nextOf_tuple_item (show s.heap.IsTupleIter it l i from hit) (show s.heap.IsTuple l items from hl) hx fun h' a b => hQ h' a b
theorem nextK_end {it : Nat} {l : Nat × Bool} {i : Nat} {items : Array Value} {Q : Value → Shared → Prop} (hh : A.handled = none) (hit : IterK s.heap it l i) (hl : SeqK s.heap l items) (hx : items[i]? = none)
    (hE : ∀ h' e, Heap.ExtBut it s.heap h' → (∃ o, h'.get? e = some o ∧ o.cls = .type "StopIteration") → E (.ref e) { s with heap := h' }) : wpAny (model prog w) A (Builtin.SmallTypes.nextOf (.ref it)) Q E s := by
  obtain ⟨l, b⟩ := l
  cases b with
  | true => exact wpAny_nextOf_list_end hh (show s.heap.IsListIter it l i from hit) (show s.heap.IsList l items from hl) hx hE
  | false => exact RZ.nextOf_tuple_end hh (show s.heap.IsTupleIter it l i from hit) (show s.heap.IsTuple l items from hl) hx hE
theorem pyIterK {l : Nat × Bool} {items : Array Value} {Q : Value → Shared → Prop} (hl : SeqK s.heap l items) (hQ : ∀ o : Obj, o.isFreed = false → (∀ h', h'.get? s.heap.objs.size = some o → IterK h' s.heap.objs.size l 0) → Q (.ref s.heap.objs.size) { s with heap := s.heap.push o }) :
    wpAny (model prog w) A (pyIter (.ref l.1)) Q E s := by
  obtain ⟨l, b⟩ := l
  cases b with
  | true => exact wpAny_pyIter_list (show s.heap.IsList l items from hl) (hQ _ rfl fun h' e => ⟨_, e, rfl, rfl⟩)
  | false => exact wpAny_pyIter_tuple (show s.heap.IsTuple l items from hl) (hQ _ rfl fun h' e => ⟨_, e, rfl, rfl⟩)
end
structure ZOk (h : Heap) (n0 n : Nat) (ls : List (Nat × Bool)) (k : Nat) : Prop where
  z : ∃ f0 f1, (f0 = .none ∨ ∃ a : Addr, f0 = rawInt a) ∧ IsZ h (n0 + n + 2) (n0 + n) (n0 + n + 1) f0 f1
  TI : h.get? (n0 + n) = some { cls := .type "tuple", data := .seq (refs n0 0 n).toArray }
  TO : ∃ xs : Array Value, xs.size = n ∧ h.get? (n0 + n + 1) = some { cls := .type "tuple", data := .seq xs }
  its : ∀ (j : Nat) (l : Nat × Bool), ls[j]? = some l → IterK h (n0 + j) l k
  len : ls.length = n
section
variable {prog : Program} {w : World} {A : Around} {E : Value → Shared → Prop} {s : Shared}
theorem iterAll_tuples {ls : List (Nat × Bool)} {n0 : Nat} {Q : List Value → Shared → Prop} (hn : n0 = s.heap.objs.size) (ht : ∀ l ∈ ls, ∃ items, SeqK s.heap l items)
    (hQ : ∀ h', h'.objs.size = n0 + ls.length → (∀ c o, s.heap.get? c = some o → h'.get? c = some o) → (∀ (j : Nat) (l : Nat × Bool), ls[j]? = some l → IterK h' (n0 + j) l 0) → Q (refs n0 0 ls.length) { s with heap := h' }) :
    wpAny (model prog w) A (Builtin.SmallTypes.iterAll (ls.map fun l => Value.ref l.1)) Q E s := by
  unfold Builtin.SmallTypes.iterAll
  refine wpAny_bind (wpAny_forIn_list _ (fun rest (b : Array Value) s' => ∃ done todo h, ls = done ++ todo ∧ rest = (todo.map fun l => Value.ref l.1) ∧ b.toList = refs n0 0 done.length ∧ s' = { s with heap := h } ∧ h.objs.size = n0 + done.length ∧
    (∀ c o, s.heap.get? c = some o → h.get? c = some o) ∧ (∀ (j : Nat) (l : Nat × Bool), done[j]? = some l → IterK h (n0 + j) l 0)) _ ?_ ?_ _ _ ?_)
  · rintro x rest b s' ⟨done, todo, h, e1, e2, e3, rfl, e4, e5, e6⟩
    cases todo with
    | nil => cases e2
    | cons l todo =>
      cases e2
      obtain ⟨items, hi⟩ := ht l (by rw [e1]; simp)
      have hi' : SeqK ({ s with heap := h } : Shared).heap l items := hi.keep fun o ho => e5 _ _ ho
      refine wpAny_bind (wpAny_holding (pyIterK hi' fun o ho hit => ?_))
      refine wpAny_pure ⟨done ++ [l], todo, _, by simp [e1], rfl, ?_, rfl, ?_, fun c o q => Heap.get?_push_of_some _ (e5 c o q), fun j l' q => ?_⟩
      · rw [Array.toList_push, e3]
        show _ = refs n0 0 (done ++ [l]).length
        rw [List.length_append, List.length_singleton, refs_snoc, Nat.zero_add, ← e4]
      · show (Heap.push _ _).objs.size = _
        rw [Heap.size_push, e4]; simp; omega
      · rcases Nat.lt_or_ge j done.length with hj | hj
        · rw [List.getElem?_append_left hj] at q
          exact iter_keep (e6 j l' q) fun o ho => Heap.get?_push_of_some _ ho
        · rw [List.getElem?_append_right hj] at q
          have hj2 : j - done.length = 0 := by
            rcases Nat.eq_zero_or_pos (j - done.length) with z | z
            · exact z
            · rw [List.getElem?_eq_none (by simp; omega)] at q; cases q
          have hj3 : j = done.length := Nat.le_antisymm (Nat.le_of_sub_eq_zero hj2) hj
          rw [hj2] at q
          cases q
          have e : n0 + j = h.objs.size := by rw [hj3]; exact e4.symm
          rw [e]
          exact hit _ (Heap.get?_push_size _ ho)
  · rintro b s' ⟨done, todo, h, e1, e2, e3, rfl, e4, e5, e6⟩
    cases todo with
    | cons _ _ => cases e2
    | nil =>
      rw [List.append_nil] at e1
      subst e1
      refine wpAny_pure ?_
      rw [e3]
      exact hQ h e4 e5 e6
  · exact ⟨[], ls, s.heap, rfl, rfl, rfl, rfl, by simpa using hn.symm, fun _ _ q => q, fun j l q => by simp at q⟩
theorem meets_zip_new (ls : List (Nat × Bool)) (hl : ls.length ≤ 8) :
    Meets (Builtin.«zip.__new__» ⟨.type "zip" :: ls.map fun l => Value.ref l.1, []⟩) (fun _ R s => (∀ l ∈ ls, ∃ items, SeqK s.heap l items) ∧
      ∀ h', ZOk h' s.heap.objs.size ls.length ls 0 → h'.objs.size = s.heap.objs.size + ls.length + 3 → (∀ c o, s.heap.get? c = some o → h'.get? c = some o) → R (.ok (.ret (.ref (s.heap.objs.size + ls.length + 2)))) { s with heap := h' }) :=
  .of_wp fun prog w A R s h => by
    obtain ⟨ht, h⟩ := h
    unfold Builtin.«zip.__new__»
    refine wpAny_bind ?_
    rw [newClass_zip]
    refine wpAny_pure ?_
    show wpAny _ _ (Builtin.SmallTypes.iterAll (ls.map fun l => Value.ref l.1) >>= _) _ _ _
    refine wpAny_bind (iterAll_tuples rfl ht fun h1 z1 k1 i1 => ?_)
    refine wpAny_bind (wpAny_newTuple ?_ (by rw [refs_length]; rw [sizeLine_eq]; omega))
    refine wpAny_bind (wpAny_newTuple ?_ (by rw [List.length_map, refs_length]; rw [sizeLine_eq]; omega))
    unfold Builtin.SmallTypes.newRecord
    refine wpAny_bind (wpAny_newObj_type ?_ (by first | rfl | (unfold sizeOk; simp [Builtin.SmallTypes.ownedTupleFields, sizeLine_eq])))
    refine wpAny_pure ?_
    have z2 : (h1.push { cls := .type "tuple", data := .seq (refs s.heap.objs.size 0 ls.length).toArray }).objs.size = s.heap.objs.size + ls.length + 1 := by rw [Heap.size_push, z1]
    have hq := h ((((h1.push { cls := .type "tuple", data := .seq (refs s.heap.objs.size 0 ls.length).toArray }).push { cls := .type "tuple", data := .seq ((refs s.heap.objs.size 0 ls.length).map fun _ => Value.none).toArray }).push
      { cls := .type "zip", data := .fields #[.none, .bool false, .bool false, .ref (s.heap.objs.size + ls.length), .ref (s.heap.objs.size + ls.length + 1)] })) ?_ ?_ ?_
    · have e1 : (h1.push { cls := .type "tuple", data := .seq (refs s.heap.objs.size 0 ls.length).toArray }).objs.size = s.heap.objs.size + ls.length + 1 := z2
      have e2 : s.heap.objs.size + ls.length + 2 = ((h1.push { cls := .type "tuple", data := .seq (refs s.heap.objs.size 0 ls.length).toArray }).push { cls := .type "tuple", data := .seq ((refs s.heap.objs.size 0 ls.length).map fun _ => Value.none).toArray }).objs.size := by rw [Heap.size_push, e1]
      refine ⟨_, by rw [← e2], ?_⟩
      · have g : h1.objs.size = s.heap.objs.size + ls.length := z1
        refine Eq.mp ?_ hq
        rw [e2]
        show R _ _ = R _ _
        rw [← z2, ← g]
        rfl
    · refine ⟨⟨Value.none, Value.bool false, .inl rfl, ?_⟩, ?_, ⟨((refs s.heap.objs.size 0 ls.length).map fun _ => Value.none).toArray, ?_, ?_⟩, fun j l q => ?_, rfl⟩
      · rw [show s.heap.objs.size + ls.length + 2 = ((h1.push { cls := .type "tuple", data := .seq (refs s.heap.objs.size 0 ls.length).toArray }).push { cls := .type "tuple", data := .seq ((refs s.heap.objs.size 0 ls.length).map fun _ => Value.none).toArray }).objs.size from by rw [Heap.size_push, z2]]
        exact Heap.get?_push_size _ rfl
      · rw [← z1]
        exact Heap.get?_push_of_some _ (Heap.get?_push_of_some _ (Heap.get?_push_size _ rfl))
      · rw [List.size_toArray, List.length_map, refs_length]
      · rw [← z2]
        exact Heap.get?_push_of_some _ (Heap.get?_push_size _ rfl)
      · exact iter_keep (i1 j l q) fun o ho => Heap.get?_push_of_some _ (Heap.get?_push_of_some _ (Heap.get?_push_of_some _ ho))
    · rw [Heap.size_push, Heap.size_push, z2]
    · exact fun c o q => Heap.get?_push_of_some _ (Heap.get?_push_of_some _ (Heap.get?_push_of_some _ (k1 c o q)))
/-! next -/
/-- the k-th items -/
def Col (h : Heap) (ls : List (Nat × Bool)) (k : Nat) (us : List Value) : Prop := us.length = ls.length ∧ ∀ (j : Nat) (l : Nat × Bool), ls[j]? = some l → ∃ items u, SeqK h l items ∧ us[j]? = some u ∧ items[k]? = some u

theorem zip_next_item {n0 n k : Nat} {ls : List (Nat × Bool)} {us : List Value} {Q : Value → Shared → Prop} (S : ZOk s.heap n0 n ls k) (hn : 0 < n) (hn8 : n ≤ 8) (hlt : ∀ l ∈ ls, l.1 < n0) (c : Col s.heap ls k us)
    (hsz : n0 + n + 3 ≤ s.heap.objs.size)
    (hQ : ∀ h', ZOk h' n0 n ls (k + 1) → h'.get? s.heap.objs.size = some { cls := .type "tuple", data := .seq us.toArray } → h'.objs.size = s.heap.objs.size + 1 →
      (∀ c o, c < n0 ∨ n0 + n + 2 < c → s.heap.get? c = some o → h'.get? c = some o) → Q (.ref s.heap.objs.size) { s with heap := h' }) :
    wpAny (model prog w) A (Builtin.«zip.__next__» ⟨[.ref (n0 + n + 2)], []⟩) (fun fin s' => ∃ v, fin = .done (.ret v) ∧ Q v s') E s := by
  obtain ⟨⟨f0, f1, hf0, hz⟩, TI, ⟨xs, hxs, TO⟩, its, hl⟩ := S
  obtain ⟨hul, hcol⟩ := c
  have ln : ∀ (j : Nat) (l : Nat × Bool), ls[j]? = some l → l.1 < n0 ∧ j < n := fun j l q => ⟨hlt l (List.mem_of_getElem? q), by
    rw [← hl]; exact (List.getElem?_eq_some_iff.mp q).1⟩
  show wpAny _ _ (field (.ref (n0 + n + 2)) 2 >>= _) _ _ _
  refine wpAny_bind (wpAny_field hz rfl (x := .bool false) rfl ?_)
  show wpAny _ _ (field (.ref (n0 + n + 2)) 3 >>= _) _ _ _
  refine wpAny_bind (wpAny_field hz rfl (x := .ref (n0 + n)) rfl ?_)
  refine wpAny_bind (wpAny_seqItems TI rfl ?_)
  have hne : (refs n0 0 n).toArray.isEmpty = false := by
    cases n with
    | zero => omega
    | succ n => simp [refs]
  simp only [hne, Bool.false_eq_true, if_false]
  refine wpAny_bind (owned_free hf0 hz fun b h1 f1' hz1 s1 => ?_)
  have up1 : ∀ (c : Nat) o, c ≠ n0 + n + 2 → s.heap.get? c = some o → h1.get? c = some o := fun c o n e => SameBut.at s1 n e
  cases b with
  | true =>
    simp only [if_true]
    refine wpAny_bind (wpAny_rule ?_)
    refine wpAny_bind (wpAny_field hz1 rfl (x := .ref (n0 + n + 1)) rfl ?_)
    refine wpAny_bind (wpAny_setField_rec hz1 (by simp) fun h2 hz2 s2 => ?_)
    replace hz2 : IsZ h2 (n0 + n + 2) (n0 + n) (n0 + n + 1) .ellipsis f1' := hz2
    have up2 : ∀ (c : Nat) o, c ≠ n0 + n + 2 → s.heap.get? c = some o → h2.get? c = some o := fun c o n e => SameBut.at s2 n (up1 c o n e)
    refine wpAny_bind (wpAny_forIn_list _ (fun rest b s' => b = ⟨none, PUnit.unit⟩ ∧ ∃ j m h ys, j + m = n ∧ rest = (refs n0 j m).zipIdx j ∧ s' = { s with heap := h } ∧ h.objs.size = s.heap.objs.size ∧
      (∀ c o, c < n0 ∨ n0 + n + 2 < c → s.heap.get? c = some o → h.get? c = some o) ∧ h.get? (n0 + n) = some { cls := .type "tuple", data := .seq (refs n0 0 n).toArray } ∧ IsZ h (n0 + n + 2) (n0 + n) (n0 + n + 1) .ellipsis f1' ∧
      h.get? (n0 + n + 1) = some { cls := .type "tuple", data := .seq ys } ∧ ys.size = n ∧ (∀ i, i < j → ys[i]? = us[i]?) ∧ (∀ (i : Nat) (l : Nat × Bool), i < j → ls[i]? = some l → IterK h (n0 + i) l (k + 1)) ∧ (∀ (i : Nat) (l : Nat × Bool), j ≤ i → ls[i]? = some l → IterK h (n0 + i) l k)) _ ?_ ?_ _ _ ?_)
    · rintro x rest b s' ⟨rfl, j, m, h, ys, e1, e2, rfl, e3, e4, e5, e6, e7, e8, e9, e10, e11⟩
      cases m with
      | zero => cases e2
      | succ m =>
        cases e2
        have hj : j < n := by omega
        obtain ⟨l, hlj⟩ : ∃ l, ls[j]? = some l := ⟨_, List.getElem?_eq_getElem (by omega)⟩
        obtain ⟨items, u, ht, hu, hk⟩ := hcol j l hlj
        have hl0 := (ln j l hlj).1
        refine wpAny_bind (wpAny_onRaise ?_)
        show wpAny _ _ (Builtin.SmallTypes.nextOf (.ref (n0 + j)) >>= _) _ _ _
        refine wpAny_bind (nextK_item (e11 j l (Nat.le_refl _) hlj) (ht.keep fun o ho => e4 _ _ (.inl hl0) ho) hk fun h3 i3 s3 => wpAny_pure ?_)
        have TO3 := SameBut.at s3 (show n0 + n + 1 ≠ n0 + j by omega) e7
        refine wpAny_bind (wpAny_seqItems TO3 rfl ?_)
        refine wpAny_bind (upd_at (x := u) (k := j) TO3 (by omega) fun h4 TO4 s4 => ?_)
        refine wpAny_bind (wpAny_letGo (wpAny_pure ⟨rfl, j + 1, m, h4, _, by omega, rfl, rfl, ?_, ?_, ?_, ?_, TO4, ?_, ?_, ?_, ?_⟩))
        · rw [s4.1, s3.1, e3]
        · exact fun c o hc q => SameBut.at s4 (by omega) (SameBut.at s3 (by omega) (e4 c o hc q))
        · exact SameBut.at s4 (by omega) (SameBut.at s3 (by omega) e5)
        · exact SameBut.at s4 (by omega) (SameBut.at s3 (by omega) e6)
        · rw [Array.size_setIfInBounds, e8]
        · intro i hi
          rw [Array.getElem?_setIfInBounds]
          by_cases q : j = i
          · subst q
            rw [if_pos rfl, if_pos (by omega)]
            exact hu.symm
          · rw [if_neg q]
            exact e9 i (by omega)
        · intro i l' hi q
          by_cases z : i = j
          · subst z
            rw [hlj] at q
            cases q
            exact iter_keep i3 fun o q => SameBut.at s4 (by omega) q
          · exact iter_keep (e10 i l' (by omega) q) fun o q => SameBut.at s4 (by omega) (SameBut.at s3 (by omega) q)
        · intro i l' hi q
          have := (ln i l' q).2
          exact iter_keep (e11 i l' (by omega) q) fun o q => SameBut.at s4 (by omega) (SameBut.at s3 (by omega) q)
    · rintro b s' ⟨rfl, j, m, h, ys, e1, e2, rfl, e3, e4, e5, e6, e7, e8, e9, e10, e11⟩
      cases m with
      | succ m => cases e2
      | zero =>
        have hjn : j = n := by omega
        subst hjn
        have hys : ys.toList = us := by
          apply List.ext_getElem?
          intro i
          rw [Array.getElem?_toList]
          by_cases q : i < j
          · exact e9 i q
          · rw [Array.getElem?_eq_none (by omega), List.getElem?_eq_none (by omega)]
        refine wpAny_bind (wpAny_seqItems e7 rfl ?_)
        refine wpAny_bind (wpAny_newTuple ?_ (by rw [hys, hul, hl, sizeLine_eq]; omega))
        rw [hys]
        show wpAny _ _ (Builtin.SmallTypes.ownedTupleHandOut (.ref (n0 + j + 2)) (.ref h.objs.size) >>= _) _ _ _
        refine wpAny_bind ?_
        unfold Builtin.SmallTypes.ownedTupleHandOut
        have hz5 : IsZ (h.push { cls := .type "tuple", data := .seq us.toArray }) (n0 + j + 2) (n0 + j) (n0 + j + 1) .ellipsis f1' := Heap.get?_push_of_some _ e6
        refine wpAny_bind (wpAny_setField_rec hz5 (by simp) fun h7 hz7 hs7 => ?_)
        replace hz7 : IsZ h7 (n0 + j + 2) (n0 + j) (n0 + j + 1) (rawInt h.objs.size) f1' := hz7
        refine wpAny_setField_rec hz7 (by simp) fun h8 hz8 hs8 => ?_
        replace hz8 : IsZ h8 (n0 + j + 2) (n0 + j) (n0 + j + 1) (rawInt h.objs.size) (.bool false) := hz8
        have up : ∀ (c : Nat) o, c ≠ n0 + j + 2 → h.get? c = some o → h8.get? c = some o := fun c o c1 e => SameBut.at hs8 c1 (SameBut.at hs7 c1 (Heap.get?_push_of_some _ e))
        refine wpAny_pure ⟨_, rfl, ?_⟩
        show Q (.ref h.objs.size) _
        have hT : h8.get? h.objs.size = some { cls := .type "tuple", data := .seq us.toArray } := SameBut.at hs8 (by omega) (SameBut.at hs7 (by omega) (Heap.get?_push_size _ rfl))
        have hsz8 : h8.objs.size = h.objs.size + 1 := by rw [hs8.1, hs7.1, Heap.size_push]
        rw [e3] at hT hsz8 ⊢
        exact hQ h8 ⟨⟨_, _, .inr ⟨_, rfl⟩, hz8⟩, up _ _ (by omega) e5, ⟨ys, e8, up _ _ (by omega) e7⟩, fun i l q => iter_keep (e10 i l (ln i l q).2 q) fun o q' => up _ _ (by have := (ln i l q).2; omega) q', hl⟩ hT hsz8 fun c o hc q => up c o (by omega) (e4 c o hc q)
    · refine ⟨rfl, 0, n, h2, xs, by omega, by simp, rfl, by rw [s2.1, s1.1], fun c o hc q => up2 c o (by omega) q, up2 _ _ (by omega) TI, hz2, up2 _ _ (by omega) TO, hxs, fun i hi => by omega, fun i l hi => by omega, fun i l _ q => iter_keep (its i l q) fun o q' => up2 _ _ (by have := (ln i l q).2; omega) q'⟩
  | false =>
    simp only [Bool.false_eq_true, if_false]
    refine wpAny_bind ?_
    rw [← Array.forIn_toList]
    refine wpAny_forIn_list _ (fun rest (b : Option Fin × Array Value) s' => ∃ j m h ys, b = ⟨none, ys⟩ ∧ j + m = n ∧ rest = refs n0 j m ∧ s' = { s with heap := h } ∧ h.objs.size = s.heap.objs.size ∧
      (∀ c o, c < n0 ∨ n0 + n ≤ c → c ≠ n0 + n + 2 → s.heap.get? c = some o → h.get? c = some o) ∧ IsZ h (n0 + n + 2) (n0 + n) (n0 + n + 1) f0 f1' ∧
      ys.toList = us.take j ∧ (∀ (i : Nat) (l : Nat × Bool), i < j → ls[i]? = some l → IterK h (n0 + i) l (k + 1)) ∧ (∀ (i : Nat) (l : Nat × Bool), j ≤ i → ls[i]? = some l → IterK h (n0 + i) l k)) _ ?_ ?_ _ _ ?_
    · rintro x rest b s' ⟨j, m, h, ys, rfl, e1, e2, rfl, e3, e4, e6, e9, e10, e11⟩
      cases m with
      | zero => cases e2
      | succ m =>
        cases e2
        have hj : j < n := by omega
        obtain ⟨l, hlj⟩ : ∃ l, ls[j]? = some l := ⟨_, List.getElem?_eq_getElem (by omega)⟩
        obtain ⟨items, u, ht, hu, hk⟩ := hcol j l hlj
        have hl0 := (ln j l hlj).1
        refine wpAny_bind (wpAny_holding ?_)
        show wpAny _ _ (Builtin.SmallTypes.nextOf (.ref (n0 + j)) >>= _) _ _ _
        refine wpAny_bind (nextK_item (e11 j l (Nat.le_refl _) hlj) (ht.keep fun o ho => e4 _ _ (.inl hl0) (by omega) ho) hk fun h3 i3 s3 => wpAny_pure ?_)
        refine wpAny_pure ⟨j + 1, m, h3, ys.push u, rfl, by omega, rfl, rfl, ?_, ?_, ?_, ?_, ?_, ?_⟩
        · rw [s3.1, e3]
        · exact fun c o hc hc2 q => SameBut.at s3 (by omega) (e4 c o hc hc2 q)
        · exact SameBut.at s3 (by omega) e6
        · rw [Array.toList_push, e9]
          have hju : j < us.length := by omega
          rw [List.getElem?_eq_getElem hju] at hu
          cases hu
          exact List.take_append_getElem hju
        · intro i l' hi q
          by_cases z : i = j
          · subst z
            rw [hlj] at q
            cases q
            exact i3
          · exact iter_keep (e10 i l' (by omega) q) fun o q => SameBut.at s3 (by omega) q
        · intro i l' hi q
          have := (ln i l' q).2
          exact iter_keep (e11 i l' (by omega) q) fun o q => SameBut.at s3 (by omega) q
    · rintro b s' ⟨j, m, h, ys, rfl, e1, e2, rfl, e3, e4, e6, e9, e10, e11⟩
      cases m with
      | succ m => cases e2
      | zero =>
        have hjn : j = n := by omega
        subst hjn
        have hys : ys.toList = us := by rw [e9]; exact List.take_of_length_le (by omega)
        show wpAny _ _ (newTuple ys.toList >>= _) _ _ _
        refine wpAny_bind (wpAny_newTuple ?_ (by rw [hys, hul, hl, sizeLine_eq]; omega))
        rw [hys]
        refine wpAny_pure ⟨_, rfl, ?_⟩
        show Q (.ref h.objs.size) _
        have up : ∀ (c : Nat) o, h.get? c = some o → (h.push { cls := .type "tuple", data := .seq us.toArray }).get? c = some o := fun c o q => Heap.get?_push_of_some _ q
        have hT : (h.push { cls := .type "tuple", data := .seq us.toArray }).get? h.objs.size = some { cls := .type "tuple", data := .seq us.toArray } := Heap.get?_push_size _ rfl
        have hs8 : (h.push { cls := .type "tuple", data := .seq us.toArray }).objs.size = h.objs.size + 1 := Heap.size_push ..
        rw [e3] at hT hs8 ⊢
        exact hQ _ ⟨⟨_, _, hf0, up _ _ e6⟩, up _ _ (e4 _ _ (.inr (Nat.le_refl _)) (by omega) TI), ⟨xs, hxs, up _ _ (e4 _ _ (.inr (by omega)) (by omega) TO)⟩, fun i l q => iter_keep (e10 i l (ln i l q).2 q) fun o q' => up _ _ q', hl⟩ hT hs8
          fun c o hc q => up c o (e4 c o (by omega) (by omega) q)
    · refine ⟨0, n, h1, #[], rfl, by omega, rfl, rfl, s1.1, fun c o hc hc2 q => up1 c o hc2 q, hz1, by simp, fun i l hi => by omega, fun i l _ q => iter_keep (its i l q) fun o q' => up1 _ _ (by have := (ln i l q).2; omega) q'⟩
theorem zip_next_end {n0 n k : Nat} {ls : List (Nat × Bool)} {Q : Fin → Shared → Prop} (hh : A.handled = none) (S : ZOk s.heap n0 n ls k) (hn8 : n ≤ 8) (hlt : ∀ l ∈ ls, l.1 < n0)
    (hend : n = 0 ∨ ∃ l items, ls[0]? = some l ∧ SeqK s.heap l items ∧ items[k]? = none)
    (hE : ∀ h' e, (∀ c o, c < n0 ∨ n0 + n + 2 < c → s.heap.get? c = some o → h'.get? c = some o) → (∃ o, h'.get? e = some o ∧ o.cls = .type "StopIteration") → E (.ref e) { s with heap := h' }) :
    wpAny (model prog w) A (Builtin.«zip.__next__» ⟨[.ref (n0 + n + 2)], []⟩) Q E s := by
  obtain ⟨⟨f0, f1, hf0, hz⟩, TI, ⟨xs, hxs, TO⟩, its, hl⟩ := S
  show wpAny _ _ (field (.ref (n0 + n + 2)) 2 >>= _) _ _ _
  refine wpAny_bind (wpAny_field hz rfl (x := .bool false) rfl ?_)
  show wpAny _ _ (field (.ref (n0 + n + 2)) 3 >>= _) _ _ _
  refine wpAny_bind (wpAny_field hz rfl (x := .ref (n0 + n)) rfl ?_)
  refine wpAny_bind (wpAny_seqItems TI rfl ?_)
  cases n with
  | zero =>
    simp only [refs, List.isEmpty_toArray, List.isEmpty_nil, if_true]
    refine wpAny_bind (wpAny_rule ?_)
    first
      | exact stop_raises hh fun h' e k1 he => hE h' e (fun c o _ q => k1 c o q) he
      | exact wpAny_bind (stop_raises hh fun h' e k1 he => hE h' e (fun c o _ q => k1 c o q) he)
  | succ n =>
    obtain ⟨l, items, hl0, hti, hkk⟩ := hend.resolve_left (by omega)
    have ll := hlt l (List.mem_of_getElem? hl0)
    have hne : (refs n0 0 (n + 1)).toArray.isEmpty = false := by simp [refs]
    simp only [hne, Bool.false_eq_true, if_false]
    refine wpAny_bind (owned_free hf0 hz fun b h1 f1' hz1 s1 => ?_)
    have up1 : ∀ (c : Nat) o, c ≠ n0 + (n + 1) + 2 → s.heap.get? c = some o → h1.get? c = some o := fun c o n e => SameBut.at s1 n e
    cases b with
    | true =>
      simp only [if_true]
      refine wpAny_bind (wpAny_rule ?_)
      refine wpAny_bind (wpAny_field hz1 rfl (x := .ref (n0 + (n + 1) + 1)) rfl ?_)
      refine wpAny_bind (wpAny_setField_rec hz1 (by simp) fun h2 hz2 s2 => ?_)
      replace hz2 : IsZ h2 (n0 + (n + 1) + 2) (n0 + (n + 1)) (n0 + (n + 1) + 1) .ellipsis f1' := hz2
      have up2 : ∀ (c : Nat) o, c ≠ n0 + (n + 1) + 2 → s.heap.get? c = some o → h2.get? c = some o := fun c o n e => SameBut.at s2 n (up1 c o n e)
      refine wpAny_bind ?_
      simp only [refs, List.zipIdx_cons, List.forIn_cons]
      refine wpAny_bind (wpAny_bind (wpAny_onRaise ?_))
      show wpAny _ _ (Builtin.SmallTypes.nextOf (.ref (n0 + 0)) >>= _) _ _ _
      refine wpAny_bind (nextK_end hh (iter_keep (its 0 l hl0) fun o q => up2 _ _ (by omega) q) (hti.keep fun o ho => up2 _ _ (by omega) ho) hkk fun h3 e s3 he => ?_)
      obtain ⟨oe, hoe, hce⟩ := he
      have hz3 : IsZ h3 (n0 + (n + 1) + 2) (n0 + (n + 1)) (n0 + (n + 1) + 1) .ellipsis f1' := s3 _ _ (by show (n0 + (n + 1) + 2 : Nat) ≠ n0 + 0; omega) hz2
      have hez : e ≠ n0 + (n + 1) + 2 := fun x => by subst x; rw [hz3] at hoe; cases hoe; simp at hce
      exact wpAny_setField_rec hz3 (by simp) fun h4 _ s4 => hE h4 e (fun c o hc x => SameBut.at s4 (by omega) (s3 _ _ (by show (c : Nat) ≠ n0 + 0; omega) (up2 c o (by omega) x))) ⟨oe, SameBut.at s4 hez hoe, hce⟩
    | false =>
      simp only [Bool.false_eq_true, if_false]
      refine wpAny_bind ?_
      rw [← Array.forIn_toList]
      simp only [refs, List.forIn_cons]
      refine wpAny_bind (wpAny_bind (wpAny_holding ?_))
      show wpAny _ _ (Builtin.SmallTypes.nextOf (.ref (n0 + 0)) >>= _) _ _ _
      refine wpAny_bind (nextK_end hh (iter_keep (its 0 l hl0) fun o q => up1 _ _ (by omega) q) (hti.keep fun o ho => up1 _ _ (by omega) ho) hkk fun h3 e s3 he => ?_)
      exact hE h3 e (fun c o hc x => s3 _ _ (by show (c : Nat) ≠ n0 + 0; omega) (up1 c o (by omega) x)) he
theorem pyNext_item {n0 n k : Nat} {ls : List (Nat × Bool)} {us : List Value} {Q : Option Value → Shared → Prop} (S : ZOk s.heap n0 n ls k) (hn : 0 < n) (hn8 : n ≤ 8) (hlt : ∀ l ∈ ls, l.1 < n0) (c : Col s.heap ls k us)
    (hsz : n0 + n + 3 ≤ s.heap.objs.size)
    (hQ : ∀ h', ZOk h' n0 n ls (k + 1) → h'.get? s.heap.objs.size = some { cls := .type "tuple", data := .seq us.toArray } → h'.objs.size = s.heap.objs.size + 1 →
      (∀ c o, c < n0 ∨ n0 + n + 2 < c → s.heap.get? c = some o → h'.get? c = some o) → Q (some (.ref s.heap.objs.size)) { s with heap := h' }) : wpAny (model prog w) A (pyNext (.ref (n0 + n + 2))) Q E s := by
  obtain ⟨f0, f1, hf0, hz⟩ := S.z
  have hT : s.TypeIs (.ref (n0 + n + 2)) "zip" := ⟨_, hz, rfl⟩
  unfold pyNext
  exact wpAny_bind (wpAny_attempt (wpAny_callSpecial?_slot (name := Str.ofString "__next__") hT F.slot_zip_next
    (wpAny_call_entry F.slot_zip_next hT F.entry_zip_next
      (zip_next_item S hn hn8 hlt c hsz fun h' a1 a2 a3 a4 => wpAny_pure (hQ h' a1 a2 a3 a4)) (F.args_zip_next_1 _))))
theorem pyNext_end {n0 n k : Nat} {ls : List (Nat × Bool)} {Q : Option Value → Shared → Prop} (hh : A.handled = none) (S : ZOk s.heap n0 n ls k) (hn8 : n ≤ 8) (hlt : ∀ l ∈ ls, l.1 < n0)
    (hend : n = 0 ∨ ∃ l items, ls[0]? = some l ∧ SeqK s.heap l items ∧ items[k]? = none)
    (hQ : ∀ h', (∀ c o, c < n0 ∨ n0 + n + 2 < c → s.heap.get? c = some o → h'.get? c = some o) → Q none { s with heap := h' }) : wpAny (model prog w) A (pyNext (.ref (n0 + n + 2))) Q E s := by
  obtain ⟨f0, f1, hf0, hz⟩ := S.z
  have hT : s.TypeIs (.ref (n0 + n + 2)) "zip" := ⟨_, hz, rfl⟩
  unfold pyNext
  refine wpAny_bind (wpAny_attempt (wpAny_callSpecial?_slot (name := Str.ofString "__next__") hT F.slot_zip_next
    (wpAny_call_entry F.slot_zip_next hT F.entry_zip_next (zip_next_end hh S hn8 hlt hend fun h' e hk he => ?_) (F.args_zip_next_1 _))))
  obtain ⟨o, ho, hc⟩ := he
  refine wpAny_bind (wpAny_isInstance (T := "StopIteration") (b := true) ⟨o, ho, hc⟩ isSubtype_stop ?_)
  exact wpAny_pure (hQ _ hk)
theorem call_zip {ls : List (Nat × Bool)} {Q : Value → Shared → Prop} (hl : ls.length ≤ 8) (ht : ∀ l ∈ ls, ∃ items, SeqK s.heap l items)
    (h : ∀ h', ZOk h' s.heap.objs.size ls.length ls 0 → h'.objs.size = s.heap.objs.size + ls.length + 3 → (∀ c o, s.heap.get? c = some o → h'.get? c = some o) → Q (.ref (s.heap.objs.size + ls.length + 2)) { s with heap := h' }) :
    wpAny (model prog w) A (call (.type "zip") (ls.map fun l => Value.ref l.1)) Q E s := by
  refine callType_new F.called_zip (by decide) (typeCall_zip _ (by simpa using hl)) (newCall_zip _ (by simpa using hl)) (fun obj => args_object_init _ (by simpa using hl) obj) F.entry_zip_new
    (meets_zip_new ls hl) ⟨ht, fun h' Z z k => ?_⟩
  obtain ⟨f0, f1, hf0, hz⟩ := Z.z
  exact ⟨⟨_, hz, rfl⟩, h h' Z z k⟩
end
end ZM
namespace Ev
open PySem PySem.Spec L2
open PyProof.Rows hiding St
/-! zip of any lists and tuples -/
def SqK (K : PySem.W.Frag) (H : Hp) (l : Nat × Bool) (vs : List V) : Prop := bif l.2 then SqL K H l.1 vs else SqT K H l.1 vs
theorem SqK.at {X : Cx} {pins : List (Addr × Obj)} {σ : L2.St} {H : Hp} {s : Shared} {l : Nat × Bool} {vs : List V} (I : Inv X pins σ H s) (h : SqK X.K H l vs) : ∃ its : List Value, Vals vs its ∧ ZM.SeqK s.heap l its.toArray := by
  obtain ⟨l, b⟩ := l
  cases b with
  | true =>
    obtain ⟨its, r, p, _⟩ := I.list (show SqL X.K H l vs from h)
    exact ⟨its, r, p.isList⟩
  | false =>
    obtain ⟨its, r, p, _⟩ := I.tuple (show SqT X.K H l vs from h)
    exact ⟨its, r, p⟩
theorem SqK.inj {X : Cx} {pins : List (Addr × Obj)} {σ : L2.St} {H : Hp} {s : Shared} {l : Nat × Bool} {vs us : List V} (I : Inv X pins σ H s) (h : SqK X.K H l vs) (h' : SqK X.K H l us) : vs = us := by
  obtain ⟨l, b⟩ := l
  cases b with
  | true => exact I.list_inj (show SqL X.K H l vs from h) (show SqL X.K H l us from h')
  | false => exact I.tuple_inj (show SqT X.K H l vs from h) (show SqT X.K H l us from h')
def ItzM (K : PySem.W.Frag) (ls : List (Nat × Bool)) : It :=
  ⟨fun i H => ∃ xs : List V, xs.length = ls.length ∧ 0 < ls.length ∧ ∀ (j : Nat) (l : Nat × Bool), ls[j]? = some l → ∃ vs x, SqK K H l vs ∧ xs[j]? = some x ∧ vs[i]? = some x,
    fun i H v H' => ∃ (T : Addr) (xs : List V), v = .ref T ∧ H T = none ∧ H' = upd H T (.tup xs) ∧ xs.length = ls.length ∧ ∀ (j : Nat) (l : Nat × Bool) (vs : List V), ls[j]? = some l → SqK K H l vs → vs[i]? = xs[j]?,
    fun i H => ls = [] ∨ ∃ l vs, ls[0]? = some l ∧ SqK K H l vs ∧ vs.length ≤ i⟩
theorem col_ofM {h : Heap} {i : Nat} : ∀ (xs : List V) (ls : List (Nat × Bool)), xs.length = ls.length → (∀ (j : Nat) (l : Nat × Bool), ls[j]? = some l → ∃ (x : V) (u : Value) (items : Array Value), xs[j]? = some x ∧ RelV x u ∧ ZM.SeqK h l items ∧ items[i]? = some u) →
    ∃ us, Vals xs us ∧ ZM.Col h ls i us
  | [], [], _, _ => ⟨[], .nil, rfl, fun j l q => by simp at q⟩
  | [], _ :: _, h, _ => by simp at h
  | _ :: _, [], h, _ => by simp at h
  | x :: xs, l :: ls, hl, hq => by
    obtain ⟨us, r, hu, hc⟩ := col_ofM xs ls (by simpa using hl) fun j l q => hq (j + 1) l (by simpa using q)
    obtain ⟨x', u, items, hx, rx, ht, hi⟩ := hq 0 l rfl
    cases hx
    refine ⟨u :: us, .cons rx r, by simp [hu], fun j l' q => ?_⟩
    cases j with
    | zero => cases q; exact ⟨items, u, ht, rfl, hi⟩
    | succ j => obtain ⟨items', u', h1, h2, h3⟩ := hc j l' (by simpa using q); exact ⟨items', u', h1, by simpa using h2, h3⟩
theorem goM {A : Around} {E : Value → Shared → Prop} {s : Shared} {tg : Expr} {u : Value} {n0 n k : Nat} {ls : List (Nat × Bool)} {prog : Program} {w : World} {Q : Unit → Shared → Prop} (S : ZM.ZOk s.heap n0 n ls k)
    (hQ : ∀ h', ZM.ZOk h' n0 n ls k → Heap.SameBut (n0 + n + 2) s.heap h' → Q () { s with heap := h' }) : wpAny (model prog w) A (letOwnedTupleGo tg (.ref (n0 + n + 2)) u) Q E s := by
  have q0 : Q () s := hQ s.heap S (Heap.SameBut.refl _ _)
  obtain ⟨⟨f0, f1, hf, hz⟩, hTI, ⟨xs, hxs, hTO⟩, its, hn⟩ := id S
  have fin : ∀ a : Addr, wpAny (model prog w) A (do
      let o ← load (n0 + n + 2)
      match o.cls, o.data with
      | .type nn, .fields vs =>
        if (["enumerate", "zip", "dict_itemiterator", "dict_reverseitemiterator", "odict_iterator", "itertools.zip_longest", "itertools.pairwise"].contains nn && vs[0]? == some (rawInt a)) = true then do
          rule "for.unpacks-the-owned-tuple"
          updateField (n0 + n + 2) 0 .none
        else pure ()
      | _, _ => pure ()) Q E s := fun a => by
    refine wpAny_bind (wpAny_load hz ?_)
    dsimp only
    by_cases c : (["enumerate", "zip", "dict_itemiterator", "dict_reverseitemiterator", "odict_iterator", "itertools.zip_longest", "itertools.pairwise"].contains "zip" && (#[f0, f1, .bool false, .ref (n0 + n), .ref (n0 + n + 1)] : Array Value)[0]? == some (rawInt a)) = true
    · rw [if_pos c]
      refine wpAny_bind (wpAny_rule ?_)
      show wpAny _ _ (setField (.ref (n0 + n + 2)) 0 .none) Q E s
      refine wpAny_setField_rec hz (by simp) fun h' hz' hs' => hQ h' ⟨⟨.none, f1, .inl rfl, hz'⟩, ZN.SameBut.at hs' (by omega) hTI, ⟨xs, hxs, ZN.SameBut.at hs' (by omega) hTO⟩, fun j l q => ZM.iter_keep (its j l q) fun o e => ZN.SameBut.at hs' (by have := (List.getElem?_eq_some_iff.mp q).1; omega) e, hn⟩ hs'
    · rw [if_neg c]
      exact wpAny_pure q0
  unfold letOwnedTupleGo
  cases tg <;> first
    | exact wpAny_pure q0
    | (cases u <;> first
        | exact wpAny_pure q0
        | exact fin _)
theorem turn_zipM {P : Program} {w : World} {K : PySem.W.Frag} {tg : Expr} {n0 : Nat} {ls : List (Nat × Bool)} (hl : ls.length ≤ 8) (hlt : ∀ l ∈ ls, l.1 < n0) :
    Turn P w K tg (ItzM K ls) (fps n0 ls.length) (n0 + ls.length + 2) (fun i h => ZM.ZOk h n0 ls.length ls i) where
  mem := fps_mem.mpr ⟨by omega, by omega⟩
  obj := fun i h st (c : Nat) hc => by
    obtain ⟨⟨f0, f1, hf, hz⟩, hTI, ⟨xs, hxs, hTO⟩, its, hn⟩ := st
    obtain ⟨h1, h2⟩ := fps_mem.mp hc
    by_cases q1 : c < n0 + ls.length
    · obtain ⟨l, hlj⟩ : ∃ l, ls[c - n0]? = some l := ⟨_, List.getElem?_eq_getElem (by omega)⟩
      obtain ⟨o, ho, hd⟩ := (its _ l hlj).there
      rw [show n0 + (c - n0) = c by omega] at ho
      exact ⟨o, ho, hd⟩
    · have e : c = n0 + ls.length ∨ c = n0 + ls.length + 1 ∨ c = n0 + ls.length + 2 := by omega
      rcases e with q | q | q
      · rw [q]; exact ⟨_, hTI, fun v q => nomatch q⟩
      · rw [q]; exact ⟨_, hTO, fun v q => nomatch q⟩
      · rw [q]; exact ⟨_, hz, fun v q => nomatch q⟩
  keep := fun i h h' st k => by
    obtain ⟨⟨f0, f1, hf, hz⟩, hTI, ⟨xs, hxs, hTO⟩, its, hn⟩ := st
    refine ⟨⟨f0, f1, hf, k _ (fps_mem.mpr ⟨by omega, by omega⟩) _ hz⟩, k _ (fps_mem.mpr ⟨by omega, by omega⟩) _ hTI, ⟨xs, hxs, k _ (fps_mem.mpr ⟨by omega, by omega⟩) _ hTO⟩, fun j l q => ?_, hn⟩
    have hj : j < ls.length := (List.getElem?_eq_some_iff.mp q).1
    exact ZM.iter_keep (its j l q) fun o e => k _ (fps_mem.mpr ⟨by omega, by omega⟩) o e
  item := by
    intro X hP hw hK hc i pins s σ H E I hf st hg
    subst hP hw hK
    obtain ⟨xs, hxl, h0, hq⟩ := hg
    obtain ⟨us, rv, col⟩ := col_ofM (h := s.heap) (i := i) xs ls hxl fun j l q => by
      obtain ⟨vs, x, hs, hx, hv⟩ := hq j l q
      obtain ⟨its, r, p⟩ := hs.at I
      obtain ⟨u, hu, ru⟩ := r.get hv
      exact ⟨x, u, its.toArray, hx, ru, p, by simpa using hu⟩
    have hzl : n0 + ls.length + 2 < s.heap.objs.size := by
      obtain ⟨f0, f1, _, hz⟩ := st.z
      exact Heap.lt_size hz
    refine ZM.pyNext_item st h0 hl hlt col (by omega) fun h1 Z1 hT hsz hk => ?_
    refine ⟨_, rfl, goM (s := { s with heap := h1 }) Z1 fun h' Z' sb => ?_⟩
    have hT' : h'.get? s.heap.objs.size = some { cls := .type "tuple", data := .seq us.toArray } := ZN.SameBut.at sb (by omega) hT
    have new : ObjOk X.prog X.w (upd H s.heap.objs.size (.tup xs)) h' s.heap.objs.size (.tup xs) :=
      ⟨by rw [hxl, sizeLine_eq]; omega, us, rv, ⟨_, hT', rfl, _, rfl⟩⟩
    have out : ∀ (c : Nat), c ∉ fps n0 ls.length → c < n0 ∨ n0 + ls.length + 2 < c := fun c hb => by
      by_cases z : c < n0
      · exact .inl z
      · refine .inr ?_
        have : ¬ (c < n0 + ls.length + 3) := fun z2 => hb (fps_mem.mpr ⟨by omega, z2⟩)
        omega
    have fr : ∀ (c : Nat) o, c ∉ fps n0 ls.length → s.heap.get? c = some o → h'.get? c = some o := fun c o hb q => ZN.SameBut.at sb (by have := out c hb; omega) (hk c o (out c hb) q)
    have I1 : Inv X pins σ (upd H s.heap.objs.size (.tup xs)) { s with heap := h' } :=
      I.turnedNew (t' := s.toks) (ch := fps n0 ls.length) fr hf (Nat.le_refl _) new
    refine ⟨.ref s.heap.objs.size, _, I1, rfl, ⟨_, xs, rfl, I.hok.fresh (Nat.le_refl _), rfl, hxl, fun j l vs q hv => ?_⟩, Z', fun (c : Nat) hcm => ?_⟩
    · obtain ⟨vs', x, hs, hx, hv'⟩ := hq j l q
      rw [hv.inj I hs, hv', hx]
    · obtain ⟨_, h2⟩ := fps_mem.mp hcm
      have hlt' : c < s.heap.objs.size := by omega
      rw [upd_ne (Nat.ne_of_lt hlt')]
      exact (hf c hcm).1
  done := by
    intro X hP hw hK hc i pins s σ H E I hf st hg
    subst hP hw hK
    have hend : ls.length = 0 ∨ ∃ l items, ls[0]? = some l ∧ ZM.SeqK s.heap l items ∧ items[i]? = none := by
      rcases hg with rfl | ⟨l, vs, hl0, hs, hv⟩
      · exact .inl rfl
      · obtain ⟨its, r, p⟩ := hs.at I
        have := r.length
        exact .inr ⟨l, its.toArray, hl0, p, by simp; omega⟩
    refine ZM.pyNext_end (I.ok.hd hc) st hl hlt hend fun h' hk => ⟨rfl, I.turnedL (t' := s.toks) (ch := fps n0 ls.length) (fun (c : Nat) o hb q => hk c o (by
      by_cases z : c < n0
      · exact .inl z
      · refine .inr ?_
        have : ¬ (c < n0 + ls.length + 3) := fun z2 => hb (fps_mem.mpr ⟨by omega, z2⟩)
        show n0 + ls.length + 2 < c
        omega) q) hf⟩
  self := fun A i s Q E st h => by
    obtain ⟨f0, f1, _, hz⟩ := st.z
    have hT : s.TypeIs (.ref (n0 + ls.length + 2)) "zip" := ⟨_, hz, rfl⟩
    refine wpAny_pyIter_slot hT F.slot_zip_iter (wpAny_call_entry F.slot_zip_iter hT F.entry_zip_iter ?_ (F.args_zip_iter_1 _))
    show wpAny _ _ (ret (.ref (n0 + ls.length + 2))) _ _ s
    exact wpAny_pure ⟨_, rfl, "zip", _, hT, F.slot_zip_next.lookup, h⟩
theorem refs_valsM : ∀ {ls : List (Nat × Bool)} {us : List Value}, Vals (ls.map fun l => V.ref l.1) us → us = ls.map fun l => Value.ref l.1
  | [], [], _ => rfl
  | l :: ls, u :: us, .cons h t => by
    obtain rfl : u = Value.ref l.1 := h
    rw [refs_valsM t]; rfl
theorem pi_zipM {X : Cx} {tg e : Expr} {es : List Expr} {p pos : Pos} {ta : TA} (hg : Gl X "zip") (hm : X.mg "zip" = none) (ha : PA X (e :: es) ta) (hs : starEach (e :: es) X.env = (false, eval e X.env) :: starEach es X.env) (hpl : (backTo pos (starEach es X.env)).any (·.1) = false) :
    PI X tg (.Call (.Name "zip" p) (e :: es) [] pos) (fun σ H R => ta σ H fun vs H1 => ∃ ls : List (Nat × Bool), vs = (ls.map fun l => V.ref l.1) ∧ ls.length ≤ 8 ∧ (∀ l ∈ ls, ∃ vs, SqK X.K H1 l vs) ∧ R (ItzM X.K ls) H1) := by
  refine ⟨fun pins s σ H R I h => ?_⟩
  refine Call_ (ld_blt I hg hm PyProof.Rows.boot_zip (PyProof.Rows.callWith_type1 (thn (ha.run pos pins s σ H _ I h) fun us s2 ⟨vs, H1, I2, r2, ls, ev, h8, ht, q⟩ => ?_) hs hpl))
  subst ev
  rw [refs_valsM r2]
  have htu : ∀ l ∈ ls, ∃ items, ZM.SeqK s2.heap l items := fun l hl => by
    obtain ⟨vs, hv⟩ := ht l hl
    obtain ⟨its, _, p⟩ := hv.at I2
    exact ⟨_, p⟩
  have hlt : ∀ l ∈ ls, l.1 < s2.heap.objs.size := fun l hl => by
    obtain ⟨items, hi⟩ := htu l hl
    obtain ⟨o, ho⟩ := hi.there
    exact Heap.lt_size ho
  refine ZM.call_zip h8 htu fun h' Z hsz hk => ?_
  have I3 : Inv X pins σ H1 { s2 with heap := h' } := I2.kept (t' := s2.toks) hk
  have T := turn_zipM (P := X.prog) (w := X.w) (K := X.K) (tg := tg) h8 hlt
  refine T.self X.A 0 _ _ _ Z ?_
  exact ⟨_, _, _, _, H1, rfl, I3, T, Z, fun (c : Nat) hc => by
    have hle : s2.heap.objs.size ≤ c := (fps_mem.mp hc).1
    exact I2.fpOk hle (I2.hok.fresh hle), q⟩
/-! .. of the evaluator -/
def restCol (i : Nat) (S : Store) : List D → Option (List D)
  | [] => some []
  | d :: ds => match seqOf S d with
    | some (_, xs) => (match xs[i]? with
      | some x => (match restCol i S ds with
        | some c => some (x :: c)
        | none => none)
      | none => none)
    | none => none
def zipMIt (ds : List D) : ItD := fun i S => match ds with
  | [] => none
  | d :: rest => match seqOf S d with
    | some (_, xs) => (match xs[i]? with
      | none => some none
      | some x => (match restCol i S rest with
        | some c => some (some (.tup (x :: c)))
        | none => none))
    | none => none
def kindsB (S : Store) : List D → Bool
  | [] => true
  | d :: ds => (match seqOf S d with
    | some _ => kindsB S ds
    | none => false)
def zipMD (ds : List D) (S : Store) : O ItD := bif kindsB S ds && Nat.ble ds.length 8 then .ok (zipMIt ds) S else .bad
section
variable {G : Gd} {XR : XRepT} {X : Cx} {W : WX} {tg e : Expr} {es : List Expr} {fs : FA} {pos p : Pos} {w0 : Wd}
/-- where an iterable stands, of which kind it is -/
def KOk (G : Gd) (w0 : Wd) (d : D) (l : Nat × Bool) : Prop := ∀ w, Kept w0 w → SOk G w → ∀ k xs, seqOf w.S d = some (k, xs) → ∃ ws, RepVs G w xs ws ∧ SqK G.K w.H l ws
inductive KOks (G : Gd) (w0 : Wd) : List D → List (Nat × Bool) → Prop
  | nil : KOks G w0 [] []
  | cons {d : D} {l : Nat × Bool} {ds : List D} {ls : List (Nat × Bool)} : KOk G w0 d l → KOks G w0 ds ls → KOks G w0 (d :: ds) (l :: ls)
theorem kok_of {d : D} {v : V} {k : SK} {xs : List D} (O : SOk G w0) (r : RepV G w0 d v) (e : seqOf w0.S d = some (k, xs)) : ∃ l : Nat × Bool, v = .ref l.1 ∧ KOk G w0 d l ∧ ∃ ws, SqK G.K w0.H l ws := by
  obtain ⟨a, vs0, rfl, r0, h0⟩ := seqOf_rep O r e
  cases k with
  | l =>
    refine ⟨(a, true), rfl, fun w T O' k' ys e' => ?_, vs0, h0⟩
    have hk := seqOf_kept e e'
    subst hk
    obtain ⟨a', ws, ea, rw', hs⟩ := seqOf_rep O' (r.kept T) e'
    cases ea
    exact ⟨ws, rw', hs⟩
  | t =>
    refine ⟨(a, false), rfl, fun w T O' k' ys e' => ?_, vs0, h0⟩
    have hk := seqOf_kept e e'
    subst hk
    obtain ⟨a', ws, ea, rw', hs⟩ := seqOf_rep O' (r.kept T) e'
    cases ea
    exact ⟨ws, rw', hs⟩
theorem koks_of : ∀ {ds : List D} {vs : List V}, SOk G w0 → RepVs G w0 ds vs → kindsB w0.S ds = true → ∃ ls : List (Nat × Bool), vs = (ls.map fun l => V.ref l.1) ∧ ls.length = ds.length ∧ KOks G w0 ds ls ∧ ∀ l ∈ ls, ∃ ws, SqK G.K w0.H l ws
  | [], _, _, .nil, _ => ⟨[], rfl, rfl, .nil, fun l h => by cases h⟩
  | d :: ds, v :: vs, O, .cons r1 r2, h => by
    unfold kindsB at h
    split at h
    · rename_i z hz
      obtain ⟨k, xs⟩ := z
      obtain ⟨l, rfl, h1, h2⟩ := kok_of O r1 hz
      obtain ⟨ls, rfl, h3, h4, h5⟩ := koks_of O r2 h
      refine ⟨l :: ls, rfl, by simp [h3], .cons h1 h4, fun l' hl => ?_⟩
      rcases List.mem_cons.mp hl with rfl | hl
      · exact h2
      · exact h5 l' hl
    · cases h
theorem rest_rep {w : Wd} {i : Nat} (T : Kept w0 w) (O : SOk G w) : ∀ {ds : List D} {ls : List (Nat × Bool)} {c : List D}, KOks G w0 ds ls → restCol i w.S ds = some c →
    ∃ xs, RepVs G w c xs ∧ xs.length = ls.length ∧ ∀ (j : Nat) (l : Nat × Bool), ls[j]? = some l → ∃ vs x, SqK G.K w.H l vs ∧ xs[j]? = some x ∧ vs[i]? = some x
  | [], _, c, .nil, h => by cases h; exact ⟨[], .nil, rfl, fun j l q => by simp at q⟩
  | d :: ds, _ :: _, c, .cons k1 k2, h => by
    unfold restCol at h
    split at h
    · rename_i kk ys hy
      split at h
      · rename_i x hx
        split at h
        · rename_i c' hc'
          cases h
          obtain ⟨xs, h1, h2, h3⟩ := rest_rep T O k2 hc'
          obtain ⟨ws, rw', hs⟩ := k1 w T O _ _ hy
          obtain ⟨xv, hxv, rx⟩ := rw'.get hx
          refine ⟨xv :: xs, .cons rx h1, by simp [h2], fun j l' q => ?_⟩
          cases j with
          | zero => cases q; exact ⟨ws, xv, hs, rfl, hxv⟩
          | succ j => obtain ⟨vs, x', g1, g2, g3⟩ := h3 j l' (by simpa using q); exact ⟨vs, x', g1, by simpa using g2, g3⟩
        · cases h
      · cases h
    · cases h
theorem itOk_zipM {ds : List D} {ls : List (Nat × Bool)} (hk : KOks G w0 ds ls) : ItOk G w0 (zipMIt ds) (ItzM G.K ls) := by
  refine ⟨fun w i T O' h => ?_, fun w i z T O' h => ?_⟩
  · cases hk with
    | nil => cases h
    | cons k1 k2 =>
      unfold zipMIt at h
      dsimp only at h
      split at h
      · rename_i kk ys hy
        split at h
        · rename_i hx
          obtain ⟨ws, rw', hs⟩ := k1 w T O' _ _ hy
          exact .inr ⟨_, ws, rfl, hs, by rw [← rw'.length]; exact List.getElem?_eq_none_iff.mp hx⟩
        · split at h <;> cases h
      · cases h
  · cases hk with
    | nil => cases h
    | cons k1 k2 =>
      rename_i d l ds ls
      have hc : ∃ c, z = .tup c ∧ restCol i w.S (d :: ds) = some c := by
        unfold zipMIt at h
        dsimp only at h
        split at h
        · rename_i kk ys hy
          split at h
          · cases h
          · rename_i x hx
            split at h
            · rename_i c hc
              cases h
              refine ⟨_, rfl, ?_⟩
              unfold restCol
              simp only [hy, hx, hc]
            · cases h
        · cases h
      obtain ⟨c, rfl, hc⟩ := hc
      obtain ⟨xs, h1, h2, h3⟩ := rest_rep T O' (.cons k1 k2) hc
      refine ⟨⟨xs, h2, by simp, h3⟩, fun x H' ⟨Ta, xs', ev, nT, eH, hl', f⟩ => ?_⟩
      have exs : xs' = xs := by
        apply List.ext_getElem?
        intro j
        by_cases hj : j < (l :: ls).length
        · obtain ⟨l', hlj⟩ : ∃ l', (l :: ls)[j]? = some l' := ⟨_, List.getElem?_eq_getElem hj⟩
          obtain ⟨vs, x', g1, g2, g3⟩ := h3 j l' hlj
          rw [← f j l' vs hlj g1, g2, g3]
        · rw [List.getElem?_eq_none (by omega), List.getElem?_eq_none (by omega)]
      subst exs ev
      exact ⟨w.put Ta (.tup xs'), Step.laid nT, rfl, eH.symm, O'.laid nT, repT_new O' nT h1⟩
theorem pid_zipM (hK : X.K = G.K) (hg : Gl X "zip") (hm : X.mg "zip" = none) (ha : PAd G XR X W (e :: es) fs) (hs : starEach (e :: es) X.env = (false, eval e X.env) :: starEach es X.env) (hpl : (backTo pos (starEach es X.env)).any (·.1) = false) :
    PId G XR X W tg (.Call (.Name "zip" p) (e :: es) [] pos) (fun E S => (fs E S).bind zipMD) := by
  obtain ⟨t, ht, ha⟩ := ha
  refine ⟨_, pi_zipM hg hm ht hs hpl, fun σ w E R O rE q => ha σ w E _ O rE (Want.bind q fun ds vs w1 T1 O1 r1 q1 => ?_)⟩
  rw [hK]
  unfold zipMD at q1
  by_cases hb : (kindsB w1.S ds && Nat.ble ds.length 8) = true
  · rw [hb] at q1
    obtain ⟨hb1, hb2⟩ := Bool.and_eq_true_iff.mp hb
    obtain ⟨ls, rfl, h1, h2, h3⟩ := koks_of O1 r1 hb1
    exact ⟨ls, rfl, by rw [h1]; exact Nat.le_of_ble_eq_true hb2, h3, Want.ret O1 (itOk_zipM h2) q1⟩
  · rw [Bool.not_eq_true] at hb
    rw [hb] at q1
    exact q1.elim
end
end Ev
namespace EN
open PySem ZN ZM
open PySem.Sem (wp)
abbrev IsE (h : Heap) (e z : Nat) (f0 f1 : Value) (i : Int) (old : Value) : Prop :=
  h.get? e = some { cls := .type "enumerate", dict := none, data := .fields #[f0, f1, .ref z, rawInt i, .none, old], slots := #[] }
section
variable {prog : Program} {w : World} {A : Around} {E : Value → Shared → Prop} {s : Shared}
theorem nextOf_zip {n0 n k : Nat} {ls : List (Nat × Bool)} {us : List Value} {Q : Value → Shared → Prop} (S : ZM.ZOk s.heap n0 n ls k) (hn : 0 < n) (hn8 : n ≤ 8) (hlt : ∀ l ∈ ls, l.1 < n0) (c : ZM.Col s.heap ls k us)
    (hsz : n0 + n + 3 ≤ s.heap.objs.size)
    (hQ : ∀ h', ZM.ZOk h' n0 n ls (k + 1) → h'.get? s.heap.objs.size = some { cls := .type "tuple", data := .seq us.toArray } → h'.objs.size = s.heap.objs.size + 1 →
      (∀ c o, c < n0 ∨ n0 + n + 2 < c → s.heap.get? c = some o → h'.get? c = some o) → Q (.ref s.heap.objs.size) { s with heap := h' }) : wpAny (model prog w) A (Builtin.SmallTypes.nextOf (.ref (n0 + n + 2))) Q E s := by
  obtain ⟨f0, f1, hf0, hz⟩ := S.z
  have hT : s.TypeIs (.ref (n0 + n + 2)) "zip" := ⟨_, hz, rfl⟩
  unfold Builtin.SmallTypes.nextOf
  exact wpAny_bind (wpAny_callSpecial?_slot (name := Str.ofString "__next__") hT F.slot_zip_next
    (wpAny_call_entry F.slot_zip_next hT F.entry_zip_next
      (ZM.zip_next_item S hn hn8 hlt c hsz fun h' a1 a2 a3 a4 => wpAny_pure (hQ h' a1 a2 a3 a4)) (F.args_zip_next_1 _)))
theorem nextOf_zip_end {n0 n k : Nat} {ls : List (Nat × Bool)} {Q : Value → Shared → Prop} (hh : A.handled = none) (S : ZM.ZOk s.heap n0 n ls k) (hn8 : n ≤ 8) (hlt : ∀ l ∈ ls, l.1 < n0)
    (hend : n = 0 ∨ ∃ l items, ls[0]? = some l ∧ SeqK s.heap l items ∧ items[k]? = none)
    (hE : ∀ h' e, (∀ c o, c < n0 ∨ n0 + n + 2 < c → s.heap.get? c = some o → h'.get? c = some o) → (∃ o, h'.get? e = some o ∧ o.cls = .type "StopIteration") → E (.ref e) { s with heap := h' }) : wpAny (model prog w) A (Builtin.SmallTypes.nextOf (.ref (n0 + n + 2))) Q E s := by
  obtain ⟨f0, f1, hf0, hz⟩ := S.z
  have hT : s.TypeIs (.ref (n0 + n + 2)) "zip" := ⟨_, hz, rfl⟩
  unfold Builtin.SmallTypes.nextOf
  exact wpAny_bind (wpAny_callSpecial?_slot (name := Str.ofString "__next__") hT F.slot_zip_next
    (wpAny_call_entry F.slot_zip_next hT F.entry_zip_next (ZM.zip_next_end hh S hn8 hlt hend hE) (F.args_zip_next_1 _)))
theorem owned_free {e z : Nat} {f0 f1 old : Value} {i : Int} {Q : Bool → Shared → Prop} (hf : f0 = .none ∨ ∃ a : Addr, f0 = rawInt a) (he : IsE s.heap e z f0 f1 i old)
    (h : ∀ b h' f1', IsE h' e z f0 f1' i old → Heap.SameBut e s.heap h' → Q b { s with heap := h' }) : wpAny (model prog w) A (Builtin.SmallTypes.ownedTupleIsFree (.ref e)) Q E s := by
  unfold Builtin.SmallTypes.ownedTupleIsFree
  rcases hf with rfl | ⟨a, rfl⟩
  · exact wpAny_bind (wpAny_field he rfl (x := .none) rfl (wpAny_pure (h true s.heap f1 he (Heap.SameBut.refl _ _))))
  · refine wpAny_bind (wpAny_field he rfl (x := rawInt a) rfl ?_)
    show wpAny _ _ (loadIfAlive ((a : Int).toNat) >>= _) _ _ _
    refine wpAny_bind (wpAny_loadIfAlive ?_)
    cases (s.heap.get? (a : Int).toNat) with
    | none =>
      simp only [Option.isNone_none, if_true]
      exact wpAny_pure (h true s.heap f1 he (Heap.SameBut.refl _ _))
    | some o =>
      simp only [Option.isNone_some, Bool.false_eq_true, if_false]
      refine wpAny_bind (wpAny_field he rfl (x := f1) rfl ?_)
      by_cases q : (f1 != Value.bool true) = true
      · rw [if_pos q]
        exact wpAny_bind (wpAny_setField_rec he (by simp) fun h₁ hz₁ hs₁ => wpAny_pure (h false h₁ (.bool true) hz₁ hs₁))
      · rw [if_neg q]
        exact wpAny_pure (h false s.heap f1 he (Heap.SameBut.refl _ _))
/-- 'next' of an enumerate whose inner one gives item u (the heap h1 behind that) -/
theorem enum_next {e z : Nat} {f0 f1 old : Value} {i : Nat} {Q : Value → Shared → Prop} (hf : f0 = .none ∨ ∃ a : Addr, f0 = rawInt a) (he : IsE s.heap e z f0 f1 (i : Int) old)
    (hin : wpAny (model prog w) A (Builtin.SmallTypes.nextOf (.ref z)) (fun u s1 => IsE s1.heap e z f0 f1 (i : Int) old ∧
      ∀ h' f0' f1' old', (f0' = .none ∨ ∃ a : Addr, f0' = rawInt a) → IsE h' e z f0' f1' ((i + 1 : Nat) : Int) old' → h'.get? s1.heap.objs.size = some { cls := .type "tuple", data := .seq #[.int i s1.toks, u] } → h'.objs.size = s1.heap.objs.size + 1 →
        (∀ (c : Nat) o, c ≠ e → s1.heap.get? c = some o → h'.get? c = some o) → Q (.ref s1.heap.objs.size) { s1 with heap := h', toks := s1.toks + 1 }) E s) :
    wpAny (model prog w) A (Builtin.«enumerate.__next__» ⟨[.ref e], []⟩) (fun fin s' => ∃ v, fin = .done (.ret v) ∧ Q v s') E s := by
  show wpAny _ _ (field (.ref e) 2 >>= _) _ _ _
  refine wpAny_bind (wpAny_field he rfl (x := .ref z) rfl ?_)
  refine wpAny_bind (wpAny_mono hin (fun u s1 h1 => ?_) fun _ _ x => x)
  obtain ⟨he1, hq⟩ := h1
  obtain ⟨hp, g, d, tk, os⟩ := s1
  show wpAny _ _ (field (.ref e) 3 >>= _) _ _ _
  refine wpAny_bind (wpAny_field he1 rfl (x := rawInt i) rfl ?_)
  show wpAny _ _ (field (.ref e) 4 >>= _) _ _ _
  refine wpAny_bind (wpAny_field he1 rfl (x := .none) rfl ?_)
  show wpAny _ _ (mkInt i >>= _) _ _ _
  refine wpAny_bind (wpAny_mkInt ?_)
  show wpAny _ _ (setField (.ref e) 3 (rawInt ((i : Int) + 1)) >>= _) _ _ ⟨hp, g, d, tk + 1, os⟩
  refine wpAny_bind (wpAny_setField_rec he1 (by simp) fun h2 he2 s2 => ?_)
  replace s2 : Heap.SameBut e hp h2 := s2
  replace he2 : IsE h2 e z f0 f1 ((i : Int) + 1) old := he2
  show wpAny _ _ (setField (.ref e) 4 .none >>= _) _ _ ⟨h2, g, d, tk + 1, os⟩
  refine wpAny_bind (wpAny_setField_rec he2 (by simp) fun h3 he3 s3 => ?_)
  replace s3 : Heap.SameBut e h2 h3 := s3
  replace he3 : IsE h3 e z f0 f1 ((i : Int) + 1) old := he3
  show wpAny _ _ (newTuple [.int i tk, u] >>= _) _ _ ⟨h3, g, d, tk + 1, os⟩
  refine wpAny_bind (wpAny_newTuple ?_)
  have hsz : h3.objs.size = hp.objs.size := by rw [s3.1, s2.1]
  have hel : e < h3.objs.size := Heap.lt_size he3
  have he4 : IsE (h3.push { cls := .type "tuple", data := .seq #[.int i tk, u] }) e z f0 f1 ((i : Int) + 1) old := Heap.get?_push_of_some _ he3
  have hT4 : (h3.push { cls := .type "tuple", data := .seq #[.int i tk, u] }).get? hp.objs.size = some { cls := .type "tuple", data := .seq #[.int i tk, u] } := by rw [← hsz]; exact Heap.get?_push_size _ rfl
  have hk4 : ∀ (c : Nat) o, c ≠ e → hp.get? c = some o → (h3.push { cls := .type "tuple", data := .seq #[.int i tk, u] }).get? c = some o := fun c o n q => Heap.get?_push_of_some _ (SameBut.at s3 n (SameBut.at s2 n q))
  have hz4 : (h3.push { cls := .type "tuple", data := .seq #[.int i tk, u] }).objs.size = hp.objs.size + 1 := by rw [Heap.size_push, hsz]
  have ei : ((i + 1 : Nat) : Int) = (i : Int) + 1 := by omega
  have hne : hp.objs.size ≠ e := by omega
  refine wpAny_bind (owned_free hf he4 fun b h5 f1' he5 s5 => ?_)
  cases b with
  | false =>
    simp only [Bool.false_eq_true, if_false]
    refine wpAny_pure ⟨_, rfl, ?_⟩
    show Q (.ref h3.objs.size) _
    rw [hsz]
    exact hq h5 f0 f1' old hf (by rw [ei]; exact he5) (SameBut.at s5 hne hT4) (by rw [s5.1]; exact hz4) fun c o n q => SameBut.at s5 n (hk4 c o n q)
  | true =>
    simp only [if_true]
    refine wpAny_bind (wpAny_rule ?_)
    show wpAny _ _ (field (.ref e) 5 >>= _) _ _ _
    refine wpAny_bind (wpAny_field he5 rfl (x := old) rfl ?_)
    refine wpAny_bind (wpAny_setField_rec he5 (by simp) fun h6 he6 s6 => ?_)
    replace he6 : IsE h6 e z f0 f1' ((i : Int) + 1) u := he6
    show wpAny _ _ (Builtin.SmallTypes.ownedTupleHandOut (.ref e) (.ref h3.objs.size) >>= _) _ _ _
    refine wpAny_bind ?_
    unfold Builtin.SmallTypes.ownedTupleHandOut
    refine wpAny_bind (wpAny_setField_rec he6 (by simp) fun h7 he7 s7 => ?_)
    replace he7 : IsE h7 e z (rawInt h3.objs.size) f1' ((i : Int) + 1) u := he7
    refine wpAny_setField_rec he7 (by simp) fun h8 he8 s8 => ?_
    replace he8 : IsE h8 e z (rawInt h3.objs.size) (.bool false) ((i : Int) + 1) u := he8
    refine wpAny_bind (wpAny_letGo (wpAny_pure ⟨_, rfl, ?_⟩))
    show Q (.ref h3.objs.size) _
    have up : ∀ (c : Nat) o, c ≠ e → (h3.push { cls := .type "tuple", data := .seq #[.int i tk, u] }).get? c = some o → h8.get? c = some o := fun c o n q => SameBut.at s8 n (SameBut.at s7 n (SameBut.at s6 n (SameBut.at s5 n q)))
    have r := hq h8 (rawInt h3.objs.size) (.bool false) u (.inr ⟨h3.objs.size, rfl⟩) (by rw [ei]; exact he8) (up _ _ hne hT4) (by rw [s8.1, s7.1, s6.1, s5.1]; exact hz4) fun c o n q => up c o n (hk4 c o n q)
    rw [hsz]
    exact r
theorem enum_end {e z : Nat} {f0 f1 old : Value} {i : Int} {Q : Fin → Shared → Prop} (he : IsE s.heap e z f0 f1 i old) (hin : wpAny (model prog w) A (Builtin.SmallTypes.nextOf (.ref z)) (fun _ _ => False) E s) : wpAny (model prog w) A (Builtin.«enumerate.__next__» ⟨[.ref e], []⟩) Q E s := by
  show wpAny _ _ (field (.ref e) 2 >>= _) _ _ _
  refine wpAny_bind (wpAny_field he rfl (x := .ref z) rfl ?_)
  exact wpAny_bind (wpAny_mono hin (fun _ _ x => x.elim) fun _ _ x => x)
theorem meets_enum_new (z : Nat) :
    Meets (Builtin.«enumerate.__new__» ⟨[.type "enumerate", .ref z], []⟩) (fun A R s => (∀ (prog : Program) (w : World) (A : Around) (E : Value → Shared → Prop) (Q : Value → Shared → Prop), Q (.ref z) s → wpAny (model prog w) A (pyIter (.ref z)) Q E s) ∧
      R (.ok (.ret (.ref s.heap.objs.size))) { s with heap := s.heap.push { cls := .type "enumerate", data := .fields #[.none, .bool false, .ref z, rawInt 0, .none, .none] } }) :=
  .of_wp fun prog w A R s h => by
    obtain ⟨hp, g, d, tk, os⟩ := s; obtain ⟨hl, h⟩ := h
    have hsub := sub_enumerate
    have hit : ∀ {A : Around} {E : Value → Shared → Prop} {Q : Value → Shared → Prop}, Q (.ref z) ⟨hp, g, d, tk, os⟩ → wpAny (model prog w) A (pyIter (.ref z)) Q E ⟨hp, g, d, tk, os⟩ := fun {A E Q} q => hl prog w A E Q q
    wp_walk
    refine wpAny_stack_any fun st => wpAny_pure ?_
    split
    · rename_i c _ _ _ _ _
      cases (c == Value.type "enumerate")
      · wp_walk using hit
        exact ⟨_, rfl, h⟩
      · wp_walk using hit
        exact ⟨_, rfl, h⟩
    · wp_walk using hit
      exact ⟨_, rfl, h⟩
end
end EN
namespace Ev
open PySem PySem.Spec L2
open PyProof.Rows hiding St
/-! enumerate(zip(..)) -/
def ItE (K : PySem.W.Frag) (ls : List (Nat × Bool)) : It :=
  ⟨(ItzM K ls).go,
    fun i H v H' => ∃ (T0 T : Addr) (xs : List V), v = .ref T ∧ H T0 = none ∧ upd H T0 (.tup xs) T = none ∧ H' = upd (upd H T0 (.tup xs)) T (.tup [.int (i : Nat), .ref T0]) ∧ xs.length = ls.length ∧ ∀ (j : Nat) (l : Nat × Bool) (vs : List V), ls[j]? = some l → SqK K H l vs → vs[i]? = xs[j]?,
    (ItzM K ls).stop⟩
def EOk (h : Heap) (n0 n : Nat) (ls : List (Nat × Bool)) (k : Nat) : Prop := ZM.ZOk h n0 n ls k ∧ ∃ f0 f1 old, (f0 = .none ∨ ∃ a : Addr, f0 = rawInt a) ∧ EN.IsE h (n0 + n + 3) (n0 + n + 2) f0 f1 ((k : Nat) : Int) old
def fpe (n0 n : Nat) : List Nat := List.range' n0 (n + 4)
theorem fpe_mem {n0 n c : Nat} : c ∈ fpe n0 n ↔ n0 ≤ c ∧ c < n0 + n + 4 := by
  unfold fpe
  rw [List.mem_range']
  constructor
  · rintro ⟨i, h1, h2⟩; subst h2; omega
  · rintro ⟨h1, h2⟩; exact ⟨c - n0, by omega, by omega⟩
theorem goE {A : Around} {E : Value → Shared → Prop} {s : Shared} {tg : Expr} {u : Value} {e z : Nat} {f0 f1 old : Value} {i : Int} {prog : Program} {w : World} {Q : Unit → Shared → Prop} (hf : f0 = .none ∨ ∃ a : Addr, f0 = rawInt a) (he : EN.IsE s.heap e z f0 f1 i old)
    (hQ : ∀ h' f0', (f0' = .none ∨ ∃ a : Addr, f0' = rawInt a) → EN.IsE h' e z f0' f1 i old → Heap.SameBut e s.heap h' → Q () { s with heap := h' }) : wpAny (model prog w) A (letOwnedTupleGo tg (.ref e) u) Q E s := by
  have q0 : Q () s := hQ s.heap f0 hf he (Heap.SameBut.refl _ _)
  have fin : ∀ a : Addr, wpAny (model prog w) A (do
      let o ← load e
      match o.cls, o.data with
      | .type nn, .fields vs =>
        if (["enumerate", "zip", "dict_itemiterator", "dict_reverseitemiterator", "odict_iterator", "itertools.zip_longest", "itertools.pairwise"].contains nn && vs[0]? == some (rawInt a)) = true then do
          rule "for.unpacks-the-owned-tuple"
          updateField e 0 .none
        else pure ()
      | _, _ => pure ()) Q E s := fun a => by
    refine wpAny_bind (wpAny_load he ?_)
    dsimp only
    by_cases c : (["enumerate", "zip", "dict_itemiterator", "dict_reverseitemiterator", "odict_iterator", "itertools.zip_longest", "itertools.pairwise"].contains "enumerate" && (#[f0, f1, .ref z, rawInt i, .none, old] : Array Value)[0]? == some (rawInt a)) = true
    · rw [if_pos c]
      refine wpAny_bind (wpAny_rule ?_)
      show wpAny _ _ (setField (.ref e) 0 .none) Q E s
      exact wpAny_setField_rec he (by simp) fun h' hz' hs' => hQ h' .none (.inl rfl) hz' hs'
    · rw [if_neg c]
      exact wpAny_pure q0
  unfold letOwnedTupleGo
  cases tg <;> first
    | exact wpAny_pure q0
    | (cases u <;> first
        | exact wpAny_pure q0
        | exact fin _)
theorem turn_enumM {P : Program} {w : World} {K : PySem.W.Frag} {tg : Expr} {n0 : Nat} {ls : List (Nat × Bool)} (hl : ls.length ≤ 8) (hlt : ∀ l ∈ ls, l.1 < n0) :
    Turn P w K tg (ItE K ls) (fpe n0 ls.length) (n0 + ls.length + 3) (fun i h => EOk h n0 ls.length ls i) where
  mem := fpe_mem.mpr ⟨by omega, by omega⟩
  obj := fun i h st (c : Nat) hc => by
    obtain ⟨h1, h2⟩ := fpe_mem.mp hc
    by_cases q : c = n0 + ls.length + 3
    · obtain ⟨_, f0, f1, old, _, he⟩ := st
      rw [q]; exact ⟨_, he, fun v q => nomatch q⟩
    · exact (turn_zipM (P := P) (w := w) (K := K) (tg := tg) hl hlt).obj i h st.1 c (fps_mem.mpr ⟨h1, by omega⟩)
  keep := fun i h h' st k => by
    obtain ⟨Z, f0, f1, old, hf, he⟩ := st
    exact ⟨(turn_zipM (P := P) (w := w) (K := K) (tg := tg) hl hlt).keep i h h' Z fun (c : Nat) hc o q => k c (fpe_mem.mpr ⟨(fps_mem.mp hc).1, by have := (fps_mem.mp hc).2; omega⟩) o q, f0, f1, old, hf, k _ (fpe_mem.mpr ⟨by omega, by omega⟩) _ he⟩
  item := by
    intro X hP hw hK hc i pins s σ H E I hf st hg
    subst hP hw hK
    obtain ⟨st, f0, f1, old, hf0, he⟩ := st
    obtain ⟨xs, hxl, h0, hq⟩ := hg
    obtain ⟨us, rv, col⟩ := col_ofM (h := s.heap) (i := i) xs ls hxl fun j l q => by
      obtain ⟨vs, x, hs, hx, hv⟩ := hq j l q
      obtain ⟨its, r, p⟩ := hs.at I
      obtain ⟨u, hu, ru⟩ := r.get hv
      exact ⟨x, u, its.toArray, hx, ru, p, by simpa using hu⟩
    have hel : n0 + ls.length + 3 < s.heap.objs.size := Heap.lt_size he
    have hT : s.TypeIs (.ref (n0 + ls.length + 3)) "enumerate" := ⟨_, he, rfl⟩
    have hfz : ∀ b ∈ fps n0 ls.length, FpOk X pins H b := fun (b : Nat) hb => hf b (fpe_mem.mpr ⟨(fps_mem.mp hb).1, by have := (fps_mem.mp hb).2; omega⟩)
    have hfe := hf (n0 + ls.length + 3) (fpe_mem.mpr ⟨by omega, by omega⟩)
    unfold pyNext
    refine wpAny_bind (wpAny_attempt (wpAny_callSpecial?_slot (name := Str.ofString "__next__") hT F.slot_enumerate_next
      (wpAny_call_entry F.slot_enumerate_next hT F.entry_enumerate_next (EN.enum_next hf0 he (EN.nextOf_zip st h0 hl hlt col (by omega) fun h1 Z1 hT1 hsz hk => ?_)) (F.args_enumerate_next_1 _))))
    have he1 : EN.IsE h1 (n0 + ls.length + 3) (n0 + ls.length + 2) f0 f1 (i : Int) old := hk _ _ (.inr (by omega)) he
    refine ⟨he1, fun h2 f0' f1' old' hf' he2 hT2 hsz2 hk2 => ?_⟩
    refine wpAny_pure ?_
    refine ⟨_, rfl, goE (s := { s with heap := h2, toks := s.toks + 1 }) hf' he2 fun h' f0'' hf'' he' sb => ?_⟩
    replace sb : Heap.SameBut (n0 + ls.length + 3) h2 h' := sb
    have out : ∀ (c : Nat), c ∉ fps n0 ls.length → c < n0 ∨ n0 + ls.length + 2 < c := fun c hb => by
      by_cases z : c < n0
      · exact .inl z
      · refine .inr ?_
        have : ¬ (c < n0 + ls.length + 3) := fun z2 => hb (fps_mem.mpr ⟨by omega, z2⟩)
        omega
    have new1 : ObjOk X.prog X.w (upd H s.heap.objs.size (.tup xs)) h1 s.heap.objs.size (.tup xs) :=
      ⟨by rw [hxl, sizeLine_eq]; omega, us, rv, ⟨_, hT1, rfl, _, rfl⟩⟩
    have I1 : Inv X pins σ (upd H s.heap.objs.size (.tup xs)) { s with heap := h1 } :=
      I.turnedNew (t' := s.toks) (ch := fps n0 ls.length) (fun (c : Nat) o hb q => hk c o (out c hb) q) hfz (Nat.le_refl _) new1
    have up2 : ∀ (c : Nat) o, c ≠ n0 + ls.length + 3 → h1.get? c = some o → h'.get? c = some o := fun c o n q => ZN.SameBut.at sb n (hk2 c o n q)
    have hT' : h'.get? h1.objs.size = some { cls := .type "tuple", data := .seq #[.int i s.toks, .ref s.heap.objs.size] } := ZN.SameBut.at sb (by omega) hT2
    have new2 : ObjOk X.prog X.w (upd (upd H s.heap.objs.size (.tup xs)) h1.objs.size (.tup [.int (i : Nat), .ref s.heap.objs.size])) h' h1.objs.size (.tup [.int (i : Nat), .ref s.heap.objs.size]) :=
      ⟨by show 2 ≤ sizeLine; decide, [.int i s.toks, .ref s.heap.objs.size], .cons ⟨_, rfl⟩ (.cons rfl .nil), ⟨_, hT', rfl, _, rfl⟩⟩
    have ne0 : ∀ (c : Nat), c < s.heap.objs.size → upd H s.heap.objs.size (.tup xs) c = H c := fun c h => upd_ne (Nat.ne_of_lt h)
    have hfe1 : FpOk X pins (upd H s.heap.objs.size (.tup xs)) (n0 + ls.length + 3) := ⟨by rw [ne0 _ hel]; exact hfe.1, hfe.2⟩
    have I2 : Inv X pins σ (upd (upd H s.heap.objs.size (.tup xs)) h1.objs.size (.tup [.int (i : Nat), .ref s.heap.objs.size])) { s with heap := h', toks := s.toks + 1 } :=
      I1.turnedNew (t' := s.toks + 1) (ch := [n0 + ls.length + 3]) (fun (c : Nat) o hb q => up2 c o (fun z => hb (by simp [z])) q) (fun (b : Nat) hb => by
        have e : b = n0 + ls.length + 3 := by simpa using hb
        subst e; exact hfe1) (Nat.le_refl _) new2
    refine ⟨.ref h1.objs.size, _, I2, rfl, ⟨s.heap.objs.size, h1.objs.size, xs, rfl, I.hok.fresh (Nat.le_refl _), ?_, rfl, hxl, fun j l vs q hv => ?_⟩, ⟨?_, f0'', f1', old', hf'', he'⟩, fun (c : Nat) hcm => ?_⟩
    · exact I1.hok.fresh (Nat.le_refl _)
    · obtain ⟨vs', x, hs, hx, hv'⟩ := hq j l q
      rw [hv.inj I hs, hv', hx]
    · exact (turn_zipM (P := X.prog) (w := X.w) (K := X.K) (tg := tg) hl hlt).keep _ _ _ Z1 fun (c : Nat) hc o q => up2 c o (by have := (fps_mem.mp hc).2; omega) q
    · obtain ⟨_, h2'⟩ := fpe_mem.mp hcm
      have hlt' : c < s.heap.objs.size := by omega
      rw [upd_ne (show c ≠ h1.objs.size by omega), ne0 c hlt']
      exact (hf c hcm).1
  done := by
    intro X hP hw hK hc i pins s σ H E I hf st hg
    subst hP hw hK
    obtain ⟨st, f0, f1, old, hf0, he⟩ := st
    have hend : ls.length = 0 ∨ ∃ l items, ls[0]? = some l ∧ ZM.SeqK s.heap l items ∧ items[i]? = none := by
      rcases hg with rfl | ⟨l, vs, hl0, hs, hv⟩
      · exact .inl rfl
      · obtain ⟨its, r, p⟩ := hs.at I
        have := r.length
        exact .inr ⟨l, its.toArray, hl0, p, by simp; omega⟩
    have hT : s.TypeIs (.ref (n0 + ls.length + 3)) "enumerate" := ⟨_, he, rfl⟩
    unfold pyNext
    refine wpAny_bind (wpAny_attempt (wpAny_callSpecial?_slot (name := Str.ofString "__next__") hT F.slot_enumerate_next
      (wpAny_call_entry F.slot_enumerate_next hT F.entry_enumerate_next (EN.enum_end he (wpAny_mono (EN.nextOf_zip_end (Q := fun _ _ => False) (I.ok.hd hc) st hl hlt hend fun h' ex hk hx => ?_) (fun _ _ x => x) fun _ _ x => x)) (F.args_enumerate_next_1 _))))
    obtain ⟨o, ho, hcl⟩ := hx
    refine wpAny_bind (wpAny_isInstance (T := "StopIteration") (b := true) ⟨o, ho, hcl⟩ isSubtype_stop ?_)
    exact wpAny_pure ⟨rfl, I.turnedL (t' := s.toks) (ch := fpe n0 ls.length) (fun (c : Nat) o hb q => hk c o (by
      by_cases z : c < n0
      · exact .inl z
      · refine .inr ?_
        have : ¬ (c < n0 + ls.length + 4) := fun z2 => hb (fpe_mem.mpr ⟨by omega, z2⟩)
        show n0 + ls.length + 2 < c
        omega) q) hf⟩
  self := fun A i s Q E st h => by
    obtain ⟨_, f0, f1, old, _, he⟩ := st
    have hT : s.TypeIs (.ref (n0 + ls.length + 3)) "enumerate" := ⟨_, he, rfl⟩
    refine wpAny_pyIter_slot hT F.slot_enumerate_iter (wpAny_call_entry F.slot_enumerate_iter hT F.entry_enumerate_iter ?_ (F.args_enumerate_iter_1 _))
    show wpAny _ _ (ret (.ref (n0 + ls.length + 3))) _ _ s
    exact wpAny_pure ⟨_, rfl, "enumerate", _, hT, F.slot_enumerate_next.lookup, h⟩

theorem pi_enumZip {X : Cx} {tg e : Expr} {es : List Expr} {p p1 pos pos1 : Pos} {ta : TA} (hg : Gl X "zip") (hm : X.mg "zip" = none) (hg1 : Gl X "enumerate") (hm1 : X.mg "enumerate" = none) (ha : PA X (e :: es) ta) (hs : starEach (e :: es) X.env = (false, eval e X.env) :: starEach es X.env) (hpl : (backTo pos (starEach es X.env)).any (·.1) = false)
    (hs1 : starEach [.Call (.Name "zip" p) (e :: es) [] pos] X.env = (false, eval (.Call (.Name "zip" p) (e :: es) [] pos) X.env) :: starEach [] X.env) :
    PI X tg (.Call (.Name "enumerate" p1) [.Call (.Name "zip" p) (e :: es) [] pos] [] pos1) (fun σ H R => ta σ H fun vs H1 => ∃ ls : List (Nat × Bool), vs = (ls.map fun l => V.ref l.1) ∧ ls.length ≤ 8 ∧ (∀ l ∈ ls, ∃ vs, SqK X.K H1 l vs) ∧ R (ItE X.K ls) H1) := by
  refine ⟨fun pins s σ H R I h => ?_⟩
  refine Call_ (ld_blt I hg1 hm1 boot_enumerate (PyProof.Rows.callWith_type1 ?_ hs1 rfl))
  rw [hs1]
  show wpAny _ _ (spliced ((false, eval (.Call (.Name "zip" p) (e :: es) [] pos) X.env) :: backTo pos1 (starEach [] X.env))) _ _ s
  refine Calls.spliced_cons ?_
  refine Call_ (ld_blt I hg hm PyProof.Rows.boot_zip (PyProof.Rows.callWith_type1 (thn (ha.run pos pins s σ H _ I h) fun us s2 ⟨vs, H1, I2, r2, ls, ev, h8, ht, q⟩ => ?_) hs hpl))
  subst ev
  rw [refs_valsM r2]
  have htu : ∀ l ∈ ls, ∃ items, ZM.SeqK s2.heap l items := fun l hl => by
    obtain ⟨vs, hv⟩ := ht l hl
    obtain ⟨its, _, p⟩ := hv.at I2
    exact ⟨_, p⟩
  have hlt : ∀ l ∈ ls, l.1 < s2.heap.objs.size := fun l hl => by
    obtain ⟨items, hi⟩ := htu l hl
    obtain ⟨o, ho⟩ := hi.there
    exact Heap.lt_size ho
  refine ZM.call_zip h8 htu fun h' Z hsz hk => ?_
  have I3 : Inv X pins σ H1 { s2 with heap := h' } := I2.kept (t' := s2.toks) hk
  have T := turn_zipM (P := X.prog) (w := X.w) (K := X.K) (tg := tg) h8 hlt
  have T2 := turn_enumM (P := X.prog) (w := X.w) (K := X.K) (tg := tg) h8 hlt
  refine Calls.spliced_nil ?_
  have z3 : h'.objs.size = s2.heap.objs.size + ls.length + 3 := hsz
  refine callType_new F.called_enumerate (by decide) (F.typeCall_enumerate_1 _) (F.newCall_enumerate_1 _) (fun obj => F.args_object_init_2 obj _) F.entry_enumerate_new
    (EN.meets_enum_new (s2.heap.objs.size + ls.length + 2)) ⟨fun prog w A E Q q => ?_, ?_⟩
  · obtain ⟨f0, f1, _, hz⟩ := Z.z
    have hT : ({ s2 with heap := h' } : Shared).TypeIs (.ref (s2.heap.objs.size + ls.length + 2)) "zip" := ⟨_, hz, rfl⟩
    refine wpAny_pyIter_slot hT F.slot_zip_iter (wpAny_call_entry F.slot_zip_iter hT F.entry_zip_iter ?_ (F.args_zip_iter_1 _))
    show wpAny _ _ (ret (.ref (s2.heap.objs.size + ls.length + 2))) _ _ _
    exact wpAny_pure ⟨_, rfl, "zip", _, hT, F.slot_zip_next.lookup, q⟩
  · have he : EN.IsE (h'.push { cls := .type "enumerate", data := .fields #[.none, .bool false, .ref (s2.heap.objs.size + ls.length + 2), rawInt 0, .none, .none] }) (s2.heap.objs.size + ls.length + 3) (s2.heap.objs.size + ls.length + 2) .none (.bool false) ((0 : Nat) : Int) .none := by
      rw [← z3]
      exact Heap.get?_push_size _ rfl
    have Z2 := T.keep _ _ (h'.push { cls := .type "enumerate", data := .fields #[.none, .bool false, .ref (s2.heap.objs.size + ls.length + 2), rawInt 0, .none, .none] }) Z fun c _ o q => Heap.get?_push_of_some _ q
    have I4 : Inv X pins σ H1 { s2 with heap := h'.push { cls := .type "enumerate", data := .fields #[.none, .bool false, .ref (s2.heap.objs.size + ls.length + 2), rawInt 0, .none, .none] } } := I3.kept (t' := s2.toks) fun b o q => Heap.get?_push_of_some _ q
    have K : EOk (h'.push { cls := .type "enumerate", data := .fields #[.none, .bool false, .ref (s2.heap.objs.size + ls.length + 2), rawInt 0, .none, .none] }) s2.heap.objs.size ls.length ls 0 := ⟨Z2, .none, .bool false, .none, .inl rfl, he⟩
    show _ ∧ _
    have ee : ({ s2 with heap := h' } : Shared).heap.objs.size = s2.heap.objs.size + ls.length + 3 := z3
    rw [ee]
    refine ⟨⟨_, he, rfl⟩, ?_⟩
    refine T2.self X.A 0 _ _ _ K ?_
    exact ⟨_, _, _, _, H1, rfl, I4, T2, K, fun (c : Nat) hc => by
      have hle : s2.heap.objs.size ≤ c := (fpe_mem.mp hc).1
      exact I2.fpOk hle (I2.hok.fresh hle), q⟩
def enumZipIt (ds : List D) : ItD := fun i S => match zipMIt ds i S with
  | some (some d) => some (some (.tup [.int (Int.ofNat i), d]))
  | some none => some none
  | none => none
def enumZipD (ds : List D) (S : Store) : O ItD := bif kindsB S ds && Nat.ble ds.length 8 then .ok (enumZipIt ds) S else .bad
section
variable {G : Gd} {XR : XRepT} {X : Cx} {W : WX} {tg e : Expr} {es : List Expr} {fs : FA} {pos p p1 pos1 : Pos} {w0 : Wd}
theorem itOk_enumZip {ds : List D} {ls : List (Nat × Bool)} (hk : KOks G w0 ds ls) : ItOk G w0 (enumZipIt ds) (ItE G.K ls) := by
  have J := itOk_zipM (G := G) (w0 := w0) hk
  refine ⟨fun w i T O h => ?_, fun w i z T O h => ?_⟩
  · unfold enumZipIt at h
    split at h
    · cases h
    · rename_i h2; exact J.stop w i T O h2
    · cases h
  · unfold enumZipIt at h
    split at h
    · rename_i d hd
      cases h
      obtain ⟨hgo, hy⟩ := J.go w i d T O hd
      refine ⟨hgo, fun x H' ⟨T0, Ta, xs, ev, n0, n1, eH, hl, f⟩ => ?_⟩
      obtain ⟨w1, T1, eS, e1, O1, r1⟩ := hy (.ref T0) (upd w.H T0 (.tup xs)) ⟨T0, xs, rfl, n0, rfl, hl, f⟩
      subst ev
      rw [← e1] at n1 eH
      exact ⟨w1.put Ta (.tup [.int (i : Nat), .ref T0]), T1.trans (Step.laid n1), eS, eH.symm, O1.laid n1, repT_new O1 n1 (.cons (.int _) (.cons r1 .nil))⟩
    · cases h
    · cases h
theorem pid_enumZip (hK : X.K = G.K) (hg : Gl X "zip") (hm : X.mg "zip" = none) (hg1 : Gl X "enumerate") (hm1 : X.mg "enumerate" = none) (ha : PAd G XR X W (e :: es) fs) (hs : starEach (e :: es) X.env = (false, eval e X.env) :: starEach es X.env) (hpl : (backTo pos (starEach es X.env)).any (·.1) = false)
    (hs1 : starEach [.Call (.Name "zip" p) (e :: es) [] pos] X.env = (false, eval (.Call (.Name "zip" p) (e :: es) [] pos) X.env) :: starEach [] X.env) :
    PId G XR X W tg (.Call (.Name "enumerate" p1) [.Call (.Name "zip" p) (e :: es) [] pos] [] pos1) (fun E S => (fs E S).bind enumZipD) := by
  obtain ⟨t, ht, ha⟩ := ha
  refine ⟨_, pi_enumZip hg hm hg1 hm1 ht hs hpl hs1, fun σ w E R O rE q => ha σ w E _ O rE (Want.bind q fun ds vs w1 T1 O1 r1 q1 => ?_)⟩
  rw [hK]
  unfold enumZipD at q1
  by_cases hb : (kindsB w1.S ds && Nat.ble ds.length 8) = true
  · rw [hb] at q1
    obtain ⟨hb1, hb2⟩ := Bool.and_eq_true_iff.mp hb
    obtain ⟨ls, rfl, h1, h2, h3⟩ := koks_of O1 r1 hb1
    exact ⟨ls, rfl, by rw [h1]; exact Nat.le_of_ble_eq_true hb2, h3, Want.ret O1 (itOk_enumZip h2) q1⟩
  · rw [Bool.not_eq_true] at hb
    rw [hb] at q1
    exact q1.elim
end
end Ev
namespace Ev
open PySem PySem.Spec L2
open PyProof.Rows hiding St
def sameB (S : Store) : List D → Bool
  | [d, e] => match seqOf S d, seqOf S e with
    | some (.l, _), some (.l, _) => true
    | some (.t, _), some (.t, _) => true
    | _, _ => false
  | _ => false
def zip2D (ds : List D) (S : Store) : O ItD := bif sameB S ds then zipD ds S else zipMD ds S
theorem pid_zip2 {G : Gd} {XR : XRepT} {X : Cx} {W : WX} {a b : Expr} {fs : FA} {pos p tpos : Pos} {elts : List Expr} {kk : Nat} (hK : X.K = G.K) (hg : Gl X "zip") (hm : X.mg "zip" = none) (ha : PAd G XR X W [a, b] fs) (hs : starEach [a, b] X.env = (false, eval a X.env) :: starEach [b] X.env) (hpl : (backTo pos (starEach [b] X.env)).any (·.1) = false) :
    PId G XR X W (.Tuple elts kk tpos) (.Call (.Name "zip" p) [a, b] [] pos) (fun E S => (fs E S).bind zip2D) := by
  obtain ⟨t1, ht1, k1⟩ := pid_zip (elts := elts) (kk := kk) (tpos := tpos) hK hg hm ha hs hpl
  obtain ⟨t2, ht2, k2⟩ := pid_zipM (tg := .Tuple elts kk tpos) hK hg hm ha hs hpl
  refine ⟨_, PI.or ht1 ht2, fun σ w E R O rE q => ?_⟩
  cases hf : fs E w.S with
  | ok ds S1 =>
    have q' : Want G XR (fun c d H => W c d σ H) (ItOk G) w R (zip2D ds S1) := by simpa only [hf, Ev.O.bind] using q
    unfold zip2D at q'
    by_cases hb : sameB S1 ds = true
    · rw [hb] at q'
      exact .inl (k1 σ w E R O rE (by simpa only [hf, Ev.O.bind, cond] using q'))
    · rw [Bool.not_eq_true] at hb
      rw [hb] at q'
      exact .inr (k2 σ w E R O rE (by simpa only [hf, Ev.O.bind, cond] using q'))
  | exc y S1 =>
    have q' : Want G XR (fun c d H => W c d σ H) (ItOk G) w R (.exc y S1) := by simpa only [hf, Ev.O.bind] using q
    exact .inl (k1 σ w E R O rE (by simpa only [hf, Ev.O.bind, cond] using q'))
  | bad =>
    have q' : Want G XR (fun c d H => W c d σ H) (ItOk G) w R .bad := by simpa only [hf, Ev.O.bind] using q
    exact q'.elim
end Ev
namespace Ev
open PySem PySem.Spec L2
open PyProof.Rows hiding St
/-! exceptions of an own class over LookupError that keep one value -/
abbrev luB : List Value := [.type "LookupError", .type "Exception", .type "BaseException", .type "object"]
structure ExP (K : PySem.W.Frag) (C fI : Addr) (f : Str) : Prop where
  ov : PySem.W.excOver K C luB = true
  mkd : PySem.W.excInitIn K C luB "LookupError.__new__" = true
  hd : PySem.W.hasDictIn K C = true
  tk : PySem.W.takerIn K C f = some none
  sa : PySem.W.findIn K (.ref C) "__setattr__" = some (some (.builtin "object.__setattr__"))
  no : PySem.W.findIn K (.ref C) f = some none
  sx : PySem.W.subIn K (.ref C) (.type "BaseException") = some true
  ty : PySem.W.typeIn K (.ref C) = some (.type "type")
  kp : PySem.W.keepIn K (.ref C) = true
  ini : PySem.W.findIn K (.ref C) "__init__" = some (some (.ref fI))
  tI : PySem.W.typeIn K (.ref fI) = some (.type "function")
section
variable {X : Cx} {pins : List (Addr × Obj)} {σ : L2.St} {H : Hp} {s : Shared} {a C fI : Addr} {f : Str} {y : V} {u : Value}
abbrev exO0 (C t1 : Addr) (d : Option Addr) : Obj := { cls := .ref C, dict := d, data := .fields #[.ref t1, .none, .none, .none, .bool false, .none] }
theorem sto_first {Q : Unit → Shared → Prop} {E : Value → Shared → Prop} {A : Around} (T : ExP X.K C fI f) (I : Inv X pins σ H s) (e : H a = some (exo a C none)) (ry : RelV y u)
    (q : ∀ c s', H c = none → c ≠ a → Inv X pins σ (upd (upd H c (exd c [(f, y)])) a (exo a C (some c))) s' → Q () s') :
    wpAny (model X.prog X.w) A (setAttr (.ref a) f u) Q E s := by
  obtain ⟨t1, ho⟩ := exo_at I.hok e
  have lt : a < s.heap.objs.size := Heap.lt_size ho
  have ne : s.heap.objs.size ≠ a := Nat.ne_of_gt lt
  obtain ⟨cd, hc, hdd⟩ := PySem.W.any_some T.hd
  have hcn : H s.heap.objs.size = none := I.hok.fresh (Nat.le_refl _)
  refine PySem.W.set_plain (od := none) I.kIn ⟨ho, rfl, rfl, trivial⟩ T.sa ?_
  refine PySem.W.osa_openX (od := none) PySem.F.store_LookupError I.kIn ⟨ho, rfl, rfl, trivial⟩ T.ov T.tk fun b => ?_
  refine wpAny_bind (wpAny_pure (wpAny_bind (PySem.W.instanceDict_exc (t := t1) (c2 := .none) ho (PySem.W.looks_clsIn I.kIn hc) hdd ?_)))
  show wpAny _ _ (Builtin.ObjectAttr.storeInDict s.heap.objs.size (.str f s.toks) f u) _ _ _
  have hp1 : ∀ c o, s.heap.get? c = some o → (s.heap.push (PySem.W.dictOf [] 0)).get? c = some o := fun c o z => Heap.get?_push_of_some _ z
  refine PySem.HandSPX.store_in_new ⟨_, #[], _, (Heap.get?_update_ne _ _ _ _ ne).trans (Heap.get?_push_at rfl rfl), rfl, fun _ z => absurd z (by simp), fun _ => rfl⟩ fun h' tk' hn' hs => ?_
  have keep : ∀ c o, c ≠ a → s.heap.get? c = some o → h'.get? c = some o := fun c o hca z =>
    (hs.2 c (Nat.ne_of_lt (Heap.lt_size z))).trans ((Heap.get?_update_ne _ _ _ _ hca).trans (hp1 c o z))
  have now : h'.get? a = some (exO0 C t1 (some s.heap.objs.size)) := (hs.2 a ne.symm).trans (Heap.get?_update_self _ (hp1 a _ ho) rfl)
  let h0 : Heap := h'.update a fun _ => exO0 C t1 none
  have h0a : h0.get? a = some (exO0 C t1 none) := Heap.get?_update_self _ now rfl
  have h0n : ∀ c, c ≠ a → h0.get? c = h'.get? c := fun c hca => Heap.get?_update_ne _ _ _ _ hca
  have m1 : h0.Ns1 s.heap.objs.size (fun z => if z = f then some u else none) := hn'.at fun o z => (h0n _ ne).trans z
  have rel : ∀ g, RelO (([(f, y)] : List (Str × V)).lookup g) (if g = f then some u else none) := relO_put (fs := []) ry fun _ => True.intro
  have J1 : Inv X pins σ (upd H s.heap.objs.size (exd s.heap.objs.size [(f, y)])) { s with heap := h0, toks := tk' } :=
    I.laid (fun c o z => by
      by_cases hca : c = a
      · rw [hca] at z ⊢
        rw [ho] at z
        rw [h0a]
        exact z
      · exact (h0n c hca).trans (keep c o hca z)) (Nat.le_refl _) (exd_ok m1 rel)
  have ea : (upd H s.heap.objs.size (exd s.heap.objs.size [(f, y)])) a = some (exo a C none) := by rw [upd_ne ne.symm]; exact e
  exact q _ _ hcn ne (J1.write (t' := tk') (x := a) (e := a) (o := exo a C (some s.heap.objs.size)) (h' := h') (by rw [ea]; exact True.intro) (.inl rfl) (fun c o hca z => (h0n c hca).symm.trans z) ⟨_, now⟩ (exo_ok now))
end
/-- what the class's own making of an instance does -/
def spI (C : Addr) (f : Str) : Sp := fun vs H Q _ => ∃ a v, vs = [.ref a, v] ∧ H a = some (exo a C none) ∧ ∀ c, H c = none → c ≠ a → Q .non (upd (upd H c (exd c [(f, v)])) a (exo a C (some c)))
def tSto (C : Addr) (f : Str) (to te : TE) : TS := fun D σ H => te σ H fun y H1 => to σ H1 fun x H2 => ∃ a, x = .ref a ∧ H2 a = some (exo a C none) ∧ ∀ c, H2 c = none → c ≠ a → D.nx σ (upd (upd H2 c (exd c [(f, y)])) a (exo a C (some c)))
theorem ps_sto {X : Cx} {C fI : Addr} {f : Str} {o e : Expr} {to te : TE} {p' pos : Pos} (T : ExP X.K C fI f) (ho : PE X o to) (he : PE X e te) (hs : swapsWith e (some (.Attribute o f p')) pos.line X.env = pure false) :
    PS X (.Assign [.Attribute o f p'] e pos) (tSto C f to te) := by
  refine ⟨fun pins s σ H D I h => plainObj_wpAny_Assign_Attribute (thn (he.run pins s σ H _ I h) fun v s1 z => ?_) hs⟩
  obtain ⟨y, H1, I1, r1, z⟩ := z
  refine thn (ho.run pins s1 σ H1 _ I1 z) fun u s2 z2 => ?_
  obtain ⟨x, H2, I2, r2, a, ex, ea, q⟩ := z2
  subst ex
  have eu : u = Value.ref a := r2
  subst eu
  exact sto_first T I2 ea r1 fun c s' n ne J => ⟨σ, _, J, q c n ne⟩
theorem fn_init {P : Program} {w : World} {K : PySem.W.Frag} {mg : Str → Option Value} {base : Heap} {qual self y f : Str} {params : Arguments} {p1 p2 p3 p4 : Pos} {scope : Scope} {C fI : Addr} {fd : FuncData} {k : Nat}
    (T : ExP K C fI f) (F : FunD K "__init__" qual params [.Assign [.Attribute (.Name self p1) f p2] (.Name y p3) p4] scope [] [] fI fd) (S : FnScope [self, y] [self, y] scope) (v1 : Vis scope self) (v2 : Vis scope y) (n1 : Nm self) (n2 : Nm y)
    (hs : ∀ env : Env, swapsWith (.Name y p3) (some (.Attribute (.Name self p1) f p2)) p4.line env = pure false) : FnOk P w K mg base (L2.CX P w) (k + 1) fI fd [self, y] (spI C f) := by
  refine F.ok S (fun vs H Q E h => by obtain ⟨a, v, rfl, _⟩ := h; rfl) fun cdv A outer s H vs Q E hr h => ?_
  obtain ⟨a, v, rfl, ea, q⟩ := h
  refine ⟨_, pss_one (ps_sto (X := cxOf (L2.CX P w) P w K mg base [self, y] qual scope fI cdv A outer s H E) T (pe_var (i := 0) rfl v1 n1.db n1.cd) (pe_var (i := 1) rfl v2 n2.db n2.cd) (hs _)), ?_⟩
  exact ⟨v, rfl, .ref a, rfl, a, rfl, ea, q⟩
section
variable {X : Cx} {W : WX} {e : Expr} {te : TE} {x f : Str} {C fI : Addr} {k : Nat} {fd : FuncData} {ps : List Str} {p pos : Pos}
/-- C(e): the exception goes out of what is told, its dict stays -/
def tMk1 (C : Addr) (f : Str) (te : TE) : L2.St → Hp → XK → Prop := fun σ H Q => te σ H fun v H1 => ∀ c, H1 c = none → Q (.ref C) (some c) (upd H1 c (.xd [(f, v)]))
theorem pmk_one (T : ExP X.K C fI f) (tk : Takes X W) (F1 : FnOk X.prog X.w X.K X.mg X.base (L2.CX X.prog X.w) k fI fd ps (spI C f)) (hr : Room (k + 1) X.A) (hb : Binds X.K fd ps []) (hg : Gl X x) (hm : X.mg x = some (.ref C)) (he : PE X e te)
    (hdb : (x == ("__debug__" : Str)) = false) (hst : starEach [e] X.env = (false, eval e X.env) :: starEach [] X.env) (hpl : (backTo pos (starEach [] X.env)).any (·.1) = false) : PMk X (.Call (.Name x p) [e] [] pos) (tMk1 C f te) := by
  intro pins s σ H Q I h
  have hx : Passes (L2.CX X.prog X.w) X (fun _ _ _ => False) := fun pi τ G s1 z s2 J c => passes_call tk (fun _ _ _ _ q => q.elim) pi τ G s1 z s2 J c
  have ha : PA X [e] (tCons te tNil) := pa_cons he pa_nil hst
  let QA : List V → Hp → Prop := fun vs H1 => match vs with
    | [v] => ∀ c, H1 c = none → Q (.ref C) (some c) (upd H1 c (.xd [(f, v)]))
    | _ => False
  refine wpAny_Call_Name_kw (ld_glob I hg hm ?_ hdb)
  refine PySem.W.callWith_K (h₀ := X.base) I.ok.mod.kin T.kp (thn (ha.run pos pins s σ H QA I h) fun us s1 z => ?_) hst hpl
  obtain ⟨vs, H1, I1, r1, q1⟩ := z
  refine ⟨I1.kIn, ?_⟩
  match vs, r1, q1 with
  | [v], .cons (b := uv) rv .nil, q1 =>
    show wpAny _ _ (call (.ref C) [uv]) _ _ _
    obtain ⟨nm, N, qn, bs, bm, hd, sn, sub, ab, col, dd, k0, k1, k2, k3, k5, hC, hT⟩ := PySem.W.excInit_of I1.kIn T.mkd
    obtain ⟨hp, gs, dr, tk0, os⟩ := s1
    have le : hp.objs.size ≤ hp.objs.size + 1 := Nat.le_succ _
    have bn : H1 (hp.objs.size + 1) = none := I1.hok.fresh le
    have more : ∀ c o, hp.get? c = some o → ((hp.push (PySem.W.kdv_tup [uv])).push (PySem.HandSPX.excO C hp.objs.size)).get? c = some o := fun c o z => Heap.get?_push_of_some _ (Heap.get?_push_of_some _ z)
    have got : ((hp.push (PySem.W.kdv_tup [uv])).push (PySem.HandSPX.excO C hp.objs.size)).get? (hp.objs.size + 1) = some (PySem.HandSPX.excO C hp.objs.size) := by heap_get
    have I2 : Inv X pins σ (upd H1 (hp.objs.size + 1) (exo (hp.objs.size + 1) C none)) ⟨(hp.push (PySem.W.kdv_tup [uv])).push (PySem.HandSPX.excO C hp.objs.size), gs, dr, tk0, os⟩ := I1.laid (t' := tk0) more le (exo_ok got)
    let QB : VK := fun z H2 => z = .non ∧ ∃ d, H2 (hp.objs.size + 1) = some (exo (hp.objs.size + 1) C (some d)) ∧ H2 d = some (exd d [(f, v)]) ∧ H1 d = none ∧ Q (.ref C) (some d) (upd (del H2 (hp.objs.size + 1)) d (.xd [(f, v)]))
    have sp : spI C f [.ref (hp.objs.size + 1), v] (upd H1 (hp.objs.size + 1) (exo (hp.objs.size + 1) C none)) QB (fun _ _ _ => False) := by
      refine ⟨_, v, rfl, upd_same, fun c hc hcb => ⟨rfl, c, upd_same, ?_, ?_, ?_⟩⟩
      · rw [upd_ne hcb, upd_same]
      · rw [upd_ne hcb] at hc; exact hc
      · rw [upd_ne hcb] at hc
        have ee : upd (del (upd (upd (upd H1 (hp.objs.size + 1) (exo (hp.objs.size + 1) C none)) c (exd c [(f, v)])) (hp.objs.size + 1) (exo (hp.objs.size + 1) C (some c))) (hp.objs.size + 1)) c (.xd [(f, v)]) = upd H1 c (.xd [(f, v)]) := by
          funext z
          by_cases h1 : z = c
          · rw [h1, upd_same, upd_same]
          · rw [upd_ne h1, upd_ne h1]
            by_cases h2 : z = hp.objs.size + 1
            · rw [h2, del_same, bn]
            · rw [del_ne h2, upd_ne h2, upd_ne h1, upd_ne h2]
        rw [ee]
        exact q1 c hc
    refine wpAny_call (PySem.HandSPX.call_own PySem.F.excBase_LookupError hT hC (PySem.W.looks_findIn I1.kIn T.ini) (fun self => PySem.W.bind_fn I1.kIn self T.tI) (by show 1 ≤ sizeLine; decide)
      (codeAny_mono (F1.run _ X.stack _ _ ⟨[.ref (hp.objs.size + 1), uv], []⟩ [.ref (hp.objs.size + 1), uv] [.ref (hp.objs.size + 1), v] QB (fun _ _ _ => False) (hr.make C [uv] []) (I2.env0.make C [uv] []) ?_ (.cons rfl (.cons rv .nil)) sp) fun r s' z => ?_))
    · have hl : ([Value.ref (hp.objs.size + 1), uv] ++ []).length = ps.length := (F1.len _ _ _ _ sp).symm ▸ rfl
      have bb := hb ⟨(hp.push (PySem.W.kdv_tup [uv])).push (PySem.HandSPX.excO C hp.objs.size), gs, dr, tk0, os⟩ [.ref (hp.objs.size + 1), uv] I2.kIn hl
      rw [List.append_nil] at bb
      exact bb
    · match r, z with
      | .error er, z => exact hx pins σ _ _ er s' I2 z
      | .ok (.ret w0), z =>
        obtain ⟨v9, H2, os2, ba2, un2, ok2, rv2, rfl, d, ea, ed, hd1, q2⟩ := z
        obtain ⟨h2, g2, d2, t2, o2⟩ := s'
        exact ⟨rv2, mk_end (raises_own T.sx T.ty) I1 le more un2 ok2 os2 ba2 ea ed hd1 q2⟩
      | .ok .next, z => exact False.elim z
      | .ok .brk, z => exact False.elim z
      | .ok .cont, z => exact False.elim z
end
end Ev
namespace Ev
open PySem PySem.Spec L2
open PyProof.Rows hiding St
/-! a try with clauses that each name what they caught -/
structure Cl where
  slot : Nat
  cls : Value
  ts : Addr → Value → Option Addr → TS
abbrev offE (D : Ends) (i : Nat) : Ends := { nx := fun τ G => D.nx (τ.set i none) G, rt := D.rt, bk := fun τ G => D.bk (τ.set i none) G, ct := fun τ G => D.ct (τ.set i none) G }
def wCl (K : PySem.W.Frag) (Wo : WX) (D : Ends) : List Cl → WX
  | [] => Wo
  | q :: r => fun cls d τ G => ∃ b, PySem.W.exmOne K cls q.cls = some b ∧ (b = true → ∀ a, G a = none → q.ts a cls d (offE D q.slot) (τ.set q.slot (some (.ref a))) G) ∧ (b = false → wCl K Wo D r cls d τ G)
inductive ClsOk (X : Cx) : List ExceptHandler → List Cl → Prop
  | nil : ClsOk X [] []
  | cons {x n : Str} {q : Cl} {st : Stmt} {sts : List Stmt} {np p2 : Pos} {r : List ExceptHandler} {l : List Cl} (hi : X.N[q.slot]? = some n) (hl : X.env.kindOf n = some .local) (hc : Names X x q.cls)
      (hsu : ∀ (a : Addr) (oe : Obj) (cls : Value) (d : Option Addr) (pn : List (Addr × Obj)), Zc cls d oe → (∃ vs, oe.data = .fields vs) → PSs (X.suite a ((a, oe) :: pn)) (st :: sts) (q.ts a cls d)) (more : ClsOk X r l) :
      ClsOk X (.ExceptHandler (some (.Name x np)) (some n) (st :: sts) p2 :: r) (q :: l)
section
variable {X : Cx} {Wo : WX} {pins : List (Addr × Obj)} {D : Ends} {τ : L2.St} {G : Hp} {a : Addr} {cls : Value} {d : Option Addr} {B : Heap} {sI s : Shared}
/-- what is caught, and where -/
structure Got (X : Cx) (pins : List (Addr × Obj)) (τ : L2.St) (G : Hp) (a : Addr) (cls : Value) (d : Option Addr) (B : Heap) (sI : Shared) (h : Heap) (s : Shared) : Prop where
  inv : Inv X pins τ G sI
  nb : ∀ b o, sI.heap.get? b = some o → b ∉ frs X.stack → B.get? b = some o
  up : sI.heap.UpToSlots h
  fl : PySem.HandSPX.FlyingZ B (X.env :: X.outer) a (Zc cls d) h
  na : G a = none
  os : s.os = sI.os
  ag : AllBare s.gens
theorem Got.back {h : Heap} (g : Got X pins τ G a cls d B sI h s) : Inv X pins τ G { s with heap := h } := g.inv.landed g.nb g.fl.1 g.up g.os g.ag
theorem Got.off {h : Heap} (g : Got X pins τ G a cls d B sI h s) (hf : X.env.frame = some X.env.locals) {oe : Obj} {vs : Array Value} (e : h.get? a = some oe) (ed : oe.data = .fields vs) : a ∉ frs (X.env :: X.outer) ∧ a ≠ X.env.locals ∧ a ∉ X.fs := by
  have n1 : a ∉ frs (X.env :: X.outer) := fun hm => by
    obtain ⟨_, o2, e2, nf⟩ := g.fl.2.2.1.mem hm
    rw [e] at e2
    cases e2
    exact nf _ ed
  refine ⟨n1, fun z => n1 (List.mem_filterMap.mpr ⟨X.env, List.mem_cons_self, hf.trans (congrArg some z.symm)⟩), fun hm => ?_⟩
  obtain ⟨e1, m1, q1⟩ := List.mem_filterMap.mp hm
  exact n1 (List.mem_filterMap.mpr ⟨e1, List.mem_cons_of_mem _ m1, q1⟩)
theorem goCl (hs : X.stack = X.env :: X.outer) (hf : X.env.frame = some X.env.locals) (hN : X.N.Nodup) (tk : Takes X Wo) (ok : X.Ok) {h : Heap} (g : Got X pins τ G a cls d B sI h s) : ∀ {hds : List ExceptHandler} {l : List Cl}, ClsOk X hds l → wCl X.K Wo D l cls d τ G →
    wpAny (model X.prog X.w) X.A (handleBy (.ref a) X.env hds) (SP X pins D) X.xe { s with heap := h } := by
  intro hds l k
  induction k with
  | nil =>
    intro w
    have fl := g.fl
    obtain ⟨_, _, _, oe, vs, T, oT, _, e0, _, ed, e1, _⟩ := id fl
    refine wpAny_handleBy_nil ?_
    unfold PySem.passOn
    refine wpAny_bind (wpAny_field e0 ed e1 ?_)
    rw [if_neg (show ¬ ((Value.ref T == Value.none) = true) from by simp)]
    have out : wpAny (model X.prog X.w) X.A (setFlight (.ref a) X.env.frame) (fun _ s4 => wpAny (model X.prog X.w) X.A (throw (.ref a) : Sem Flow) (SP X pins D) X.xe s4) X.xe { s with heap := h } := by
      rw [hf]
      exact PySem.HandSPX.setFlight_upZ fl fun h9 k9 u9 => wpAny_throw (tk _ _ ⟨a, B, sI, pins, τ, G, cls, d, rfl, g.inv, g.nb, g.up.trans u9, .inr (.inr (by rw [hs]; exact k9)), g.na, g.os, g.ag, w⟩)
    first
      | exact wpAny_bind (wpAny_pure (wpAny_bind out))
      | exact wpAny_bind out
  | @cons x n q st sts np p2 r l hi hl hc hsu more ih =>
    intro w
    obtain ⟨b, e1, yes, no⟩ := w
    obtain ⟨o3, v3, he3, hz3, hd3⟩ := g.fl.there
    obtain ⟨_, f2, f3⟩ := g.off hf he3 hd3
    have S3 := g.back.suite he3 hd3 g.na f2 f3
    refine wpAny_handleBy_cons (codeAny_handlers_test ?_) (fun z => nomatch z)
    have lt : PySem.W.Looks (model X.prog X.w) h (typeOf (.ref a)) cls := fun A Q E s k q => wpAny_typeOf_ref (k _ _ he3) (by rw [hz3.1]; exact q)
    have lm := PySem.W.exm_one (M := model X.prog X.w) g.back.kIn lt e1
    have ask : ∀ {Q E : Value → Shared → Prop}, Q q.cls { s with heap := h } → wpAny (model X.prog X.w) (X.A.mark (some (.ref a))) (eval (.Name x np) X.env) Q E { s with heap := h } := fun {Q E} z => by
      obtain ⟨g1, g2, g3 | ⟨g3, g4, g5⟩⟩ := hc
      · exact ld_glob (X := X.suite a ((a, o3) :: (X.pn ++ pins))) S3 g1 g3 z g2
      · exact ld_blt (X := X.suite a ((a, o3) :: (X.pn ++ pins))) S3 g1 g3 g4 z g5 g2
    refine ask (lm.here ?_)
    match b, yes, no with
    | false, _, no => exact ih (no rfl)
    | true, yes, _ =>
      refine codeAny_handlers_suite_as (PySem.HandSPX.lands_againZ g.fl fun h8 fl8 up8 => ?_)
      have g8 : Got X pins τ G a cls d B sI h8 s := ⟨g.inv, g.nb, g.up.trans up8, fl8, g.na, g.os, g.ag⟩
      obtain ⟨o8, v8, he8, hz8, hd8⟩ := fl8.there
      refine store_ok (X := X.suite a ((a, o8) :: (X.pn ++ pins))) (v := .ref a) (g8.back.suite he8 hd8 g.na f2 f3) hN hi (.inl hl) rfl (fun s5 S5 => ?_) (.inr hl)
      refine wpAny_mono ((hsu a o8 cls d (X.pn ++ pins) hz8 ⟨_, hd8⟩).run [] s5 _ G _ S5 (yes rfl a g.na)) (fun fw s6 z => ?_) (fun _ _ z => z.elim)
      match fw, z with
      | .next, z =>
        obtain ⟨τ6, G6, S6, q6⟩ := z
        exact gone_ok (S6.unsuite ok) hN hi hl fun s7 J7 => ⟨_, _, J7, q6⟩
      | .brk, z =>
        obtain ⟨τ6, G6, S6, q6⟩ := z
        exact gone_ok (S6.unsuite ok) hN hi hl fun s7 J7 => ⟨_, _, J7, q6⟩
      | .cont, z =>
        obtain ⟨τ6, G6, S6, q6⟩ := z
        exact gone_ok (S6.unsuite ok) hN hi hl fun s7 J7 => ⟨_, _, J7, q6⟩
      | .ret u, z =>
        obtain ⟨v6, τ6, G6, S6, r6, q6⟩ := z
        exact gone_ok (S6.unsuite ok) hN hi hl fun s7 J7 => ⟨_, _, _, J7, r6, q6⟩
theorem ps_tryL {body : List Stmt} {h0 : ExceptHandler} {hds : List ExceptHandler} {l : List Cl} {pos : Pos} {tb : WX → TS} (hs : X.stack = X.env :: X.outer) (hf : X.env.frame = some X.env.locals) (hN : X.N.Nodup) (tk : Takes X Wo)
    (hb : ∀ (W : WX) (pn : List (Addr × Obj)) (xe : Value → Shared → Prop), Takes (X.tr pn xe) W → PassesOwn (model X.prog X.w) X.A X.env xe → PSs (X.tr pn xe) body (tb W)) (hh : ClsOk X (h0 :: hds) l) :
    PS X (.Try body (h0 :: hds) [] [] pos) (fun D σ H => tb (wCl X.K Wo D l) D σ H) := by
  refine ⟨fun pins s σ H D I h => wpAny_Try_except ?_⟩
  have ok := I.ok
  have fr0 : X.A.frames = some (X.env :: X.outer) := ok.frames.trans (congrArg some hs)
  refine wpAny_mono ((hb (wCl X.K Wo D l) (X.pn ++ pins) (fun e s1 => wpAny (model X.prog X.w) X.A (noteFrame e X.env) (fun _ s2 => wpAny (model X.prog X.w) X.A (setFlight e none) (fun _ s3 =>
    wpAny (model X.prog X.w) X.A (handleBy e X.env (h0 :: hds)) (SP X pins D) X.xe s3) X.xe s2) X.xe s1) (fun u s9 z => ?_) PassesOwn.looking).run [] s σ H D (I.toTry _) h) (fun fw s1 z => ?_) (fun _ _ z => z)
  · obtain ⟨a, B, sI, pi9, τ, G, cls, d, rfl, J, nb, up, sky, na, os, ag, w⟩ := z
    have J1 : Inv X pins τ G sI := J.ofTry ok
    have sk : Sky B (X.env :: X.outer) a (Zc cls d) X.env.locals s9.heap := hs ▸ sky
    show wpAny (model X.prog X.w) X.A (noteFrame (.ref a) X.env) _ _ _
    exact Sky.land Zc.steady fr0 hf sk fun h3 fl3 up3 => goCl hs hf hN tk ok (s := s9) ⟨J1, nb, up.trans up3, fl3, na, os, ag⟩ hh w
  · match fw, z with
    | .next, z =>
      obtain ⟨τ, G, J, q⟩ := z
      exact wpAny_execs_nil ⟨τ, G, J.ofTry ok, q⟩
    | .brk, z =>
      obtain ⟨τ, G, J, q⟩ := z
      exact ⟨τ, G, J.ofTry ok, q⟩
    | .cont, z =>
      obtain ⟨τ, G, J, q⟩ := z
      exact ⟨τ, G, J.ofTry ok, q⟩
    | .ret u, z =>
      obtain ⟨v, τ, G, J, r, q⟩ := z
      exact ⟨v, τ, G, J.ofTry ok, r, q⟩
end
end Ev
namespace Ev
open PySem PySem.Spec L2
open PyProof.Rows hiding St
/-! own exceptions with one value or none -/
def XR1 (G : Gd) (xc : Nat → Addr) (fld : Nat → Option Str) : XRepT := fun w x cls d => cls = .ref (xc x.cls) ∧ (match fld x.cls with
  | none => d = none ∧ x.fs = []
  | some f => ∃ c v e, d = some c ∧ w.H c = some (.xd [(f, v)]) ∧ x.fs = [e] ∧ RepV G w e v)
theorem xr1_ok (G : Gd) (xc : Nat → Addr) (fld : Nat → Option Str) : XROk (XR1 G xc fld) := ⟨fun w n x c d hn hb h => by
  obtain ⟨h1, h2⟩ := h
  refine ⟨h1, ?_⟩
  split at h2
  · exact h2
  · obtain ⟨c, v, e, e1, e2, e3, e4⟩ := h2
    refine ⟨c, v, e, e1, e2, e3, e4.trim hn ?_⟩
    rw [e3] at hb
    simpa [belows] using hb⟩
section
variable {G : Gd} {xc : Nat → Addr} {fld : Nat → Option Str} {X : Cx} {W : WX} {e : Expr} {fe : FE} {fb : FS} {x f : Str} {n k : Nat} {fI : Addr} {fd : FuncData} {ps : List Str} {p pos pos' : Pos}
theorem psd_raiseN {bmB : List Value} {B newId initId : String} (hc : X.calm = true) (tk : Takes X W) (F : ExcBaseFacts B newId initId bmB) (q : PySem.W.excIn X.K (xc n) bmB newId = true) (gC : X.mg x = some (.ref (xc n))) (kC : PySem.W.keepIn X.K (.ref (xc n)) = true)
    (r : Raises X (.ref (xc n))) (hg : Gl X x) (hdb : (x == ("__debug__" : Str)) = false) (hf : fld n = none) : PSd G (XR1 G xc fld) X W (.Raise (some (.Call (.Name x p) [] [] pos')) none pos) (fun E S => .exc ⟨n, []⟩ E S) :=
  ⟨_, ps_raise hc tk (pmk_own0 F q gC kC r hg hdb), fun D σ w E O rE h => h σ w _ _ Step.refl rfl O rE ⟨rfl, by dsimp only; rw [hf]; exact ⟨rfl, rfl⟩⟩⟩
theorem psd_raise1 (hc : X.calm = true) (tk : Takes X W) (T : ExP X.K (xc n) fI f) (F1 : FnOk X.prog X.w X.K X.mg X.base (L2.CX X.prog X.w) k fI fd ps (spI (xc n) f)) (hr : Room (k + 1) X.A) (hb : Binds X.K fd ps []) (hg : Gl X x) (hm : X.mg x = some (.ref (xc n)))
    (he : PEd G (XR1 G xc fld) X W e fe) (hdb : (x == ("__debug__" : Str)) = false) (hst : starEach [e] X.env = (false, eval e X.env) :: starEach [] X.env) (hpl : (backTo pos' (starEach [] X.env)).any (·.1) = false) (hf : fld n = some f) :
    PSd G (XR1 G xc fld) X W (.Raise (some (.Call (.Name x p) [e] [] pos')) none pos) (fun E S => (fe E S).st E fun d S1 => .exc ⟨n, [d]⟩ E S1) := by
  obtain ⟨t, ht, h⟩ := he
  refine ⟨_, ps_raise hc tk (pmk_one T tk F1 hr hb hg hm ht hdb hst hpl), fun D σ w E O rE q => h σ w E _ O rE (WantS.st O rE q fun d v w1 T1 O1 r1 q1 c hc1 => ?_)⟩
  exact q1 σ (w1.put c (.xd [(f, v)])) _ _ (Step.laid hc1) rfl (O1.laid hc1) ((rE.step O T1).step O1 (Step.laid hc1)) ⟨rfl, by dsimp only; rw [hf]; exact ⟨c, v, d, rfl, upd_same, rfl, r1.step O1 (Step.laid hc1)⟩⟩
end
/-! clauses -/
structure ClD where
  i : Nat
  hit : Nat → Option Bool
  su : Ex → FS
def caughtD (x : Ex) (E1 : EnvD) (S1 : Store) : List ClD → SO
  | [] => .exc x E1 S1
  | q :: r => match q.hit x.cls with
    | some true => (bif Nat.blt q.i E1.length then (match q.su x (E1.set q.i none) S1 with
      | .nx E2 S2 => .nx (E2.set q.i none) S2
      | .rt d S2 => .rt d S2
      | _ => .bad) else .bad)
    | some false => caughtD x E1 S1 r
    | none => .bad
def tryLD (fb : FS) (l : List ClD) : FS := fun E S => match fb E S with
  | .exc x E1 S1 => caughtD x E1 S1 l
  | o => o
abbrev TSU := Nat → Addr → Option Addr → TS
def tsOf (xc : Nat → Addr) (hit : Nat → Option Bool) (T : TSU) : Addr → Value → Option Addr → TS := fun a cls d D σ H => ∃ k, hit k = some true ∧ cls = .ref (xc k) ∧ T k a d D σ H
structure SuOk1 (G : Gd) (xc : Nat → Addr) (fld : Nat → Option Str) (X : Cx) (i : Nat) (hit : Nat → Option Bool) (suite : List Stmt) (su : Ex → FS) (T : TSU) : Prop where
  run : ∀ k, hit k = some true → ∀ (a : Addr) (oe : Obj) (d : Option Addr) (pn : List (Addr × Obj)), Zc (.ref (xc k)) d oe → (∃ vs, oe.data = .fields vs) → PSs (X.suite a ((a, oe) :: pn)) suite (T k a d)
  ok : ∀ k, hit k = some true → ∀ (a : Addr) (d : Option Addr) (x : Ex) (D : Ends) (σ : L2.St) (w : Wd) (E : EnvD), SOk G w → RepE G w E σ → σ[i]? = some (some (.ref a)) → x.cls = k → XR1 G xc fld w x (.ref (xc k)) d → WantS G (XR1 G xc fld) (fun _ _ _ _ => False) w D (su x E w.S) → T k a d D σ w.H
inductive ClsD (G : Gd) (xc : Nat → Addr) (fld : Nat → Option Str) (X : Cx) : List ExceptHandler → List ClD → List Cl → Prop
  | nil : ClsD G xc fld X [] [] []
  | cons {x n : Str} {i : Nat} {hit : Nat → Option Bool} {su : Ex → FS} {cc : Value} {T : TSU} {st : Stmt} {sts : List Stmt} {np p2 : Pos} {r : List ExceptHandler} {l : List ClD} {lc : List Cl}
      (hi : X.N[i]? = some n) (hl : X.env.kindOf n = some .local) (hc : Names X x cc) (hx : ∀ k b, hit k = some b → PySem.W.exmOne X.K (.ref (xc k)) cc = some b) (hsu : SuOk1 G xc fld X i hit (st :: sts) su T) (more : ClsD G xc fld X r l lc) :
      ClsD G xc fld X (.ExceptHandler (some (.Name x np)) (some n) (st :: sts) p2 :: r) (⟨i, hit, su⟩ :: l) (⟨i, cc, tsOf xc hit T⟩ :: lc)
section
variable {G : Gd} {xc : Nat → Addr} {fld : Nat → Option Str} {X : Cx} {W : WX} {fb : FS}
theorem ClsD.cls {hds : List ExceptHandler} {l : List ClD} {lc : List Cl} (h : ClsD G xc fld X hds l lc) : ClsOk X hds lc := by
  induction h with
  | nil => exact .nil
  | cons hi hl hc hx hsu more ih =>
    refine .cons hi hl hc (fun a oe cls d pn hz hv => ⟨fun pins s σ H D I z => ?_⟩) ih
    obtain ⟨k, h1, rfl, h2⟩ := z
    exact (hsu.run k h1 a oe d pn hz hv).run pins s σ H D I h2
theorem ClsD.want {hds : List ExceptHandler} {l : List ClD} {lc : List Cl} (h : ClsD G xc fld X hds l lc) {x : Ex} {D : Ends} {σ : L2.St} {w : Wd} {E : EnvD} {cls : Value} {d : Option Addr} (O : SOk G w) (r : RepE G w E σ) (rx : XR1 G xc fld w x cls d)
    (q : WantS G (XR1 G xc fld) W w D (caughtD x E w.S l)) : wCl X.K W D lc cls d σ w.H := by
  induction h with
  | nil => exact q σ w cls d Step.refl rfl O r rx
  | @cons y n i hit su cc T st sts np p2 r' l' lc' hi hl hc hx hsu more ih =>
    have ec := rx.1
    subst ec
    unfold caughtD at q
    dsimp only at q
    cases hh : hit x.cls with
    | none => rw [hh] at q; exact q.elim
    | some b =>
      rw [hh] at q
      refine ⟨b, hx _ _ hh, fun eb a ha => ?_, fun eb => ?_⟩
      · subst eb
        refine ⟨x.cls, hh, rfl, ?_⟩
        dsimp only at q
        cases hlt : Nat.blt i E.length with
        | false => rw [hlt] at q; exact q.elim
        | true =>
          rw [hlt] at q
          dsimp only [cond] at q
          have hl2 : i < σ.length := by rw [← r.len]; exact Nat.le_of_ble_eq_true hlt
          refine hsu.ok x.cls hh a d x _ _ w (E.set i none) O (r.unset i _) (List.getElem?_set_self hl2) rfl rx ?_
          revert q
          cases su x (E.set i none) w.S with
          | nx E2 S2 => exact fun q τ w2 T2 e2 O2 r2 => q _ w2 T2 e2 O2 (r2.unset i none)
          | rt d S2 => exact fun q v w2 T2 e2 O2 r2 => q v w2 T2 e2 O2 r2
          | bk E2 S2 => exact fun q => q.elim
          | ct E2 S2 => exact fun q => q.elim
          | exc z E2 S2 => exact fun q => q.elim
          | bad => exact fun q => q
      · subst eb
        exact ih q
theorem psd_tryL {body : List Stmt} {h0 : ExceptHandler} {hds : List ExceptHandler} {l : List ClD} {lc : List Cl} {pos : Pos} (hs : X.stack = X.env :: X.outer) (hf : X.env.frame = some X.env.locals) (hN : X.N.Nodup) (tk : Takes X W)
    (hb : ∀ (W : WX) (pn : List (Addr × Obj)) (xe : Value → Shared → Prop), Takes (X.tr pn xe) W → PassesOwn (model X.prog X.w) X.A X.env xe → PSsd G (XR1 G xc fld) (X.tr pn xe) W body fb) (hh : ClsD G xc fld X (h0 :: hds) l lc) :
    PSd G (XR1 G xc fld) X W (.Try body (h0 :: hds) [] [] pos) (tryLD fb l) := by
  refine ⟨_, ps_tryL hs hf hN tk (fun W pn xe tk1 hp => (hb W pn xe tk1 hp).pss) hh.cls, fun D σ w E O r q => ⟨w, E, rfl, O, r, ?_⟩⟩
  revert q
  unfold tryLD
  cases fb E w.S with
  | nx E1 S => exact fun q => q
  | rt d S => exact fun q => q
  | bk E1 S => exact fun q => q
  | ct E1 S => exact fun q => q
  | bad => exact fun q => q
  | exc y E1 S1 =>
    intro q τ w1 cls d T1 eS O1 r1 rx
    subst eS
    exact hh.want O1 r1 rx (WantS.from T1 q)
end
/-! what the suites ask of what they caught -/
def rIs1 (K : PySem.W.Frag) (D a : Addr) (d : Option Addr) : List V → Hp → VK → Prop := fun xs H Q => ∃ (c : V) (cv : Value) (b : Bool), xs = [.ref a, c] ∧ (∀ u, RelV c u → u = cv) ∧ PySem.W.kitOne K (.ref D) cv = some b ∧ (d = none ∨ ∃ dd fs, d = some dd ∧ H dd = some (.xd fs)) ∧ Q (.bl b) H
theorem call_is1 {X : Cx} {a D : Addr} {oe : Obj} {d : Option Addr} {pn : List (Addr × Obj)} (C : ExcC X.K D) (hz : Zc (.ref D) d oe) (hf : ∃ vs, oe.data = .fields vs) : CallR (X.suite a ((a, oe) :: pn)) (.builtin "isinstance") (rIs1 X.K D a d) := by
  intro pins s σ H xs us Q I r h
  obtain ⟨c, cv, b, rfl, hcv, e, hd, q⟩ := h
  match us, r with
  | _, .cons rx (.cons rt .nil) =>
    cases rx
    have ec := hcv _ rt
    subst ec
    obtain ⟨here, _⟩ := I.pin (a, oe) (List.mem_append_left _ List.mem_cons_self)
    obtain ⟨vs, hv⟩ := hf
    have nc : PySem.W.notCls oe = true := by unfold PySem.W.notCls; rw [hv] <;> rfl
    have J : ∃ od, PySem.W.InstAt s.heap a oe D od := by
      rcases hd with hd | ⟨dd, fs, hd, hH⟩
      · exact ⟨none, here, hz.1, nc, by rw [hz.2, hd]; trivial⟩
      · have hx : ObjOk X.prog X.w H s.heap dd (.xd fs) := I.hok dd _ hH
        obtain ⟨mA, hns, _⟩ := hx
        obtain ⟨od, ho, _⟩ := lookIn_ns hns
        exact ⟨some od, here, hz.1, nc, by rw [hz.2, hd]; exact ho⟩
    obtain ⟨od, J⟩ := J
    exact PySem.W.kia_one (PySem.W.kitx_exc (by obtain ⟨cd, hc, _⟩ := PySem.W.any_some C.hd; rw [hc]; rfl) C.hg C.hk C.hs C.ha C.hn C.ht C.hm) I.kIn J e (fun z => nomatch z) fun tk => ⟨.bl b, H, I.kept (t' := tk) fun _ _ z => z, rfl, q⟩
theorem XfC.of {K : PySem.W.Frag} {D : Addr} (C : ExcC K D) : XfC K D := ⟨C.hg, C.hk, C.hs, C.hd⟩
end Ev
namespace Ev
open PySem PySem.Spec L2
open PyProof.Rows hiding St
/-! name = [word, isinstance(caught, T)], name = [word, caught.f, isinstance(caught, T)] -/
def su1D (j : Nat) (s0 : Str) (bb : Bool) : Ex → FS := fun _ E S => .nx (E.set j (some (.lst [.str s0, .bl bb]))) S
def su2D (j : Nat) (s0 : Str) (bb : Bool) : Ex → FS := fun x E S => match x.fs with
  | [d] => .nx (E.set j (some (.lst [.str s0, d, .bl bb]))) S
  | _ => .bad
section
variable {G : Gd} {xc : Nat → Addr} {fld : Nat → Option Str} {X : Cx} {i j k : Nat} {z n y f : Str} {s0 : Str} {T : String} {bb : Bool} {hit : Nat → Option Bool} {p1 p2 p3 p4 p5 p6 p7 p8 p9 pos : Pos} {q1 : Nat}
/-- the facts of names that such a suite wants -/
structure SuN (X : Cx) (i j : Nat) (z n y : Str) (T : String) : Prop where
  hN : X.N.Nodup
  hi : X.N[i]? = some n
  vis : Vis X.env.scope n
  hj : X.N[j]? = some z
  loc : Loc X.env.scope z
  fz : X.fn z = true ∨ X.env.scope.names.lookup z = some .local
  hg : Gl X "isinstance"
  hm : X.mg "isinstance" = none
  gy : Gl X y
  my : X.mg y = none
  bo : bootBuiltins y = some (.type T)
  ny : y ≠ "__name__"
  dy : (y == ("__debug__" : Str)) = false
  dn : Nm n
theorem pe_isC {a : Addr} {d : Option Addr} {oe : Obj} {pn : List (Addr × Obj)} (N : SuN X i j z n y T) (C : ExcC X.K (xc k)) (hz : Zc (.ref (xc k)) d oe) (hv : ∃ vs, oe.data = .fields vs)
    (s1 : starEach [.Name n p4, .Name y p5] X.env = (false, eval (.Name n p4) X.env) :: starEach [.Name y p5] X.env) (s2 : starEach [.Name y p5] X.env = (false, eval (.Name y p5) X.env) :: starEach [] X.env) (hpl : (backTo p6 (starEach [.Name y p5] X.env)).any (·.1) = false) :
    PE (X.suite a ((a, oe) :: pn)) (.Call (.Name "isinstance" p3) [.Name n p4, .Name y p5] [] p6) (tCB (rIs1 X.K (xc k) a d) (tCons (tVar i) (tCons (tC (.ty T)) tNil))) :=
  pe_callB (call_is1 C hz hv) N.hg N.hm boot_isinstance (pa_cons (pe_var N.hi N.vis N.dn.db N.dn.cd) (pa_cons (pe_bltn (v := .ty T) N.gy N.my N.bo rfl N.ny N.dy) pa_nil s2) s1) (by decide) (by decide) s1 hpl
theorem suok_1 (N : SuN X i j z n y T) (hc : ∀ k, hit k = some true → ExcC X.K (xc k) ∧ fld k = none ∧ PySem.W.kitOne X.K (.ref (xc k)) (.type T) = some bb)
    (hsw : swapsWith (.List [.Constant (.str s0) q1 p1, .Call (.Name "isinstance" p3) [.Name n p4, .Name y p5] [] p6] p7) (some (.Name z p8)) pos.line X.env = pure false)
    (e1 : starEach [.Constant (.str s0) q1 p1, .Call (.Name "isinstance" p3) [.Name n p4, .Name y p5] [] p6] X.env = (false, eval (.Constant (.str s0) q1 p1) X.env) :: starEach [.Call (.Name "isinstance" p3) [.Name n p4, .Name y p5] [] p6] X.env)
    (e2 : starEach [.Call (.Name "isinstance" p3) [.Name n p4, .Name y p5] [] p6] X.env = (false, eval (.Call (.Name "isinstance" p3) [.Name n p4, .Name y p5] [] p6) X.env) :: starEach [] X.env)
    (s1 : starEach [.Name n p4, .Name y p5] X.env = (false, eval (.Name n p4) X.env) :: starEach [.Name y p5] X.env) (s2 : starEach [.Name y p5] X.env = (false, eval (.Name y p5) X.env) :: starEach [] X.env) (hpl : (backTo p6 (starEach [.Name y p5] X.env)).any (·.1) = false) :
    SuOk1 G xc fld X i hit [.Assign [.Name z p8] (.List [.Constant (.str s0) q1 p1, .Call (.Name "isinstance" p3) [.Name n p4, .Name y p5] [] p6] p7) pos] (su1D j s0 bb)
      (fun k a d => fun D σ H => d = none ∧ σ[i]? = some (some (.ref a)) ∧ ∀ p, H p = none → D.nx (σ.set j (some (.ref p))) (upd H p (.lst [.str s0, .bl bb]))) where
  run := fun k hk a oe d pn hz hv => by
    obtain ⟨C, _, kit⟩ := hc k hk
    have c2 := pe_lst (pos := p7) (pa_cons (pe_str (X := X.suite a ((a, oe) :: pn)) (x := s0) (j := q1) (pos := p1)) (pa_cons (pe_isC (j := j) (z := z) (p3 := p3) (pn := pn) N C hz hv s1 s2 hpl) pa_nil e2) e1)
    have c3 := pss_one (ps_set (X := X.suite a ((a, oe) :: pn)) (pos := pos) (pos' := p8) N.hN N.hj N.loc c2 hsw N.fz)
    refine ⟨fun pins s σ H D I h => c3.run pins s σ H D I ?_⟩
    obtain ⟨h0, h1, h2⟩ := h
    exact ⟨_, h1, .ty T, .type T, bb, rfl, fun u hu => hu, kit, .inl h0, by show 2 ≤ sizeLine; decide, fun p hp => h2 p hp⟩
  ok := fun k hk a d x D σ w E O r ha hx rx h => by
    obtain ⟨_, hf, _⟩ := hc k hk
    have r2 := rx.2
    rw [hx, hf] at r2
    exact ⟨r2.1, ha, fun p hp => h _ (w.put p (.lst [.str s0, .bl bb])) (Step.laid hp) rfl (O.laid hp) ((r.step O (Step.laid hp)).set j (repV_new O hp (.cons (.str _) (.cons (.bl _) .nil))))⟩
theorem suok_2 (N : SuN X i j z n y T) (hc : ∀ k, hit k = some true → ExcC X.K (xc k) ∧ fld k = some f ∧ PySem.W.findIn X.K (.ref (xc k)) f = some none ∧ PySem.W.kitOne X.K (.ref (xc k)) (.type T) = some bb)
    (hsw : swapsWith (.List [.Constant (.str s0) q1 p1, .Attribute (.Name n p2) f p9, .Call (.Name "isinstance" p3) [.Name n p4, .Name y p5] [] p6] p7) (some (.Name z p8)) pos.line X.env = pure false)
    (e1 : starEach [.Constant (.str s0) q1 p1, .Attribute (.Name n p2) f p9, .Call (.Name "isinstance" p3) [.Name n p4, .Name y p5] [] p6] X.env = (false, eval (.Constant (.str s0) q1 p1) X.env) :: starEach [.Attribute (.Name n p2) f p9, .Call (.Name "isinstance" p3) [.Name n p4, .Name y p5] [] p6] X.env)
    (e3 : starEach [.Attribute (.Name n p2) f p9, .Call (.Name "isinstance" p3) [.Name n p4, .Name y p5] [] p6] X.env = (false, eval (.Attribute (.Name n p2) f p9) X.env) :: starEach [.Call (.Name "isinstance" p3) [.Name n p4, .Name y p5] [] p6] X.env)
    (e2 : starEach [.Call (.Name "isinstance" p3) [.Name n p4, .Name y p5] [] p6] X.env = (false, eval (.Call (.Name "isinstance" p3) [.Name n p4, .Name y p5] [] p6) X.env) :: starEach [] X.env)
    (s1 : starEach [.Name n p4, .Name y p5] X.env = (false, eval (.Name n p4) X.env) :: starEach [.Name y p5] X.env) (s2 : starEach [.Name y p5] X.env = (false, eval (.Name y p5) X.env) :: starEach [] X.env) (hpl : (backTo p6 (starEach [.Name y p5] X.env)).any (·.1) = false)
    (hb : attributeBase (.Name n p2) f X.env (eval (.Name n p2) X.env) = eval (.Name n p2) X.env) :
    SuOk1 G xc fld X i hit [.Assign [.Name z p8] (.List [.Constant (.str s0) q1 p1, .Attribute (.Name n p2) f p9, .Call (.Name "isinstance" p3) [.Name n p4, .Name y p5] [] p6] p7) pos] (su2D j s0 bb)
      (fun k a d => fun D σ H => σ[i]? = some (some (.ref a)) ∧ ∃ c v, d = some c ∧ H c = some (.xd [(f, v)]) ∧ ∀ p, H p = none → D.nx (σ.set j (some (.ref p))) (upd H p (.lst [.str s0, v, .bl bb]))) where
  run := fun k hk a oe d pn hz hv => by
    obtain ⟨C, _, no, kit⟩ := hc k hk
    have c1 := pe_xf (X := X) (pn := pn) (pos := p9) (XfC.of C) no hz hv (pe_var (X := X.suite a ((a, oe) :: pn)) (pos := p2) N.hi N.vis N.dn.db N.dn.cd) hb
    have c2 := pe_lst (pos := p7) (pa_cons (pe_str (X := X.suite a ((a, oe) :: pn)) (x := s0) (j := q1) (pos := p1)) (pa_cons c1 (pa_cons (pe_isC (j := j) (z := z) (p3 := p3) (pn := pn) N C hz hv s1 s2 hpl) pa_nil e2) e3) e1)
    have c3 := pss_one (ps_set (X := X.suite a ((a, oe) :: pn)) (pos := pos) (pos' := p8) N.hN N.hj N.loc c2 hsw N.fz)
    refine ⟨fun pins s σ H D I h => c3.run pins s σ H D I ?_⟩
    obtain ⟨h1, c, v, h0, hH, h2⟩ := h
    exact ⟨_, h1, rfl, rfl, c, _, v, h0, hH, by simp [List.lookup], _, h1, .ty T, .type T, bb, rfl, fun u hu => hu, kit, .inr ⟨c, _, h0, hH⟩, by show 3 ≤ sizeLine; decide, fun p hp => h2 p hp⟩
  ok := fun k hk a d x D σ w E O r ha hx rx h => by
    obtain ⟨_, hf, _⟩ := hc k hk
    have r2 := rx.2
    rw [hx, hf] at r2
    obtain ⟨c, v, e, h0, hH, hfs, rv⟩ := r2
    unfold su2D at h
    rw [hfs] at h
    exact ⟨ha, c, v, h0, hH, fun p hp => h _ (w.put p (.lst [.str s0, v, .bl bb])) (Step.laid hp) rfl (O.laid hp) ((r.step O (Step.laid hp)).set j (repV_new O hp (.cons (.str _) (.cons rv (.cons (.bl _) .nil)))))⟩
end
end Ev
namespace Ev
open PySem PySem.Spec L2
open PyProof.Rows hiding St
/-- the first def in a class -/
def initOf (s : Stmt) : Stmt := match s with
  | .ClassDef _ _ _ b _ _ _ _ _ _ _ => b.headD (.Pass ⟨0, 0, 0, 0⟩)
  | _ => .Pass ⟨0, 0, 0, 0⟩
section
variable {G : Gd} {xc : Nat → Addr} {fld : Nat → Option Str} {X : Cx} {W : WX} {e : Expr} {fe : FE} {x f me y qual : Str} {n k : Nat} {fI : Addr} {params : Arguments} {scope : Scope} {p p1 p2 p3 p4 pos pos' : Pos}
/-- what is known of the class's own __init__ -/
structure IniF (K : PySem.W.Frag) (fI : Addr) (qual me y f : Str) (params : Arguments) (scope : Scope) (p1 p2 p3 p4 : Pos) : Prop where
  fn : ∃ fd, FunD K "__init__" qual params [.Assign [.Attribute (.Name me p1) f p2] (.Name y p3) p4] scope [] [] fI fd
  sc : FnScope [me, y] [me, y] scope
  v1 : Vis scope me
  v2 : Vis scope y
  n1 : Nm me
  n2 : Nm y
  sw : ∀ env : Env, swapsWith (.Name y p3) (some (.Attribute (.Name me p1) f p2)) p4.line env = pure false
  bi : ∀ (kV doc pm : Value) (an : Option Addr) (cdv ct : Value) (us : List Value), us.length = 2 → bindArgs (PySem.W.fnOf "__init__" qual params [.Assign [.Attribute (.Name me p1) f p2] (.Name y p3) p4] scope .none kV doc pm an cdv ct) ⟨us, []⟩ = pure (([me, y] : List Str).zip us)
theorem psd_raiseI (hc : X.calm = true) (tk : Takes X W) (T : ExP X.K (xc n) fI f) (J : IniF X.K fI qual me y f params scope p1 p2 p3 p4) (hr : Room (k + 2) X.A) (hg : Gl X x) (hm : X.mg x = some (.ref (xc n)))
    (he : PEd G (XR1 G xc fld) X W e fe) (hdb : (x == ("__debug__" : Str)) = false) (hst : starEach [e] X.env = (false, eval e X.env) :: starEach [] X.env) (hpl : (backTo pos' (starEach [] X.env)).any (·.1) = false) (hf : fld n = some f) :
    PSd G (XR1 G xc fld) X W (.Raise (some (.Call (.Name x p) [e] [] pos')) none pos) (fun E S => (fe E S).st E fun d S1 => .exc ⟨n, [d]⟩ E S1) := by
  obtain ⟨fd, F⟩ := J.fn
  exact psd_raise1 (k := k + 1) hc tk T (fn_init T F J.sc J.v1 J.v2 J.n1 J.n2 J.sw) hr (FunD.bindsN (ps := [me, y]) F J.bi) hg hm he hdb hst hpl hf
end
/-! the checks at the head -/
def expB (K : PySem.W.Frag) (C : Addr) (f : Str) : Bool := PySem.W.excOver K C luB && (PySem.W.excInitIn K C luB "LookupError.__new__" && (PySem.W.hasDictIn K C && (decide (PySem.W.takerIn K C f = some none) && (He.eqO (PySem.W.findIn K (.ref C) "__setattr__") (some (some (.builtin "object.__setattr__"))) && (He.eqO (PySem.W.findIn K (.ref C) f) (some none) &&
  (decide (PySem.W.subIn K (.ref C) (.type "BaseException") = some true) && (decide (PySem.W.typeIn K (.ref C) = some (.type "type")) && (PySem.W.keepIn K (.ref C) && (He.eqO (PySem.W.findIn K (.ref C) "__init__") (some (some (.ref (He.ma K C "__init__")))) && decide (PySem.W.typeIn K (.ref (He.ma K C "__init__")) = some (.type "function")))))))))))
theorem expB_ok {K : PySem.W.Frag} {C : Addr} {f : Str} (h : expB K C f = true) : ExP K C (He.ma K C "__init__") f := by
  obtain ⟨h1, h⟩ := He.ba h
  obtain ⟨h2, h⟩ := He.ba h
  obtain ⟨h3, h⟩ := He.ba h
  obtain ⟨h4, h⟩ := He.ba h
  obtain ⟨h5, h⟩ := He.ba h
  obtain ⟨h6, h⟩ := He.ba h
  obtain ⟨h7, h⟩ := He.ba h
  obtain ⟨h8, h⟩ := He.ba h
  obtain ⟨h9, h⟩ := He.ba h
  obtain ⟨h10, h11⟩ := He.ba h
  exact ⟨h1, h2, h3, of_decide_eq_true h4, He.eqO_ok h5, He.eqO_ok h6, of_decide_eq_true h7, of_decide_eq_true h8, h9, He.eqO_ok h10, of_decide_eq_true h11⟩
end Ev
set_option maxHeartbeats 0
namespace K32
open PySem PySem.Spec L2 Ev
open PyProof.Rows hiding St
def top (i : Nat) : Stmt := PySem.Challenge.pw_handsunread_k32_plays_by_hand_and_what_g.main.body.getD i (.Pass ⟨0, 0, 0, 0⟩)
def dd (i : Nat) (x : Str) : He.DefD := ⟨(x, none), x, x, defArgs (top i), defBody (top i), defScope (top i), [], []⟩
def ddI (i : Nat) (x q : Str) : He.DefD := ⟨(x, some "__init__"), "__init__", q, defArgs (initOf (top i)), defBody (initOf (top i)), defScope (initOf (top i)), [], []⟩
def fn : List He.DefD := ([dd 3 "fixed", dd 4 "is_number", dd 5 "is_fraction", dd 6 "is_row", dd 7 "fraction", dd 8 "plus", dd 9 "less", dd 10 "none_row", dd 11 "cleared", dd 12 "dot", dd 17 "is_table", dd 18 "row_sum", dd 19 "row_less", dd 20 "flipped", dd 21 "row_applied", dd 22 "row_read", dd 24 "hand_sizes", dd 25 "check_hand", dd 26 "is_rules", dd 28 "is_moves", dd 29 "is_clock", dd 30 "is_steady", dd 31 "is_steady_program", dd 32 "is_play", dd 33 "sights", dd 34 "seen", dd 35 "cells_next", dd 36 "ticked", dd 37 "idle_moves", dd 38 "ruled_moves"] : List He.DefD) ++ ([dd 39 "played", dd 40 "idled", dd 41 "steadied", dd 42 "shown_along", dd 43 "check_ticks", dd 44 "apart", dd 45 "go_together", dd 46 "hand_goes", dd 47 "all_together", dd 49 "_law_lists", dd 50 "_law_same", dd 51 "_law_mill", dd 52 "_law_lone", dd 53 "_law_steady_ones", dd 54 "_law_played_right", dd 55 "_law_together_right", dd 56 "_law_great_right", dd 57 "_law_things_right", dd 58 "_law_more_things_right", dd 59 "_law_refused", dd 60 "_law_beyond_right", dd 61 "_law_words_right", dd 62 "law"] : List He.DefD) ++ ([ddI 14 "NoHand" "NoHand.__init__"] : List He.DefD)
def fa : List He.Fa := ([.glo "fixed", .glo "is_number", .glo "is_fraction", .glo "is_row", .glo "fraction", .glo "plus", .glo "less", .glo "none_row", .glo "cleared", .glo "dot", .glo "is_table", .glo "row_sum", .glo "row_less", .glo "flipped", .glo "row_applied", .glo "row_read", .glo "hand_sizes", .glo "check_hand", .glo "is_rules", .glo "is_moves", .glo "is_clock", .glo "is_steady", .glo "is_steady_program", .glo "is_play", .glo "sights", .glo "seen", .glo "cells_next", .glo "ticked", .glo "idle_moves", .glo "ruled_moves"] : List He.Fa) ++ ([.glo "played", .glo "idled", .glo "steadied", .glo "shown_along", .glo "check_ticks", .glo "apart", .glo "go_together", .glo "hand_goes", .glo "all_together", .glo "_law_lists", .glo "_law_same", .glo "_law_mill", .glo "_law_lone", .glo "_law_steady_ones", .glo "_law_played_right", .glo "_law_together_right", .glo "_law_great_right", .glo "_law_things_right", .glo "_law_more_things_right", .glo "_law_refused", .glo "_law_beyond_right", .glo "_law_words_right", .glo "law", .free "LookupError", .free "ValueError", .free "all", .free "bool", .free "enumerate", .free "int", .free "isinstance"] : List He.Fa) ++ ([.free "len", .free "list", .free "range", .free "str", .free "sum", .free "tuple", .free "zip", .glo "NONE", .glo "NoHand", .glo "Unfit", .exc "Unfit", .exm "NoHand" "NoHand" true, .exm "NoHand" "Unfit" false, .exm "Unfit" "NoHand" false, .exm "Unfit" "Unfit" true] : List He.Fa)
def chk (K : PySem.W.Frag) : Bool := (isVal K "gcd" (.builtin "math.gcd") && (isVal K "lcm" (.builtin "math.lcm") && (He.tupB K "NONE" [.int 0, .int 1] && (excB K (He.ga K "NoHand") && (expB K (He.ga K "NoHand") "hand" && (decide (PySem.W.kitOne K (.ref (He.ga K "NoHand")) (.type "LookupError") = some true) && (excB K (He.ga K "Unfit") && decide (PySem.W.kitOne K (.ref (He.ga K "Unfit")) (.type "ValueError") = some true))))))))
def loose : List PySem.Str := (["NONE", "fixed", "is_number", "is_fraction", "is_row", "fraction", "plus", "less", "none_row", "cleared", "dot", "NoHand", "Unfit", "is_table", "row_sum", "row_less", "flipped", "row_applied", "row_read", "hand_sizes", "check_hand", "is_rules", "is_moves", "is_clock", "is_steady", "is_steady_program", "is_play", "sights", "seen", "cells_next"] : List PySem.Str) ++ (["ticked", "idle_moves", "ruled_moves", "played", "idled", "steadied", "shown_along", "check_ticks", "apart", "go_together", "hand_goes", "all_together", "_law_lists", "_law_same", "_law_mill", "_law_lone", "_law_steady_ones", "_law_played_right", "_law_together_right", "_law_great_right", "_law_things_right", "_law_more_things_right", "_law_refused", "_law_beyond_right", "_law_words_right"] : List PySem.Str)
abbrev R : PySem.W.OpenRow := PySem.W.OpenLaw.row PySem.Challenge.rw_handsunread_k32_plays_by_hand_and_what_g
abbrev hk : PySem.W.Hook := hookX 4 fa fn chk
def ob (s : PySem.W.SharedT) : He.AlD × Bool := obsXG 4 fa fn chk (HandSHeadRun.getT s)
theorem ob_eq (s : PySem.W.SharedT) : ob s = hk.obs s.abs := obsXG_eq (HandSHeadRun.getT_eq s)
theorem run (w : World) : HandSHeadRun.RunEqI R (PySem.W.view R.prog [0, 62]) hk ob 20000 loose w := by
  unfold HandSHeadRun.RunEqI
  kernel_rfl
end K32
namespace K32
open PySem PySem.Spec L2 Ev
open PyProof.Rows hiding St
def xcA (G : Gd) : Nat → Addr
  | 0 => He.ga G.K "NoHand"
  | 1 => He.ga G.K "Unfit"
  | _ => 0
def fldK : Nat → Option Str
  | 0 => some "hand"
  | 1 => none
  | _ => none
abbrev XRK (G : Gd) : XRepT := XR1 G (xcA G) fldK
structure Cn (G : Gd) (mg : Str → Option Value) : Prop where
  f_LookupError : mg "LookupError" = none
  f_ValueError : mg "ValueError" = none
  f_all : mg "all" = none
  f_bool : mg "bool" = none
  f_enumerate : mg "enumerate" = none
  f_int : mg "int" = none
  f_isinstance : mg "isinstance" = none
  f_len : mg "len" = none
  f_list : mg "list" = none
  f_range : mg "range" = none
  f_str : mg "str" = none
  f_sum : mg "sum" = none
  f_tuple : mg "tuple" = none
  f_zip : mg "zip" = none
  g_gcd : mg "gcd" = some (.builtin "math.gcd")
  g_lcm : mg "lcm" = some (.builtin "math.lcm")
  g_NONE : GV G mg "NONE" (.tup [.int 0, .int 1])
  c_NoHand : mg "NoHand" = some (.ref (xcA G 0))
  e_NoHand : ExcC G.K (xcA G 0)
  m_NoHand_NoHand : PySem.W.exmOne G.K (.ref (xcA G 0)) (.ref (xcA G 0)) = some true
  m_NoHand_Unfit : PySem.W.exmOne G.K (.ref (xcA G 0)) (.ref (xcA G 1)) = some false
  t_NoHand_LookupError : PySem.W.kitOne G.K (.ref (xcA G 0)) (.type "LookupError") = some true
  p_NoHand : ExP G.K (xcA G 0) (He.ma G.K (xcA G 0) "__init__") "hand"
  n_NoHand : PySem.W.findIn G.K (.ref (xcA G 0)) "hand" = some none
  i_NoHand : IniF G.K (He.ma G.K (xcA G 0) "__init__") "NoHand.__init__" "self" "hand" "hand" (defArgs (initOf (top 14))) (defScope (initOf (top 14))) ⟨42, 8, 42, 12⟩ ⟨42, 8, 42, 17⟩ ⟨42, 20, 42, 24⟩ ⟨42, 8, 42, 24⟩
  c_Unfit : mg "Unfit" = some (.ref (xcA G 1))
  e_Unfit : ExcC G.K (xcA G 1)
  m_Unfit_NoHand : PySem.W.exmOne G.K (.ref (xcA G 1)) (.ref (xcA G 0)) = some false
  m_Unfit_Unfit : PySem.W.exmOne G.K (.ref (xcA G 1)) (.ref (xcA G 1)) = some true
  t_Unfit_ValueError : PySem.W.kitOne G.K (.ref (xcA G 1)) (.type "ValueError") = some true
  q_Unfit : PySem.W.excIn G.K (xcA G 1) He.veBase "ValueError.__new__" = true
  k_Unfit : PySem.W.keepIn G.K (.ref (xcA G 1)) = true
  s_Unfit : PySem.W.subIn G.K (.ref (xcA G 1)) (.type "BaseException") = some true
  y_Unfit : PySem.W.typeIn G.K (.ref (xcA G 1)) = some (.type "type")
theorem nm_NONE : Nm "NONE" := ⟨by decide +kernel, by decide +kernel⟩
theorem nm_NoHand : Nm "NoHand" := ⟨by decide +kernel, by decide +kernel⟩
theorem nm_Unfit : Nm "Unfit" := ⟨by decide +kernel, by decide +kernel⟩
theorem nm__law_beyond_right : Nm "_law_beyond_right" := ⟨by decide +kernel, by decide +kernel⟩
theorem nm__law_great_right : Nm "_law_great_right" := ⟨by decide +kernel, by decide +kernel⟩
theorem nm__law_lists : Nm "_law_lists" := ⟨by decide +kernel, by decide +kernel⟩
theorem nm__law_lone : Nm "_law_lone" := ⟨by decide +kernel, by decide +kernel⟩
theorem nm__law_mill : Nm "_law_mill" := ⟨by decide +kernel, by decide +kernel⟩
theorem nm__law_more_things_right : Nm "_law_more_things_right" := ⟨by decide +kernel, by decide +kernel⟩
theorem nm__law_played_right : Nm "_law_played_right" := ⟨by decide +kernel, by decide +kernel⟩
theorem nm__law_refused : Nm "_law_refused" := ⟨by decide +kernel, by decide +kernel⟩
theorem nm__law_same : Nm "_law_same" := ⟨by decide +kernel, by decide +kernel⟩
theorem nm__law_steady_ones : Nm "_law_steady_ones" := ⟨by decide +kernel, by decide +kernel⟩
theorem nm__law_things_right : Nm "_law_things_right" := ⟨by decide +kernel, by decide +kernel⟩
theorem nm__law_together_right : Nm "_law_together_right" := ⟨by decide +kernel, by decide +kernel⟩
theorem nm__law_words_right : Nm "_law_words_right" := ⟨by decide +kernel, by decide +kernel⟩
theorem nm_act_so : Nm "act_so" := ⟨by decide +kernel, by decide +kernel⟩
theorem nm_acted_so : Nm "acted_so" := ⟨by decide +kernel, by decide +kernel⟩
theorem nm_after : Nm "after" := ⟨by decide +kernel, by decide +kernel⟩
theorem nm_ahead : Nm "ahead" := ⟨by decide +kernel, by decide +kernel⟩
theorem nm_all_together : Nm "all_together" := ⟨by decide +kernel, by decide +kernel⟩
theorem nm_apart : Nm "apart" := ⟨by decide +kernel, by decide +kernel⟩
theorem nm_bare_so : Nm "bare_so" := ⟨by decide +kernel, by decide +kernel⟩
theorem nm_bit : Nm "bit" := ⟨by decide +kernel, by decide +kernel⟩
theorem nm_blind_so : Nm "blind_so" := ⟨by decide +kernel, by decide +kernel⟩
theorem nm_both_so : Nm "both_so" := ⟨by decide +kernel, by decide +kernel⟩
theorem nm_bottom : Nm "bottom" := ⟨by decide +kernel, by decide +kernel⟩
theorem nm_calm_so : Nm "calm_so" := ⟨by decide +kernel, by decide +kernel⟩
theorem nm_cells : Nm "cells" := ⟨by decide +kernel, by decide +kernel⟩
theorem nm_cells_next : Nm "cells_next" := ⟨by decide +kernel, by decide +kernel⟩
theorem nm_cells_so : Nm "cells_so" := ⟨by decide +kernel, by decide +kernel⟩
theorem nm_check_hand : Nm "check_hand" := ⟨by decide +kernel, by decide +kernel⟩
theorem nm_check_ticks : Nm "check_ticks" := ⟨by decide +kernel, by decide +kernel⟩
theorem nm_cleared : Nm "cleared" := ⟨by decide +kernel, by decide +kernel⟩
theorem nm_clock : Nm "clock" := ⟨by decide +kernel, by decide +kernel⟩
theorem nm_clock_so : Nm "clock_so" := ⟨by decide +kernel, by decide +kernel⟩
theorem nm_column : Nm "column" := ⟨by decide +kernel, by decide +kernel⟩
theorem nm_coming : Nm "coming" := ⟨by decide +kernel, by decide +kernel⟩
theorem nm_doings : Nm "doings" := ⟨by decide +kernel, by decide +kernel⟩
theorem nm_dot : Nm "dot" := ⟨by decide +kernel, by decide +kernel⟩
theorem nm_due : Nm "due" := ⟨by decide +kernel, by decide +kernel⟩
theorem nm_far_so : Nm "far_so" := ⟨by decide +kernel, by decide +kernel⟩
theorem nm_fine_so : Nm "fine_so" := ⟨by decide +kernel, by decide +kernel⟩
theorem nm_first : Nm "first" := ⟨by decide +kernel, by decide +kernel⟩
theorem nm_first_so : Nm "first_so" := ⟨by decide +kernel, by decide +kernel⟩
theorem nm_fixed : Nm "fixed" := ⟨by decide +kernel, by decide +kernel⟩
theorem nm_flaw : Nm "flaw" := ⟨by decide +kernel, by decide +kernel⟩
theorem nm_flipped : Nm "flipped" := ⟨by decide +kernel, by decide +kernel⟩
theorem nm_found : Nm "found" := ⟨by decide +kernel, by decide +kernel⟩
theorem nm_four_so : Nm "four_so" := ⟨by decide +kernel, by decide +kernel⟩
theorem nm_fraction : Nm "fraction" := ⟨by decide +kernel, by decide +kernel⟩
theorem nm_gauges : Nm "gauges" := ⟨by decide +kernel, by decide +kernel⟩
theorem nm_gcd : Nm "gcd" := ⟨by decide +kernel, by decide +kernel⟩
theorem nm_go_together : Nm "go_together" := ⟨by decide +kernel, by decide +kernel⟩
theorem nm_good_so : Nm "good_so" := ⟨by decide +kernel, by decide +kernel⟩
theorem nm_got : Nm "got" := ⟨by decide +kernel, by decide +kernel⟩
theorem nm_hand : Nm "hand" := ⟨by decide +kernel, by decide +kernel⟩
theorem nm_hand_goes : Nm "hand_goes" := ⟨by decide +kernel, by decide +kernel⟩
theorem nm_hand_sizes : Nm "hand_sizes" := ⟨by decide +kernel, by decide +kernel⟩
theorem nm_hears : Nm "hears" := ⟨by decide +kernel, by decide +kernel⟩
theorem nm_idle_moves : Nm "idle_moves" := ⟨by decide +kernel, by decide +kernel⟩
theorem nm_idle_so : Nm "idle_so" := ⟨by decide +kernel, by decide +kernel⟩
theorem nm_idled : Nm "idled" := ⟨by decide +kernel, by decide +kernel⟩
theorem nm_is_clock : Nm "is_clock" := ⟨by decide +kernel, by decide +kernel⟩
theorem nm_is_fraction : Nm "is_fraction" := ⟨by decide +kernel, by decide +kernel⟩
theorem nm_is_moves : Nm "is_moves" := ⟨by decide +kernel, by decide +kernel⟩
theorem nm_is_number : Nm "is_number" := ⟨by decide +kernel, by decide +kernel⟩
theorem nm_is_play : Nm "is_play" := ⟨by decide +kernel, by decide +kernel⟩
theorem nm_is_row : Nm "is_row" := ⟨by decide +kernel, by decide +kernel⟩
theorem nm_is_rules : Nm "is_rules" := ⟨by decide +kernel, by decide +kernel⟩
theorem nm_is_steady : Nm "is_steady" := ⟨by decide +kernel, by decide +kernel⟩
theorem nm_is_steady_program : Nm "is_steady_program" := ⟨by decide +kernel, by decide +kernel⟩
theorem nm_is_table : Nm "is_table" := ⟨by decide +kernel, by decide +kernel⟩
theorem nm_its : Nm "its" := ⟨by decide +kernel, by decide +kernel⟩
theorem nm_k : Nm "k" := ⟨by decide +kernel, by decide +kernel⟩
theorem nm_keeps : Nm "keeps" := ⟨by decide +kernel, by decide +kernel⟩
theorem nm_later_so : Nm "later_so" := ⟨by decide +kernel, by decide +kernel⟩
theorem nm_lcm : Nm "lcm" := ⟨by decide +kernel, by decide +kernel⟩
theorem nm_less : Nm "less" := ⟨by decide +kernel, by decide +kernel⟩
theorem nm_levers : Nm "levers" := ⟨by decide +kernel, by decide +kernel⟩
theorem nm_levers_so : Nm "levers_so" := ⟨by decide +kernel, by decide +kernel⟩
theorem nm_line : Nm "line" := ⟨by decide +kernel, by decide +kernel⟩
theorem nm_line_so : Nm "line_so" := ⟨by decide +kernel, by decide +kernel⟩
theorem nm_lone_so : Nm "lone_so" := ⟨by decide +kernel, by decide +kernel⟩
theorem nm_long : Nm "long" := ⟨by decide +kernel, by decide +kernel⟩
theorem nm_low : Nm "low" := ⟨by decide +kernel, by decide +kernel⟩
theorem nm_many : Nm "many" := ⟨by decide +kernel, by decide +kernel⟩
theorem nm_matter : Nm "matter" := ⟨by decide +kernel, by decide +kernel⟩
theorem nm_memories : Nm "memories" := ⟨by decide +kernel, by decide +kernel⟩
theorem nm_memory : Nm "memory" := ⟨by decide +kernel, by decide +kernel⟩
theorem nm_mill_so : Nm "mill_so" := ⟨by decide +kernel, by decide +kernel⟩
theorem nm_mine : Nm "mine" := ⟨by decide +kernel, by decide +kernel⟩
theorem nm_mixed_so : Nm "mixed_so" := ⟨by decide +kernel, by decide +kernel⟩
theorem nm_moves : Nm "moves" := ⟨by decide +kernel, by decide +kernel⟩
theorem nm_near_so : Nm "near_so" := ⟨by decide +kernel, by decide +kernel⟩
theorem nm_next_so : Nm "next_so" := ⟨by decide +kernel, by decide +kernel⟩
theorem nm_nil_so : Nm "nil_so" := ⟨by decide +kernel, by decide +kernel⟩
theorem nm_none_row : Nm "none_row" := ⟨by decide +kernel, by decide +kernel⟩
theorem nm_none_so : Nm "none_so" := ⟨by decide +kernel, by decide +kernel⟩
theorem nm_odd_so : Nm "odd_so" := ⟨by decide +kernel, by decide +kernel⟩
theorem nm_one : Nm "one" := ⟨by decide +kernel, by decide +kernel⟩
theorem nm_other : Nm "other" := ⟨by decide +kernel, by decide +kernel⟩
theorem nm_others : Nm "others" := ⟨by decide +kernel, by decide +kernel⟩
theorem nm_own : Nm "own" := ⟨by decide +kernel, by decide +kernel⟩
theorem nm_part : Nm "part" := ⟨by decide +kernel, by decide +kernel⟩
theorem nm_plant : Nm "plant" := ⟨by decide +kernel, by decide +kernel⟩
theorem nm_play : Nm "play" := ⟨by decide +kernel, by decide +kernel⟩
theorem nm_play_so : Nm "play_so" := ⟨by decide +kernel, by decide +kernel⟩
theorem nm_played : Nm "played" := ⟨by decide +kernel, by decide +kernel⟩
theorem nm_plus : Nm "plus" := ⟨by decide +kernel, by decide +kernel⟩
theorem nm_program : Nm "program" := ⟨by decide +kernel, by decide +kernel⟩
theorem nm_reading : Nm "reading" := ⟨by decide +kernel, by decide +kernel⟩
theorem nm_row : Nm "row" := ⟨by decide +kernel, by decide +kernel⟩
theorem nm_row_applied : Nm "row_applied" := ⟨by decide +kernel, by decide +kernel⟩
theorem nm_row_less : Nm "row_less" := ⟨by decide +kernel, by decide +kernel⟩
theorem nm_row_read : Nm "row_read" := ⟨by decide +kernel, by decide +kernel⟩
theorem nm_row_sum : Nm "row_sum" := ⟨by decide +kernel, by decide +kernel⟩
theorem nm_rows : Nm "rows" := ⟨by decide +kernel, by decide +kernel⟩
theorem nm_rule : Nm "rule" := ⟨by decide +kernel, by decide +kernel⟩
theorem nm_ruled_moves : Nm "ruled_moves" := ⟨by decide +kernel, by decide +kernel⟩
theorem nm_rules : Nm "rules" := ⟨by decide +kernel, by decide +kernel⟩
theorem nm_rules_so : Nm "rules_so" := ⟨by decide +kernel, by decide +kernel⟩
theorem nm_second : Nm "second" := ⟨by decide +kernel, by decide +kernel⟩
theorem nm_seen : Nm "seen" := ⟨by decide +kernel, by decide +kernel⟩
theorem nm_share : Nm "share" := ⟨by decide +kernel, by decide +kernel⟩
theorem nm_shown_along : Nm "shown_along" := ⟨by decide +kernel, by decide +kernel⟩
theorem nm_shows : Nm "shows" := ⟨by decide +kernel, by decide +kernel⟩
theorem nm_sights : Nm "sights" := ⟨by decide +kernel, by decide +kernel⟩
theorem nm_soft : Nm "soft" := ⟨by decide +kernel, by decide +kernel⟩
theorem nm_steadied : Nm "steadied" := ⟨by decide +kernel, by decide +kernel⟩
theorem nm_steady : Nm "steady" := ⟨by decide +kernel, by decide +kernel⟩
theorem nm_still_so : Nm "still_so" := ⟨by decide +kernel, by decide +kernel⟩
theorem nm_swap_so : Nm "swap_so" := ⟨by decide +kernel, by decide +kernel⟩
theorem nm_table : Nm "table" := ⟨by decide +kernel, by decide +kernel⟩
theorem nm_tells : Nm "tells" := ⟨by decide +kernel, by decide +kernel⟩
theorem nm_there_so : Nm "there_so" := ⟨by decide +kernel, by decide +kernel⟩
theorem nm_thing : Nm "thing" := ⟨by decide +kernel, by decide +kernel⟩
theorem nm_tick : Nm "tick" := ⟨by decide +kernel, by decide +kernel⟩
theorem nm_ticked : Nm "ticked" := ⟨by decide +kernel, by decide +kernel⟩
theorem nm_ticks : Nm "ticks" := ⟨by decide +kernel, by decide +kernel⟩
theorem nm_told_so : Nm "told_so" := ⟨by decide +kernel, by decide +kernel⟩
theorem nm_top : Nm "top" := ⟨by decide +kernel, by decide +kernel⟩
theorem nm_tops : Nm "tops" := ⟨by decide +kernel, by decide +kernel⟩
theorem nm_unit_so : Nm "unit_so" := ⟨by decide +kernel, by decide +kernel⟩
theorem nm_value : Nm "value" := ⟨by decide +kernel, by decide +kernel⟩
theorem nm_wide_so : Nm "wide_so" := ⟨by decide +kernel, by decide +kernel⟩
theorem nm_word_so : Nm "word_so" := ⟨by decide +kernel, by decide +kernel⟩
theorem bn_LookupError : BN "LookupError" (.type "LookupError") := ⟨by decide +kernel, by decide +kernel, by decide +kernel⟩
theorem bn_ValueError : BN "ValueError" (.type "ValueError") := ⟨by decide +kernel, by decide +kernel, by decide +kernel⟩
theorem bn_all : BN "all" (.builtin "all") := ⟨by decide +kernel, by decide +kernel, by decide +kernel⟩
theorem bn_bool : BN "bool" (.type "bool") := ⟨by decide +kernel, by decide +kernel, by decide +kernel⟩
theorem bn_int : BN "int" (.type "int") := ⟨by decide +kernel, by decide +kernel, by decide +kernel⟩
theorem bn_len : BN "len" (.builtin "len") := ⟨by decide +kernel, by decide +kernel, by decide +kernel⟩
theorem bn_list : BN "list" (.type "list") := ⟨by decide +kernel, by decide +kernel, by decide +kernel⟩
theorem bn_str : BN "str" (.type "str") := ⟨by decide +kernel, by decide +kernel, by decide +kernel⟩
theorem bn_sum : BN "sum" (.builtin "sum") := ⟨by decide +kernel, by decide +kernel, by decide +kernel⟩
theorem bn_tuple : BN "tuple" (.type "tuple") := ⟨by decide +kernel, by decide +kernel, by decide +kernel⟩
abbrev N__law_mill : List Str := ["nil_so", "unit_so", "first_so", "blind_so", "idle_so"]
theorem nd__law_mill : (N__law_mill).Nodup := by decide +kernel
theorem sc__law_mill : FnScope N__law_mill ([] : List Str) (defScope (top 51)) := ⟨rfl, rfl, rfl, nd__law_mill, rfl, by decide +kernel, by decide +kernel⟩
noncomputable def T__law_mill : { fb : FS // ∀ {P : Program} {w : World} {G : Gd} {mg : Str → Option Value} {base : Heap} {k : Nat} (C : Cn G mg) (a : Addr) (cdv : Value) (A : Around) (outer : List Env) (s : Shared) (H : Hp) (E : XK), Room k (bodyX P w G.K mg base N__law_mill "_law_mill" (defScope (top 51)) a cdv A outer s H E).A → PSsd G (XRK G) (bodyX P w G.K mg base N__law_mill "_law_mill" (defScope (top 51)) a cdv A outer s H E) (WE0 E) (defBody (top 51)) fb } :=
  ⟨_, fun {P w G mg base k} C a cdv A outer s H E hr =>
  have ow : PassesOwn (model P w) (bodyX P w G.K mg base N__law_mill "_law_mill" (defScope (top 51)) a cdv A outer s H E).A (bodyX P w G.K mg base N__law_mill "_law_mill" (defScope (top 51)) a cdv A outer s H E).env (bodyX P w G.K mg base N__law_mill "_law_mill" (defScope (top 51)) a cdv A outer s H E).xe := own_body
  have c : Cc G (bodyX P w G.K mg base N__law_mill "_law_mill" (defScope (top 51)) a cdv A outer s H E) (WE0 E) k := ⟨rfl, rfl, nd__law_mill, hr, takes_body⟩
  (pssd_cons (by first | exact psd_par c.calm c.nd (i := 0) (j := 1) rfl rfl (by decide) rfl rfl (pad_cons (ped_tupN (pad_cons d_int (pad_cons d_int pad_nil rfl) rfl) (lenA_cons (lenA_cons lenA_nil)) rfl) (pad_cons (ped_tupN (pad_cons d_int (pad_cons d_int pad_nil rfl) rfl) (lenA_cons (lenA_cons lenA_nil)) rfl) pad_nil rfl) rfl) rfl | exact psd_tup (ped_tupN (pad_cons (ped_tupN (pad_cons d_int (pad_cons d_int pad_nil rfl) rfl) (lenA_cons (lenA_cons lenA_nil)) rfl) (pad_cons (ped_tupN (pad_cons d_int (pad_cons d_int pad_nil rfl) rfl) (lenA_cons (lenA_cons lenA_nil)) rfl) pad_nil rfl) rfl) (lenA_cons (lenA_cons lenA_nil)) rfl) (pgd_many c.K c.calm rfl rfl (gs_cons 0 c.nd rfl rfl rfl (gs_cons 1 c.nd rfl rfl rfl pgsd_nil))) rfl rfl)
  (pssd_cons (s_set 2 c rfl rfl rfl (ped_tupN (pad_cons (ped_tupN (pad_cons (ped_tupN (pad_cons (d_var 1 nm_unit_so rfl rfl) (pad_cons (d_var 0 nm_nil_so rfl rfl) pad_nil rfl) rfl) (lenA_cons (lenA_cons lenA_nil)) rfl) pad_nil rfl) (lenA_cons lenA_nil) rfl) (pad_cons (ped_tupN (pad_cons (ped_tupN (pad_cons (d_var 0 nm_nil_so rfl rfl) (pad_cons (d_var 1 nm_unit_so rfl rfl) pad_nil rfl) rfl) (lenA_cons (lenA_cons lenA_nil)) rfl) pad_nil rfl) (lenA_cons lenA_nil) rfl) pad_nil rfl) rfl) (lenA_cons (lenA_cons lenA_nil)) rfl) rfl)
  (pssd_cons (by first | exact psd_par c.calm c.nd (i := 3) (j := 4) rfl rfl (by decide) rfl rfl (pad_cons (ped_tupN (pad_cons (ped_tupN (pad_cons (ped_tupN (pad_cons (d_var 0 nm_nil_so rfl rfl) (pad_cons (d_var 1 nm_unit_so rfl rfl) pad_nil rfl) rfl) (lenA_cons (lenA_cons lenA_nil)) rfl) (pad_cons (ped_tupN (pad_cons (d_var 1 nm_unit_so rfl rfl) (pad_cons (ped_tupN (pad_cons (ped_un und_neg d_int) (pad_cons d_int pad_nil rfl) rfl) (lenA_cons (lenA_cons lenA_nil)) rfl) pad_nil rfl) rfl) (lenA_cons (lenA_cons lenA_nil)) rfl) pad_nil rfl) rfl) (lenA_cons (lenA_cons lenA_nil)) rfl) (pad_cons (ped_tupN pad_nil lenA_nil rfl) pad_nil rfl) rfl) (lenA_cons (lenA_cons lenA_nil)) rfl) (pad_cons (ped_tupN (pad_cons (ped_tupN pad_nil lenA_nil rfl) (pad_cons (ped_tupN (pad_cons (ped_tupN (pad_cons (d_var 1 nm_unit_so rfl rfl) (pad_cons (d_var 1 nm_unit_so rfl rfl) pad_nil rfl) rfl) (lenA_cons (lenA_cons lenA_nil)) rfl) (pad_cons (ped_tupN (pad_cons (ped_tupN (pad_cons d_int (pad_cons d_int pad_nil rfl) rfl) (lenA_cons (lenA_cons lenA_nil)) rfl) (pad_cons (d_var 0 nm_nil_so rfl rfl) pad_nil rfl) rfl) (lenA_cons (lenA_cons lenA_nil)) rfl) pad_nil rfl) rfl) (lenA_cons (lenA_cons lenA_nil)) rfl) pad_nil rfl) rfl) (lenA_cons (lenA_cons lenA_nil)) rfl) pad_nil rfl) rfl) rfl | exact psd_tup (ped_tupN (pad_cons (ped_tupN (pad_cons (ped_tupN (pad_cons (ped_tupN (pad_cons (d_var 0 nm_nil_so rfl rfl) (pad_cons (d_var 1 nm_unit_so rfl rfl) pad_nil rfl) rfl) (lenA_cons (lenA_cons lenA_nil)) rfl) (pad_cons (ped_tupN (pad_cons (d_var 1 nm_unit_so rfl rfl) (pad_cons (ped_tupN (pad_cons (ped_un und_neg d_int) (pad_cons d_int pad_nil rfl) rfl) (lenA_cons (lenA_cons lenA_nil)) rfl) pad_nil rfl) rfl) (lenA_cons (lenA_cons lenA_nil)) rfl) pad_nil rfl) rfl) (lenA_cons (lenA_cons lenA_nil)) rfl) (pad_cons (ped_tupN pad_nil lenA_nil rfl) pad_nil rfl) rfl) (lenA_cons (lenA_cons lenA_nil)) rfl) (pad_cons (ped_tupN (pad_cons (ped_tupN pad_nil lenA_nil rfl) (pad_cons (ped_tupN (pad_cons (ped_tupN (pad_cons (d_var 1 nm_unit_so rfl rfl) (pad_cons (d_var 1 nm_unit_so rfl rfl) pad_nil rfl) rfl) (lenA_cons (lenA_cons lenA_nil)) rfl) (pad_cons (ped_tupN (pad_cons (ped_tupN (pad_cons d_int (pad_cons d_int pad_nil rfl) rfl) (lenA_cons (lenA_cons lenA_nil)) rfl) (pad_cons (d_var 0 nm_nil_so rfl rfl) pad_nil rfl) rfl) (lenA_cons (lenA_cons lenA_nil)) rfl) pad_nil rfl) rfl) (lenA_cons (lenA_cons lenA_nil)) rfl) pad_nil rfl) rfl) (lenA_cons (lenA_cons lenA_nil)) rfl) pad_nil rfl) rfl) (lenA_cons (lenA_cons lenA_nil)) rfl) (pgd_many c.K c.calm rfl rfl (gs_cons 3 c.nd rfl rfl rfl (gs_cons 4 c.nd rfl rfl rfl pgsd_nil))) rfl rfl)
  (pssd_cons (psd_ret (ped_tupN (pad_cons (ped_tupN (pad_cons (ped_tupN (pad_cons (ped_tupN (pad_cons d_int (pad_cons d_int pad_nil rfl) rfl) (lenA_cons (lenA_cons lenA_nil)) rfl) (pad_cons (d_var 0 nm_nil_so rfl rfl) pad_nil rfl) rfl) (lenA_cons (lenA_cons lenA_nil)) rfl) (pad_cons (ped_tupN (pad_cons (d_var 1 nm_unit_so rfl rfl) (pad_cons (d_var 1 nm_unit_so rfl rfl) pad_nil rfl) rfl) (lenA_cons (lenA_cons lenA_nil)) rfl) pad_nil rfl) rfl) (lenA_cons (lenA_cons lenA_nil)) rfl) (pad_cons (ped_tupN (pad_cons (d_var 2 nm_first_so rfl rfl) (pad_cons (d_var 3 nm_blind_so rfl rfl) (pad_cons (d_var 4 nm_idle_so rfl rfl) pad_nil rfl) rfl) rfl) (lenA_cons (lenA_cons (lenA_cons lenA_nil))) rfl) pad_nil rfl) rfl) (lenA_cons (lenA_cons lenA_nil)) rfl))
  pssd_nil))))⟩
noncomputable def S__law_mill : FN := callD 5 T__law_mill.1
theorem ok__law_mill {P : Program} {w : World} {G : Gd} {mg : Str → Option Value} {base : Heap} {k : Nat} (C : Cn G mg) {a : Addr} {fd : FuncData} (F : FunD G.K "_law_mill" "_law_mill" (defArgs (top 51)) (defBody (top 51)) (defScope (top 51)) [] [] a fd) (hm : mg "_law_mill" = some (.ref a)) : Fn P w G (XRK G) mg base (k + 1) "_law_mill" (defArgs (top 51)) 0 S__law_mill :=
  fn_mk (k := k) (N := N__law_mill) (ps := ([] : List Str)) (xr1_ok _ _ _) F sc__law_mill hm rfl rfl (fun _ _ _ _ _ _ us hl => match us, hl with | [], _ => rfl) (fun cdv A outer s H E hr => T__law_mill.2 C a cdv A outer s H E hr)

abbrev N__law_same : List Str := ["got", "due", "mine", "its"]
theorem nd__law_same : (N__law_same).Nodup := by decide +kernel
theorem sc__law_same : FnScope N__law_same (["got", "due"] : List Str) (defScope (top 50)) := ⟨rfl, rfl, rfl, nd__law_same, rfl, by decide +kernel, by decide +kernel⟩
noncomputable def T__law_same (rec : FN) : { fb : FS // ∀ {P : Program} {w : World} {G : Gd} {mg : Str → Option Value} {base : Heap} {k : Nat} (C : Cn G mg) (h__law_same : Fn P w G (XRK G) mg base k "_law_same" (defArgs (top 50)) 2 rec) (a : Addr) (cdv : Value) (A : Around) (outer : List Env) (s : Shared) (H : Hp) (E : XK), Room k (bodyX P w G.K mg base N__law_same "_law_same" (defScope (top 50)) a cdv A outer s H E).A → PSsd G (XRK G) (bodyX P w G.K mg base N__law_same "_law_same" (defScope (top 50)) a cdv A outer s H E) (WE0 E) (defBody (top 50)) fb } :=
  ⟨_, fun {P w G mg base k} C h__law_same a cdv A outer s H E hr =>
  have ow : PassesOwn (model P w) (bodyX P w G.K mg base N__law_same "_law_same" (defScope (top 50)) a cdv A outer s H E).A (bodyX P w G.K mg base N__law_same "_law_same" (defScope (top 50)) a cdv A outer s H E).env (bodyX P w G.K mg base N__law_same "_law_same" (defScope (top 50)) a cdv A outer s H E).xe := own_body
  have c : Cc G (bodyX P w G.K mg base N__law_same "_law_same" (defScope (top 50)) a cdv A outer s H E) (WE0 E) k := ⟨rfl, rfl, nd__law_same, hr, takes_body⟩
  (pssd_cons (psd_if (pcd_truth c.K (ped_isiN c.K rfl C.f_isinstance (d_var 1 nm_due rfl rfl) (pcls_cons (n := 5) rfl C.f_list bn_list.boot bn_list.ne bn_list.db (pcls_cons (n := 4) rfl C.f_tuple bn_tuple.boot bn_tuple.ne bn_tuple.db pcls_nil rfl) rfl) (by decide) (by decide) rfl rfl rfl) (fun _ => rfl)) (pssd_cons (psd_if (PWd.pcd (pwd_or (pcd_cmp (opd_ne c.K c.room.units) (ped_isi1 c.K rfl C.f_isinstance (d_var 0 nm_got rfl rfl) (pcls_cons (n := 5) rfl C.f_list bn_list.boot bn_list.ne bn_list.db pcls_nil rfl) rfl rfl rfl) (ped_isi1 c.K rfl C.f_isinstance (d_var 1 nm_due rfl rfl) (pcls_cons (n := 5) rfl C.f_list bn_list.boot bn_list.ne bn_list.db pcls_nil rfl) rfl rfl rfl) rfl) (pwd_or1 (pcd_cmp (opd_ne c.K c.room.units) (ped_isi1 c.K rfl C.f_isinstance (d_var 0 nm_got rfl rfl) (pcls_cons (n := 4) rfl C.f_tuple bn_tuple.boot bn_tuple.ne bn_tuple.db pcls_nil rfl) rfl rfl rfl) (ped_isi1 c.K rfl C.f_isinstance (d_var 1 nm_due rfl rfl) (pcls_cons (n := 4) rfl C.f_tuple bn_tuple.boot bn_tuple.ne bn_tuple.db pcls_nil rfl) rfl rfl rfl) rfl)))) (pssd_cons (psd_ret d_bl)
  pssd_nil) pssd_nil)
  (pssd_cons (psd_ret (ped_and c.K (ped_cmp (opd_eq c.K c.room.units) (d_callB (calld_len c.K) bn_len C.f_len rfl (pad_cons (d_var 0 nm_got rfl rfl) pad_nil rfl) rfl rfl) (d_callB (calld_len c.K) bn_len C.f_len rfl (pad_cons (d_var 1 nm_due rfl rfl) pad_nil rfl) rfl rfl) rfl) (ped_one (d_callB (calld_all c.K c.calm) bn_all C.f_all rfl (pad_cons (ped_of_pld (d_comp c [("mine", 2), ("its", 3)] (.many [2, 3]) (pid_zip2 c.K rfl C.f_zip (pad_cons (d_var 0 nm_got rfl rfl) (pad_cons (d_var 1 nm_due rfl rfl) pad_nil rfl) rfl) rfl rfl) (by kernel_rfl) rfl (fun _ _ _ _ _ => (pgd_many c.K c.calm rfl rfl (gs_cons 2 c.nd rfl rfl rfl (gs_cons 3 c.nd rfl rfl rfl pgsd_nil)))) (fun _ _ _ _ _ => ptsd_nil) (fun _ _ _ _ _ => (d_call c.blk h__law_same nm__law_same rfl (pad_cons (d_var 2 nm_mine rfl rfl) (pad_cons (d_var 3 nm_its rfl rfl) pad_nil rfl) rfl) rfl rfl)) (fun _ => rfl))) pad_nil rfl) rfl rfl))))
  pssd_nil)) pssd_nil)
  (pssd_cons (psd_if (PWd.pcd (pwd_or (pcd_cmp opd_is (d_var 1 nm_due rfl rfl) d_non rfl) (pwd_or1 (pcd_truth c.K (ped_isiN c.K rfl C.f_isinstance (d_var 1 nm_due rfl rfl) (pcls_cons (n := 1) rfl C.f_bool bn_bool.boot bn_bool.ne bn_bool.db (pcls_cons (n := 3) rfl C.f_str bn_str.boot bn_str.ne bn_str.db pcls_nil rfl) rfl) (by decide) (by decide) rfl rfl rfl) (fun _ => rfl))))) (pssd_cons (psd_ret (ped_and c.K (ped_cmp (opd_eq c.K c.room.units) (d_var 0 nm_got rfl rfl) (d_var 1 nm_due rfl rfl) rfl) (ped_and c.K (ped_cmp (opd_eq c.K c.room.units) (ped_isi1 c.K rfl C.f_isinstance (d_var 0 nm_got rfl rfl) (pcls_cons (n := 1) rfl C.f_bool bn_bool.boot bn_bool.ne bn_bool.db pcls_nil rfl) rfl rfl rfl) (ped_isi1 c.K rfl C.f_isinstance (d_var 1 nm_due rfl rfl) (pcls_cons (n := 1) rfl C.f_bool bn_bool.boot bn_bool.ne bn_bool.db pcls_nil rfl) rfl rfl rfl) rfl) (ped_one (ped_cmp (opd_eq c.K c.room.units) (ped_cmp opd_is (d_var 0 nm_got rfl rfl) d_non rfl) (ped_cmp opd_is (d_var 1 nm_due rfl rfl) d_non rfl) rfl)))))
  pssd_nil) pssd_nil)
  (pssd_cons (psd_ret (ped_and c.K (ped_isi1 c.K rfl C.f_isinstance (d_var 0 nm_got rfl rfl) (pcls_cons (n := 2) rfl C.f_int bn_int.boot bn_int.ne bn_int.db pcls_nil rfl) rfl rfl rfl) (ped_and c.K (ped_not c.K (ped_isi1 c.K rfl C.f_isinstance (d_var 0 nm_got rfl rfl) (pcls_cons (n := 1) rfl C.f_bool bn_bool.boot bn_bool.ne bn_bool.db pcls_nil rfl) rfl rfl rfl)) (ped_one (ped_cmp (opd_eq c.K c.room.units) (d_var 0 nm_got rfl rfl) (d_var 1 nm_due rfl rfl) rfl)))))
  pssd_nil)))⟩
noncomputable def S__law_same : Nat → FN
  | 0 => fun _ _ => .bad
  | j + 1 => callD 4 (T__law_same (S__law_same j)).1
theorem ok__law_same {P : Program} {w : World} {G : Gd} {mg : Str → Option Value} {base : Heap} (C : Cn G mg) {a : Addr} {fd : FuncData} (F : FunD G.K "_law_same" "_law_same" (defArgs (top 50)) (defBody (top 50)) (defScope (top 50)) [] [] a fd) (hm : mg "_law_same" = some (.ref a)) : ∀ j, Fn P w G (XRK G) mg base j "_law_same" (defArgs (top 50)) 2 (S__law_same j)
  | 0 => fn_bad (ps := (["got", "due"] : List Str)) F hm rfl rfl (fun _ _ _ _ _ _ us hl => match us, hl with | [a0, a1], _ => rfl)
  | j + 1 => fn_mk (N := N__law_same) (ps := (["got", "due"] : List Str)) (xr1_ok _ _ _) F sc__law_same hm rfl rfl (fun _ _ _ _ _ _ us hl => match us, hl with | [a0, a1], _ => rfl) (fun cdv A outer s H E hr => (T__law_same (S__law_same j)).2 C (ok__law_same C F hm j) a cdv A outer s H E hr)

abbrev N__law_steady_ones : List Str := ["first_so", "swap_so"]
theorem nd__law_steady_ones : (N__law_steady_ones).Nodup := by decide +kernel
theorem sc__law_steady_ones : FnScope N__law_steady_ones ([] : List Str) (defScope (top 53)) := ⟨rfl, rfl, rfl, nd__law_steady_ones, rfl, by decide +kernel, by decide +kernel⟩
noncomputable def T__law_steady_ones : { fb : FS // ∀ {P : Program} {w : World} {G : Gd} {mg : Str → Option Value} {base : Heap} {k : Nat} (C : Cn G mg) (a : Addr) (cdv : Value) (A : Around) (outer : List Env) (s : Shared) (H : Hp) (E : XK), Room k (bodyX P w G.K mg base N__law_steady_ones "_law_steady_ones" (defScope (top 53)) a cdv A outer s H E).A → PSsd G (XRK G) (bodyX P w G.K mg base N__law_steady_ones "_law_steady_ones" (defScope (top 53)) a cdv A outer s H E) (WE0 E) (defBody (top 53)) fb } :=
  ⟨_, fun {P w G mg base k} C a cdv A outer s H E hr =>
  have ow : PassesOwn (model P w) (bodyX P w G.K mg base N__law_steady_ones "_law_steady_ones" (defScope (top 53)) a cdv A outer s H E).A (bodyX P w G.K mg base N__law_steady_ones "_law_steady_ones" (defScope (top 53)) a cdv A outer s H E).env (bodyX P w G.K mg base N__law_steady_ones "_law_steady_ones" (defScope (top 53)) a cdv A outer s H E).xe := own_body
  have c : Cc G (bodyX P w G.K mg base N__law_steady_ones "_law_steady_ones" (defScope (top 53)) a cdv A outer s H E) (WE0 E) k := ⟨rfl, rfl, nd__law_steady_ones, hr, takes_body⟩
  (pssd_cons (s_set 0 c rfl rfl rfl (ped_tupN (pad_cons (ped_tupN (pad_cons (ped_tupN (pad_cons (ped_tupN (pad_cons d_int (pad_cons d_int pad_nil rfl) rfl) (lenA_cons (lenA_cons lenA_nil)) rfl) pad_nil rfl) (lenA_cons lenA_nil) rfl) pad_nil rfl) (lenA_cons lenA_nil) rfl) (pad_cons (ped_tupN (pad_cons (ped_tupN (pad_cons (ped_tupN (pad_cons d_int (pad_cons d_int pad_nil rfl) rfl) (lenA_cons (lenA_cons lenA_nil)) rfl) pad_nil rfl) (lenA_cons lenA_nil) rfl) pad_nil rfl) (lenA_cons lenA_nil) rfl) (pad_cons (ped_tupN (pad_cons (ped_tupN (pad_cons (ped_tupN (pad_cons d_int (pad_cons d_int pad_nil rfl) rfl) (lenA_cons (lenA_cons lenA_nil)) rfl) pad_nil rfl) (lenA_cons lenA_nil) rfl) pad_nil rfl) (lenA_cons lenA_nil) rfl) (pad_cons (ped_tupN (pad_cons (ped_tupN (pad_cons (ped_tupN (pad_cons d_int (pad_cons d_int pad_nil rfl) rfl) (lenA_cons (lenA_cons lenA_nil)) rfl) pad_nil rfl) (lenA_cons lenA_nil) rfl) pad_nil rfl) (lenA_cons lenA_nil) rfl) pad_nil rfl) rfl) rfl) rfl) (lenA_cons (lenA_cons (lenA_cons (lenA_cons lenA_nil)))) rfl) rfl)
  (pssd_cons (s_set 1 c rfl rfl rfl (ped_tupN (pad_cons (ped_tupN (pad_cons (ped_tupN (pad_cons d_int (pad_cons d_int pad_nil rfl) rfl) (lenA_cons (lenA_cons lenA_nil)) rfl) (pad_cons (ped_tupN (pad_cons d_int (pad_cons d_int pad_nil rfl) rfl) (lenA_cons (lenA_cons lenA_nil)) rfl) pad_nil rfl) rfl) (lenA_cons (lenA_cons lenA_nil)) rfl) (pad_cons (ped_tupN (pad_cons (ped_tupN (pad_cons d_int (pad_cons d_int pad_nil rfl) rfl) (lenA_cons (lenA_cons lenA_nil)) rfl) (pad_cons (ped_tupN (pad_cons d_int (pad_cons d_int pad_nil rfl) rfl) (lenA_cons (lenA_cons lenA_nil)) rfl) pad_nil rfl) rfl) (lenA_cons (lenA_cons lenA_nil)) rfl) pad_nil rfl) rfl) (lenA_cons (lenA_cons lenA_nil)) rfl) rfl)
  (pssd_cons (psd_ret (ped_tupN (pad_cons (d_var 0 nm_first_so rfl rfl) (pad_cons (ped_tupN (pad_cons (d_var 1 nm_swap_so rfl rfl) (pad_cons (ped_tupN (pad_cons (ped_tupN pad_nil lenA_nil rfl) (pad_cons (ped_tupN pad_nil lenA_nil rfl) pad_nil rfl) rfl) (lenA_cons (lenA_cons lenA_nil)) rfl) (pad_cons (d_var 1 nm_swap_so rfl rfl) (pad_cons (ped_tupN (pad_cons (ped_tupN pad_nil lenA_nil rfl) (pad_cons (ped_tupN pad_nil lenA_nil rfl) pad_nil rfl) rfl) (lenA_cons (lenA_cons lenA_nil)) rfl) pad_nil rfl) rfl) rfl) rfl) (lenA_cons (lenA_cons (lenA_cons (lenA_cons lenA_nil)))) rfl) (pad_cons (ped_tupN (pad_cons (ped_tupN pad_nil lenA_nil rfl) (pad_cons (ped_tupN pad_nil lenA_nil rfl) (pad_cons (ped_tupN pad_nil lenA_nil rfl) (pad_cons (ped_tupN pad_nil lenA_nil rfl) pad_nil rfl) rfl) rfl) rfl) (lenA_cons (lenA_cons (lenA_cons (lenA_cons lenA_nil)))) rfl) pad_nil rfl) rfl) rfl) (lenA_cons (lenA_cons (lenA_cons lenA_nil))) rfl))
  pssd_nil)))⟩
noncomputable def S__law_steady_ones : FN := callD 2 T__law_steady_ones.1
theorem ok__law_steady_ones {P : Program} {w : World} {G : Gd} {mg : Str → Option Value} {base : Heap} {k : Nat} (C : Cn G mg) {a : Addr} {fd : FuncData} (F : FunD G.K "_law_steady_ones" "_law_steady_ones" (defArgs (top 53)) (defBody (top 53)) (defScope (top 53)) [] [] a fd) (hm : mg "_law_steady_ones" = some (.ref a)) : Fn P w G (XRK G) mg base (k + 1) "_law_steady_ones" (defArgs (top 53)) 0 S__law_steady_ones :=
  fn_mk (k := k) (N := N__law_steady_ones) (ps := ([] : List Str)) (xr1_ok _ _ _) F sc__law_steady_ones hm rfl rfl (fun _ _ _ _ _ _ us hl => match us, hl with | [], _ => rfl) (fun cdv A outer s H E hr => T__law_steady_ones.2 C a cdv A outer s H E hr)

abbrev N_fixed : List Str := ["value", "part"]
theorem nd_fixed : (N_fixed).Nodup := by decide +kernel
theorem sc_fixed : FnScope N_fixed (["value"] : List Str) (defScope (top 3)) := ⟨rfl, rfl, rfl, nd_fixed, rfl, by decide +kernel, by decide +kernel⟩
noncomputable def T_fixed (rec : FN) : { fb : FS // ∀ {P : Program} {w : World} {G : Gd} {mg : Str → Option Value} {base : Heap} {k : Nat} (C : Cn G mg) (h_fixed : Fn P w G (XRK G) mg base k "fixed" (defArgs (top 3)) 1 rec) (a : Addr) (cdv : Value) (A : Around) (outer : List Env) (s : Shared) (H : Hp) (E : XK), Room k (bodyX P w G.K mg base N_fixed "fixed" (defScope (top 3)) a cdv A outer s H E).A → PSsd G (XRK G) (bodyX P w G.K mg base N_fixed "fixed" (defScope (top 3)) a cdv A outer s H E) (WE0 E) (defBody (top 3)) fb } :=
  ⟨_, fun {P w G mg base k} C h_fixed a cdv A outer s H E hr =>
  have ow : PassesOwn (model P w) (bodyX P w G.K mg base N_fixed "fixed" (defScope (top 3)) a cdv A outer s H E).A (bodyX P w G.K mg base N_fixed "fixed" (defScope (top 3)) a cdv A outer s H E).env (bodyX P w G.K mg base N_fixed "fixed" (defScope (top 3)) a cdv A outer s H E).xe := own_body
  have c : Cc G (bodyX P w G.K mg base N_fixed "fixed" (defScope (top 3)) a cdv A outer s H E) (WE0 E) k := ⟨rfl, rfl, nd_fixed, hr, takes_body⟩
  (pssd_cons (psd_if (pcd_truth c.K (ped_isiN c.K rfl C.f_isinstance (d_var 0 nm_value rfl rfl) (pcls_cons (n := 5) rfl C.f_list bn_list.boot bn_list.ne bn_list.db (pcls_cons (n := 4) rfl C.f_tuple bn_tuple.boot bn_tuple.ne bn_tuple.db pcls_nil rfl) rfl) (by decide) (by decide) rfl rfl rfl) (fun _ => rfl)) (pssd_cons (psd_ret (d_callT (calld_tup c.K) bn_tuple C.f_tuple rfl (pad_cons (ped_of_pld (d_comp c [("part", 1)] (.one 1) (pid_seq c.K (d_var 0 nm_value rfl rfl)) (by kernel_rfl) rfl (fun _ _ _ _ _ => (g_one 1 c.nd rfl rfl rfl)) (fun _ _ _ _ _ => ptsd_nil) (fun _ _ _ _ _ => (d_call c.blk h_fixed nm_fixed rfl (pad_cons (d_var 1 nm_part rfl rfl) pad_nil rfl) rfl rfl)) (fun _ => rfl))) pad_nil rfl) rfl rfl))
  pssd_nil) pssd_nil)
  (pssd_cons (psd_ret (d_var 0 nm_value rfl rfl))
  pssd_nil))⟩
noncomputable def S_fixed : Nat → FN
  | 0 => fun _ _ => .bad
  | j + 1 => callD 2 (T_fixed (S_fixed j)).1
theorem ok_fixed {P : Program} {w : World} {G : Gd} {mg : Str → Option Value} {base : Heap} (C : Cn G mg) {a : Addr} {fd : FuncData} (F : FunD G.K "fixed" "fixed" (defArgs (top 3)) (defBody (top 3)) (defScope (top 3)) [] [] a fd) (hm : mg "fixed" = some (.ref a)) : ∀ j, Fn P w G (XRK G) mg base j "fixed" (defArgs (top 3)) 1 (S_fixed j)
  | 0 => fn_bad (ps := (["value"] : List Str)) F hm rfl rfl (fun _ _ _ _ _ _ us hl => match us, hl with | [a0], _ => rfl)
  | j + 1 => fn_mk (N := N_fixed) (ps := (["value"] : List Str)) (xr1_ok _ _ _) F sc_fixed hm rfl rfl (fun _ _ _ _ _ _ us hl => match us, hl with | [a0], _ => rfl) (fun cdv A outer s H E hr => (T_fixed (S_fixed j)).2 C (ok_fixed C F hm j) a cdv A outer s H E hr)

abbrev N_cleared : List Str := ["row", "bottom", "part"]
theorem nd_cleared : (N_cleared).Nodup := by decide +kernel
theorem sc_cleared : FnScope N_cleared (["row"] : List Str) (defScope (top 11)) := ⟨rfl, rfl, rfl, nd_cleared, rfl, by decide +kernel, by decide +kernel⟩
noncomputable def T_cleared : { fb : FS // ∀ {P : Program} {w : World} {G : Gd} {mg : Str → Option Value} {base : Heap} {k : Nat} (C : Cn G mg) (a : Addr) (cdv : Value) (A : Around) (outer : List Env) (s : Shared) (H : Hp) (E : XK), Room k (bodyX P w G.K mg base N_cleared "cleared" (defScope (top 11)) a cdv A outer s H E).A → PSsd G (XRK G) (bodyX P w G.K mg base N_cleared "cleared" (defScope (top 11)) a cdv A outer s H E) (WE0 E) (defBody (top 11)) fb } :=
  ⟨_, fun {P w G mg base k} C a cdv A outer s H E hr =>
  have ow : PassesOwn (model P w) (bodyX P w G.K mg base N_cleared "cleared" (defScope (top 11)) a cdv A outer s H E).A (bodyX P w G.K mg base N_cleared "cleared" (defScope (top 11)) a cdv A outer s H E).env (bodyX P w G.K mg base N_cleared "cleared" (defScope (top 11)) a cdv A outer s H E).xe := own_body
  have c : Cc G (bodyX P w G.K mg base N_cleared "cleared" (defScope (top 11)) a cdv A outer s H E) (WE0 E) k := ⟨rfl, rfl, nd_cleared, hr, takes_body⟩
  (pssd_cons (s_set 1 c rfl rfl rfl d_int rfl)
  (pssd_cons (psd_for ow c.calm (pid_seq c.K (d_var 0 nm_row rfl rfl)) (g_one 2 c.nd rfl rfl rfl) (pssd_cons (s_set 1 c rfl rfl rfl (d_callF calld_lcm nm_lcm C.g_lcm rfl (pad_cons (d_var 1 nm_bottom rfl rfl) (pad_cons (ped_ix c.K (d_var 2 nm_part rfl rfl) d_int (fun _ _ => rfl)) pad_nil rfl) rfl) rfl rfl) rfl)
  pssd_nil) (fun _ => rfl))
  (pssd_cons (psd_ret (ped_tupN (pad_cons (ped_of_pld (d_comp c [("part", 2)] (.one 2) (pid_seq c.K (d_var 0 nm_row rfl rfl)) (by kernel_rfl) rfl (fun _ _ _ _ _ => (g_one 2 c.nd rfl rfl rfl)) (fun _ _ _ _ _ => ptsd_nil) (fun _ _ _ _ _ => (ped_bin (opd_mul c.blk.K) (ped_ix c.blk.K (d_var 2 nm_part rfl rfl) d_int (fun _ _ => rfl)) (ped_bin opd_div (d_var 1 nm_bottom rfl rfl) (ped_ix c.blk.K (d_var 2 nm_part rfl rfl) d_int (fun _ _ => rfl))))) (fun _ => rfl))) (pad_cons (d_var 1 nm_bottom rfl rfl) pad_nil rfl) rfl) (lenA_cons (lenA_cons lenA_nil)) rfl))
  pssd_nil)))⟩
noncomputable def S_cleared : FN := callD 3 T_cleared.1
theorem ok_cleared {P : Program} {w : World} {G : Gd} {mg : Str → Option Value} {base : Heap} {k : Nat} (C : Cn G mg) {a : Addr} {fd : FuncData} (F : FunD G.K "cleared" "cleared" (defArgs (top 11)) (defBody (top 11)) (defScope (top 11)) [] [] a fd) (hm : mg "cleared" = some (.ref a)) : Fn P w G (XRK G) mg base (k + 1) "cleared" (defArgs (top 11)) 1 S_cleared :=
  fn_mk (k := k) (N := N_cleared) (ps := (["row"] : List Str)) (xr1_ok _ _ _) F sc_cleared hm rfl rfl (fun _ _ _ _ _ _ us hl => match us, hl with | [a0], _ => rfl) (fun cdv A outer s H E hr => T_cleared.2 C a cdv A outer s H E hr)

abbrev N_fraction : List Str := ["top", "bottom", "share"]
theorem nd_fraction : (N_fraction).Nodup := by decide +kernel
theorem sc_fraction : FnScope N_fraction (["top", "bottom"] : List Str) (defScope (top 7)) := ⟨rfl, rfl, rfl, nd_fraction, rfl, by decide +kernel, by decide +kernel⟩
noncomputable def T_fraction : { fb : FS // ∀ {P : Program} {w : World} {G : Gd} {mg : Str → Option Value} {base : Heap} {k : Nat} (C : Cn G mg) (a : Addr) (cdv : Value) (A : Around) (outer : List Env) (s : Shared) (H : Hp) (E : XK), Room k (bodyX P w G.K mg base N_fraction "fraction" (defScope (top 7)) a cdv A outer s H E).A → PSsd G (XRK G) (bodyX P w G.K mg base N_fraction "fraction" (defScope (top 7)) a cdv A outer s H E) (WE0 E) (defBody (top 7)) fb } :=
  ⟨_, fun {P w G mg base k} C a cdv A outer s H E hr =>
  have ow : PassesOwn (model P w) (bodyX P w G.K mg base N_fraction "fraction" (defScope (top 7)) a cdv A outer s H E).A (bodyX P w G.K mg base N_fraction "fraction" (defScope (top 7)) a cdv A outer s H E).env (bodyX P w G.K mg base N_fraction "fraction" (defScope (top 7)) a cdv A outer s H E).xe := own_body
  have c : Cc G (bodyX P w G.K mg base N_fraction "fraction" (defScope (top 7)) a cdv A outer s H E) (WE0 E) k := ⟨rfl, rfl, nd_fraction, hr, takes_body⟩
  (pssd_cons (s_set 2 c rfl rfl rfl (d_callF calld_gcd nm_gcd C.g_gcd rfl (pad_cons (d_var 0 nm_top rfl rfl) (pad_cons (d_var 1 nm_bottom rfl rfl) pad_nil rfl) rfl) rfl rfl) rfl)
  (pssd_cons (psd_if (pcd_cmp opd_lt (d_var 1 nm_bottom rfl rfl) d_int rfl) (pssd_cons (s_set 2 c rfl rfl rfl (ped_un und_neg (d_var 2 nm_share rfl rfl)) rfl)
  pssd_nil) pssd_nil)
  (pssd_cons (psd_ret (ped_tupN (pad_cons (ped_bin opd_div (d_var 0 nm_top rfl rfl) (d_var 2 nm_share rfl rfl)) (pad_cons (ped_bin opd_div (d_var 1 nm_bottom rfl rfl) (d_var 2 nm_share rfl rfl)) pad_nil rfl) rfl) (lenA_cons (lenA_cons lenA_nil)) rfl))
  pssd_nil)))⟩
noncomputable def S_fraction : FN := callD 3 T_fraction.1
theorem ok_fraction {P : Program} {w : World} {G : Gd} {mg : Str → Option Value} {base : Heap} {k : Nat} (C : Cn G mg) {a : Addr} {fd : FuncData} (F : FunD G.K "fraction" "fraction" (defArgs (top 7)) (defBody (top 7)) (defScope (top 7)) [] [] a fd) (hm : mg "fraction" = some (.ref a)) : Fn P w G (XRK G) mg base (k + 1) "fraction" (defArgs (top 7)) 2 S_fraction :=
  fn_mk (k := k) (N := N_fraction) (ps := (["top", "bottom"] : List Str)) (xr1_ok _ _ _) F sc_fraction hm rfl rfl (fun _ _ _ _ _ _ us hl => match us, hl with | [a0, a1], _ => rfl) (fun cdv A outer s H E hr => T_fraction.2 C a cdv A outer s H E hr)

abbrev N_dot : List Str := ["one", "other", "first", "second"]
theorem nd_dot : (N_dot).Nodup := by decide +kernel
theorem sc_dot : FnScope N_dot (["one", "other"] : List Str) (defScope (top 12)) := ⟨rfl, rfl, rfl, nd_dot, rfl, by decide +kernel, by decide +kernel⟩
noncomputable def T_dot : { fb : FS // ∀ {P : Program} {w : World} {G : Gd} {mg : Str → Option Value} {base : Heap} {k : Nat} (C : Cn G mg) (a : Addr) (cdv : Value) (A : Around) (outer : List Env) (s : Shared) (H : Hp) (E : XK), Room k (bodyX P w G.K mg base N_dot "dot" (defScope (top 12)) a cdv A outer s H E).A → PSsd G (XRK G) (bodyX P w G.K mg base N_dot "dot" (defScope (top 12)) a cdv A outer s H E) (WE0 E) (defBody (top 12)) fb } :=
  ⟨_, fun {P w G mg base k} C a cdv A outer s H E hr =>
  have ow : PassesOwn (model P w) (bodyX P w G.K mg base N_dot "dot" (defScope (top 12)) a cdv A outer s H E).A (bodyX P w G.K mg base N_dot "dot" (defScope (top 12)) a cdv A outer s H E).env (bodyX P w G.K mg base N_dot "dot" (defScope (top 12)) a cdv A outer s H E).xe := own_body
  have c : Cc G (bodyX P w G.K mg base N_dot "dot" (defScope (top 12)) a cdv A outer s H E) (WE0 E) k := ⟨rfl, rfl, nd_dot, hr, takes_body⟩
  (pssd_cons (psd_ret (d_callB (calld_sum c.K c.calm) bn_sum C.f_sum rfl (pad_cons (ped_of_pld (d_comp c [("first", 2), ("second", 3)] (.many [2, 3]) (pid_zip2 c.K rfl C.f_zip (pad_cons (d_var 0 nm_one rfl rfl) (pad_cons (d_var 1 nm_other rfl rfl) pad_nil rfl) rfl) rfl rfl) (by kernel_rfl) rfl (fun _ _ _ _ _ => (pgd_many c.K c.calm rfl rfl (gs_cons 2 c.nd rfl rfl rfl (gs_cons 3 c.nd rfl rfl rfl pgsd_nil)))) (fun _ _ _ _ _ => ptsd_nil) (fun _ _ _ _ _ => (ped_bin (opd_mul c.blk.K) (d_var 2 nm_first rfl rfl) (d_var 3 nm_second rfl rfl))) (fun _ => rfl))) pad_nil rfl) rfl rfl))
  pssd_nil)⟩
noncomputable def S_dot : FN := callD 4 T_dot.1
theorem ok_dot {P : Program} {w : World} {G : Gd} {mg : Str → Option Value} {base : Heap} {k : Nat} (C : Cn G mg) {a : Addr} {fd : FuncData} (F : FunD G.K "dot" "dot" (defArgs (top 12)) (defBody (top 12)) (defScope (top 12)) [] [] a fd) (hm : mg "dot" = some (.ref a)) : Fn P w G (XRK G) mg base (k + 1) "dot" (defArgs (top 12)) 2 S_dot :=
  fn_mk (k := k) (N := N_dot) (ps := (["one", "other"] : List Str)) (xr1_ok _ _ _) F sc_dot hm rfl rfl (fun _ _ _ _ _ _ us hl => match us, hl with | [a0, a1], _ => rfl) (fun cdv A outer s H E hr => T_dot.2 C a cdv A outer s H E hr)

abbrev N_row_applied : List Str := ["table", "row", "others", "low", "found", "line", "tops", "bottom"]
theorem nd_row_applied : (N_row_applied).Nodup := by decide +kernel
theorem sc_row_applied : FnScope N_row_applied (["table", "row"] : List Str) (defScope (top 21)) := ⟨rfl, rfl, rfl, nd_row_applied, rfl, by decide +kernel, by decide +kernel⟩
noncomputable def T_row_applied : { fb : FS // ∀ {P : Program} {w : World} {G : Gd} {mg : Str → Option Value} {base : Heap} {k : Nat} (C : Cn G mg) (h_cleared : Fn P w G (XRK G) mg base k "cleared" (defArgs (top 11)) 1 S_cleared) (h_fraction : Fn P w G (XRK G) mg base k "fraction" (defArgs (top 7)) 2 S_fraction) (h_dot : Fn P w G (XRK G) mg base k "dot" (defArgs (top 12)) 2 S_dot) (a : Addr) (cdv : Value) (A : Around) (outer : List Env) (s : Shared) (H : Hp) (E : XK), Room k (bodyX P w G.K mg base N_row_applied "row_applied" (defScope (top 21)) a cdv A outer s H E).A → PSsd G (XRK G) (bodyX P w G.K mg base N_row_applied "row_applied" (defScope (top 21)) a cdv A outer s H E) (WE0 E) (defBody (top 21)) fb } :=
  ⟨_, fun {P w G mg base k} C h_cleared h_fraction h_dot a cdv A outer s H E hr =>
  have ow : PassesOwn (model P w) (bodyX P w G.K mg base N_row_applied "row_applied" (defScope (top 21)) a cdv A outer s H E).A (bodyX P w G.K mg base N_row_applied "row_applied" (defScope (top 21)) a cdv A outer s H E).env (bodyX P w G.K mg base N_row_applied "row_applied" (defScope (top 21)) a cdv A outer s H E).xe := own_body
  have c : Cc G (bodyX P w G.K mg base N_row_applied "row_applied" (defScope (top 21)) a cdv A outer s H E) (WE0 E) k := ⟨rfl, rfl, nd_row_applied, hr, takes_body⟩
  (pssd_cons (psd_tup (d_call c h_cleared nm_cleared rfl (pad_cons (d_var 1 nm_row rfl rfl) pad_nil rfl) rfl rfl) (pgd_many c.K c.calm rfl rfl (gs_cons 2 c.nd rfl rfl rfl (gs_cons 3 c.nd rfl rfl rfl pgsd_nil))) rfl rfl)
  (pssd_cons (s_set 4 c rfl rfl rfl (ped_alloc (pld_lstN pad_nil lenA_nil rfl)) rfl)
  (pssd_cons (psd_for ow c.calm (pid_seq c.K (d_var 0 nm_table rfl rfl)) (g_one 5 c.nd rfl rfl rfl) (pssd_cons (psd_tup (d_call c h_cleared nm_cleared rfl (pad_cons (d_var 5 nm_line rfl rfl) pad_nil rfl) rfl rfl) (pgd_many c.K c.calm rfl rfl (gs_cons 6 c.nd rfl rfl rfl (gs_cons 7 c.nd rfl rfl rfl pgsd_nil))) rfl rfl)
  (pssd_cons (psd_expr (d_append c (d_var 4 nm_found rfl rfl) (d_call c h_fraction nm_fraction rfl (pad_cons (d_call c h_dot nm_dot rfl (pad_cons (d_var 6 nm_tops rfl rfl) (pad_cons (d_var 2 nm_others rfl rfl) pad_nil rfl) rfl) rfl rfl) (pad_cons (ped_bin (opd_mul c.K) (d_var 7 nm_bottom rfl rfl) (d_var 3 nm_low rfl rfl)) pad_nil rfl) rfl) rfl rfl) rfl rfl rfl) rfl)
  pssd_nil)) (fun _ => rfl))
  (pssd_cons (psd_ret (d_callT (calld_tup c.K) bn_tuple C.f_tuple rfl (pad_cons (d_var 4 nm_found rfl rfl) pad_nil rfl) rfl rfl))
  pssd_nil))))⟩
noncomputable def S_row_applied : FN := callD 8 T_row_applied.1
theorem ok_row_applied {P : Program} {w : World} {G : Gd} {mg : Str → Option Value} {base : Heap} {k : Nat} (C : Cn G mg) (h_cleared : Fn P w G (XRK G) mg base k "cleared" (defArgs (top 11)) 1 S_cleared) (h_fraction : Fn P w G (XRK G) mg base k "fraction" (defArgs (top 7)) 2 S_fraction) (h_dot : Fn P w G (XRK G) mg base k "dot" (defArgs (top 12)) 2 S_dot) {a : Addr} {fd : FuncData} (F : FunD G.K "row_applied" "row_applied" (defArgs (top 21)) (defBody (top 21)) (defScope (top 21)) [] [] a fd) (hm : mg "row_applied" = some (.ref a)) : Fn P w G (XRK G) mg base (k + 1) "row_applied" (defArgs (top 21)) 2 S_row_applied :=
  fn_mk (k := k) (N := N_row_applied) (ps := (["table", "row"] : List Str)) (xr1_ok _ _ _) F sc_row_applied hm rfl rfl (fun _ _ _ _ _ _ us hl => match us, hl with | [a0, a1], _ => rfl) (fun cdv A outer s H E hr => T_row_applied.2 C h_cleared h_fraction h_dot a cdv A outer s H E hr)

abbrev N_ruled_moves : List Str := ["rules", "shows", "rule", "row"]
theorem nd_ruled_moves : (N_ruled_moves).Nodup := by decide +kernel
theorem sc_ruled_moves : FnScope N_ruled_moves (["rules", "shows"] : List Str) (defScope (top 38)) := ⟨rfl, rfl, rfl, nd_ruled_moves, rfl, by decide +kernel, by decide +kernel⟩
noncomputable def T_ruled_moves : { fb : FS // ∀ {P : Program} {w : World} {G : Gd} {mg : Str → Option Value} {base : Heap} {k : Nat} (C : Cn G mg) (h_row_applied : Fn P w G (XRK G) mg base k "row_applied" (defArgs (top 21)) 2 S_row_applied) (a : Addr) (cdv : Value) (A : Around) (outer : List Env) (s : Shared) (H : Hp) (E : XK), Room k (bodyX P w G.K mg base N_ruled_moves "ruled_moves" (defScope (top 38)) a cdv A outer s H E).A → PSsd G (XRK G) (bodyX P w G.K mg base N_ruled_moves "ruled_moves" (defScope (top 38)) a cdv A outer s H E) (WE0 E) (defBody (top 38)) fb } :=
  ⟨_, fun {P w G mg base k} C h_row_applied a cdv A outer s H E hr =>
  have ow : PassesOwn (model P w) (bodyX P w G.K mg base N_ruled_moves "ruled_moves" (defScope (top 38)) a cdv A outer s H E).A (bodyX P w G.K mg base N_ruled_moves "ruled_moves" (defScope (top 38)) a cdv A outer s H E).env (bodyX P w G.K mg base N_ruled_moves "ruled_moves" (defScope (top 38)) a cdv A outer s H E).xe := own_body
  have c : Cc G (bodyX P w G.K mg base N_ruled_moves "ruled_moves" (defScope (top 38)) a cdv A outer s H E) (WE0 E) k := ⟨rfl, rfl, nd_ruled_moves, hr, takes_body⟩
  (pssd_cons (psd_ret (d_callT (calld_tup c.K) bn_tuple C.f_tuple rfl (pad_cons (ped_of_pld (d_comp c [("rule", 2), ("row", 3)] (.many [2, 3]) (pid_zip2 c.K rfl C.f_zip (pad_cons (d_var 0 nm_rules rfl rfl) (pad_cons (d_var 1 nm_shows rfl rfl) pad_nil rfl) rfl) rfl rfl) (by kernel_rfl) rfl (fun _ _ _ _ _ => (pgd_many c.K c.calm rfl rfl (gs_cons 2 c.nd rfl rfl rfl (gs_cons 3 c.nd rfl rfl rfl pgsd_nil)))) (fun _ _ _ _ _ => ptsd_nil) (fun _ _ _ _ _ => (d_call c.blk h_row_applied nm_row_applied rfl (pad_cons (d_var 2 nm_rule rfl rfl) (pad_cons (d_var 3 nm_row rfl rfl) pad_nil rfl) rfl) rfl rfl)) (fun _ => rfl))) pad_nil rfl) rfl rfl))
  pssd_nil)⟩
noncomputable def S_ruled_moves : FN := callD 4 T_ruled_moves.1
theorem ok_ruled_moves {P : Program} {w : World} {G : Gd} {mg : Str → Option Value} {base : Heap} {k : Nat} (C : Cn G mg) (h_row_applied : Fn P w G (XRK G) mg base k "row_applied" (defArgs (top 21)) 2 S_row_applied) {a : Addr} {fd : FuncData} (F : FunD G.K "ruled_moves" "ruled_moves" (defArgs (top 38)) (defBody (top 38)) (defScope (top 38)) [] [] a fd) (hm : mg "ruled_moves" = some (.ref a)) : Fn P w G (XRK G) mg base (k + 1) "ruled_moves" (defArgs (top 38)) 2 S_ruled_moves :=
  fn_mk (k := k) (N := N_ruled_moves) (ps := (["rules", "shows"] : List Str)) (xr1_ok _ _ _) F sc_ruled_moves hm rfl rfl (fun _ _ _ _ _ _ us hl => match us, hl with | [a0, a1], _ => rfl) (fun cdv A outer s H E hr => T_ruled_moves.2 C h_row_applied a cdv A outer s H E hr)

abbrev N_none_row : List Str := ["long"]
theorem nd_none_row : (N_none_row).Nodup := by decide +kernel
theorem sc_none_row : FnScope N_none_row (["long"] : List Str) (defScope (top 10)) := ⟨rfl, rfl, rfl, nd_none_row, rfl, by decide +kernel, by decide +kernel⟩
noncomputable def T_none_row : { fb : FS // ∀ {P : Program} {w : World} {G : Gd} {mg : Str → Option Value} {base : Heap} {k : Nat} (C : Cn G mg) (a : Addr) (cdv : Value) (A : Around) (outer : List Env) (s : Shared) (H : Hp) (E : XK), Room k (bodyX P w G.K mg base N_none_row "none_row" (defScope (top 10)) a cdv A outer s H E).A → PSsd G (XRK G) (bodyX P w G.K mg base N_none_row "none_row" (defScope (top 10)) a cdv A outer s H E) (WE0 E) (defBody (top 10)) fb } :=
  ⟨_, fun {P w G mg base k} C a cdv A outer s H E hr =>
  have ow : PassesOwn (model P w) (bodyX P w G.K mg base N_none_row "none_row" (defScope (top 10)) a cdv A outer s H E).A (bodyX P w G.K mg base N_none_row "none_row" (defScope (top 10)) a cdv A outer s H E).env (bodyX P w G.K mg base N_none_row "none_row" (defScope (top 10)) a cdv A outer s H E).xe := own_body
  have c : Cc G (bodyX P w G.K mg base N_none_row "none_row" (defScope (top 10)) a cdv A outer s H E) (WE0 E) k := ⟨rfl, rfl, nd_none_row, hr, takes_body⟩
  (pssd_cons (psd_ret (ped_bin (opd_mul c.K) (ped_tupN (pad_cons (ped_glob rfl C.g_NONE nm_NONE.db) pad_nil rfl) (lenA_cons lenA_nil) rfl) (d_var 0 nm_long rfl rfl)))
  pssd_nil)⟩
noncomputable def S_none_row : FN := callD 1 T_none_row.1
theorem ok_none_row {P : Program} {w : World} {G : Gd} {mg : Str → Option Value} {base : Heap} {k : Nat} (C : Cn G mg) {a : Addr} {fd : FuncData} (F : FunD G.K "none_row" "none_row" (defArgs (top 10)) (defBody (top 10)) (defScope (top 10)) [] [] a fd) (hm : mg "none_row" = some (.ref a)) : Fn P w G (XRK G) mg base (k + 1) "none_row" (defArgs (top 10)) 1 S_none_row :=
  fn_mk (k := k) (N := N_none_row) (ps := (["long"] : List Str)) (xr1_ok _ _ _) F sc_none_row hm rfl rfl (fun _ _ _ _ _ _ us hl => match us, hl with | [a0], _ => rfl) (fun cdv A outer s H E hr => T_none_row.2 C a cdv A outer s H E hr)

abbrev N_hand_sizes : List Str := ["plant", "levers", "gauges"]
theorem nd_hand_sizes : (N_hand_sizes).Nodup := by decide +kernel
theorem sc_hand_sizes : FnScope N_hand_sizes (["plant"] : List Str) (defScope (top 24)) := ⟨rfl, rfl, rfl, nd_hand_sizes, rfl, by decide +kernel, by decide +kernel⟩
noncomputable def T_hand_sizes : { fb : FS // ∀ {P : Program} {w : World} {G : Gd} {mg : Str → Option Value} {base : Heap} {k : Nat} (C : Cn G mg) (a : Addr) (cdv : Value) (A : Around) (outer : List Env) (s : Shared) (H : Hp) (E : XK), Room k (bodyX P w G.K mg base N_hand_sizes "hand_sizes" (defScope (top 24)) a cdv A outer s H E).A → PSsd G (XRK G) (bodyX P w G.K mg base N_hand_sizes "hand_sizes" (defScope (top 24)) a cdv A outer s H E) (WE0 E) (defBody (top 24)) fb } :=
  ⟨_, fun {P w G mg base k} C a cdv A outer s H E hr =>
  have ow : PassesOwn (model P w) (bodyX P w G.K mg base N_hand_sizes "hand_sizes" (defScope (top 24)) a cdv A outer s H E).A (bodyX P w G.K mg base N_hand_sizes "hand_sizes" (defScope (top 24)) a cdv A outer s H E).env (bodyX P w G.K mg base N_hand_sizes "hand_sizes" (defScope (top 24)) a cdv A outer s H E).xe := own_body
  have c : Cc G (bodyX P w G.K mg base N_hand_sizes "hand_sizes" (defScope (top 24)) a cdv A outer s H E) (WE0 E) k := ⟨rfl, rfl, nd_hand_sizes, hr, takes_body⟩
  (pssd_cons (psd_ret (d_callT (calld_tup c.K) bn_tuple C.f_tuple rfl (pad_cons (ped_of_pld (d_comp c [("levers", 1), ("gauges", 2)] (.many [1, 2]) (pid_seq c.K (ped_ix c.K (d_var 0 nm_plant rfl rfl) d_int (fun _ _ => rfl))) (by kernel_rfl) rfl (fun _ _ _ _ _ => (pgd_many c.K c.calm rfl rfl (gs_cons 1 c.nd rfl rfl rfl (gs_cons 2 c.nd rfl rfl rfl pgsd_nil)))) (fun _ _ _ _ _ => ptsd_nil) (fun _ _ _ _ _ => (ped_tupN (pad_cons (d_callB (calld_len c.blk.K) bn_len C.f_len rfl (pad_cons (d_var 1 nm_levers rfl rfl) pad_nil rfl) rfl rfl) (pad_cons (d_callB (calld_len c.blk.K) bn_len C.f_len rfl (pad_cons (d_var 2 nm_gauges rfl rfl) pad_nil rfl) rfl rfl) pad_nil rfl) rfl) (lenA_cons (lenA_cons lenA_nil)) rfl)) (fun _ => rfl))) pad_nil rfl) rfl rfl))
  pssd_nil)⟩
noncomputable def S_hand_sizes : FN := callD 3 T_hand_sizes.1
theorem ok_hand_sizes {P : Program} {w : World} {G : Gd} {mg : Str → Option Value} {base : Heap} {k : Nat} (C : Cn G mg) {a : Addr} {fd : FuncData} (F : FunD G.K "hand_sizes" "hand_sizes" (defArgs (top 24)) (defBody (top 24)) (defScope (top 24)) [] [] a fd) (hm : mg "hand_sizes" = some (.ref a)) : Fn P w G (XRK G) mg base (k + 1) "hand_sizes" (defArgs (top 24)) 1 S_hand_sizes :=
  fn_mk (k := k) (N := N_hand_sizes) (ps := (["plant"] : List Str)) (xr1_ok _ _ _) F sc_hand_sizes hm rfl rfl (fun _ _ _ _ _ _ us hl => match us, hl with | [a0], _ => rfl) (fun cdv A outer s H E hr => T_hand_sizes.2 C a cdv A outer s H E hr)

abbrev N_idle_moves : List Str := ["plant", "levers", "_"]
theorem nd_idle_moves : (N_idle_moves).Nodup := by decide +kernel
theorem sc_idle_moves : FnScope N_idle_moves (["plant"] : List Str) (defScope (top 37)) := ⟨rfl, rfl, rfl, nd_idle_moves, rfl, by decide +kernel, by decide +kernel⟩
noncomputable def T_idle_moves : { fb : FS // ∀ {P : Program} {w : World} {G : Gd} {mg : Str → Option Value} {base : Heap} {k : Nat} (C : Cn G mg) (h_none_row : Fn P w G (XRK G) mg base k "none_row" (defArgs (top 10)) 1 S_none_row) (h_hand_sizes : Fn P w G (XRK G) mg base k "hand_sizes" (defArgs (top 24)) 1 S_hand_sizes) (a : Addr) (cdv : Value) (A : Around) (outer : List Env) (s : Shared) (H : Hp) (E : XK), Room k (bodyX P w G.K mg base N_idle_moves "idle_moves" (defScope (top 37)) a cdv A outer s H E).A → PSsd G (XRK G) (bodyX P w G.K mg base N_idle_moves "idle_moves" (defScope (top 37)) a cdv A outer s H E) (WE0 E) (defBody (top 37)) fb } :=
  ⟨_, fun {P w G mg base k} C h_none_row h_hand_sizes a cdv A outer s H E hr =>
  have ow : PassesOwn (model P w) (bodyX P w G.K mg base N_idle_moves "idle_moves" (defScope (top 37)) a cdv A outer s H E).A (bodyX P w G.K mg base N_idle_moves "idle_moves" (defScope (top 37)) a cdv A outer s H E).env (bodyX P w G.K mg base N_idle_moves "idle_moves" (defScope (top 37)) a cdv A outer s H E).xe := own_body
  have c : Cc G (bodyX P w G.K mg base N_idle_moves "idle_moves" (defScope (top 37)) a cdv A outer s H E) (WE0 E) k := ⟨rfl, rfl, nd_idle_moves, hr, takes_body⟩
  (pssd_cons (psd_ret (d_callT (calld_tup c.K) bn_tuple C.f_tuple rfl (pad_cons (ped_of_pld (d_comp c [("levers", 1), ("_", 2)] (.many [1, 2]) (pid_seq c.K (d_call c h_hand_sizes nm_hand_sizes rfl (pad_cons (d_var 0 nm_plant rfl rfl) pad_nil rfl) rfl rfl)) (by kernel_rfl) rfl (fun _ _ _ _ _ => (pgd_many c.K c.calm rfl rfl (gs_cons 1 c.nd rfl rfl rfl (gs_cons 2 c.nd rfl rfl rfl pgsd_nil)))) (fun _ _ _ _ _ => ptsd_nil) (fun _ _ _ _ _ => (d_call c.blk h_none_row nm_none_row rfl (pad_cons (d_var 1 nm_levers rfl rfl) pad_nil rfl) rfl rfl)) (fun _ => rfl))) pad_nil rfl) rfl rfl))
  pssd_nil)⟩
noncomputable def S_idle_moves : FN := callD 3 T_idle_moves.1
theorem ok_idle_moves {P : Program} {w : World} {G : Gd} {mg : Str → Option Value} {base : Heap} {k : Nat} (C : Cn G mg) (h_none_row : Fn P w G (XRK G) mg base k "none_row" (defArgs (top 10)) 1 S_none_row) (h_hand_sizes : Fn P w G (XRK G) mg base k "hand_sizes" (defArgs (top 24)) 1 S_hand_sizes) {a : Addr} {fd : FuncData} (F : FunD G.K "idle_moves" "idle_moves" (defArgs (top 37)) (defBody (top 37)) (defScope (top 37)) [] [] a fd) (hm : mg "idle_moves" = some (.ref a)) : Fn P w G (XRK G) mg base (k + 1) "idle_moves" (defArgs (top 37)) 1 S_idle_moves :=
  fn_mk (k := k) (N := N_idle_moves) (ps := (["plant"] : List Str)) (xr1_ok _ _ _) F sc_idle_moves hm rfl rfl (fun _ _ _ _ _ _ us hl => match us, hl with | [a0], _ => rfl) (fun cdv A outer s H E hr => T_idle_moves.2 C h_none_row h_hand_sizes a cdv A outer s H E hr)

abbrev N_plus : List Str := ["one", "other"]
theorem nd_plus : (N_plus).Nodup := by decide +kernel
theorem sc_plus : FnScope N_plus (["one", "other"] : List Str) (defScope (top 8)) := ⟨rfl, rfl, rfl, nd_plus, rfl, by decide +kernel, by decide +kernel⟩
noncomputable def T_plus : { fb : FS // ∀ {P : Program} {w : World} {G : Gd} {mg : Str → Option Value} {base : Heap} {k : Nat} (C : Cn G mg) (h_fraction : Fn P w G (XRK G) mg base k "fraction" (defArgs (top 7)) 2 S_fraction) (a : Addr) (cdv : Value) (A : Around) (outer : List Env) (s : Shared) (H : Hp) (E : XK), Room k (bodyX P w G.K mg base N_plus "plus" (defScope (top 8)) a cdv A outer s H E).A → PSsd G (XRK G) (bodyX P w G.K mg base N_plus "plus" (defScope (top 8)) a cdv A outer s H E) (WE0 E) (defBody (top 8)) fb } :=
  ⟨_, fun {P w G mg base k} C h_fraction a cdv A outer s H E hr =>
  have ow : PassesOwn (model P w) (bodyX P w G.K mg base N_plus "plus" (defScope (top 8)) a cdv A outer s H E).A (bodyX P w G.K mg base N_plus "plus" (defScope (top 8)) a cdv A outer s H E).env (bodyX P w G.K mg base N_plus "plus" (defScope (top 8)) a cdv A outer s H E).xe := own_body
  have c : Cc G (bodyX P w G.K mg base N_plus "plus" (defScope (top 8)) a cdv A outer s H E) (WE0 E) k := ⟨rfl, rfl, nd_plus, hr, takes_body⟩
  (pssd_cons (psd_ret (d_call c h_fraction nm_fraction rfl (pad_cons (ped_bin (opd_add c.K) (ped_bin (opd_mul c.K) (ped_ix c.K (d_var 0 nm_one rfl rfl) d_int (fun _ _ => rfl)) (ped_ix c.K (d_var 1 nm_other rfl rfl) d_int (fun _ _ => rfl))) (ped_bin (opd_mul c.K) (ped_ix c.K (d_var 1 nm_other rfl rfl) d_int (fun _ _ => rfl)) (ped_ix c.K (d_var 0 nm_one rfl rfl) d_int (fun _ _ => rfl)))) (pad_cons (ped_bin (opd_mul c.K) (ped_ix c.K (d_var 0 nm_one rfl rfl) d_int (fun _ _ => rfl)) (ped_ix c.K (d_var 1 nm_other rfl rfl) d_int (fun _ _ => rfl))) pad_nil rfl) rfl) rfl rfl))
  pssd_nil)⟩
noncomputable def S_plus : FN := callD 2 T_plus.1
theorem ok_plus {P : Program} {w : World} {G : Gd} {mg : Str → Option Value} {base : Heap} {k : Nat} (C : Cn G mg) (h_fraction : Fn P w G (XRK G) mg base k "fraction" (defArgs (top 7)) 2 S_fraction) {a : Addr} {fd : FuncData} (F : FunD G.K "plus" "plus" (defArgs (top 8)) (defBody (top 8)) (defScope (top 8)) [] [] a fd) (hm : mg "plus" = some (.ref a)) : Fn P w G (XRK G) mg base (k + 1) "plus" (defArgs (top 8)) 2 S_plus :=
  fn_mk (k := k) (N := N_plus) (ps := (["one", "other"] : List Str)) (xr1_ok _ _ _) F sc_plus hm rfl rfl (fun _ _ _ _ _ _ us hl => match us, hl with | [a0, a1], _ => rfl) (fun cdv A outer s H E hr => T_plus.2 C h_fraction a cdv A outer s H E hr)

abbrev N_row_sum : List Str := ["one", "other", "first", "second"]
theorem nd_row_sum : (N_row_sum).Nodup := by decide +kernel
theorem sc_row_sum : FnScope N_row_sum (["one", "other"] : List Str) (defScope (top 18)) := ⟨rfl, rfl, rfl, nd_row_sum, rfl, by decide +kernel, by decide +kernel⟩
noncomputable def T_row_sum : { fb : FS // ∀ {P : Program} {w : World} {G : Gd} {mg : Str → Option Value} {base : Heap} {k : Nat} (C : Cn G mg) (h_plus : Fn P w G (XRK G) mg base k "plus" (defArgs (top 8)) 2 S_plus) (a : Addr) (cdv : Value) (A : Around) (outer : List Env) (s : Shared) (H : Hp) (E : XK), Room k (bodyX P w G.K mg base N_row_sum "row_sum" (defScope (top 18)) a cdv A outer s H E).A → PSsd G (XRK G) (bodyX P w G.K mg base N_row_sum "row_sum" (defScope (top 18)) a cdv A outer s H E) (WE0 E) (defBody (top 18)) fb } :=
  ⟨_, fun {P w G mg base k} C h_plus a cdv A outer s H E hr =>
  have ow : PassesOwn (model P w) (bodyX P w G.K mg base N_row_sum "row_sum" (defScope (top 18)) a cdv A outer s H E).A (bodyX P w G.K mg base N_row_sum "row_sum" (defScope (top 18)) a cdv A outer s H E).env (bodyX P w G.K mg base N_row_sum "row_sum" (defScope (top 18)) a cdv A outer s H E).xe := own_body
  have c : Cc G (bodyX P w G.K mg base N_row_sum "row_sum" (defScope (top 18)) a cdv A outer s H E) (WE0 E) k := ⟨rfl, rfl, nd_row_sum, hr, takes_body⟩
  (pssd_cons (psd_ret (d_callT (calld_tup c.K) bn_tuple C.f_tuple rfl (pad_cons (ped_of_pld (d_comp c [("first", 2), ("second", 3)] (.many [2, 3]) (pid_zip2 c.K rfl C.f_zip (pad_cons (d_var 0 nm_one rfl rfl) (pad_cons (d_var 1 nm_other rfl rfl) pad_nil rfl) rfl) rfl rfl) (by kernel_rfl) rfl (fun _ _ _ _ _ => (pgd_many c.K c.calm rfl rfl (gs_cons 2 c.nd rfl rfl rfl (gs_cons 3 c.nd rfl rfl rfl pgsd_nil)))) (fun _ _ _ _ _ => ptsd_nil) (fun _ _ _ _ _ => (d_call c.blk h_plus nm_plus rfl (pad_cons (d_var 2 nm_first rfl rfl) (pad_cons (d_var 3 nm_second rfl rfl) pad_nil rfl) rfl) rfl rfl)) (fun _ => rfl))) pad_nil rfl) rfl rfl))
  pssd_nil)⟩
noncomputable def S_row_sum : FN := callD 4 T_row_sum.1
theorem ok_row_sum {P : Program} {w : World} {G : Gd} {mg : Str → Option Value} {base : Heap} {k : Nat} (C : Cn G mg) (h_plus : Fn P w G (XRK G) mg base k "plus" (defArgs (top 8)) 2 S_plus) {a : Addr} {fd : FuncData} (F : FunD G.K "row_sum" "row_sum" (defArgs (top 18)) (defBody (top 18)) (defScope (top 18)) [] [] a fd) (hm : mg "row_sum" = some (.ref a)) : Fn P w G (XRK G) mg base (k + 1) "row_sum" (defArgs (top 18)) 2 S_row_sum :=
  fn_mk (k := k) (N := N_row_sum) (ps := (["one", "other"] : List Str)) (xr1_ok _ _ _) F sc_row_sum hm rfl rfl (fun _ _ _ _ _ _ us hl => match us, hl with | [a0, a1], _ => rfl) (fun cdv A outer s H E hr => T_row_sum.2 C h_plus a cdv A outer s H E hr)

abbrev N_flipped : List Str := ["table", "column"]
theorem nd_flipped : (N_flipped).Nodup := by decide +kernel
theorem sc_flipped : FnScope N_flipped (["table"] : List Str) (defScope (top 20)) := ⟨rfl, rfl, rfl, nd_flipped, rfl, by decide +kernel, by decide +kernel⟩
noncomputable def T_flipped : { fb : FS // ∀ {P : Program} {w : World} {G : Gd} {mg : Str → Option Value} {base : Heap} {k : Nat} (C : Cn G mg) (a : Addr) (cdv : Value) (A : Around) (outer : List Env) (s : Shared) (H : Hp) (E : XK), Room k (bodyX P w G.K mg base N_flipped "flipped" (defScope (top 20)) a cdv A outer s H E).A → PSsd G (XRK G) (bodyX P w G.K mg base N_flipped "flipped" (defScope (top 20)) a cdv A outer s H E) (WE0 E) (defBody (top 20)) fb } :=
  ⟨_, fun {P w G mg base k} C a cdv A outer s H E hr =>
  have ow : PassesOwn (model P w) (bodyX P w G.K mg base N_flipped "flipped" (defScope (top 20)) a cdv A outer s H E).A (bodyX P w G.K mg base N_flipped "flipped" (defScope (top 20)) a cdv A outer s H E).env (bodyX P w G.K mg base N_flipped "flipped" (defScope (top 20)) a cdv A outer s H E).xe := own_body
  have c : Cc G (bodyX P w G.K mg base N_flipped "flipped" (defScope (top 20)) a cdv A outer s H E) (WE0 E) k := ⟨rfl, rfl, nd_flipped, hr, takes_body⟩
  (pssd_cons (psd_ret (d_callT (calld_tup c.K) bn_tuple C.f_tuple rfl (pad_cons (ped_of_pld (d_comp c [("column", 1)] (.one 1) (pid_star c.K rfl C.f_zip (d_var 0 nm_table rfl rfl) rfl) (by kernel_rfl) rfl (fun _ _ _ _ _ => (g_one 1 c.nd rfl rfl rfl)) (fun _ _ _ _ _ => ptsd_nil) (fun _ _ _ _ _ => (d_callT (calld_tup c.blk.K) bn_tuple C.f_tuple rfl (pad_cons (d_var 1 nm_column rfl rfl) pad_nil rfl) rfl rfl)) (fun _ => rfl))) pad_nil rfl) rfl rfl))
  pssd_nil)⟩
noncomputable def S_flipped : FN := callD 2 T_flipped.1
theorem ok_flipped {P : Program} {w : World} {G : Gd} {mg : Str → Option Value} {base : Heap} {k : Nat} (C : Cn G mg) {a : Addr} {fd : FuncData} (F : FunD G.K "flipped" "flipped" (defArgs (top 20)) (defBody (top 20)) (defScope (top 20)) [] [] a fd) (hm : mg "flipped" = some (.ref a)) : Fn P w G (XRK G) mg base (k + 1) "flipped" (defArgs (top 20)) 1 S_flipped :=
  fn_mk (k := k) (N := N_flipped) (ps := (["table"] : List Str)) (xr1_ok _ _ _) F sc_flipped hm rfl rfl (fun _ _ _ _ _ _ us hl => match us, hl with | [a0], _ => rfl) (fun cdv A outer s H E hr => T_flipped.2 C a cdv A outer s H E hr)

abbrev N_row_read : List Str := ["row", "table"]
theorem nd_row_read : (N_row_read).Nodup := by decide +kernel
theorem sc_row_read : FnScope N_row_read (["row", "table"] : List Str) (defScope (top 22)) := ⟨rfl, rfl, rfl, nd_row_read, rfl, by decide +kernel, by decide +kernel⟩
noncomputable def T_row_read : { fb : FS // ∀ {P : Program} {w : World} {G : Gd} {mg : Str → Option Value} {base : Heap} {k : Nat} (C : Cn G mg) (h_row_applied : Fn P w G (XRK G) mg base k "row_applied" (defArgs (top 21)) 2 S_row_applied) (h_flipped : Fn P w G (XRK G) mg base k "flipped" (defArgs (top 20)) 1 S_flipped) (a : Addr) (cdv : Value) (A : Around) (outer : List Env) (s : Shared) (H : Hp) (E : XK), Room k (bodyX P w G.K mg base N_row_read "row_read" (defScope (top 22)) a cdv A outer s H E).A → PSsd G (XRK G) (bodyX P w G.K mg base N_row_read "row_read" (defScope (top 22)) a cdv A outer s H E) (WE0 E) (defBody (top 22)) fb } :=
  ⟨_, fun {P w G mg base k} C h_row_applied h_flipped a cdv A outer s H E hr =>
  have ow : PassesOwn (model P w) (bodyX P w G.K mg base N_row_read "row_read" (defScope (top 22)) a cdv A outer s H E).A (bodyX P w G.K mg base N_row_read "row_read" (defScope (top 22)) a cdv A outer s H E).env (bodyX P w G.K mg base N_row_read "row_read" (defScope (top 22)) a cdv A outer s H E).xe := own_body
  have c : Cc G (bodyX P w G.K mg base N_row_read "row_read" (defScope (top 22)) a cdv A outer s H E) (WE0 E) k := ⟨rfl, rfl, nd_row_read, hr, takes_body⟩
  (pssd_cons (psd_ret (d_call c h_row_applied nm_row_applied rfl (pad_cons (d_call c h_flipped nm_flipped rfl (pad_cons (d_var 1 nm_table rfl rfl) pad_nil rfl) rfl rfl) (pad_cons (d_var 0 nm_row rfl rfl) pad_nil rfl) rfl) rfl rfl))
  pssd_nil)⟩
noncomputable def S_row_read : FN := callD 2 T_row_read.1
theorem ok_row_read {P : Program} {w : World} {G : Gd} {mg : Str → Option Value} {base : Heap} {k : Nat} (C : Cn G mg) (h_row_applied : Fn P w G (XRK G) mg base k "row_applied" (defArgs (top 21)) 2 S_row_applied) (h_flipped : Fn P w G (XRK G) mg base k "flipped" (defArgs (top 20)) 1 S_flipped) {a : Addr} {fd : FuncData} (F : FunD G.K "row_read" "row_read" (defArgs (top 22)) (defBody (top 22)) (defScope (top 22)) [] [] a fd) (hm : mg "row_read" = some (.ref a)) : Fn P w G (XRK G) mg base (k + 1) "row_read" (defArgs (top 22)) 2 S_row_read :=
  fn_mk (k := k) (N := N_row_read) (ps := (["row", "table"] : List Str)) (xr1_ok _ _ _) F sc_row_read hm rfl rfl (fun _ _ _ _ _ _ us hl => match us, hl with | [a0, a1], _ => rfl) (fun cdv A outer s H E hr => T_row_read.2 C h_row_applied h_flipped a cdv A outer s H E hr)

abbrev N_cells_next : List Str := ["plant", "cells", "moves", "found", "levers", "_", "row"]
theorem nd_cells_next : (N_cells_next).Nodup := by decide +kernel
theorem sc_cells_next : FnScope N_cells_next (["plant", "cells", "moves"] : List Str) (defScope (top 35)) := ⟨rfl, rfl, rfl, nd_cells_next, rfl, by decide +kernel, by decide +kernel⟩
noncomputable def T_cells_next : { fb : FS // ∀ {P : Program} {w : World} {G : Gd} {mg : Str → Option Value} {base : Heap} {k : Nat} (C : Cn G mg) (h_row_applied : Fn P w G (XRK G) mg base k "row_applied" (defArgs (top 21)) 2 S_row_applied) (h_row_sum : Fn P w G (XRK G) mg base k "row_sum" (defArgs (top 18)) 2 S_row_sum) (h_row_read : Fn P w G (XRK G) mg base k "row_read" (defArgs (top 22)) 2 S_row_read) (a : Addr) (cdv : Value) (A : Around) (outer : List Env) (s : Shared) (H : Hp) (E : XK), Room k (bodyX P w G.K mg base N_cells_next "cells_next" (defScope (top 35)) a cdv A outer s H E).A → PSsd G (XRK G) (bodyX P w G.K mg base N_cells_next "cells_next" (defScope (top 35)) a cdv A outer s H E) (WE0 E) (defBody (top 35)) fb } :=
  ⟨_, fun {P w G mg base k} C h_row_applied h_row_sum h_row_read a cdv A outer s H E hr =>
  have ow : PassesOwn (model P w) (bodyX P w G.K mg base N_cells_next "cells_next" (defScope (top 35)) a cdv A outer s H E).A (bodyX P w G.K mg base N_cells_next "cells_next" (defScope (top 35)) a cdv A outer s H E).env (bodyX P w G.K mg base N_cells_next "cells_next" (defScope (top 35)) a cdv A outer s H E).xe := own_body
  have c : Cc G (bodyX P w G.K mg base N_cells_next "cells_next" (defScope (top 35)) a cdv A outer s H E) (WE0 E) k := ⟨rfl, rfl, nd_cells_next, hr, takes_body⟩
  (pssd_cons (s_set 3 c rfl rfl rfl (d_call c h_row_applied nm_row_applied rfl (pad_cons (ped_ix c.K (d_var 0 nm_plant rfl rfl) d_int (fun _ _ => rfl)) (pad_cons (d_var 1 nm_cells rfl rfl) pad_nil rfl) rfl) rfl rfl) rfl)
  (pssd_cons (psd_for ow c.calm (pid_zip2 c.K rfl C.f_zip (pad_cons (ped_ix c.K (d_var 0 nm_plant rfl rfl) d_int (fun _ _ => rfl)) (pad_cons (d_var 2 nm_moves rfl rfl) pad_nil rfl) rfl) rfl rfl) (pgd_tree c.K c.calm rfl rfl (tts_cons (tt_row c.K c.calm rfl rfl (tts_cons (tt_nm (i := 4) c.nd rfl (loc_ok rfl) (fn_ok rfl)) (tts_cons (tt_nm (i := 5) c.nd rfl (loc_ok rfl) (fn_ok rfl)) tts_nil rfl) rfl)) (tts_cons (tt_nm (i := 6) c.nd rfl (loc_ok rfl) (fn_ok rfl)) tts_nil rfl) rfl)) (pssd_cons (psd_if (pcd_truth c.K (d_var 4 nm_levers rfl rfl) (fun _ => rfl)) (pssd_cons (s_set 3 c rfl rfl rfl (d_call c h_row_sum nm_row_sum rfl (pad_cons (d_var 3 nm_found rfl rfl) (pad_cons (d_call c h_row_read nm_row_read rfl (pad_cons (d_var 6 nm_row rfl rfl) (pad_cons (d_var 4 nm_levers rfl rfl) pad_nil rfl) rfl) rfl rfl) pad_nil rfl) rfl) rfl rfl) rfl)
  pssd_nil) pssd_nil)
  pssd_nil) (fun _ => rfl))
  (pssd_cons (psd_ret (d_var 3 nm_found rfl rfl))
  pssd_nil)))⟩
noncomputable def S_cells_next : FN := callD 7 T_cells_next.1
theorem ok_cells_next {P : Program} {w : World} {G : Gd} {mg : Str → Option Value} {base : Heap} {k : Nat} (C : Cn G mg) (h_row_applied : Fn P w G (XRK G) mg base k "row_applied" (defArgs (top 21)) 2 S_row_applied) (h_row_sum : Fn P w G (XRK G) mg base k "row_sum" (defArgs (top 18)) 2 S_row_sum) (h_row_read : Fn P w G (XRK G) mg base k "row_read" (defArgs (top 22)) 2 S_row_read) {a : Addr} {fd : FuncData} (F : FunD G.K "cells_next" "cells_next" (defArgs (top 35)) (defBody (top 35)) (defScope (top 35)) [] [] a fd) (hm : mg "cells_next" = some (.ref a)) : Fn P w G (XRK G) mg base (k + 1) "cells_next" (defArgs (top 35)) 3 S_cells_next :=
  fn_mk (k := k) (N := N_cells_next) (ps := (["plant", "cells", "moves"] : List Str)) (xr1_ok _ _ _) F sc_cells_next hm rfl rfl (fun _ _ _ _ _ _ us hl => match us, hl with | [a0, a1, a2], _ => rfl) (fun cdv A outer s H E hr => T_cells_next.2 C h_row_applied h_row_sum h_row_read a cdv A outer s H E hr)

abbrev N_sights : List Str := ["plant", "cells", "_", "gauges"]
theorem nd_sights : (N_sights).Nodup := by decide +kernel
theorem sc_sights : FnScope N_sights (["plant", "cells"] : List Str) (defScope (top 33)) := ⟨rfl, rfl, rfl, nd_sights, rfl, by decide +kernel, by decide +kernel⟩
noncomputable def T_sights : { fb : FS // ∀ {P : Program} {w : World} {G : Gd} {mg : Str → Option Value} {base : Heap} {k : Nat} (C : Cn G mg) (h_row_applied : Fn P w G (XRK G) mg base k "row_applied" (defArgs (top 21)) 2 S_row_applied) (a : Addr) (cdv : Value) (A : Around) (outer : List Env) (s : Shared) (H : Hp) (E : XK), Room k (bodyX P w G.K mg base N_sights "sights" (defScope (top 33)) a cdv A outer s H E).A → PSsd G (XRK G) (bodyX P w G.K mg base N_sights "sights" (defScope (top 33)) a cdv A outer s H E) (WE0 E) (defBody (top 33)) fb } :=
  ⟨_, fun {P w G mg base k} C h_row_applied a cdv A outer s H E hr =>
  have ow : PassesOwn (model P w) (bodyX P w G.K mg base N_sights "sights" (defScope (top 33)) a cdv A outer s H E).A (bodyX P w G.K mg base N_sights "sights" (defScope (top 33)) a cdv A outer s H E).env (bodyX P w G.K mg base N_sights "sights" (defScope (top 33)) a cdv A outer s H E).xe := own_body
  have c : Cc G (bodyX P w G.K mg base N_sights "sights" (defScope (top 33)) a cdv A outer s H E) (WE0 E) k := ⟨rfl, rfl, nd_sights, hr, takes_body⟩
  (pssd_cons (psd_ret (d_callT (calld_tup c.K) bn_tuple C.f_tuple rfl (pad_cons (ped_of_pld (d_comp c [("_", 2), ("gauges", 3)] (.many [2, 3]) (pid_seq c.K (ped_ix c.K (d_var 0 nm_plant rfl rfl) d_int (fun _ _ => rfl))) (by kernel_rfl) rfl (fun _ _ _ _ _ => (pgd_many c.K c.calm rfl rfl (gs_cons 2 c.nd rfl rfl rfl (gs_cons 3 c.nd rfl rfl rfl pgsd_nil)))) (fun _ _ _ _ _ => ptsd_nil) (fun _ _ _ _ _ => (d_call c.blk h_row_applied nm_row_applied rfl (pad_cons (d_var 3 nm_gauges rfl rfl) (pad_cons (d_var 1 nm_cells rfl rfl) pad_nil rfl) rfl) rfl rfl)) (fun _ => rfl))) pad_nil rfl) rfl rfl))
  pssd_nil)⟩
noncomputable def S_sights : FN := callD 4 T_sights.1
theorem ok_sights {P : Program} {w : World} {G : Gd} {mg : Str → Option Value} {base : Heap} {k : Nat} (C : Cn G mg) (h_row_applied : Fn P w G (XRK G) mg base k "row_applied" (defArgs (top 21)) 2 S_row_applied) {a : Addr} {fd : FuncData} (F : FunD G.K "sights" "sights" (defArgs (top 33)) (defBody (top 33)) (defScope (top 33)) [] [] a fd) (hm : mg "sights" = some (.ref a)) : Fn P w G (XRK G) mg base (k + 1) "sights" (defArgs (top 33)) 2 S_sights :=
  fn_mk (k := k) (N := N_sights) (ps := (["plant", "cells"] : List Str)) (xr1_ok _ _ _) F sc_sights hm rfl rfl (fun _ _ _ _ _ _ us hl => match us, hl with | [a0, a1], _ => rfl) (fun cdv A outer s H E hr => T_sights.2 C h_row_applied a cdv A outer s H E hr)

abbrev N_played : List Str := ["plant", "cells", "clock", "ticks", "rows", "doings", "tick", "moves"]
theorem nd_played : (N_played).Nodup := by decide +kernel
theorem sc_played : FnScope N_played (["plant", "cells", "clock", "ticks"] : List Str) (defScope (top 39)) := ⟨rfl, rfl, rfl, nd_played, rfl, by decide +kernel, by decide +kernel⟩
noncomputable def T_played : { fb : FS // ∀ {P : Program} {w : World} {G : Gd} {mg : Str → Option Value} {base : Heap} {k : Nat} (C : Cn G mg) (h_fixed : Fn P w G (XRK G) mg base k "fixed" (defArgs (top 3)) 1 (S_fixed 10)) (h_ruled_moves : Fn P w G (XRK G) mg base k "ruled_moves" (defArgs (top 38)) 2 S_ruled_moves) (h_idle_moves : Fn P w G (XRK G) mg base k "idle_moves" (defArgs (top 37)) 1 S_idle_moves) (h_cells_next : Fn P w G (XRK G) mg base k "cells_next" (defArgs (top 35)) 3 S_cells_next) (h_sights : Fn P w G (XRK G) mg base k "sights" (defArgs (top 33)) 2 S_sights) (a : Addr) (cdv : Value) (A : Around) (outer : List Env) (s : Shared) (H : Hp) (E : XK), Room k (bodyX P w G.K mg base N_played "played" (defScope (top 39)) a cdv A outer s H E).A → PSsd G (XRK G) (bodyX P w G.K mg base N_played "played" (defScope (top 39)) a cdv A outer s H E) (WE0 E) (defBody (top 39)) fb } :=
  ⟨_, fun {P w G mg base k} C h_fixed h_ruled_moves h_idle_moves h_cells_next h_sights a cdv A outer s H E hr =>
  have ow : PassesOwn (model P w) (bodyX P w G.K mg base N_played "played" (defScope (top 39)) a cdv A outer s H E).A (bodyX P w G.K mg base N_played "played" (defScope (top 39)) a cdv A outer s H E).env (bodyX P w G.K mg base N_played "played" (defScope (top 39)) a cdv A outer s H E).xe := own_body
  have c : Cc G (bodyX P w G.K mg base N_played "played" (defScope (top 39)) a cdv A outer s H E) (WE0 E) k := ⟨rfl, rfl, nd_played, hr, takes_body⟩
  (pssd_cons (by first | exact psd_par3 c.calm c.nd (i := 0) (j := 1) (l := 2) rfl rfl rfl (by decide) (by decide) (by decide) rfl rfl rfl (pad_cons (d_call c h_fixed nm_fixed rfl (pad_cons (d_var 0 nm_plant rfl rfl) pad_nil rfl) rfl rfl) (pad_cons (d_call c h_fixed nm_fixed rfl (pad_cons (d_var 1 nm_cells rfl rfl) pad_nil rfl) rfl rfl) (pad_cons (d_call c h_fixed nm_fixed rfl (pad_cons (d_var 2 nm_clock rfl rfl) pad_nil rfl) rfl rfl) pad_nil rfl) rfl) rfl) rfl | exact psd_tup (ped_tupN (pad_cons (d_call c h_fixed nm_fixed rfl (pad_cons (d_var 0 nm_plant rfl rfl) pad_nil rfl) rfl rfl) (pad_cons (d_call c h_fixed nm_fixed rfl (pad_cons (d_var 1 nm_cells rfl rfl) pad_nil rfl) rfl rfl) (pad_cons (d_call c h_fixed nm_fixed rfl (pad_cons (d_var 2 nm_clock rfl rfl) pad_nil rfl) rfl rfl) pad_nil rfl) rfl) rfl) (lenA_cons (lenA_cons (lenA_cons lenA_nil))) rfl) (pgd_many c.K c.calm rfl rfl (gs_cons 0 c.nd rfl rfl rfl (gs_cons 1 c.nd rfl rfl rfl (gs_cons 2 c.nd rfl rfl rfl pgsd_nil)))) rfl rfl)
  (pssd_cons (by first | exact psd_par c.calm c.nd (i := 4) (j := 5) rfl rfl (by decide) rfl rfl (pad_cons (ped_alloc (pld_lstN (pad_cons (d_var 1 nm_cells rfl rfl) pad_nil rfl) (lenA_cons lenA_nil) rfl)) (pad_cons (ped_alloc (pld_lstN pad_nil lenA_nil rfl)) pad_nil rfl) rfl) rfl | exact psd_tup (ped_tupN (pad_cons (ped_alloc (pld_lstN (pad_cons (d_var 1 nm_cells rfl rfl) pad_nil rfl) (lenA_cons lenA_nil) rfl)) (pad_cons (ped_alloc (pld_lstN pad_nil lenA_nil rfl)) pad_nil rfl) rfl) (lenA_cons (lenA_cons lenA_nil)) rfl) (pgd_many c.K c.calm rfl rfl (gs_cons 4 c.nd rfl rfl rfl (gs_cons 5 c.nd rfl rfl rfl pgsd_nil))) rfl rfl)
  (pssd_cons (psd_for ow c.calm (pid_range1 rfl C.f_range (pad_cons (d_var 3 nm_ticks rfl rfl) pad_nil rfl) rfl) (g_one 6 c.nd rfl rfl rfl) (pssd_cons (psd_if (pcd_cmp opd_lt (d_var 6 nm_tick rfl rfl) (d_callB (calld_len c.K) bn_len C.f_len rfl (pad_cons (d_var 2 nm_clock rfl rfl) pad_nil rfl) rfl rfl) rfl) (pssd_cons (s_set 7 c rfl rfl rfl (d_call c h_ruled_moves nm_ruled_moves rfl (pad_cons (ped_ix c.K (d_var 2 nm_clock rfl rfl) (d_var 6 nm_tick rfl rfl) (fun _ _ => rfl)) (pad_cons (d_call c h_sights nm_sights rfl (pad_cons (d_var 0 nm_plant rfl rfl) (pad_cons (ped_ix c.K (d_var 4 nm_rows rfl rfl) (ped_un und_neg d_int) (fun _ _ => rfl)) pad_nil rfl) rfl) rfl rfl) pad_nil rfl) rfl) rfl rfl) rfl)
  pssd_nil) (pssd_cons (s_set 7 c rfl rfl rfl (d_call c h_idle_moves nm_idle_moves rfl (pad_cons (d_var 0 nm_plant rfl rfl) pad_nil rfl) rfl rfl) rfl)
  pssd_nil))
  (pssd_cons (psd_expr (d_append c (d_var 5 nm_doings rfl rfl) (d_var 7 nm_moves rfl rfl) rfl rfl rfl) rfl)
  (pssd_cons (psd_expr (d_append c (d_var 4 nm_rows rfl rfl) (d_call c h_cells_next nm_cells_next rfl (pad_cons (d_var 0 nm_plant rfl rfl) (pad_cons (ped_ix c.K (d_var 4 nm_rows rfl rfl) (ped_un und_neg d_int) (fun _ _ => rfl)) (pad_cons (d_var 7 nm_moves rfl rfl) pad_nil rfl) rfl) rfl) rfl rfl) rfl rfl rfl) rfl)
  pssd_nil))) (fun _ => rfl))
  (pssd_cons (psd_ret (ped_tupN (pad_cons (d_callT (calld_tup c.K) bn_tuple C.f_tuple rfl (pad_cons (d_var 4 nm_rows rfl rfl) pad_nil rfl) rfl rfl) (pad_cons (d_callT (calld_tup c.K) bn_tuple C.f_tuple rfl (pad_cons (d_var 5 nm_doings rfl rfl) pad_nil rfl) rfl rfl) pad_nil rfl) rfl) (lenA_cons (lenA_cons lenA_nil)) rfl))
  pssd_nil))))⟩
noncomputable def S_played : FN := callD 8 T_played.1
theorem ok_played {P : Program} {w : World} {G : Gd} {mg : Str → Option Value} {base : Heap} {k : Nat} (C : Cn G mg) (h_fixed : Fn P w G (XRK G) mg base k "fixed" (defArgs (top 3)) 1 (S_fixed 10)) (h_ruled_moves : Fn P w G (XRK G) mg base k "ruled_moves" (defArgs (top 38)) 2 S_ruled_moves) (h_idle_moves : Fn P w G (XRK G) mg base k "idle_moves" (defArgs (top 37)) 1 S_idle_moves) (h_cells_next : Fn P w G (XRK G) mg base k "cells_next" (defArgs (top 35)) 3 S_cells_next) (h_sights : Fn P w G (XRK G) mg base k "sights" (defArgs (top 33)) 2 S_sights) {a : Addr} {fd : FuncData} (F : FunD G.K "played" "played" (defArgs (top 39)) (defBody (top 39)) (defScope (top 39)) [] [] a fd) (hm : mg "played" = some (.ref a)) : Fn P w G (XRK G) mg base (k + 1) "played" (defArgs (top 39)) 4 S_played :=
  fn_mk (k := k) (N := N_played) (ps := (["plant", "cells", "clock", "ticks"] : List Str)) (xr1_ok _ _ _) F sc_played hm rfl rfl (fun _ _ _ _ _ _ us hl => match us, hl with | [a0, a1, a2, a3], _ => rfl) (fun cdv A outer s H E hr => T_played.2 C h_fixed h_ruled_moves h_idle_moves h_cells_next h_sights a cdv A outer s H E hr)

abbrev N_idled : List Str := ["plant", "cells", "ticks"]
theorem nd_idled : (N_idled).Nodup := by decide +kernel
theorem sc_idled : FnScope N_idled (["plant", "cells", "ticks"] : List Str) (defScope (top 40)) := ⟨rfl, rfl, rfl, nd_idled, rfl, by decide +kernel, by decide +kernel⟩
noncomputable def T_idled : { fb : FS // ∀ {P : Program} {w : World} {G : Gd} {mg : Str → Option Value} {base : Heap} {k : Nat} (C : Cn G mg) (h_played : Fn P w G (XRK G) mg base k "played" (defArgs (top 39)) 4 S_played) (a : Addr) (cdv : Value) (A : Around) (outer : List Env) (s : Shared) (H : Hp) (E : XK), Room k (bodyX P w G.K mg base N_idled "idled" (defScope (top 40)) a cdv A outer s H E).A → PSsd G (XRK G) (bodyX P w G.K mg base N_idled "idled" (defScope (top 40)) a cdv A outer s H E) (WE0 E) (defBody (top 40)) fb } :=
  ⟨_, fun {P w G mg base k} C h_played a cdv A outer s H E hr =>
  have ow : PassesOwn (model P w) (bodyX P w G.K mg base N_idled "idled" (defScope (top 40)) a cdv A outer s H E).A (bodyX P w G.K mg base N_idled "idled" (defScope (top 40)) a cdv A outer s H E).env (bodyX P w G.K mg base N_idled "idled" (defScope (top 40)) a cdv A outer s H E).xe := own_body
  have c : Cc G (bodyX P w G.K mg base N_idled "idled" (defScope (top 40)) a cdv A outer s H E) (WE0 E) k := ⟨rfl, rfl, nd_idled, hr, takes_body⟩
  (pssd_cons (psd_ret (d_call c h_played nm_played rfl (pad_cons (d_var 0 nm_plant rfl rfl) (pad_cons (d_var 1 nm_cells rfl rfl) (pad_cons (ped_tupN pad_nil lenA_nil rfl) (pad_cons (d_var 2 nm_ticks rfl rfl) pad_nil rfl) rfl) rfl) rfl) rfl rfl))
  pssd_nil)⟩
noncomputable def S_idled : FN := callD 3 T_idled.1
theorem ok_idled {P : Program} {w : World} {G : Gd} {mg : Str → Option Value} {base : Heap} {k : Nat} (C : Cn G mg) (h_played : Fn P w G (XRK G) mg base k "played" (defArgs (top 39)) 4 S_played) {a : Addr} {fd : FuncData} (F : FunD G.K "idled" "idled" (defArgs (top 40)) (defBody (top 40)) (defScope (top 40)) [] [] a fd) (hm : mg "idled" = some (.ref a)) : Fn P w G (XRK G) mg base (k + 1) "idled" (defArgs (top 40)) 3 S_idled :=
  fn_mk (k := k) (N := N_idled) (ps := (["plant", "cells", "ticks"] : List Str)) (xr1_ok _ _ _) F sc_idled hm rfl rfl (fun _ _ _ _ _ _ us hl => match us, hl with | [a0, a1, a2], _ => rfl) (fun cdv A outer s H E hr => T_idled.2 C h_played a cdv A outer s H E hr)

abbrev N_is_number : List Str := ["thing"]
theorem nd_is_number : (N_is_number).Nodup := by decide +kernel
theorem sc_is_number : FnScope N_is_number (["thing"] : List Str) (defScope (top 4)) := ⟨rfl, rfl, rfl, nd_is_number, rfl, by decide +kernel, by decide +kernel⟩
noncomputable def T_is_number : { fb : FS // ∀ {P : Program} {w : World} {G : Gd} {mg : Str → Option Value} {base : Heap} {k : Nat} (C : Cn G mg) (a : Addr) (cdv : Value) (A : Around) (outer : List Env) (s : Shared) (H : Hp) (E : XK), Room k (bodyX P w G.K mg base N_is_number "is_number" (defScope (top 4)) a cdv A outer s H E).A → PSsd G (XRK G) (bodyX P w G.K mg base N_is_number "is_number" (defScope (top 4)) a cdv A outer s H E) (WE0 E) (defBody (top 4)) fb } :=
  ⟨_, fun {P w G mg base k} C a cdv A outer s H E hr =>
  have ow : PassesOwn (model P w) (bodyX P w G.K mg base N_is_number "is_number" (defScope (top 4)) a cdv A outer s H E).A (bodyX P w G.K mg base N_is_number "is_number" (defScope (top 4)) a cdv A outer s H E).env (bodyX P w G.K mg base N_is_number "is_number" (defScope (top 4)) a cdv A outer s H E).xe := own_body
  have c : Cc G (bodyX P w G.K mg base N_is_number "is_number" (defScope (top 4)) a cdv A outer s H E) (WE0 E) k := ⟨rfl, rfl, nd_is_number, hr, takes_body⟩
  (pssd_cons (psd_ret (ped_and c.K (ped_isi1 c.K rfl C.f_isinstance (d_var 0 nm_thing rfl rfl) (pcls_cons (n := 2) rfl C.f_int bn_int.boot bn_int.ne bn_int.db pcls_nil rfl) rfl rfl rfl) (ped_one (ped_not c.K (ped_isi1 c.K rfl C.f_isinstance (d_var 0 nm_thing rfl rfl) (pcls_cons (n := 1) rfl C.f_bool bn_bool.boot bn_bool.ne bn_bool.db pcls_nil rfl) rfl rfl rfl)))))
  pssd_nil)⟩
noncomputable def S_is_number : FN := callD 1 T_is_number.1
theorem ok_is_number {P : Program} {w : World} {G : Gd} {mg : Str → Option Value} {base : Heap} {k : Nat} (C : Cn G mg) {a : Addr} {fd : FuncData} (F : FunD G.K "is_number" "is_number" (defArgs (top 4)) (defBody (top 4)) (defScope (top 4)) [] [] a fd) (hm : mg "is_number" = some (.ref a)) : Fn P w G (XRK G) mg base (k + 1) "is_number" (defArgs (top 4)) 1 S_is_number :=
  fn_mk (k := k) (N := N_is_number) (ps := (["thing"] : List Str)) (xr1_ok _ _ _) F sc_is_number hm rfl rfl (fun _ _ _ _ _ _ us hl => match us, hl with | [a0], _ => rfl) (fun cdv A outer s H E hr => T_is_number.2 C a cdv A outer s H E hr)

abbrev N_is_fraction : List Str := ["thing"]
theorem nd_is_fraction : (N_is_fraction).Nodup := by decide +kernel
theorem sc_is_fraction : FnScope N_is_fraction (["thing"] : List Str) (defScope (top 5)) := ⟨rfl, rfl, rfl, nd_is_fraction, rfl, by decide +kernel, by decide +kernel⟩
noncomputable def T_is_fraction : { fb : FS // ∀ {P : Program} {w : World} {G : Gd} {mg : Str → Option Value} {base : Heap} {k : Nat} (C : Cn G mg) (h_is_number : Fn P w G (XRK G) mg base k "is_number" (defArgs (top 4)) 1 S_is_number) (a : Addr) (cdv : Value) (A : Around) (outer : List Env) (s : Shared) (H : Hp) (E : XK), Room k (bodyX P w G.K mg base N_is_fraction "is_fraction" (defScope (top 5)) a cdv A outer s H E).A → PSsd G (XRK G) (bodyX P w G.K mg base N_is_fraction "is_fraction" (defScope (top 5)) a cdv A outer s H E) (WE0 E) (defBody (top 5)) fb } :=
  ⟨_, fun {P w G mg base k} C h_is_number a cdv A outer s H E hr =>
  have ow : PassesOwn (model P w) (bodyX P w G.K mg base N_is_fraction "is_fraction" (defScope (top 5)) a cdv A outer s H E).A (bodyX P w G.K mg base N_is_fraction "is_fraction" (defScope (top 5)) a cdv A outer s H E).env (bodyX P w G.K mg base N_is_fraction "is_fraction" (defScope (top 5)) a cdv A outer s H E).xe := own_body
  have c : Cc G (bodyX P w G.K mg base N_is_fraction "is_fraction" (defScope (top 5)) a cdv A outer s H E) (WE0 E) k := ⟨rfl, rfl, nd_is_fraction, hr, takes_body⟩
  (pssd_cons (psd_if (PWd.pcd (pwd_or (pcd_not (pcd_truth c.K (ped_isi1 c.K rfl C.f_isinstance (d_var 0 nm_thing rfl rfl) (pcls_cons (n := 4) rfl C.f_tuple bn_tuple.boot bn_tuple.ne bn_tuple.db pcls_nil rfl) rfl rfl rfl) (fun _ => rfl))) (pwd_or1 (pcd_cmp (opd_ne c.K c.room.units) (d_callB (calld_len c.K) bn_len C.f_len rfl (pad_cons (d_var 0 nm_thing rfl rfl) pad_nil rfl) rfl rfl) d_int rfl)))) (pssd_cons (psd_ret d_bl)
  pssd_nil) pssd_nil)
  (pssd_cons (psd_if (PWd.pcd (pwd_or (pcd_not (pcd_truth c.K (d_call c h_is_number nm_is_number rfl (pad_cons (ped_ix c.K (d_var 0 nm_thing rfl rfl) d_int (fun _ _ => rfl)) pad_nil rfl) rfl rfl) (fun _ => rfl))) (pwd_or1 (pcd_not (pcd_truth c.K (d_call c h_is_number nm_is_number rfl (pad_cons (ped_ix c.K (d_var 0 nm_thing rfl rfl) d_int (fun _ _ => rfl)) pad_nil rfl) rfl rfl) (fun _ => rfl)))))) (pssd_cons (psd_ret d_bl)
  pssd_nil) pssd_nil)
  (pssd_cons (psd_ret (ped_and c.K (ped_cmp opd_ge (ped_ix c.K (d_var 0 nm_thing rfl rfl) d_int (fun _ _ => rfl)) d_int rfl) (ped_one (ped_cmp (opd_eq c.K c.room.units) (d_callF calld_gcd nm_gcd C.g_gcd rfl (pad_cons (ped_ix c.K (d_var 0 nm_thing rfl rfl) d_int (fun _ _ => rfl)) (pad_cons (ped_ix c.K (d_var 0 nm_thing rfl rfl) d_int (fun _ _ => rfl)) pad_nil rfl) rfl) rfl rfl) d_int rfl))))
  pssd_nil)))⟩
noncomputable def S_is_fraction : FN := callD 1 T_is_fraction.1
theorem ok_is_fraction {P : Program} {w : World} {G : Gd} {mg : Str → Option Value} {base : Heap} {k : Nat} (C : Cn G mg) (h_is_number : Fn P w G (XRK G) mg base k "is_number" (defArgs (top 4)) 1 S_is_number) {a : Addr} {fd : FuncData} (F : FunD G.K "is_fraction" "is_fraction" (defArgs (top 5)) (defBody (top 5)) (defScope (top 5)) [] [] a fd) (hm : mg "is_fraction" = some (.ref a)) : Fn P w G (XRK G) mg base (k + 1) "is_fraction" (defArgs (top 5)) 1 S_is_fraction :=
  fn_mk (k := k) (N := N_is_fraction) (ps := (["thing"] : List Str)) (xr1_ok _ _ _) F sc_is_fraction hm rfl rfl (fun _ _ _ _ _ _ us hl => match us, hl with | [a0], _ => rfl) (fun cdv A outer s H E hr => T_is_fraction.2 C h_is_number a cdv A outer s H E hr)

abbrev N_is_row : List Str := ["thing", "long", "part"]
theorem nd_is_row : (N_is_row).Nodup := by decide +kernel
theorem sc_is_row : FnScope N_is_row (["thing", "long"] : List Str) (defScope (top 6)) := ⟨rfl, rfl, rfl, nd_is_row, rfl, by decide +kernel, by decide +kernel⟩
noncomputable def T_is_row : { fb : FS // ∀ {P : Program} {w : World} {G : Gd} {mg : Str → Option Value} {base : Heap} {k : Nat} (C : Cn G mg) (h_is_fraction : Fn P w G (XRK G) mg base k "is_fraction" (defArgs (top 5)) 1 S_is_fraction) (a : Addr) (cdv : Value) (A : Around) (outer : List Env) (s : Shared) (H : Hp) (E : XK), Room k (bodyX P w G.K mg base N_is_row "is_row" (defScope (top 6)) a cdv A outer s H E).A → PSsd G (XRK G) (bodyX P w G.K mg base N_is_row "is_row" (defScope (top 6)) a cdv A outer s H E) (WE0 E) (defBody (top 6)) fb } :=
  ⟨_, fun {P w G mg base k} C h_is_fraction a cdv A outer s H E hr =>
  have ow : PassesOwn (model P w) (bodyX P w G.K mg base N_is_row "is_row" (defScope (top 6)) a cdv A outer s H E).A (bodyX P w G.K mg base N_is_row "is_row" (defScope (top 6)) a cdv A outer s H E).env (bodyX P w G.K mg base N_is_row "is_row" (defScope (top 6)) a cdv A outer s H E).xe := own_body
  have c : Cc G (bodyX P w G.K mg base N_is_row "is_row" (defScope (top 6)) a cdv A outer s H E) (WE0 E) k := ⟨rfl, rfl, nd_is_row, hr, takes_body⟩
  (pssd_cons (psd_if (PWd.pcd (pwd_or (pcd_not (pcd_truth c.K (ped_isi1 c.K rfl C.f_isinstance (d_var 0 nm_thing rfl rfl) (pcls_cons (n := 4) rfl C.f_tuple bn_tuple.boot bn_tuple.ne bn_tuple.db pcls_nil rfl) rfl rfl rfl) (fun _ => rfl))) (pwd_or1 (pcd_cmp (opd_ne c.K c.room.units) (d_callB (calld_len c.K) bn_len C.f_len rfl (pad_cons (d_var 0 nm_thing rfl rfl) pad_nil rfl) rfl rfl) (d_var 1 nm_long rfl rfl) rfl)))) (pssd_cons (psd_ret d_bl)
  pssd_nil) pssd_nil)
  (pssd_cons (psd_ret (d_callB (calld_all c.K c.calm) bn_all C.f_all rfl (pad_cons (ped_of_pld (d_comp c [("part", 2)] (.one 2) (pid_seq c.K (d_var 0 nm_thing rfl rfl)) (by kernel_rfl) rfl (fun _ _ _ _ _ => (g_one 2 c.nd rfl rfl rfl)) (fun _ _ _ _ _ => ptsd_nil) (fun _ _ _ _ _ => (d_call c.blk h_is_fraction nm_is_fraction rfl (pad_cons (d_var 2 nm_part rfl rfl) pad_nil rfl) rfl rfl)) (fun _ => rfl))) pad_nil rfl) rfl rfl))
  pssd_nil))⟩
noncomputable def S_is_row : FN := callD 3 T_is_row.1
theorem ok_is_row {P : Program} {w : World} {G : Gd} {mg : Str → Option Value} {base : Heap} {k : Nat} (C : Cn G mg) (h_is_fraction : Fn P w G (XRK G) mg base k "is_fraction" (defArgs (top 5)) 1 S_is_fraction) {a : Addr} {fd : FuncData} (F : FunD G.K "is_row" "is_row" (defArgs (top 6)) (defBody (top 6)) (defScope (top 6)) [] [] a fd) (hm : mg "is_row" = some (.ref a)) : Fn P w G (XRK G) mg base (k + 1) "is_row" (defArgs (top 6)) 2 S_is_row :=
  fn_mk (k := k) (N := N_is_row) (ps := (["thing", "long"] : List Str)) (xr1_ok _ _ _) F sc_is_row hm rfl rfl (fun _ _ _ _ _ _ us hl => match us, hl with | [a0, a1], _ => rfl) (fun cdv A outer s H E hr => T_is_row.2 C h_is_fraction a cdv A outer s H E hr)

abbrev N_is_table : List Str := ["thing", "many", "long", "row"]
theorem nd_is_table : (N_is_table).Nodup := by decide +kernel
theorem sc_is_table : FnScope N_is_table (["thing", "many", "long"] : List Str) (defScope (top 17)) := ⟨rfl, rfl, rfl, nd_is_table, rfl, by decide +kernel, by decide +kernel⟩
noncomputable def T_is_table : { fb : FS // ∀ {P : Program} {w : World} {G : Gd} {mg : Str → Option Value} {base : Heap} {k : Nat} (C : Cn G mg) (h_is_row : Fn P w G (XRK G) mg base k "is_row" (defArgs (top 6)) 2 S_is_row) (a : Addr) (cdv : Value) (A : Around) (outer : List Env) (s : Shared) (H : Hp) (E : XK), Room k (bodyX P w G.K mg base N_is_table "is_table" (defScope (top 17)) a cdv A outer s H E).A → PSsd G (XRK G) (bodyX P w G.K mg base N_is_table "is_table" (defScope (top 17)) a cdv A outer s H E) (WE0 E) (defBody (top 17)) fb } :=
  ⟨_, fun {P w G mg base k} C h_is_row a cdv A outer s H E hr =>
  have ow : PassesOwn (model P w) (bodyX P w G.K mg base N_is_table "is_table" (defScope (top 17)) a cdv A outer s H E).A (bodyX P w G.K mg base N_is_table "is_table" (defScope (top 17)) a cdv A outer s H E).env (bodyX P w G.K mg base N_is_table "is_table" (defScope (top 17)) a cdv A outer s H E).xe := own_body
  have c : Cc G (bodyX P w G.K mg base N_is_table "is_table" (defScope (top 17)) a cdv A outer s H E) (WE0 E) k := ⟨rfl, rfl, nd_is_table, hr, takes_body⟩
  (pssd_cons (psd_if (PWd.pcd (pwd_or (pcd_not (pcd_truth c.K (ped_isi1 c.K rfl C.f_isinstance (d_var 0 nm_thing rfl rfl) (pcls_cons (n := 4) rfl C.f_tuple bn_tuple.boot bn_tuple.ne bn_tuple.db pcls_nil rfl) rfl rfl rfl) (fun _ => rfl))) (pwd_or1 (pcd_cmp (opd_ne c.K c.room.units) (d_callB (calld_len c.K) bn_len C.f_len rfl (pad_cons (d_var 0 nm_thing rfl rfl) pad_nil rfl) rfl rfl) (d_var 1 nm_many rfl rfl) rfl)))) (pssd_cons (psd_ret d_bl)
  pssd_nil) pssd_nil)
  (pssd_cons (psd_ret (d_callB (calld_all c.K c.calm) bn_all C.f_all rfl (pad_cons (ped_of_pld (d_comp c [("row", 3)] (.one 3) (pid_seq c.K (d_var 0 nm_thing rfl rfl)) (by kernel_rfl) rfl (fun _ _ _ _ _ => (g_one 3 c.nd rfl rfl rfl)) (fun _ _ _ _ _ => ptsd_nil) (fun _ _ _ _ _ => (d_call c.blk h_is_row nm_is_row rfl (pad_cons (d_var 3 nm_row rfl rfl) (pad_cons (d_var 2 nm_long rfl rfl) pad_nil rfl) rfl) rfl rfl)) (fun _ => rfl))) pad_nil rfl) rfl rfl))
  pssd_nil))⟩
noncomputable def S_is_table : FN := callD 4 T_is_table.1
theorem ok_is_table {P : Program} {w : World} {G : Gd} {mg : Str → Option Value} {base : Heap} {k : Nat} (C : Cn G mg) (h_is_row : Fn P w G (XRK G) mg base k "is_row" (defArgs (top 6)) 2 S_is_row) {a : Addr} {fd : FuncData} (F : FunD G.K "is_table" "is_table" (defArgs (top 17)) (defBody (top 17)) (defScope (top 17)) [] [] a fd) (hm : mg "is_table" = some (.ref a)) : Fn P w G (XRK G) mg base (k + 1) "is_table" (defArgs (top 17)) 3 S_is_table :=
  fn_mk (k := k) (N := N_is_table) (ps := (["thing", "many", "long"] : List Str)) (xr1_ok _ _ _) F sc_is_table hm rfl rfl (fun _ _ _ _ _ _ us hl => match us, hl with | [a0, a1, a2], _ => rfl) (fun cdv A outer s H E hr => T_is_table.2 C h_is_row a cdv A outer s H E hr)

abbrev N_is_steady_program : List Str := ["thing", "levers", "gauges", "keeps", "hears", "tells", "rule", "many"]
theorem nd_is_steady_program : (N_is_steady_program).Nodup := by decide +kernel
theorem sc_is_steady_program : FnScope N_is_steady_program (["thing", "levers", "gauges"] : List Str) (defScope (top 31)) := ⟨rfl, rfl, rfl, nd_is_steady_program, rfl, by decide +kernel, by decide +kernel⟩
noncomputable def T_is_steady_program : { fb : FS // ∀ {P : Program} {w : World} {G : Gd} {mg : Str → Option Value} {base : Heap} {k : Nat} (C : Cn G mg) (h_is_table : Fn P w G (XRK G) mg base k "is_table" (defArgs (top 17)) 3 S_is_table) (a : Addr) (cdv : Value) (A : Around) (outer : List Env) (s : Shared) (H : Hp) (E : XK), Room k (bodyX P w G.K mg base N_is_steady_program "is_steady_program" (defScope (top 31)) a cdv A outer s H E).A → PSsd G (XRK G) (bodyX P w G.K mg base N_is_steady_program "is_steady_program" (defScope (top 31)) a cdv A outer s H E) (WE0 E) (defBody (top 31)) fb } :=
  ⟨_, fun {P w G mg base k} C h_is_table a cdv A outer s H E hr =>
  have ow : PassesOwn (model P w) (bodyX P w G.K mg base N_is_steady_program "is_steady_program" (defScope (top 31)) a cdv A outer s H E).A (bodyX P w G.K mg base N_is_steady_program "is_steady_program" (defScope (top 31)) a cdv A outer s H E).env (bodyX P w G.K mg base N_is_steady_program "is_steady_program" (defScope (top 31)) a cdv A outer s H E).xe := own_body
  have c : Cc G (bodyX P w G.K mg base N_is_steady_program "is_steady_program" (defScope (top 31)) a cdv A outer s H E) (WE0 E) k := ⟨rfl, rfl, nd_is_steady_program, hr, takes_body⟩
  (pssd_cons (psd_if (PWd.pcd (pwd_or (pcd_not (pcd_truth c.K (ped_isi1 c.K rfl C.f_isinstance (d_var 0 nm_thing rfl rfl) (pcls_cons (n := 4) rfl C.f_tuple bn_tuple.boot bn_tuple.ne bn_tuple.db pcls_nil rfl) rfl rfl rfl) (fun _ => rfl))) (pwd_or (pcd_cmp (opd_ne c.K c.room.units) (d_callB (calld_len c.K) bn_len C.f_len rfl (pad_cons (d_var 0 nm_thing rfl rfl) pad_nil rfl) rfl rfl) d_int rfl) (pwd_or1 (pcd_not (pcd_truth c.K (ped_isi1 c.K rfl C.f_isinstance (ped_ix c.K (d_var 0 nm_thing rfl rfl) d_int (fun _ _ => rfl)) (pcls_cons (n := 4) rfl C.f_tuple bn_tuple.boot bn_tuple.ne bn_tuple.db pcls_nil rfl) rfl rfl rfl) (fun _ => rfl))))))) (pssd_cons (psd_ret d_bl)
  pssd_nil) pssd_nil)
  (pssd_cons (psd_tup (d_var 0 nm_thing rfl rfl) (pgd_many c.K c.calm rfl rfl (gs_cons 3 c.nd rfl rfl rfl (gs_cons 4 c.nd rfl rfl rfl (gs_cons 5 c.nd rfl rfl rfl (gs_cons 6 c.nd rfl rfl rfl pgsd_nil))))) rfl rfl)
  (pssd_cons (s_set 7 c rfl rfl rfl (d_callB (calld_len c.K) bn_len C.f_len rfl (pad_cons (d_var 3 nm_keeps rfl rfl) pad_nil rfl) rfl rfl) rfl)
  (pssd_cons (psd_if (PWd.pcd (pwd_or (pcd_not (pcd_truth c.K (d_call c h_is_table nm_is_table rfl (pad_cons (d_var 3 nm_keeps rfl rfl) (pad_cons (d_var 7 nm_many rfl rfl) (pad_cons (d_var 7 nm_many rfl rfl) pad_nil rfl) rfl) rfl) rfl rfl) (fun _ => rfl))) (pwd_or1 (pcd_not (pcd_truth c.K (d_call c h_is_table nm_is_table rfl (pad_cons (d_var 4 nm_hears rfl rfl) (pad_cons (d_var 7 nm_many rfl rfl) (pad_cons (d_var 2 nm_gauges rfl rfl) pad_nil rfl) rfl) rfl) rfl rfl) (fun _ => rfl)))))) (pssd_cons (psd_ret d_bl)
  pssd_nil) pssd_nil)
  (pssd_cons (psd_ret (ped_and c.K (d_call c h_is_table nm_is_table rfl (pad_cons (d_var 5 nm_tells rfl rfl) (pad_cons (d_var 1 nm_levers rfl rfl) (pad_cons (d_var 7 nm_many rfl rfl) pad_nil rfl) rfl) rfl) rfl rfl) (ped_one (d_call c h_is_table nm_is_table rfl (pad_cons (d_var 6 nm_rule rfl rfl) (pad_cons (d_var 1 nm_levers rfl rfl) (pad_cons (d_var 2 nm_gauges rfl rfl) pad_nil rfl) rfl) rfl) rfl rfl))))
  pssd_nil)))))⟩
noncomputable def S_is_steady_program : FN := callD 8 T_is_steady_program.1
theorem ok_is_steady_program {P : Program} {w : World} {G : Gd} {mg : Str → Option Value} {base : Heap} {k : Nat} (C : Cn G mg) (h_is_table : Fn P w G (XRK G) mg base k "is_table" (defArgs (top 17)) 3 S_is_table) {a : Addr} {fd : FuncData} (F : FunD G.K "is_steady_program" "is_steady_program" (defArgs (top 31)) (defBody (top 31)) (defScope (top 31)) [] [] a fd) (hm : mg "is_steady_program" = some (.ref a)) : Fn P w G (XRK G) mg base (k + 1) "is_steady_program" (defArgs (top 31)) 3 S_is_steady_program :=
  fn_mk (k := k) (N := N_is_steady_program) (ps := (["thing", "levers", "gauges"] : List Str)) (xr1_ok _ _ _) F sc_is_steady_program hm rfl rfl (fun _ _ _ _ _ _ us hl => match us, hl with | [a0, a1, a2], _ => rfl) (fun cdv A outer s H E hr => T_is_steady_program.2 C h_is_table a cdv A outer s H E hr)

abbrev N_is_steady : List Str := ["plant", "thing", "levers", "gauges", "program"]
theorem nd_is_steady : (N_is_steady).Nodup := by decide +kernel
theorem sc_is_steady : FnScope N_is_steady (["plant", "thing"] : List Str) (defScope (top 30)) := ⟨rfl, rfl, rfl, nd_is_steady, rfl, by decide +kernel, by decide +kernel⟩
noncomputable def T_is_steady : { fb : FS // ∀ {P : Program} {w : World} {G : Gd} {mg : Str → Option Value} {base : Heap} {k : Nat} (C : Cn G mg) (h_fixed : Fn P w G (XRK G) mg base k "fixed" (defArgs (top 3)) 1 (S_fixed 10)) (h_is_steady_program : Fn P w G (XRK G) mg base k "is_steady_program" (defArgs (top 31)) 3 S_is_steady_program) (h_hand_sizes : Fn P w G (XRK G) mg base k "hand_sizes" (defArgs (top 24)) 1 S_hand_sizes) (a : Addr) (cdv : Value) (A : Around) (outer : List Env) (s : Shared) (H : Hp) (E : XK), Room k (bodyX P w G.K mg base N_is_steady "is_steady" (defScope (top 30)) a cdv A outer s H E).A → PSsd G (XRK G) (bodyX P w G.K mg base N_is_steady "is_steady" (defScope (top 30)) a cdv A outer s H E) (WE0 E) (defBody (top 30)) fb } :=
  ⟨_, fun {P w G mg base k} C h_fixed h_is_steady_program h_hand_sizes a cdv A outer s H E hr =>
  have ow : PassesOwn (model P w) (bodyX P w G.K mg base N_is_steady "is_steady" (defScope (top 30)) a cdv A outer s H E).A (bodyX P w G.K mg base N_is_steady "is_steady" (defScope (top 30)) a cdv A outer s H E).env (bodyX P w G.K mg base N_is_steady "is_steady" (defScope (top 30)) a cdv A outer s H E).xe := own_body
  have c : Cc G (bodyX P w G.K mg base N_is_steady "is_steady" (defScope (top 30)) a cdv A outer s H E) (WE0 E) k := ⟨rfl, rfl, nd_is_steady, hr, takes_body⟩
  (pssd_cons (s_set 0 c rfl rfl rfl (d_call c h_fixed nm_fixed rfl (pad_cons (d_var 0 nm_plant rfl rfl) pad_nil rfl) rfl rfl) rfl)
  (pssd_cons (psd_if (PWd.pcd (pwd_or (pcd_not (pcd_truth c.K (ped_isi1 c.K rfl C.f_isinstance (d_var 1 nm_thing rfl rfl) (pcls_cons (n := 4) rfl C.f_tuple bn_tuple.boot bn_tuple.ne bn_tuple.db pcls_nil rfl) rfl rfl rfl) (fun _ => rfl))) (pwd_or1 (pcd_cmp (opd_ne c.K c.room.units) (d_callB (calld_len c.K) bn_len C.f_len rfl (pad_cons (d_var 1 nm_thing rfl rfl) pad_nil rfl) rfl rfl) (d_callB (calld_len c.K) bn_len C.f_len rfl (pad_cons (ped_ix c.K (d_var 0 nm_plant rfl rfl) d_int (fun _ _ => rfl)) pad_nil rfl) rfl rfl) rfl)))) (pssd_cons (psd_ret d_bl)
  pssd_nil) pssd_nil)
  (pssd_cons (psd_ret (d_callB (calld_all c.K c.calm) bn_all C.f_all rfl (pad_cons (ped_of_pld (d_comp c [("levers", 2), ("gauges", 3), ("program", 4)] (.tree (.cons (.row (.cons (.nm 2) (.cons (.nm 3) .nil))) (.cons (.nm 4) .nil))) (pid_zip2 c.K rfl C.f_zip (pad_cons (d_call c h_hand_sizes nm_hand_sizes rfl (pad_cons (d_var 0 nm_plant rfl rfl) pad_nil rfl) rfl rfl) (pad_cons (d_var 1 nm_thing rfl rfl) pad_nil rfl) rfl) rfl rfl) (by kernel_rfl) rfl (fun _ _ _ _ _ => (pgd_tree c.K c.calm rfl rfl (tts_cons (tt_row c.K c.calm rfl rfl (tts_cons (tt_nm (i := 2) c.nd rfl (loc_ok rfl) (fn_ok rfl)) (tts_cons (tt_nm (i := 3) c.nd rfl (loc_ok rfl) (fn_ok rfl)) tts_nil rfl) rfl)) (tts_cons (tt_nm (i := 4) c.nd rfl (loc_ok rfl) (fn_ok rfl)) tts_nil rfl) rfl))) (fun _ _ _ _ _ => ptsd_nil) (fun _ _ _ _ _ => (d_call c.blk h_is_steady_program nm_is_steady_program rfl (pad_cons (d_var 4 nm_program rfl rfl) (pad_cons (d_var 2 nm_levers rfl rfl) (pad_cons (d_var 3 nm_gauges rfl rfl) pad_nil rfl) rfl) rfl) rfl rfl)) (fun _ => rfl))) pad_nil rfl) rfl rfl))
  pssd_nil)))⟩
noncomputable def S_is_steady : FN := callD 5 T_is_steady.1
theorem ok_is_steady {P : Program} {w : World} {G : Gd} {mg : Str → Option Value} {base : Heap} {k : Nat} (C : Cn G mg) (h_fixed : Fn P w G (XRK G) mg base k "fixed" (defArgs (top 3)) 1 (S_fixed 10)) (h_is_steady_program : Fn P w G (XRK G) mg base k "is_steady_program" (defArgs (top 31)) 3 S_is_steady_program) (h_hand_sizes : Fn P w G (XRK G) mg base k "hand_sizes" (defArgs (top 24)) 1 S_hand_sizes) {a : Addr} {fd : FuncData} (F : FunD G.K "is_steady" "is_steady" (defArgs (top 30)) (defBody (top 30)) (defScope (top 30)) [] [] a fd) (hm : mg "is_steady" = some (.ref a)) : Fn P w G (XRK G) mg base (k + 1) "is_steady" (defArgs (top 30)) 2 S_is_steady :=
  fn_mk (k := k) (N := N_is_steady) (ps := (["plant", "thing"] : List Str)) (xr1_ok _ _ _) F sc_is_steady hm rfl rfl (fun _ _ _ _ _ _ us hl => match us, hl with | [a0, a1], _ => rfl) (fun cdv A outer s H E hr => T_is_steady.2 C h_fixed h_is_steady_program h_hand_sizes a cdv A outer s H E hr)

abbrev N_is_moves : List Str := ["plant", "thing", "row", "levers", "_"]
theorem nd_is_moves : (N_is_moves).Nodup := by decide +kernel
theorem sc_is_moves : FnScope N_is_moves (["plant", "thing"] : List Str) (defScope (top 28)) := ⟨rfl, rfl, rfl, nd_is_moves, rfl, by decide +kernel, by decide +kernel⟩
noncomputable def T_is_moves : { fb : FS // ∀ {P : Program} {w : World} {G : Gd} {mg : Str → Option Value} {base : Heap} {k : Nat} (C : Cn G mg) (h_fixed : Fn P w G (XRK G) mg base k "fixed" (defArgs (top 3)) 1 (S_fixed 10)) (h_is_row : Fn P w G (XRK G) mg base k "is_row" (defArgs (top 6)) 2 S_is_row) (h_hand_sizes : Fn P w G (XRK G) mg base k "hand_sizes" (defArgs (top 24)) 1 S_hand_sizes) (a : Addr) (cdv : Value) (A : Around) (outer : List Env) (s : Shared) (H : Hp) (E : XK), Room k (bodyX P w G.K mg base N_is_moves "is_moves" (defScope (top 28)) a cdv A outer s H E).A → PSsd G (XRK G) (bodyX P w G.K mg base N_is_moves "is_moves" (defScope (top 28)) a cdv A outer s H E) (WE0 E) (defBody (top 28)) fb } :=
  ⟨_, fun {P w G mg base k} C h_fixed h_is_row h_hand_sizes a cdv A outer s H E hr =>
  have ow : PassesOwn (model P w) (bodyX P w G.K mg base N_is_moves "is_moves" (defScope (top 28)) a cdv A outer s H E).A (bodyX P w G.K mg base N_is_moves "is_moves" (defScope (top 28)) a cdv A outer s H E).env (bodyX P w G.K mg base N_is_moves "is_moves" (defScope (top 28)) a cdv A outer s H E).xe := own_body
  have c : Cc G (bodyX P w G.K mg base N_is_moves "is_moves" (defScope (top 28)) a cdv A outer s H E) (WE0 E) k := ⟨rfl, rfl, nd_is_moves, hr, takes_body⟩
  (pssd_cons (s_set 0 c rfl rfl rfl (d_call c h_fixed nm_fixed rfl (pad_cons (d_var 0 nm_plant rfl rfl) pad_nil rfl) rfl rfl) rfl)
  (pssd_cons (psd_if (PWd.pcd (pwd_or (pcd_not (pcd_truth c.K (ped_isi1 c.K rfl C.f_isinstance (d_var 1 nm_thing rfl rfl) (pcls_cons (n := 4) rfl C.f_tuple bn_tuple.boot bn_tuple.ne bn_tuple.db pcls_nil rfl) rfl rfl rfl) (fun _ => rfl))) (pwd_or1 (pcd_cmp (opd_ne c.K c.room.units) (d_callB (calld_len c.K) bn_len C.f_len rfl (pad_cons (d_var 1 nm_thing rfl rfl) pad_nil rfl) rfl rfl) (d_callB (calld_len c.K) bn_len C.f_len rfl (pad_cons (ped_ix c.K (d_var 0 nm_plant rfl rfl) d_int (fun _ _ => rfl)) pad_nil rfl) rfl rfl) rfl)))) (pssd_cons (psd_ret d_bl)
  pssd_nil) pssd_nil)
  (pssd_cons (psd_ret (d_callB (calld_all c.K c.calm) bn_all C.f_all rfl (pad_cons (ped_of_pld (d_comp c [("row", 2), ("levers", 3), ("_", 4)] (.tree (.cons (.nm 2) (.cons (.row (.cons (.nm 3) (.cons (.nm 4) .nil))) .nil))) (pid_zip2 c.K rfl C.f_zip (pad_cons (d_var 1 nm_thing rfl rfl) (pad_cons (d_call c h_hand_sizes nm_hand_sizes rfl (pad_cons (d_var 0 nm_plant rfl rfl) pad_nil rfl) rfl rfl) pad_nil rfl) rfl) rfl rfl) (by kernel_rfl) rfl (fun _ _ _ _ _ => (pgd_tree c.K c.calm rfl rfl (tts_cons (tt_nm (i := 2) c.nd rfl (loc_ok rfl) (fn_ok rfl)) (tts_cons (tt_row c.K c.calm rfl rfl (tts_cons (tt_nm (i := 3) c.nd rfl (loc_ok rfl) (fn_ok rfl)) (tts_cons (tt_nm (i := 4) c.nd rfl (loc_ok rfl) (fn_ok rfl)) tts_nil rfl) rfl)) tts_nil rfl) rfl))) (fun _ _ _ _ _ => ptsd_nil) (fun _ _ _ _ _ => (d_call c.blk h_is_row nm_is_row rfl (pad_cons (d_var 2 nm_row rfl rfl) (pad_cons (d_var 3 nm_levers rfl rfl) pad_nil rfl) rfl) rfl rfl)) (fun _ => rfl))) pad_nil rfl) rfl rfl))
  pssd_nil)))⟩
noncomputable def S_is_moves : FN := callD 5 T_is_moves.1
theorem ok_is_moves {P : Program} {w : World} {G : Gd} {mg : Str → Option Value} {base : Heap} {k : Nat} (C : Cn G mg) (h_fixed : Fn P w G (XRK G) mg base k "fixed" (defArgs (top 3)) 1 (S_fixed 10)) (h_is_row : Fn P w G (XRK G) mg base k "is_row" (defArgs (top 6)) 2 S_is_row) (h_hand_sizes : Fn P w G (XRK G) mg base k "hand_sizes" (defArgs (top 24)) 1 S_hand_sizes) {a : Addr} {fd : FuncData} (F : FunD G.K "is_moves" "is_moves" (defArgs (top 28)) (defBody (top 28)) (defScope (top 28)) [] [] a fd) (hm : mg "is_moves" = some (.ref a)) : Fn P w G (XRK G) mg base (k + 1) "is_moves" (defArgs (top 28)) 2 S_is_moves :=
  fn_mk (k := k) (N := N_is_moves) (ps := (["plant", "thing"] : List Str)) (xr1_ok _ _ _) F sc_is_moves hm rfl rfl (fun _ _ _ _ _ _ us hl => match us, hl with | [a0, a1], _ => rfl) (fun cdv A outer s H E hr => T_is_moves.2 C h_fixed h_is_row h_hand_sizes a cdv A outer s H E hr)

abbrev N_is_play : List Str := ["plant", "thing", "rows", "doings", "coming", "row", "moves"]
theorem nd_is_play : (N_is_play).Nodup := by decide +kernel
theorem sc_is_play : FnScope N_is_play (["plant", "thing"] : List Str) (defScope (top 32)) := ⟨rfl, rfl, rfl, nd_is_play, rfl, by decide +kernel, by decide +kernel⟩
noncomputable def T_is_play : { fb : FS // ∀ {P : Program} {w : World} {G : Gd} {mg : Str → Option Value} {base : Heap} {k : Nat} (C : Cn G mg) (h_fixed : Fn P w G (XRK G) mg base k "fixed" (defArgs (top 3)) 1 (S_fixed 10)) (h_cells_next : Fn P w G (XRK G) mg base k "cells_next" (defArgs (top 35)) 3 S_cells_next) (h_is_row : Fn P w G (XRK G) mg base k "is_row" (defArgs (top 6)) 2 S_is_row) (h_is_moves : Fn P w G (XRK G) mg base k "is_moves" (defArgs (top 28)) 2 S_is_moves) (a : Addr) (cdv : Value) (A : Around) (outer : List Env) (s : Shared) (H : Hp) (E : XK), Room k (bodyX P w G.K mg base N_is_play "is_play" (defScope (top 32)) a cdv A outer s H E).A → PSsd G (XRK G) (bodyX P w G.K mg base N_is_play "is_play" (defScope (top 32)) a cdv A outer s H E) (WE0 E) (defBody (top 32)) fb } :=
  ⟨_, fun {P w G mg base k} C h_fixed h_cells_next h_is_row h_is_moves a cdv A outer s H E hr =>
  have ow : PassesOwn (model P w) (bodyX P w G.K mg base N_is_play "is_play" (defScope (top 32)) a cdv A outer s H E).A (bodyX P w G.K mg base N_is_play "is_play" (defScope (top 32)) a cdv A outer s H E).env (bodyX P w G.K mg base N_is_play "is_play" (defScope (top 32)) a cdv A outer s H E).xe := own_body
  have c : Cc G (bodyX P w G.K mg base N_is_play "is_play" (defScope (top 32)) a cdv A outer s H E) (WE0 E) k := ⟨rfl, rfl, nd_is_play, hr, takes_body⟩
  (pssd_cons (s_set 0 c rfl rfl rfl (d_call c h_fixed nm_fixed rfl (pad_cons (d_var 0 nm_plant rfl rfl) pad_nil rfl) rfl rfl) rfl)
  (pssd_cons (psd_if (PWd.pcd (pwd_or (pcd_not (pcd_truth c.K (ped_isi1 c.K rfl C.f_isinstance (d_var 1 nm_thing rfl rfl) (pcls_cons (n := 4) rfl C.f_tuple bn_tuple.boot bn_tuple.ne bn_tuple.db pcls_nil rfl) rfl rfl rfl) (fun _ => rfl))) (pwd_or1 (pcd_cmp (opd_ne c.K c.room.units) (d_callB (calld_len c.K) bn_len C.f_len rfl (pad_cons (d_var 1 nm_thing rfl rfl) pad_nil rfl) rfl rfl) d_int rfl)))) (pssd_cons (psd_ret d_bl)
  pssd_nil) pssd_nil)
  (pssd_cons (psd_tup (d_var 1 nm_thing rfl rfl) (pgd_many c.K c.calm rfl rfl (gs_cons 2 c.nd rfl rfl rfl (gs_cons 3 c.nd rfl rfl rfl pgsd_nil))) rfl rfl)
  (pssd_cons (psd_if (PWd.pcd (pwd_or (pcd_not (pcd_truth c.K (ped_isi1 c.K rfl C.f_isinstance (d_var 2 nm_rows rfl rfl) (pcls_cons (n := 4) rfl C.f_tuple bn_tuple.boot bn_tuple.ne bn_tuple.db pcls_nil rfl) rfl rfl rfl) (fun _ => rfl))) (pwd_or (pcd_not (pcd_truth c.K (ped_isi1 c.K rfl C.f_isinstance (d_var 3 nm_doings rfl rfl) (pcls_cons (n := 4) rfl C.f_tuple bn_tuple.boot bn_tuple.ne bn_tuple.db pcls_nil rfl) rfl rfl rfl) (fun _ => rfl))) (pwd_or1 (pcd_cmp (opd_ne c.K c.room.units) (d_callB (calld_len c.K) bn_len C.f_len rfl (pad_cons (d_var 2 nm_rows rfl rfl) pad_nil rfl) rfl rfl) (ped_bin (opd_add c.K) (d_callB (calld_len c.K) bn_len C.f_len rfl (pad_cons (d_var 3 nm_doings rfl rfl) pad_nil rfl) rfl rfl) d_int) rfl))))) (pssd_cons (psd_ret d_bl)
  pssd_nil) pssd_nil)
  (pssd_cons (psd_if (pcd_not (pcd_truth c.K (d_callB (calld_all c.K c.calm) bn_all C.f_all rfl (pad_cons (ped_of_pld (d_comp c [("row", 5)] (.one 5) (pid_seq c.K (d_var 2 nm_rows rfl rfl)) (by kernel_rfl) rfl (fun _ _ _ _ _ => (g_one 5 c.nd rfl rfl rfl)) (fun _ _ _ _ _ => ptsd_nil) (fun _ _ _ _ _ => (d_call c.blk h_is_row nm_is_row rfl (pad_cons (d_var 5 nm_row rfl rfl) (pad_cons (d_callB (calld_len c.blk.K) bn_len C.f_len rfl (pad_cons (ped_ix c.blk.K (d_var 0 nm_plant rfl rfl) d_int (fun _ _ => rfl)) pad_nil rfl) rfl rfl) pad_nil rfl) rfl) rfl rfl)) (fun _ => rfl))) pad_nil rfl) rfl rfl) (fun _ => rfl))) (pssd_cons (psd_ret d_bl)
  pssd_nil) pssd_nil)
  (pssd_cons (psd_if (pcd_not (pcd_truth c.K (d_callB (calld_all c.K c.calm) bn_all C.f_all rfl (pad_cons (ped_of_pld (d_comp c [("moves", 6)] (.one 6) (pid_seq c.K (d_var 3 nm_doings rfl rfl)) (by kernel_rfl) rfl (fun _ _ _ _ _ => (g_one 6 c.nd rfl rfl rfl)) (fun _ _ _ _ _ => ptsd_nil) (fun _ _ _ _ _ => (d_call c.blk h_is_moves nm_is_moves rfl (pad_cons (d_var 0 nm_plant rfl rfl) (pad_cons (d_var 6 nm_moves rfl rfl) pad_nil rfl) rfl) rfl rfl)) (fun _ => rfl))) pad_nil rfl) rfl rfl) (fun _ => rfl))) (pssd_cons (psd_ret d_bl)
  pssd_nil) pssd_nil)
  (pssd_cons (s_set 4 c rfl rfl rfl (d_callT (calld_tup c.K) bn_tuple C.f_tuple rfl (pad_cons (ped_of_pld (d_comp c [("row", 5), ("moves", 6)] (.many [5, 6]) (pid_zip2 c.K rfl C.f_zip (pad_cons (d_var 2 nm_rows rfl rfl) (pad_cons (d_var 3 nm_doings rfl rfl) pad_nil rfl) rfl) rfl rfl) (by kernel_rfl) rfl (fun _ _ _ _ _ => (pgd_many c.K c.calm rfl rfl (gs_cons 5 c.nd rfl rfl rfl (gs_cons 6 c.nd rfl rfl rfl pgsd_nil)))) (fun _ _ _ _ _ => ptsd_nil) (fun _ _ _ _ _ => (d_call c.blk h_cells_next nm_cells_next rfl (pad_cons (d_var 0 nm_plant rfl rfl) (pad_cons (d_var 5 nm_row rfl rfl) (pad_cons (d_var 6 nm_moves rfl rfl) pad_nil rfl) rfl) rfl) rfl rfl)) (fun _ => rfl))) pad_nil rfl) rfl rfl) rfl)
  (pssd_cons (psd_ret (ped_cmp (opd_eq c.K c.room.units) (d_var 4 nm_coming rfl rfl) (ped_slice c.K (d_var 2 nm_rows rfl rfl) (pod_some d_int) pod_none) rfl))
  pssd_nil))))))))⟩
noncomputable def S_is_play : FN := callD 7 T_is_play.1
theorem ok_is_play {P : Program} {w : World} {G : Gd} {mg : Str → Option Value} {base : Heap} {k : Nat} (C : Cn G mg) (h_fixed : Fn P w G (XRK G) mg base k "fixed" (defArgs (top 3)) 1 (S_fixed 10)) (h_cells_next : Fn P w G (XRK G) mg base k "cells_next" (defArgs (top 35)) 3 S_cells_next) (h_is_row : Fn P w G (XRK G) mg base k "is_row" (defArgs (top 6)) 2 S_is_row) (h_is_moves : Fn P w G (XRK G) mg base k "is_moves" (defArgs (top 28)) 2 S_is_moves) {a : Addr} {fd : FuncData} (F : FunD G.K "is_play" "is_play" (defArgs (top 32)) (defBody (top 32)) (defScope (top 32)) [] [] a fd) (hm : mg "is_play" = some (.ref a)) : Fn P w G (XRK G) mg base (k + 1) "is_play" (defArgs (top 32)) 2 S_is_play :=
  fn_mk (k := k) (N := N_is_play) (ps := (["plant", "thing"] : List Str)) (xr1_ok _ _ _) F sc_is_play hm rfl rfl (fun _ _ _ _ _ _ us hl => match us, hl with | [a0, a1], _ => rfl) (fun cdv A outer s H E hr => T_is_play.2 C h_fixed h_cells_next h_is_row h_is_moves a cdv A outer s H E hr)

abbrev N__law_more_things_right : List Str := ["rules_so", "mill_so", "nil_so", "unit_so", "told_so", "got", "due", "bare_so", "first_so", "odd_so", "fine_so", "still_so", "levers_so", "gauges_so", "own"]
theorem nd__law_more_things_right : (N__law_more_things_right).Nodup := by decide +kernel
theorem sc__law_more_things_right : FnScope N__law_more_things_right (["rules_so"] : List Str) (defScope (top 58)) := ⟨rfl, rfl, rfl, nd__law_more_things_right, rfl, by decide +kernel, by decide +kernel⟩
noncomputable def T__law_more_things_right : { fb : FS // ∀ {P : Program} {w : World} {G : Gd} {mg : Str → Option Value} {base : Heap} {k : Nat} (C : Cn G mg) (h__law_same : Fn P w G (XRK G) mg base k "_law_same" (defArgs (top 50)) 2 (S__law_same 10)) (h__law_mill : Fn P w G (XRK G) mg base k "_law_mill" (defArgs (top 51)) 0 S__law_mill) (h__law_steady_ones : Fn P w G (XRK G) mg base k "_law_steady_ones" (defArgs (top 53)) 0 S__law_steady_ones) (h_idled : Fn P w G (XRK G) mg base k "idled" (defArgs (top 40)) 3 S_idled) (h_is_steady : Fn P w G (XRK G) mg base k "is_steady" (defArgs (top 30)) 2 S_is_steady) (h_is_play : Fn P w G (XRK G) mg base k "is_play" (defArgs (top 32)) 2 S_is_play) (a : Addr) (cdv : Value) (A : Around) (outer : List Env) (s : Shared) (H : Hp) (E : XK), Room k (bodyX P w G.K mg base N__law_more_things_right "_law_more_things_right" (defScope (top 58)) a cdv A outer s H E).A → PSsd G (XRK G) (bodyX P w G.K mg base N__law_more_things_right "_law_more_things_right" (defScope (top 58)) a cdv A outer s H E) (WE0 E) (defBody (top 58)) fb } :=
  ⟨_, fun {P w G mg base k} C h__law_same h__law_mill h__law_steady_ones h_idled h_is_steady h_is_play a cdv A outer s H E hr =>
  have ow : PassesOwn (model P w) (bodyX P w G.K mg base N__law_more_things_right "_law_more_things_right" (defScope (top 58)) a cdv A outer s H E).A (bodyX P w G.K mg base N__law_more_things_right "_law_more_things_right" (defScope (top 58)) a cdv A outer s H E).env (bodyX P w G.K mg base N__law_more_things_right "_law_more_things_right" (defScope (top 58)) a cdv A outer s H E).xe := own_body
  have c : Cc G (bodyX P w G.K mg base N__law_more_things_right "_law_more_things_right" (defScope (top 58)) a cdv A outer s H E) (WE0 E) k := ⟨rfl, rfl, nd__law_more_things_right, hr, takes_body⟩
  (pssd_cons (psd_tup (ped_tupN (pad_cons (d_call0 c h__law_mill nm__law_mill rfl) (pad_cons (ped_tupN (pad_cons d_int (pad_cons d_int pad_nil rfl) rfl) (lenA_cons (lenA_cons lenA_nil)) rfl) (pad_cons (ped_tupN (pad_cons d_int (pad_cons d_int pad_nil rfl) rfl) (lenA_cons (lenA_cons lenA_nil)) rfl) pad_nil rfl) rfl) rfl) (lenA_cons (lenA_cons (lenA_cons lenA_nil))) rfl) (pgd_many c.K c.calm rfl rfl (gs_cons 1 c.nd rfl rfl rfl (gs_cons 2 c.nd rfl rfl rfl (gs_cons 3 c.nd rfl rfl rfl pgsd_nil)))) rfl rfl)
  (pssd_cons (by first | exact psd_par3 c.calm c.nd (i := 4) (j := 5) (l := 6) rfl rfl rfl (by decide) (by decide) (by decide) rfl rfl rfl (pad_cons (d_call0 c h__law_steady_ones nm__law_steady_ones rfl) (pad_cons (ped_of_pld (pld_lstN pad_nil lenA_nil rfl)) (pad_cons (ped_of_pld (pld_lstN pad_nil lenA_nil rfl)) pad_nil rfl) rfl) rfl) rfl | exact psd_tup (ped_tupN (pad_cons (d_call0 c h__law_steady_ones nm__law_steady_ones rfl) (pad_cons (ped_of_pld (pld_lstN pad_nil lenA_nil rfl)) (pad_cons (ped_of_pld (pld_lstN pad_nil lenA_nil rfl)) pad_nil rfl) rfl) rfl) (lenA_cons (lenA_cons (lenA_cons lenA_nil))) rfl) (pgd_many c.K c.calm rfl rfl (gs_cons 4 c.nd rfl rfl rfl (gs_cons 5 c.nd rfl rfl rfl (gs_cons 6 c.nd rfl rfl rfl pgsd_nil)))) rfl rfl)
  (pssd_cons (s_set 7 c rfl rfl rfl (d_callT (calld_tup c.K) bn_tuple C.f_tuple rfl (pad_cons (ped_of_pld (d_comp c [("levers_so", 12), ("gauges_so", 13), ("own", 14)] (.tree (.cons (.row (.cons (.nm 12) (.cons (.nm 13) .nil))) (.cons (.nm 14) .nil))) (pid_zip2 c.K rfl C.f_zip (pad_cons (ped_ix c.K (d_var 1 nm_mill_so rfl rfl) d_int (fun _ _ => rfl)) (pad_cons (d_var 0 nm_rules_so rfl rfl) pad_nil rfl) rfl) rfl rfl) (by kernel_rfl) rfl (fun _ _ _ _ _ => (pgd_tree c.K c.calm rfl rfl (tts_cons (tt_row c.K c.calm rfl rfl (tts_cons (tt_nm (i := 12) c.nd rfl (loc_ok rfl) (fn_ok rfl)) (tts_cons (tt_nm (i := 13) c.nd rfl (loc_ok rfl) (fn_ok rfl)) tts_nil rfl) rfl)) (tts_cons (tt_nm (i := 14) c.nd rfl (loc_ok rfl) (fn_ok rfl)) tts_nil rfl) rfl))) (fun _ _ _ _ _ => ptsd_nil) (fun _ _ _ _ _ => (ped_tupN (pad_cons (ped_tupN pad_nil lenA_nil rfl) (pad_cons (ped_tupN pad_nil lenA_nil rfl) (pad_cons (d_callT (calld_tup c.blk.K) bn_tuple C.f_tuple rfl (pad_cons (ped_bin (opd_mul c.blk.K) (ped_of_pld (pld_lstN (pad_cons (ped_tupN pad_nil lenA_nil rfl) pad_nil rfl) (lenA_cons lenA_nil) rfl)) (d_callB (calld_len c.blk.K) bn_len C.f_len rfl (pad_cons (d_var 12 nm_levers_so rfl rfl) pad_nil rfl) rfl rfl)) pad_nil rfl) rfl rfl) (pad_cons (d_var 14 nm_own rfl rfl) pad_nil rfl) rfl) rfl) rfl) (lenA_cons (lenA_cons (lenA_cons (lenA_cons lenA_nil)))) rfl)) (fun _ => rfl))) pad_nil rfl) rfl rfl) rfl)
  (pssd_cons (s_set 8 c rfl rfl rfl (ped_ix c.K (d_var 4 nm_told_so rfl rfl) d_int (fun _ _ => rfl)) rfl)
  (pssd_cons (s_set 9 c rfl rfl rfl (ped_alloc (pld_lstN (pad_cons (ped_slice c.K (d_var 4 nm_told_so rfl rfl) pod_none (pod_some d_int)) (pad_cons (d_callT (calld_list c.K) bn_list C.f_list rfl (pad_cons (d_var 4 nm_told_so rfl rfl) pad_nil rfl) rfl rfl) (pad_cons (ped_bin (opd_add c.K) (ped_tupN (pad_cons (ped_slice c.K (d_var 8 nm_first_so rfl rfl) pod_none (pod_some d_int)) pad_nil rfl) (lenA_cons lenA_nil) rfl) (ped_slice c.K (d_var 4 nm_told_so rfl rfl) (pod_some d_int) pod_none)) (pad_cons (ped_bin (opd_add c.K) (ped_tupN (pad_cons (d_callT (calld_list c.K) bn_list C.f_list rfl (pad_cons (d_var 8 nm_first_so rfl rfl) pad_nil rfl) rfl rfl) pad_nil rfl) (lenA_cons lenA_nil) rfl) (ped_slice c.K (d_var 4 nm_told_so rfl rfl) (pod_some d_int) pod_none)) (pad_cons d_non (pad_cons (ped_tupN pad_nil lenA_nil rfl) pad_nil rfl) rfl) rfl) rfl) rfl) rfl) (lenA_cons (lenA_cons (lenA_cons (lenA_cons (lenA_cons (lenA_cons lenA_nil)))))) rfl)) rfl)
  (pssd_cons (psd_expr (d_append c (d_var 9 nm_odd_so rfl rfl) (ped_bin (opd_add c.K) (ped_tupN (pad_cons (ped_bin (opd_add c.K) (ped_tupN (pad_cons (ped_tupN (pad_cons (ped_bin (opd_mul c.K) (ped_ix c.K (ped_ix c.K (d_var 8 nm_first_so rfl rfl) d_int (fun _ _ => rfl)) d_int (fun _ _ => rfl)) d_int) pad_nil rfl) (lenA_cons lenA_nil) rfl) pad_nil rfl) (lenA_cons lenA_nil) rfl) (ped_slice c.K (d_var 8 nm_first_so rfl rfl) (pod_some d_int) pod_none)) pad_nil rfl) (lenA_cons lenA_nil) rfl) (ped_slice c.K (d_var 4 nm_told_so rfl rfl) (pod_some d_int) pod_none)) rfl rfl rfl) rfl)
  (pssd_cons (s_set 9 c rfl rfl rfl (ped_alloc (pld_add (d_var 9 nm_odd_so rfl rfl) (ped_of_pld (pld_lstN (pad_cons (ped_bin (opd_add c.K) (ped_tupN (pad_cons (ped_bin (opd_add c.K) (ped_tupN (pad_cons (ped_ix c.K (d_var 8 nm_first_so rfl rfl) d_int (fun _ _ => rfl)) (pad_cons (ped_tupN (pad_cons (ped_tupN pad_nil lenA_nil rfl) pad_nil rfl) (lenA_cons lenA_nil) rfl) pad_nil rfl) rfl) (lenA_cons (lenA_cons lenA_nil)) rfl) (ped_slice c.K (d_var 8 nm_first_so rfl rfl) (pod_some d_int) pod_none)) pad_nil rfl) (lenA_cons lenA_nil) rfl) (ped_slice c.K (d_var 4 nm_told_so rfl rfl) (pod_some d_int) pod_none)) (pad_cons (ped_bin (opd_add c.K) (ped_tupN (pad_cons (ped_bin (opd_add c.K) (ped_bin (opd_add c.K) (ped_slice c.K (d_var 8 nm_first_so rfl rfl) pod_none (pod_some d_int)) (ped_tupN (pad_cons (ped_tupN pad_nil lenA_nil rfl) pad_nil rfl) (lenA_cons lenA_nil) rfl)) (ped_slice c.K (d_var 8 nm_first_so rfl rfl) (pod_some d_int) pod_none)) pad_nil rfl) (lenA_cons lenA_nil) rfl) (ped_slice c.K (d_var 4 nm_told_so rfl rfl) (pod_some d_int) pod_none)) pad_nil rfl) rfl) (lenA_cons (lenA_cons lenA_nil)) rfl)))) rfl)
  (pssd_cons (s_set 9 c rfl rfl rfl (ped_alloc (pld_add (d_var 9 nm_odd_so rfl rfl) (ped_of_pld (pld_lstN (pad_cons (ped_bin (opd_add c.K) (ped_tupN (pad_cons (ped_bin (opd_add c.K) (ped_slice c.K (d_var 8 nm_first_so rfl rfl) pod_none (pod_some d_int)) (ped_tupN (pad_cons (ped_tupN pad_nil lenA_nil rfl) pad_nil rfl) (lenA_cons lenA_nil) rfl)) pad_nil rfl) (lenA_cons lenA_nil) rfl) (ped_slice c.K (d_var 4 nm_told_so rfl rfl) (pod_some d_int) pod_none)) (pad_cons (ped_bin (opd_add c.K) (ped_bin (opd_add c.K) (ped_slice c.K (d_var 4 nm_told_so rfl rfl) pod_none (pod_some d_int)) (ped_tupN (pad_cons (ped_tupN (pad_cons (ped_tupN pad_nil lenA_nil rfl) (pad_cons (ped_tupN pad_nil lenA_nil rfl) (pad_cons (ped_tupN (pad_cons (ped_tupN pad_nil lenA_nil rfl) (pad_cons (ped_tupN pad_nil lenA_nil rfl) pad_nil rfl) rfl) (lenA_cons (lenA_cons lenA_nil)) rfl) (pad_cons (ped_tupN pad_nil lenA_nil rfl) pad_nil rfl) rfl) rfl) rfl) (lenA_cons (lenA_cons (lenA_cons (lenA_cons lenA_nil)))) rfl) pad_nil rfl) (lenA_cons lenA_nil) rfl)) (ped_slice c.K (d_var 4 nm_told_so rfl rfl) (pod_some d_int) pod_none)) pad_nil rfl) rfl) (lenA_cons (lenA_cons lenA_nil)) rfl)))) rfl)
  (pssd_cons (s_set 5 c rfl rfl rfl (ped_bin (opd_add c.K) (d_var 5 nm_got rfl rfl) (ped_of_pld (pld_lstN (pad_cons (ped_of_pld (pld_lstN (pad_cons (d_call c h_is_steady nm_is_steady rfl (pad_cons (d_var 1 nm_mill_so rfl rfl) (pad_cons (d_var 4 nm_told_so rfl rfl) pad_nil rfl) rfl) rfl rfl) (pad_cons (d_call c h_is_steady nm_is_steady rfl (pad_cons (d_var 1 nm_mill_so rfl rfl) (pad_cons (d_var 7 nm_bare_so rfl rfl) pad_nil rfl) rfl) rfl rfl) pad_nil rfl) rfl) (lenA_cons (lenA_cons lenA_nil)) rfl)) (pad_cons (ped_of_pld (d_comp c [("own", 14)] (.one 14) (pid_seq c.K (d_var 9 nm_odd_so rfl rfl)) (by kernel_rfl) rfl (fun _ _ _ _ _ => (g_one 14 c.nd rfl rfl rfl)) (fun _ _ _ _ _ => ptsd_nil) (fun _ _ _ _ _ => (d_call c.blk h_is_steady nm_is_steady rfl (pad_cons (d_var 1 nm_mill_so rfl rfl) (pad_cons (d_var 14 nm_own rfl rfl) pad_nil rfl) rfl) rfl rfl)) (fun _ => rfl))) pad_nil rfl) rfl) (lenA_cons (lenA_cons lenA_nil)) rfl))) rfl)
  (pssd_cons (s_set 6 c rfl rfl rfl (ped_bin (opd_add c.K) (d_var 6 nm_due rfl rfl) (ped_of_pld (pld_lstN (pad_cons (ped_of_pld (pld_lstN (pad_cons d_bl (pad_cons d_bl pad_nil rfl) rfl) (lenA_cons (lenA_cons lenA_nil)) rfl)) (pad_cons (ped_bin (opd_mul c.K) (ped_of_pld (pld_lstN (pad_cons d_bl pad_nil rfl) (lenA_cons lenA_nil) rfl)) d_int) pad_nil rfl) rfl) (lenA_cons (lenA_cons lenA_nil)) rfl))) rfl)
  (pssd_cons (by first | exact psd_par c.calm c.nd (i := 10) (j := 11) rfl rfl (by decide) rfl rfl (pad_cons (d_call c h_idled nm_idled rfl (pad_cons (d_var 1 nm_mill_so rfl rfl) (pad_cons (ped_tupN (pad_cons (d_var 3 nm_unit_so rfl rfl) (pad_cons (d_var 2 nm_nil_so rfl rfl) pad_nil rfl) rfl) (lenA_cons (lenA_cons lenA_nil)) rfl) (pad_cons d_int pad_nil rfl) rfl) rfl) rfl rfl) (pad_cons (ped_tupN (pad_cons (ped_tupN (pad_cons (d_var 2 nm_nil_so rfl rfl) pad_nil rfl) (lenA_cons lenA_nil) rfl) (pad_cons (ped_tupN (pad_cons (d_var 2 nm_nil_so rfl rfl) (pad_cons (d_var 2 nm_nil_so rfl rfl) pad_nil rfl) rfl) (lenA_cons (lenA_cons lenA_nil)) rfl) (pad_cons (ped_tupN pad_nil lenA_nil rfl) pad_nil rfl) rfl) rfl) (lenA_cons (lenA_cons (lenA_cons lenA_nil))) rfl) pad_nil rfl) rfl) rfl | exact psd_tup (ped_tupN (pad_cons (d_call c h_idled nm_idled rfl (pad_cons (d_var 1 nm_mill_so rfl rfl) (pad_cons (ped_tupN (pad_cons (d_var 3 nm_unit_so rfl rfl) (pad_cons (d_var 2 nm_nil_so rfl rfl) pad_nil rfl) rfl) (lenA_cons (lenA_cons lenA_nil)) rfl) (pad_cons d_int pad_nil rfl) rfl) rfl) rfl rfl) (pad_cons (ped_tupN (pad_cons (ped_tupN (pad_cons (d_var 2 nm_nil_so rfl rfl) pad_nil rfl) (lenA_cons lenA_nil) rfl) (pad_cons (ped_tupN (pad_cons (d_var 2 nm_nil_so rfl rfl) (pad_cons (d_var 2 nm_nil_so rfl rfl) pad_nil rfl) rfl) (lenA_cons (lenA_cons lenA_nil)) rfl) (pad_cons (ped_tupN pad_nil lenA_nil rfl) pad_nil rfl) rfl) rfl) (lenA_cons (lenA_cons (lenA_cons lenA_nil))) rfl) pad_nil rfl) rfl) (lenA_cons (lenA_cons lenA_nil)) rfl) (pgd_many c.K c.calm rfl rfl (gs_cons 10 c.nd rfl rfl rfl (gs_cons 11 c.nd rfl rfl rfl pgsd_nil))) rfl rfl)
  (pssd_cons (s_set 9 c rfl rfl rfl (ped_alloc (pld_lstN (pad_cons (ped_tupN (pad_cons (ped_tupN pad_nil lenA_nil rfl) (pad_cons (ped_tupN pad_nil lenA_nil rfl) pad_nil rfl) rfl) (lenA_cons (lenA_cons lenA_nil)) rfl) (pad_cons (ped_slice c.K (d_var 10 nm_fine_so rfl rfl) pod_none (pod_some d_int)) (pad_cons (d_callT (calld_list c.K) bn_list C.f_list rfl (pad_cons (d_var 10 nm_fine_so rfl rfl) pad_nil rfl) rfl rfl) (pad_cons (ped_tupN (pad_cons (ped_ix c.K (d_var 10 nm_fine_so rfl rfl) d_int (fun _ _ => rfl)) (pad_cons (ped_tupN pad_nil lenA_nil rfl) pad_nil rfl) rfl) (lenA_cons (lenA_cons lenA_nil)) rfl) (pad_cons (ped_tupN (pad_cons (ped_ix c.K (d_var 10 nm_fine_so rfl rfl) d_int (fun _ _ => rfl)) (pad_cons (ped_tupN (pad_cons (d_var 11 nm_still_so rfl rfl) (pad_cons (d_var 11 nm_still_so rfl rfl) pad_nil rfl) rfl) (lenA_cons (lenA_cons lenA_nil)) rfl) pad_nil rfl) rfl) (lenA_cons (lenA_cons lenA_nil)) rfl) (pad_cons (ped_tupN (pad_cons (ped_revT c.K (ped_ix c.K (d_var 10 nm_fine_so rfl rfl) d_int (fun _ _ => rfl))) (pad_cons (ped_ix c.K (d_var 10 nm_fine_so rfl rfl) d_int (fun _ _ => rfl)) pad_nil rfl) rfl) (lenA_cons (lenA_cons lenA_nil)) rfl) pad_nil rfl) rfl) rfl) rfl) rfl) rfl) (lenA_cons (lenA_cons (lenA_cons (lenA_cons (lenA_cons (lenA_cons lenA_nil)))))) rfl)) rfl)
  (pssd_cons (s_set 9 c rfl rfl rfl (ped_alloc (pld_add (d_var 9 nm_odd_so rfl rfl) (ped_of_pld (pld_lstN (pad_cons (ped_tupN (pad_cons (ped_slice c.K (ped_ix c.K (d_var 10 nm_fine_so rfl rfl) d_int (fun _ _ => rfl)) pod_none (pod_some d_int)) (pad_cons (ped_tupN (pad_cons (d_var 11 nm_still_so rfl rfl) pad_nil rfl) (lenA_cons lenA_nil) rfl) pad_nil rfl) rfl) (lenA_cons (lenA_cons lenA_nil)) rfl) (pad_cons (ped_tupN (pad_cons (ped_tupN (pad_cons (ped_tupN (pad_cons (d_var 3 nm_unit_so rfl rfl) pad_nil rfl) (lenA_cons lenA_nil) rfl) pad_nil rfl) (lenA_cons lenA_nil) rfl) (pad_cons (ped_tupN pad_nil lenA_nil rfl) pad_nil rfl) rfl) (lenA_cons (lenA_cons lenA_nil)) rfl) (pad_cons (ped_tupN (pad_cons (ped_of_pld (pld_lstN (pad_cons (ped_tupN (pad_cons (d_var 3 nm_unit_so rfl rfl) (pad_cons (d_var 2 nm_nil_so rfl rfl) pad_nil rfl) rfl) (lenA_cons (lenA_cons lenA_nil)) rfl) pad_nil rfl) (lenA_cons lenA_nil) rfl)) (pad_cons (ped_tupN pad_nil lenA_nil rfl) pad_nil rfl) rfl) (lenA_cons (lenA_cons lenA_nil)) rfl) (pad_cons (ped_tupN (pad_cons (ped_tupN (pad_cons (d_callT (calld_list c.K) bn_list C.f_list rfl (pad_cons (ped_tupN (pad_cons (d_var 3 nm_unit_so rfl rfl) (pad_cons (d_var 2 nm_nil_so rfl rfl) pad_nil rfl) rfl) (lenA_cons (lenA_cons lenA_nil)) rfl) pad_nil rfl) rfl rfl) pad_nil rfl) (lenA_cons lenA_nil) rfl) (pad_cons (ped_tupN pad_nil lenA_nil rfl) pad_nil rfl) rfl) (lenA_cons (lenA_cons lenA_nil)) rfl) (pad_cons d_non pad_nil rfl) rfl) rfl) rfl) rfl) (lenA_cons (lenA_cons (lenA_cons (lenA_cons (lenA_cons lenA_nil))))) rfl)))) rfl)
  (pssd_cons (s_set 5 c rfl rfl rfl (ped_bin (opd_add c.K) (d_var 5 nm_got rfl rfl) (ped_of_pld (pld_lstN (pad_cons (ped_of_pld (pld_lstN (pad_cons (d_call c h_is_play nm_is_play rfl (pad_cons (d_var 1 nm_mill_so rfl rfl) (pad_cons (d_var 10 nm_fine_so rfl rfl) pad_nil rfl) rfl) rfl rfl) (pad_cons (d_call c h_is_play nm_is_play rfl (pad_cons (d_var 1 nm_mill_so rfl rfl) (pad_cons (ped_tupN (pad_cons (ped_tupN (pad_cons (ped_tupN (pad_cons (ped_tupN (pad_cons d_int (pad_cons d_int pad_nil rfl) rfl) (lenA_cons (lenA_cons lenA_nil)) rfl) (pad_cons (d_var 2 nm_nil_so rfl rfl) pad_nil rfl) rfl) (lenA_cons (lenA_cons lenA_nil)) rfl) pad_nil rfl) (lenA_cons lenA_nil) rfl) (pad_cons (ped_tupN pad_nil lenA_nil rfl) pad_nil rfl) rfl) (lenA_cons (lenA_cons lenA_nil)) rfl) pad_nil rfl) rfl) rfl rfl) pad_nil rfl) rfl) (lenA_cons (lenA_cons lenA_nil)) rfl)) (pad_cons (ped_of_pld (d_comp c [("own", 14)] (.one 14) (pid_seq c.K (d_var 9 nm_odd_so rfl rfl)) (by kernel_rfl) rfl (fun _ _ _ _ _ => (g_one 14 c.nd rfl rfl rfl)) (fun _ _ _ _ _ => ptsd_nil) (fun _ _ _ _ _ => (d_call c.blk h_is_play nm_is_play rfl (pad_cons (d_var 1 nm_mill_so rfl rfl) (pad_cons (d_var 14 nm_own rfl rfl) pad_nil rfl) rfl) rfl rfl)) (fun _ => rfl))) pad_nil rfl) rfl) (lenA_cons (lenA_cons lenA_nil)) rfl))) rfl)
  (pssd_cons (psd_ret (d_call c h__law_same nm__law_same rfl (pad_cons (d_var 5 nm_got rfl rfl) (pad_cons (ped_bin (opd_add c.K) (d_var 6 nm_due rfl rfl) (ped_of_pld (pld_lstN (pad_cons (ped_of_pld (pld_lstN (pad_cons d_bl (pad_cons d_bl pad_nil rfl) rfl) (lenA_cons (lenA_cons lenA_nil)) rfl)) (pad_cons (ped_bin (opd_mul c.K) (ped_of_pld (pld_lstN (pad_cons d_bl pad_nil rfl) (lenA_cons lenA_nil) rfl)) d_int) pad_nil rfl) rfl) (lenA_cons (lenA_cons lenA_nil)) rfl))) pad_nil rfl) rfl) rfl rfl))
  pssd_nil)))))))))))))))⟩
noncomputable def S__law_more_things_right : FN := callD 15 T__law_more_things_right.1
theorem ok__law_more_things_right {P : Program} {w : World} {G : Gd} {mg : Str → Option Value} {base : Heap} {k : Nat} (C : Cn G mg) (h__law_same : Fn P w G (XRK G) mg base k "_law_same" (defArgs (top 50)) 2 (S__law_same 10)) (h__law_mill : Fn P w G (XRK G) mg base k "_law_mill" (defArgs (top 51)) 0 S__law_mill) (h__law_steady_ones : Fn P w G (XRK G) mg base k "_law_steady_ones" (defArgs (top 53)) 0 S__law_steady_ones) (h_idled : Fn P w G (XRK G) mg base k "idled" (defArgs (top 40)) 3 S_idled) (h_is_steady : Fn P w G (XRK G) mg base k "is_steady" (defArgs (top 30)) 2 S_is_steady) (h_is_play : Fn P w G (XRK G) mg base k "is_play" (defArgs (top 32)) 2 S_is_play) {a : Addr} {fd : FuncData} (F : FunD G.K "_law_more_things_right" "_law_more_things_right" (defArgs (top 58)) (defBody (top 58)) (defScope (top 58)) [] [] a fd) (hm : mg "_law_more_things_right" = some (.ref a)) : Fn P w G (XRK G) mg base (k + 1) "_law_more_things_right" (defArgs (top 58)) 1 S__law_more_things_right :=
  fn_mk (k := k) (N := N__law_more_things_right) (ps := (["rules_so"] : List Str)) (xr1_ok _ _ _) F sc__law_more_things_right hm rfl rfl (fun _ _ _ _ _ _ us hl => match us, hl with | [a0], _ => rfl) (fun cdv A outer s H E hr => T__law_more_things_right.2 C h__law_same h__law_mill h__law_steady_ones h_idled h_is_steady h_is_play a cdv A outer s H E hr)

abbrev N_is_rules : List Str := ["plant", "thing", "levers", "gauges", "rule"]
theorem nd_is_rules : (N_is_rules).Nodup := by decide +kernel
theorem sc_is_rules : FnScope N_is_rules (["plant", "thing"] : List Str) (defScope (top 26)) := ⟨rfl, rfl, rfl, nd_is_rules, rfl, by decide +kernel, by decide +kernel⟩
noncomputable def T_is_rules : { fb : FS // ∀ {P : Program} {w : World} {G : Gd} {mg : Str → Option Value} {base : Heap} {k : Nat} (C : Cn G mg) (h_fixed : Fn P w G (XRK G) mg base k "fixed" (defArgs (top 3)) 1 (S_fixed 10)) (h_is_table : Fn P w G (XRK G) mg base k "is_table" (defArgs (top 17)) 3 S_is_table) (h_hand_sizes : Fn P w G (XRK G) mg base k "hand_sizes" (defArgs (top 24)) 1 S_hand_sizes) (a : Addr) (cdv : Value) (A : Around) (outer : List Env) (s : Shared) (H : Hp) (E : XK), Room k (bodyX P w G.K mg base N_is_rules "is_rules" (defScope (top 26)) a cdv A outer s H E).A → PSsd G (XRK G) (bodyX P w G.K mg base N_is_rules "is_rules" (defScope (top 26)) a cdv A outer s H E) (WE0 E) (defBody (top 26)) fb } :=
  ⟨_, fun {P w G mg base k} C h_fixed h_is_table h_hand_sizes a cdv A outer s H E hr =>
  have ow : PassesOwn (model P w) (bodyX P w G.K mg base N_is_rules "is_rules" (defScope (top 26)) a cdv A outer s H E).A (bodyX P w G.K mg base N_is_rules "is_rules" (defScope (top 26)) a cdv A outer s H E).env (bodyX P w G.K mg base N_is_rules "is_rules" (defScope (top 26)) a cdv A outer s H E).xe := own_body
  have c : Cc G (bodyX P w G.K mg base N_is_rules "is_rules" (defScope (top 26)) a cdv A outer s H E) (WE0 E) k := ⟨rfl, rfl, nd_is_rules, hr, takes_body⟩
  (pssd_cons (s_set 0 c rfl rfl rfl (d_call c h_fixed nm_fixed rfl (pad_cons (d_var 0 nm_plant rfl rfl) pad_nil rfl) rfl rfl) rfl)
  (pssd_cons (psd_if (PWd.pcd (pwd_or (pcd_not (pcd_truth c.K (ped_isi1 c.K rfl C.f_isinstance (d_var 1 nm_thing rfl rfl) (pcls_cons (n := 4) rfl C.f_tuple bn_tuple.boot bn_tuple.ne bn_tuple.db pcls_nil rfl) rfl rfl rfl) (fun _ => rfl))) (pwd_or1 (pcd_cmp (opd_ne c.K c.room.units) (d_callB (calld_len c.K) bn_len C.f_len rfl (pad_cons (d_var 1 nm_thing rfl rfl) pad_nil rfl) rfl rfl) (d_callB (calld_len c.K) bn_len C.f_len rfl (pad_cons (ped_ix c.K (d_var 0 nm_plant rfl rfl) d_int (fun _ _ => rfl)) pad_nil rfl) rfl rfl) rfl)))) (pssd_cons (psd_ret d_bl)
  pssd_nil) pssd_nil)
  (pssd_cons (psd_ret (d_callB (calld_all c.K c.calm) bn_all C.f_all rfl (pad_cons (ped_of_pld (d_comp c [("levers", 2), ("gauges", 3), ("rule", 4)] (.tree (.cons (.row (.cons (.nm 2) (.cons (.nm 3) .nil))) (.cons (.nm 4) .nil))) (pid_zip2 c.K rfl C.f_zip (pad_cons (d_call c h_hand_sizes nm_hand_sizes rfl (pad_cons (d_var 0 nm_plant rfl rfl) pad_nil rfl) rfl rfl) (pad_cons (d_var 1 nm_thing rfl rfl) pad_nil rfl) rfl) rfl rfl) (by kernel_rfl) rfl (fun _ _ _ _ _ => (pgd_tree c.K c.calm rfl rfl (tts_cons (tt_row c.K c.calm rfl rfl (tts_cons (tt_nm (i := 2) c.nd rfl (loc_ok rfl) (fn_ok rfl)) (tts_cons (tt_nm (i := 3) c.nd rfl (loc_ok rfl) (fn_ok rfl)) tts_nil rfl) rfl)) (tts_cons (tt_nm (i := 4) c.nd rfl (loc_ok rfl) (fn_ok rfl)) tts_nil rfl) rfl))) (fun _ _ _ _ _ => ptsd_nil) (fun _ _ _ _ _ => (d_call c.blk h_is_table nm_is_table rfl (pad_cons (d_var 4 nm_rule rfl rfl) (pad_cons (d_var 2 nm_levers rfl rfl) (pad_cons (d_var 3 nm_gauges rfl rfl) pad_nil rfl) rfl) rfl) rfl rfl)) (fun _ => rfl))) pad_nil rfl) rfl rfl))
  pssd_nil)))⟩
noncomputable def S_is_rules : FN := callD 5 T_is_rules.1
theorem ok_is_rules {P : Program} {w : World} {G : Gd} {mg : Str → Option Value} {base : Heap} {k : Nat} (C : Cn G mg) (h_fixed : Fn P w G (XRK G) mg base k "fixed" (defArgs (top 3)) 1 (S_fixed 10)) (h_is_table : Fn P w G (XRK G) mg base k "is_table" (defArgs (top 17)) 3 S_is_table) (h_hand_sizes : Fn P w G (XRK G) mg base k "hand_sizes" (defArgs (top 24)) 1 S_hand_sizes) {a : Addr} {fd : FuncData} (F : FunD G.K "is_rules" "is_rules" (defArgs (top 26)) (defBody (top 26)) (defScope (top 26)) [] [] a fd) (hm : mg "is_rules" = some (.ref a)) : Fn P w G (XRK G) mg base (k + 1) "is_rules" (defArgs (top 26)) 2 S_is_rules :=
  fn_mk (k := k) (N := N_is_rules) (ps := (["plant", "thing"] : List Str)) (xr1_ok _ _ _) F sc_is_rules hm rfl rfl (fun _ _ _ _ _ _ us hl => match us, hl with | [a0, a1], _ => rfl) (fun cdv A outer s H E hr => T_is_rules.2 C h_fixed h_is_table h_hand_sizes a cdv A outer s H E hr)

abbrev N_is_clock : List Str := ["plant", "thing", "rules"]
theorem nd_is_clock : (N_is_clock).Nodup := by decide +kernel
theorem sc_is_clock : FnScope N_is_clock (["plant", "thing"] : List Str) (defScope (top 29)) := ⟨rfl, rfl, rfl, nd_is_clock, rfl, by decide +kernel, by decide +kernel⟩
noncomputable def T_is_clock : { fb : FS // ∀ {P : Program} {w : World} {G : Gd} {mg : Str → Option Value} {base : Heap} {k : Nat} (C : Cn G mg) (h_fixed : Fn P w G (XRK G) mg base k "fixed" (defArgs (top 3)) 1 (S_fixed 10)) (h_is_rules : Fn P w G (XRK G) mg base k "is_rules" (defArgs (top 26)) 2 S_is_rules) (a : Addr) (cdv : Value) (A : Around) (outer : List Env) (s : Shared) (H : Hp) (E : XK), Room k (bodyX P w G.K mg base N_is_clock "is_clock" (defScope (top 29)) a cdv A outer s H E).A → PSsd G (XRK G) (bodyX P w G.K mg base N_is_clock "is_clock" (defScope (top 29)) a cdv A outer s H E) (WE0 E) (defBody (top 29)) fb } :=
  ⟨_, fun {P w G mg base k} C h_fixed h_is_rules a cdv A outer s H E hr =>
  have ow : PassesOwn (model P w) (bodyX P w G.K mg base N_is_clock "is_clock" (defScope (top 29)) a cdv A outer s H E).A (bodyX P w G.K mg base N_is_clock "is_clock" (defScope (top 29)) a cdv A outer s H E).env (bodyX P w G.K mg base N_is_clock "is_clock" (defScope (top 29)) a cdv A outer s H E).xe := own_body
  have c : Cc G (bodyX P w G.K mg base N_is_clock "is_clock" (defScope (top 29)) a cdv A outer s H E) (WE0 E) k := ⟨rfl, rfl, nd_is_clock, hr, takes_body⟩
  (pssd_cons (s_set 0 c rfl rfl rfl (d_call c h_fixed nm_fixed rfl (pad_cons (d_var 0 nm_plant rfl rfl) pad_nil rfl) rfl rfl) rfl)
  (pssd_cons (psd_ret (ped_and c.K (ped_isi1 c.K rfl C.f_isinstance (d_var 1 nm_thing rfl rfl) (pcls_cons (n := 4) rfl C.f_tuple bn_tuple.boot bn_tuple.ne bn_tuple.db pcls_nil rfl) rfl rfl rfl) (ped_one (d_callB (calld_all c.K c.calm) bn_all C.f_all rfl (pad_cons (ped_of_pld (d_comp c [("rules", 2)] (.one 2) (pid_seq c.K (d_var 1 nm_thing rfl rfl)) (by kernel_rfl) rfl (fun _ _ _ _ _ => (g_one 2 c.nd rfl rfl rfl)) (fun _ _ _ _ _ => ptsd_nil) (fun _ _ _ _ _ => (d_call c.blk h_is_rules nm_is_rules rfl (pad_cons (d_var 0 nm_plant rfl rfl) (pad_cons (d_var 2 nm_rules rfl rfl) pad_nil rfl) rfl) rfl rfl)) (fun _ => rfl))) pad_nil rfl) rfl rfl))))
  pssd_nil))⟩
noncomputable def S_is_clock : FN := callD 3 T_is_clock.1
theorem ok_is_clock {P : Program} {w : World} {G : Gd} {mg : Str → Option Value} {base : Heap} {k : Nat} (C : Cn G mg) (h_fixed : Fn P w G (XRK G) mg base k "fixed" (defArgs (top 3)) 1 (S_fixed 10)) (h_is_rules : Fn P w G (XRK G) mg base k "is_rules" (defArgs (top 26)) 2 S_is_rules) {a : Addr} {fd : FuncData} (F : FunD G.K "is_clock" "is_clock" (defArgs (top 29)) (defBody (top 29)) (defScope (top 29)) [] [] a fd) (hm : mg "is_clock" = some (.ref a)) : Fn P w G (XRK G) mg base (k + 1) "is_clock" (defArgs (top 29)) 2 S_is_clock :=
  fn_mk (k := k) (N := N_is_clock) (ps := (["plant", "thing"] : List Str)) (xr1_ok _ _ _) F sc_is_clock hm rfl rfl (fun _ _ _ _ _ _ us hl => match us, hl with | [a0, a1], _ => rfl) (fun cdv A outer s H E hr => T_is_clock.2 C h_fixed h_is_rules a cdv A outer s H E hr)

abbrev N__law_things_right : List Str := ["mill_so", "nil_so", "unit_so", "good_so", "odd_so", "got", "due", "rules_so", "own"]
theorem nd__law_things_right : (N__law_things_right).Nodup := by decide +kernel
theorem sc__law_things_right : FnScope N__law_things_right ([] : List Str) (defScope (top 57)) := ⟨rfl, rfl, rfl, nd__law_things_right, rfl, by decide +kernel, by decide +kernel⟩
noncomputable def T__law_things_right : { fb : FS // ∀ {P : Program} {w : World} {G : Gd} {mg : Str → Option Value} {base : Heap} {k : Nat} (C : Cn G mg) (h__law_mill : Fn P w G (XRK G) mg base k "_law_mill" (defArgs (top 51)) 0 S__law_mill) (h__law_same : Fn P w G (XRK G) mg base k "_law_same" (defArgs (top 50)) 2 (S__law_same 10)) (h__law_more_things_right : Fn P w G (XRK G) mg base k "_law_more_things_right" (defArgs (top 58)) 1 S__law_more_things_right) (h_is_moves : Fn P w G (XRK G) mg base k "is_moves" (defArgs (top 28)) 2 S_is_moves) (h_is_clock : Fn P w G (XRK G) mg base k "is_clock" (defArgs (top 29)) 2 S_is_clock) (a : Addr) (cdv : Value) (A : Around) (outer : List Env) (s : Shared) (H : Hp) (E : XK), Room k (bodyX P w G.K mg base N__law_things_right "_law_things_right" (defScope (top 57)) a cdv A outer s H E).A → PSsd G (XRK G) (bodyX P w G.K mg base N__law_things_right "_law_things_right" (defScope (top 57)) a cdv A outer s H E) (WE0 E) (defBody (top 57)) fb } :=
  ⟨_, fun {P w G mg base k} C h__law_mill h__law_same h__law_more_things_right h_is_moves h_is_clock a cdv A outer s H E hr =>
  have ow : PassesOwn (model P w) (bodyX P w G.K mg base N__law_things_right "_law_things_right" (defScope (top 57)) a cdv A outer s H E).A (bodyX P w G.K mg base N__law_things_right "_law_things_right" (defScope (top 57)) a cdv A outer s H E).env (bodyX P w G.K mg base N__law_things_right "_law_things_right" (defScope (top 57)) a cdv A outer s H E).xe := own_body
  have c : Cc G (bodyX P w G.K mg base N__law_things_right "_law_things_right" (defScope (top 57)) a cdv A outer s H E) (WE0 E) k := ⟨rfl, rfl, nd__law_things_right, hr, takes_body⟩
  (pssd_cons (psd_tup (ped_tupN (pad_cons (d_call0 c h__law_mill nm__law_mill rfl) (pad_cons (ped_tupN (pad_cons d_int (pad_cons d_int pad_nil rfl) rfl) (lenA_cons (lenA_cons lenA_nil)) rfl) (pad_cons (ped_tupN (pad_cons d_int (pad_cons d_int pad_nil rfl) rfl) (lenA_cons (lenA_cons lenA_nil)) rfl) pad_nil rfl) rfl) rfl) (lenA_cons (lenA_cons (lenA_cons lenA_nil))) rfl) (pgd_many c.K c.calm rfl rfl (gs_cons 0 c.nd rfl rfl rfl (gs_cons 1 c.nd rfl rfl rfl (gs_cons 2 c.nd rfl rfl rfl pgsd_nil)))) rfl rfl)
  (pssd_cons (s_set 3 c rfl rfl rfl (ped_of_pld (pld_lstN (pad_cons (ped_tupN (pad_cons (ped_tupN (pad_cons (d_var 1 nm_nil_so rfl rfl) pad_nil rfl) (lenA_cons lenA_nil) rfl) (pad_cons (ped_tupN (pad_cons (d_var 2 nm_unit_so rfl rfl) (pad_cons (d_var 1 nm_nil_so rfl rfl) pad_nil rfl) rfl) (lenA_cons (lenA_cons lenA_nil)) rfl) (pad_cons (ped_tupN pad_nil lenA_nil rfl) pad_nil rfl) rfl) rfl) (lenA_cons (lenA_cons (lenA_cons lenA_nil))) rfl) (pad_cons (ped_tupN (pad_cons (ped_tupN (pad_cons (ped_tupN (pad_cons (ped_un und_neg d_int) (pad_cons d_int pad_nil rfl) rfl) (lenA_cons (lenA_cons lenA_nil)) rfl) pad_nil rfl) (lenA_cons lenA_nil) rfl) (pad_cons (ped_tupN (pad_cons (ped_tupN (pad_cons (ped_bin opd_pow d_int d_int) (pad_cons d_int pad_nil rfl) rfl) (lenA_cons (lenA_cons lenA_nil)) rfl) (pad_cons (d_var 1 nm_nil_so rfl rfl) pad_nil rfl) rfl) (lenA_cons (lenA_cons lenA_nil)) rfl) (pad_cons (ped_tupN pad_nil lenA_nil rfl) pad_nil rfl) rfl) rfl) (lenA_cons (lenA_cons (lenA_cons lenA_nil))) rfl) pad_nil rfl) rfl) (lenA_cons (lenA_cons lenA_nil)) rfl)) rfl)
  (pssd_cons (s_set 4 c rfl rfl rfl (ped_of_pld (pld_lstN (pad_cons (ped_tupN pad_nil lenA_nil rfl) (pad_cons (ped_tupN (pad_cons (ped_tupN (pad_cons (d_var 1 nm_nil_so rfl rfl) pad_nil rfl) (lenA_cons lenA_nil) rfl) (pad_cons (ped_tupN (pad_cons (d_var 2 nm_unit_so rfl rfl) (pad_cons (d_var 1 nm_nil_so rfl rfl) pad_nil rfl) rfl) (lenA_cons (lenA_cons lenA_nil)) rfl) pad_nil rfl) rfl) (lenA_cons (lenA_cons lenA_nil)) rfl) (pad_cons (ped_tupN (pad_cons (ped_tupN (pad_cons (d_var 1 nm_nil_so rfl rfl) pad_nil rfl) (lenA_cons lenA_nil) rfl) (pad_cons (ped_tupN (pad_cons (d_var 2 nm_unit_so rfl rfl) pad_nil rfl) (lenA_cons lenA_nil) rfl) (pad_cons (ped_tupN pad_nil lenA_nil rfl) pad_nil rfl) rfl) rfl) (lenA_cons (lenA_cons (lenA_cons lenA_nil))) rfl) (pad_cons (ped_tupN (pad_cons (ped_tupN (pad_cons (d_var 1 nm_nil_so rfl rfl) pad_nil rfl) (lenA_cons lenA_nil) rfl) (pad_cons (ped_tupN (pad_cons (d_var 2 nm_unit_so rfl rfl) (pad_cons (d_var 1 nm_nil_so rfl rfl) pad_nil rfl) rfl) (lenA_cons (lenA_cons lenA_nil)) rfl) (pad_cons (ped_tupN (pad_cons (d_var 1 nm_nil_so rfl rfl) pad_nil rfl) (lenA_cons lenA_nil) rfl) pad_nil rfl) rfl) rfl) (lenA_cons (lenA_cons (lenA_cons lenA_nil))) rfl) (pad_cons (ped_of_pld (pld_lstN (pad_cons (ped_tupN (pad_cons (d_var 1 nm_nil_so rfl rfl) pad_nil rfl) (lenA_cons lenA_nil) rfl) (pad_cons (ped_tupN (pad_cons (d_var 2 nm_unit_so rfl rfl) (pad_cons (d_var 1 nm_nil_so rfl rfl) pad_nil rfl) rfl) (lenA_cons (lenA_cons lenA_nil)) rfl) (pad_cons (ped_tupN pad_nil lenA_nil rfl) pad_nil rfl) rfl) rfl) (lenA_cons (lenA_cons (lenA_cons lenA_nil))) rfl)) pad_nil rfl) rfl) rfl) rfl) rfl) (lenA_cons (lenA_cons (lenA_cons (lenA_cons (lenA_cons lenA_nil))))) rfl)) rfl)
  (pssd_cons (s_set 4 c rfl rfl rfl (ped_bin (opd_add c.K) (d_var 4 nm_odd_so rfl rfl) (ped_of_pld (pld_lstN (pad_cons (ped_tupN (pad_cons (ped_tupN (pad_cons (d_var 1 nm_nil_so rfl rfl) pad_nil rfl) (lenA_cons lenA_nil) rfl) (pad_cons (ped_of_pld (pld_lstN (pad_cons (d_var 2 nm_unit_so rfl rfl) (pad_cons (d_var 1 nm_nil_so rfl rfl) pad_nil rfl) rfl) (lenA_cons (lenA_cons lenA_nil)) rfl)) (pad_cons (ped_tupN pad_nil lenA_nil rfl) pad_nil rfl) rfl) rfl) (lenA_cons (lenA_cons (lenA_cons lenA_nil))) rfl) (pad_cons (ped_tupN (pad_cons (ped_tupN (pad_cons (ped_tupN (pad_cons d_int (pad_cons d_int pad_nil rfl) rfl) (lenA_cons (lenA_cons lenA_nil)) rfl) pad_nil rfl) (lenA_cons lenA_nil) rfl) (pad_cons (ped_tupN (pad_cons (d_var 2 nm_unit_so rfl rfl) (pad_cons (d_var 1 nm_nil_so rfl rfl) pad_nil rfl) rfl) (lenA_cons (lenA_cons lenA_nil)) rfl) (pad_cons (ped_tupN pad_nil lenA_nil rfl) pad_nil rfl) rfl) rfl) (lenA_cons (lenA_cons (lenA_cons lenA_nil))) rfl) (pad_cons (ped_tupN (pad_cons (ped_tupN (pad_cons (ped_tupN (pad_cons d_bl (pad_cons d_int pad_nil rfl) rfl) (lenA_cons (lenA_cons lenA_nil)) rfl) pad_nil rfl) (lenA_cons lenA_nil) rfl) (pad_cons (ped_tupN (pad_cons (d_var 2 nm_unit_so rfl rfl) (pad_cons (d_var 1 nm_nil_so rfl rfl) pad_nil rfl) rfl) (lenA_cons (lenA_cons lenA_nil)) rfl) (pad_cons (ped_tupN pad_nil lenA_nil rfl) pad_nil rfl) rfl) rfl) (lenA_cons (lenA_cons (lenA_cons lenA_nil))) rfl) (pad_cons d_non (pad_cons d_int pad_nil rfl) rfl) rfl) rfl) rfl) (lenA_cons (lenA_cons (lenA_cons (lenA_cons (lenA_cons lenA_nil))))) rfl))) rfl)
  (pssd_cons (s_set 5 c rfl rfl rfl (ped_of_pld (pld_lstN (pad_cons (ped_of_pld (d_comp c [("own", 8)] (.one 8) (pid_seq c.K (d_var 3 nm_good_so rfl rfl)) (by kernel_rfl) rfl (fun _ _ _ _ _ => (g_one 8 c.nd rfl rfl rfl)) (fun _ _ _ _ _ => ptsd_nil) (fun _ _ _ _ _ => (d_call c.blk h_is_moves nm_is_moves rfl (pad_cons (d_var 0 nm_mill_so rfl rfl) (pad_cons (d_var 8 nm_own rfl rfl) pad_nil rfl) rfl) rfl rfl)) (fun _ => rfl))) (pad_cons (ped_of_pld (d_comp c [("own", 8)] (.one 8) (pid_seq c.K (d_var 4 nm_odd_so rfl rfl)) (by kernel_rfl) rfl (fun _ _ _ _ _ => (g_one 8 c.nd rfl rfl rfl)) (fun _ _ _ _ _ => ptsd_nil) (fun _ _ _ _ _ => (d_call c.blk h_is_moves nm_is_moves rfl (pad_cons (d_var 0 nm_mill_so rfl rfl) (pad_cons (d_var 8 nm_own rfl rfl) pad_nil rfl) rfl) rfl rfl)) (fun _ => rfl))) pad_nil rfl) rfl) (lenA_cons (lenA_cons lenA_nil)) rfl)) rfl)
  (pssd_cons (s_set 6 c rfl rfl rfl (ped_of_pld (pld_lstN (pad_cons (ped_of_pld (pld_lstN (pad_cons d_bl (pad_cons d_bl pad_nil rfl) rfl) (lenA_cons (lenA_cons lenA_nil)) rfl)) (pad_cons (ped_bin (opd_mul c.K) (ped_of_pld (pld_lstN (pad_cons d_bl pad_nil rfl) (lenA_cons lenA_nil) rfl)) d_int) pad_nil rfl) rfl) (lenA_cons (lenA_cons lenA_nil)) rfl)) rfl)
  (pssd_cons (s_set 7 c rfl rfl rfl (ped_tupN (pad_cons (ped_tupN (pad_cons (ped_tupN (pad_cons (d_var 2 nm_unit_so rfl rfl) pad_nil rfl) (lenA_cons lenA_nil) rfl) pad_nil rfl) (lenA_cons lenA_nil) rfl) (pad_cons (ped_tupN (pad_cons (ped_tupN pad_nil lenA_nil rfl) (pad_cons (ped_tupN pad_nil lenA_nil rfl) pad_nil rfl) rfl) (lenA_cons (lenA_cons lenA_nil)) rfl) (pad_cons (ped_tupN pad_nil lenA_nil rfl) pad_nil rfl) rfl) rfl) (lenA_cons (lenA_cons (lenA_cons lenA_nil))) rfl) rfl)
  (pssd_cons (s_set 4 c rfl rfl rfl (ped_of_pld (pld_lstN (pad_cons (d_var 7 nm_rules_so rfl rfl) (pad_cons (ped_of_pld (pld_lstN (pad_cons (d_var 7 nm_rules_so rfl rfl) pad_nil rfl) (lenA_cons lenA_nil) rfl)) (pad_cons (ped_tupN (pad_cons (d_callT (calld_list c.K) bn_list C.f_list rfl (pad_cons (d_var 7 nm_rules_so rfl rfl) pad_nil rfl) rfl rfl) pad_nil rfl) (lenA_cons lenA_nil) rfl) (pad_cons (ped_tupN (pad_cons (ped_tupN (pad_cons (ped_tupN (pad_cons (d_var 2 nm_unit_so rfl rfl) pad_nil rfl) (lenA_cons lenA_nil) rfl) (pad_cons (ped_tupN (pad_cons (ped_tupN pad_nil lenA_nil rfl) (pad_cons (ped_tupN pad_nil lenA_nil rfl) pad_nil rfl) rfl) (lenA_cons (lenA_cons lenA_nil)) rfl) (pad_cons (ped_tupN pad_nil lenA_nil rfl) pad_nil rfl) rfl) rfl) (lenA_cons (lenA_cons (lenA_cons lenA_nil))) rfl) pad_nil rfl) (lenA_cons lenA_nil) rfl) (pad_cons (ped_tupN (pad_cons (ped_tupN (pad_cons (ped_tupN (pad_cons (ped_tupN (pad_cons (d_var 2 nm_unit_so rfl rfl) (pad_cons (d_var 2 nm_unit_so rfl rfl) pad_nil rfl) rfl) (lenA_cons (lenA_cons lenA_nil)) rfl) pad_nil rfl) (lenA_cons lenA_nil) rfl) (pad_cons (ped_tupN (pad_cons (ped_tupN pad_nil lenA_nil rfl) (pad_cons (ped_tupN pad_nil lenA_nil rfl) pad_nil rfl) rfl) (lenA_cons (lenA_cons lenA_nil)) rfl) (pad_cons (ped_tupN pad_nil lenA_nil rfl) pad_nil rfl) rfl) rfl) (lenA_cons (lenA_cons (lenA_cons lenA_nil))) rfl) pad_nil rfl) (lenA_cons lenA_nil) rfl) pad_nil rfl) rfl) rfl) rfl) rfl) (lenA_cons (lenA_cons (lenA_cons (lenA_cons (lenA_cons lenA_nil))))) rfl)) rfl)
  (pssd_cons (s_set 4 c rfl rfl rfl (ped_bin (opd_add c.K) (d_var 4 nm_odd_so rfl rfl) (ped_of_pld (pld_lstN (pad_cons (ped_tupN (pad_cons (d_var 7 nm_rules_so rfl rfl) (pad_cons (ped_tupN pad_nil lenA_nil rfl) pad_nil rfl) rfl) (lenA_cons (lenA_cons lenA_nil)) rfl) (pad_cons (ped_tupN (pad_cons (ped_slice c.K (d_var 7 nm_rules_so rfl rfl) pod_none (pod_some d_int)) pad_nil rfl) (lenA_cons lenA_nil) rfl) (pad_cons (ped_tupN (pad_cons (ped_tupN (pad_cons (ped_tupN (pad_cons (ped_tupN (pad_cons (d_var 2 nm_unit_so rfl rfl) pad_nil rfl) (lenA_cons lenA_nil) rfl) pad_nil rfl) (lenA_cons lenA_nil) rfl) (pad_cons (ped_tupN (pad_cons (ped_tupN pad_nil lenA_nil rfl) pad_nil rfl) (lenA_cons lenA_nil) rfl) (pad_cons (ped_tupN pad_nil lenA_nil rfl) pad_nil rfl) rfl) rfl) (lenA_cons (lenA_cons (lenA_cons lenA_nil))) rfl) pad_nil rfl) (lenA_cons lenA_nil) rfl) (pad_cons (ped_tupN (pad_cons (ped_tupN (pad_cons (ped_tupN (pad_cons (ped_tupN (pad_cons (ped_tupN (pad_cons d_int (pad_cons d_int pad_nil rfl) rfl) (lenA_cons (lenA_cons lenA_nil)) rfl) pad_nil rfl) (lenA_cons lenA_nil) rfl) pad_nil rfl) (lenA_cons lenA_nil) rfl) (pad_cons (ped_tupN (pad_cons (ped_tupN pad_nil lenA_nil rfl) (pad_cons (ped_tupN pad_nil lenA_nil rfl) pad_nil rfl) rfl) (lenA_cons (lenA_cons lenA_nil)) rfl) (pad_cons (ped_tupN pad_nil lenA_nil rfl) pad_nil rfl) rfl) rfl) (lenA_cons (lenA_cons (lenA_cons lenA_nil))) rfl) pad_nil rfl) (lenA_cons lenA_nil) rfl) (pad_cons d_non (pad_cons d_str pad_nil rfl) rfl) rfl) rfl) rfl) rfl) (lenA_cons (lenA_cons (lenA_cons (lenA_cons (lenA_cons (lenA_cons lenA_nil)))))) rfl))) rfl)
  (pssd_cons (s_set 5 c rfl rfl rfl (ped_bin (opd_add c.K) (d_var 5 nm_got rfl rfl) (ped_of_pld (pld_lstN (pad_cons (ped_of_pld (d_comp c [("own", 8)] (.one 8) (pid_seq c.K (ped_tupN (pad_cons (ped_tupN pad_nil lenA_nil rfl) (pad_cons (ped_tupN (pad_cons (d_var 7 nm_rules_so rfl rfl) pad_nil rfl) (lenA_cons lenA_nil) rfl) (pad_cons (ped_bin (opd_mul c.K) (ped_tupN (pad_cons (d_var 7 nm_rules_so rfl rfl) pad_nil rfl) (lenA_cons lenA_nil) rfl) d_int) pad_nil rfl) rfl) rfl) (lenA_cons (lenA_cons (lenA_cons lenA_nil))) rfl)) (by kernel_rfl) rfl (fun _ _ _ _ _ => (g_one 8 c.nd rfl rfl rfl)) (fun _ _ _ _ _ => ptsd_nil) (fun _ _ _ _ _ => (d_call c.blk h_is_clock nm_is_clock rfl (pad_cons (d_var 0 nm_mill_so rfl rfl) (pad_cons (d_var 8 nm_own rfl rfl) pad_nil rfl) rfl) rfl rfl)) (fun _ => rfl))) (pad_cons (ped_of_pld (d_comp c [("own", 8)] (.one 8) (pid_seq c.K (d_var 4 nm_odd_so rfl rfl)) (by kernel_rfl) rfl (fun _ _ _ _ _ => (g_one 8 c.nd rfl rfl rfl)) (fun _ _ _ _ _ => ptsd_nil) (fun _ _ _ _ _ => (d_call c.blk h_is_clock nm_is_clock rfl (pad_cons (d_var 0 nm_mill_so rfl rfl) (pad_cons (d_var 8 nm_own rfl rfl) pad_nil rfl) rfl) rfl rfl)) (fun _ => rfl))) pad_nil rfl) rfl) (lenA_cons (lenA_cons lenA_nil)) rfl))) rfl)
  (pssd_cons (s_set 6 c rfl rfl rfl (ped_bin (opd_add c.K) (d_var 6 nm_due rfl rfl) (ped_of_pld (pld_lstN (pad_cons (ped_bin (opd_mul c.K) (ped_of_pld (pld_lstN (pad_cons d_bl pad_nil rfl) (lenA_cons lenA_nil) rfl)) d_int) (pad_cons (ped_bin (opd_mul c.K) (ped_of_pld (pld_lstN (pad_cons d_bl pad_nil rfl) (lenA_cons lenA_nil) rfl)) d_int) pad_nil rfl) rfl) (lenA_cons (lenA_cons lenA_nil)) rfl))) rfl)
  (pssd_cons (psd_ret (ped_and c.K (d_call c h__law_same nm__law_same rfl (pad_cons (d_var 5 nm_got rfl rfl) (pad_cons (d_var 6 nm_due rfl rfl) pad_nil rfl) rfl) rfl rfl) (ped_one (d_call c h__law_more_things_right nm__law_more_things_right rfl (pad_cons (d_var 7 nm_rules_so rfl rfl) pad_nil rfl) rfl rfl))))
  pssd_nil))))))))))))⟩
noncomputable def S__law_things_right : FN := callD 9 T__law_things_right.1
theorem ok__law_things_right {P : Program} {w : World} {G : Gd} {mg : Str → Option Value} {base : Heap} {k : Nat} (C : Cn G mg) (h__law_mill : Fn P w G (XRK G) mg base k "_law_mill" (defArgs (top 51)) 0 S__law_mill) (h__law_same : Fn P w G (XRK G) mg base k "_law_same" (defArgs (top 50)) 2 (S__law_same 10)) (h__law_more_things_right : Fn P w G (XRK G) mg base k "_law_more_things_right" (defArgs (top 58)) 1 S__law_more_things_right) (h_is_moves : Fn P w G (XRK G) mg base k "is_moves" (defArgs (top 28)) 2 S_is_moves) (h_is_clock : Fn P w G (XRK G) mg base k "is_clock" (defArgs (top 29)) 2 S_is_clock) {a : Addr} {fd : FuncData} (F : FunD G.K "_law_things_right" "_law_things_right" (defArgs (top 57)) (defBody (top 57)) (defScope (top 57)) [] [] a fd) (hm : mg "_law_things_right" = some (.ref a)) : Fn P w G (XRK G) mg base (k + 1) "_law_things_right" (defArgs (top 57)) 0 S__law_things_right :=
  fn_mk (k := k) (N := N__law_things_right) (ps := ([] : List Str)) (xr1_ok _ _ _) F sc__law_things_right hm rfl rfl (fun _ _ _ _ _ _ us hl => match us, hl with | [], _ => rfl) (fun cdv A outer s H E hr => T__law_things_right.2 C h__law_mill h__law_same h__law_more_things_right h_is_moves h_is_clock a cdv A outer s H E hr)

abbrev N__law_lists : List Str := ["matter", "bit"]
theorem nd__law_lists : (N__law_lists).Nodup := by decide +kernel
theorem sc__law_lists : FnScope N__law_lists (["matter"] : List Str) (defScope (top 49)) := ⟨rfl, rfl, rfl, nd__law_lists, rfl, by decide +kernel, by decide +kernel⟩
noncomputable def T__law_lists (rec : FN) : { fb : FS // ∀ {P : Program} {w : World} {G : Gd} {mg : Str → Option Value} {base : Heap} {k : Nat} (C : Cn G mg) (h__law_lists : Fn P w G (XRK G) mg base k "_law_lists" (defArgs (top 49)) 1 rec) (a : Addr) (cdv : Value) (A : Around) (outer : List Env) (s : Shared) (H : Hp) (E : XK), Room k (bodyX P w G.K mg base N__law_lists "_law_lists" (defScope (top 49)) a cdv A outer s H E).A → PSsd G (XRK G) (bodyX P w G.K mg base N__law_lists "_law_lists" (defScope (top 49)) a cdv A outer s H E) (WE0 E) (defBody (top 49)) fb } :=
  ⟨_, fun {P w G mg base k} C h__law_lists a cdv A outer s H E hr =>
  have ow : PassesOwn (model P w) (bodyX P w G.K mg base N__law_lists "_law_lists" (defScope (top 49)) a cdv A outer s H E).A (bodyX P w G.K mg base N__law_lists "_law_lists" (defScope (top 49)) a cdv A outer s H E).env (bodyX P w G.K mg base N__law_lists "_law_lists" (defScope (top 49)) a cdv A outer s H E).xe := own_body
  have c : Cc G (bodyX P w G.K mg base N__law_lists "_law_lists" (defScope (top 49)) a cdv A outer s H E) (WE0 E) k := ⟨rfl, rfl, nd__law_lists, hr, takes_body⟩
  (pssd_cons (psd_ret (ped_if (pcd_truth c.K (ped_isiN c.K rfl C.f_isinstance (d_var 0 nm_matter rfl rfl) (pcls_cons (n := 5) rfl C.f_list bn_list.boot bn_list.ne bn_list.db (pcls_cons (n := 4) rfl C.f_tuple bn_tuple.boot bn_tuple.ne bn_tuple.db pcls_nil rfl) rfl) (by decide) (by decide) rfl rfl rfl) (fun _ => rfl)) (ped_of_pld (d_comp c [("bit", 1)] (.one 1) (pid_seq c.K (d_var 0 nm_matter rfl rfl)) (by kernel_rfl) rfl (fun _ _ _ _ _ => (g_one 1 c.nd rfl rfl rfl)) (fun _ _ _ _ _ => ptsd_nil) (fun _ _ _ _ _ => (d_call c.blk h__law_lists nm__law_lists rfl (pad_cons (d_var 1 nm_bit rfl rfl) pad_nil rfl) rfl rfl)) (fun _ => rfl))) (d_var 0 nm_matter rfl rfl)))
  pssd_nil)⟩
noncomputable def S__law_lists : Nat → FN
  | 0 => fun _ _ => .bad
  | j + 1 => callD 2 (T__law_lists (S__law_lists j)).1
theorem ok__law_lists {P : Program} {w : World} {G : Gd} {mg : Str → Option Value} {base : Heap} (C : Cn G mg) {a : Addr} {fd : FuncData} (F : FunD G.K "_law_lists" "_law_lists" (defArgs (top 49)) (defBody (top 49)) (defScope (top 49)) [] [] a fd) (hm : mg "_law_lists" = some (.ref a)) : ∀ j, Fn P w G (XRK G) mg base j "_law_lists" (defArgs (top 49)) 1 (S__law_lists j)
  | 0 => fn_bad (ps := (["matter"] : List Str)) F hm rfl rfl (fun _ _ _ _ _ _ us hl => match us, hl with | [a0], _ => rfl)
  | j + 1 => fn_mk (N := N__law_lists) (ps := (["matter"] : List Str)) (xr1_ok _ _ _) F sc__law_lists hm rfl rfl (fun _ _ _ _ _ _ us hl => match us, hl with | [a0], _ => rfl) (fun cdv A outer s H E hr => (T__law_lists (S__law_lists j)).2 C (ok__law_lists C F hm j) a cdv A outer s H E hr)

abbrev N_steadied : List Str := ["plant", "cells", "steady", "ticks", "rows", "doings", "memories", "_", "shows", "moves", "coming", "keeps", "hears", "tells", "rule", "memory", "row", "program"]
theorem nd_steadied : (N_steadied).Nodup := by decide +kernel
theorem sc_steadied : FnScope N_steadied (["plant", "cells", "steady", "ticks"] : List Str) (defScope (top 41)) := ⟨rfl, rfl, rfl, nd_steadied, rfl, by decide +kernel, by decide +kernel⟩
noncomputable def T_steadied : { fb : FS // ∀ {P : Program} {w : World} {G : Gd} {mg : Str → Option Value} {base : Heap} {k : Nat} (C : Cn G mg) (h_fixed : Fn P w G (XRK G) mg base k "fixed" (defArgs (top 3)) 1 (S_fixed 10)) (h_none_row : Fn P w G (XRK G) mg base k "none_row" (defArgs (top 10)) 1 S_none_row) (h_sights : Fn P w G (XRK G) mg base k "sights" (defArgs (top 33)) 2 S_sights) (h_cells_next : Fn P w G (XRK G) mg base k "cells_next" (defArgs (top 35)) 3 S_cells_next) (h_row_sum : Fn P w G (XRK G) mg base k "row_sum" (defArgs (top 18)) 2 S_row_sum) (h_row_applied : Fn P w G (XRK G) mg base k "row_applied" (defArgs (top 21)) 2 S_row_applied) (a : Addr) (cdv : Value) (A : Around) (outer : List Env) (s : Shared) (H : Hp) (E : XK), Room k (bodyX P w G.K mg base N_steadied "steadied" (defScope (top 41)) a cdv A outer s H E).A → PSsd G (XRK G) (bodyX P w G.K mg base N_steadied "steadied" (defScope (top 41)) a cdv A outer s H E) (WE0 E) (defBody (top 41)) fb } :=
  ⟨_, fun {P w G mg base k} C h_fixed h_none_row h_sights h_cells_next h_row_sum h_row_applied a cdv A outer s H E hr =>
  have ow : PassesOwn (model P w) (bodyX P w G.K mg base N_steadied "steadied" (defScope (top 41)) a cdv A outer s H E).A (bodyX P w G.K mg base N_steadied "steadied" (defScope (top 41)) a cdv A outer s H E).env (bodyX P w G.K mg base N_steadied "steadied" (defScope (top 41)) a cdv A outer s H E).xe := own_body
  have c : Cc G (bodyX P w G.K mg base N_steadied "steadied" (defScope (top 41)) a cdv A outer s H E) (WE0 E) k := ⟨rfl, rfl, nd_steadied, hr, takes_body⟩
  (pssd_cons (by first | exact psd_par3 c.calm c.nd (i := 0) (j := 1) (l := 2) rfl rfl rfl (by decide) (by decide) (by decide) rfl rfl rfl (pad_cons (d_call c h_fixed nm_fixed rfl (pad_cons (d_var 0 nm_plant rfl rfl) pad_nil rfl) rfl rfl) (pad_cons (d_call c h_fixed nm_fixed rfl (pad_cons (d_var 1 nm_cells rfl rfl) pad_nil rfl) rfl rfl) (pad_cons (d_call c h_fixed nm_fixed rfl (pad_cons (d_var 2 nm_steady rfl rfl) pad_nil rfl) rfl rfl) pad_nil rfl) rfl) rfl) rfl | exact psd_tup (ped_tupN (pad_cons (d_call c h_fixed nm_fixed rfl (pad_cons (d_var 0 nm_plant rfl rfl) pad_nil rfl) rfl rfl) (pad_cons (d_call c h_fixed nm_fixed rfl (pad_cons (d_var 1 nm_cells rfl rfl) pad_nil rfl) rfl rfl) (pad_cons (d_call c h_fixed nm_fixed rfl (pad_cons (d_var 2 nm_steady rfl rfl) pad_nil rfl) rfl rfl) pad_nil rfl) rfl) rfl) (lenA_cons (lenA_cons (lenA_cons lenA_nil))) rfl) (pgd_many c.K c.calm rfl rfl (gs_cons 0 c.nd rfl rfl rfl (gs_cons 1 c.nd rfl rfl rfl (gs_cons 2 c.nd rfl rfl rfl pgsd_nil)))) rfl rfl)
  (pssd_cons (by first | exact psd_par c.calm c.nd (i := 4) (j := 5) rfl rfl (by decide) rfl rfl (pad_cons (ped_alloc (pld_lstN (pad_cons (d_var 1 nm_cells rfl rfl) pad_nil rfl) (lenA_cons lenA_nil) rfl)) (pad_cons (ped_alloc (pld_lstN pad_nil lenA_nil rfl)) pad_nil rfl) rfl) rfl | exact psd_tup (ped_tupN (pad_cons (ped_alloc (pld_lstN (pad_cons (d_var 1 nm_cells rfl rfl) pad_nil rfl) (lenA_cons lenA_nil) rfl)) (pad_cons (ped_alloc (pld_lstN pad_nil lenA_nil rfl)) pad_nil rfl) rfl) (lenA_cons (lenA_cons lenA_nil)) rfl) (pgd_many c.K c.calm rfl rfl (gs_cons 4 c.nd rfl rfl rfl (gs_cons 5 c.nd rfl rfl rfl pgsd_nil))) rfl rfl)
  (pssd_cons (s_setLc false 6 [("program", 17)] (.one 17) c rfl rfl rfl (pid_seq c.K (d_var 2 nm_steady rfl rfl)) (by kernel_rfl) rfl (fun _ _ _ _ _ => (g_one 17 c.nd rfl rfl rfl)) (fun _ _ _ _ _ => ptsd_nil) (fun _ _ _ _ _ => (d_call c.blk h_none_row nm_none_row rfl (pad_cons (d_callB (calld_len c.blk.K) bn_len C.f_len rfl (pad_cons (ped_ix c.blk.K (d_var 17 nm_program rfl rfl) d_int (fun _ _ => rfl)) pad_nil rfl) rfl rfl) pad_nil rfl) rfl rfl)) (fun _ => rfl))
  (pssd_cons (psd_for ow c.calm (pid_range1 rfl C.f_range (pad_cons (d_var 3 nm_ticks rfl rfl) pad_nil rfl) rfl) (g_one 7 c.nd rfl rfl rfl) (pssd_cons (s_set 8 c rfl rfl rfl (d_call c h_sights nm_sights rfl (pad_cons (d_var 0 nm_plant rfl rfl) (pad_cons (ped_ix c.K (d_var 4 nm_rows rfl rfl) (ped_un und_neg d_int) (fun _ _ => rfl)) pad_nil rfl) rfl) rfl rfl) rfl)
  (pssd_cons (by first | exact psd_par c.calm c.nd (i := 9) (j := 10) rfl rfl (by decide) rfl rfl (pad_cons (ped_alloc (pld_lstN pad_nil lenA_nil rfl)) (pad_cons (ped_alloc (pld_lstN pad_nil lenA_nil rfl)) pad_nil rfl) rfl) rfl | exact psd_tup (ped_tupN (pad_cons (ped_alloc (pld_lstN pad_nil lenA_nil rfl)) (pad_cons (ped_alloc (pld_lstN pad_nil lenA_nil rfl)) pad_nil rfl) rfl) (lenA_cons (lenA_cons lenA_nil)) rfl) (pgd_many c.K c.calm rfl rfl (gs_cons 9 c.nd rfl rfl rfl (gs_cons 10 c.nd rfl rfl rfl pgsd_nil))) rfl rfl)
  (pssd_cons (psd_for ow c.calm (pid_zipM c.K rfl C.f_zip (pad_cons (d_var 2 nm_steady rfl rfl) (pad_cons (d_var 6 nm_memories rfl rfl) (pad_cons (d_var 8 nm_shows rfl rfl) pad_nil rfl) rfl) rfl) rfl rfl) (pgd_tree c.K c.calm rfl rfl (tts_cons (tt_row c.K c.calm rfl rfl (tts_cons (tt_nm (i := 11) c.nd rfl (loc_ok rfl) (fn_ok rfl)) (tts_cons (tt_nm (i := 12) c.nd rfl (loc_ok rfl) (fn_ok rfl)) (tts_cons (tt_nm (i := 13) c.nd rfl (loc_ok rfl) (fn_ok rfl)) (tts_cons (tt_nm (i := 14) c.nd rfl (loc_ok rfl) (fn_ok rfl)) tts_nil rfl) rfl) rfl) rfl)) (tts_cons (tt_nm (i := 15) c.nd rfl (loc_ok rfl) (fn_ok rfl)) (tts_cons (tt_nm (i := 16) c.nd rfl (loc_ok rfl) (fn_ok rfl)) tts_nil rfl) rfl) rfl)) (pssd_cons (psd_expr (d_append c (d_var 9 nm_moves rfl rfl) (d_call c h_row_sum nm_row_sum rfl (pad_cons (d_call c h_row_applied nm_row_applied rfl (pad_cons (d_var 13 nm_tells rfl rfl) (pad_cons (d_var 15 nm_memory rfl rfl) pad_nil rfl) rfl) rfl rfl) (pad_cons (d_call c h_row_applied nm_row_applied rfl (pad_cons (d_var 14 nm_rule rfl rfl) (pad_cons (d_var 16 nm_row rfl rfl) pad_nil rfl) rfl) rfl rfl) pad_nil rfl) rfl) rfl rfl) rfl rfl rfl) rfl)
  (pssd_cons (psd_expr (d_append c (d_var 10 nm_coming rfl rfl) (d_call c h_row_sum nm_row_sum rfl (pad_cons (d_call c h_row_applied nm_row_applied rfl (pad_cons (d_var 11 nm_keeps rfl rfl) (pad_cons (d_var 15 nm_memory rfl rfl) pad_nil rfl) rfl) rfl rfl) (pad_cons (d_call c h_row_applied nm_row_applied rfl (pad_cons (d_var 12 nm_hears rfl rfl) (pad_cons (d_var 16 nm_row rfl rfl) pad_nil rfl) rfl) rfl rfl) pad_nil rfl) rfl) rfl rfl) rfl rfl rfl) rfl)
  pssd_nil)) (fun _ => rfl))
  (pssd_cons (s_set 6 c rfl rfl rfl (d_var 10 nm_coming rfl rfl) rfl)
  (pssd_cons (psd_expr (d_append c (d_var 5 nm_doings rfl rfl) (d_callT (calld_tup c.K) bn_tuple C.f_tuple rfl (pad_cons (d_var 9 nm_moves rfl rfl) pad_nil rfl) rfl rfl) rfl rfl rfl) rfl)
  (pssd_cons (psd_expr (d_append c (d_var 4 nm_rows rfl rfl) (d_call c h_cells_next nm_cells_next rfl (pad_cons (d_var 0 nm_plant rfl rfl) (pad_cons (ped_ix c.K (d_var 4 nm_rows rfl rfl) (ped_un und_neg d_int) (fun _ _ => rfl)) (pad_cons (d_var 9 nm_moves rfl rfl) pad_nil rfl) rfl) rfl) rfl rfl) rfl rfl rfl) rfl)
  pssd_nil)))))) (fun _ => rfl))
  (pssd_cons (psd_ret (ped_tupN (pad_cons (d_callT (calld_tup c.K) bn_tuple C.f_tuple rfl (pad_cons (d_var 4 nm_rows rfl rfl) pad_nil rfl) rfl rfl) (pad_cons (d_callT (calld_tup c.K) bn_tuple C.f_tuple rfl (pad_cons (d_var 5 nm_doings rfl rfl) pad_nil rfl) rfl rfl) pad_nil rfl) rfl) (lenA_cons (lenA_cons lenA_nil)) rfl))
  pssd_nil)))))⟩
noncomputable def S_steadied : FN := callD 18 T_steadied.1
theorem ok_steadied {P : Program} {w : World} {G : Gd} {mg : Str → Option Value} {base : Heap} {k : Nat} (C : Cn G mg) (h_fixed : Fn P w G (XRK G) mg base k "fixed" (defArgs (top 3)) 1 (S_fixed 10)) (h_none_row : Fn P w G (XRK G) mg base k "none_row" (defArgs (top 10)) 1 S_none_row) (h_sights : Fn P w G (XRK G) mg base k "sights" (defArgs (top 33)) 2 S_sights) (h_cells_next : Fn P w G (XRK G) mg base k "cells_next" (defArgs (top 35)) 3 S_cells_next) (h_row_sum : Fn P w G (XRK G) mg base k "row_sum" (defArgs (top 18)) 2 S_row_sum) (h_row_applied : Fn P w G (XRK G) mg base k "row_applied" (defArgs (top 21)) 2 S_row_applied) {a : Addr} {fd : FuncData} (F : FunD G.K "steadied" "steadied" (defArgs (top 41)) (defBody (top 41)) (defScope (top 41)) [] [] a fd) (hm : mg "steadied" = some (.ref a)) : Fn P w G (XRK G) mg base (k + 1) "steadied" (defArgs (top 41)) 4 S_steadied :=
  fn_mk (k := k) (N := N_steadied) (ps := (["plant", "cells", "steady", "ticks"] : List Str)) (xr1_ok _ _ _) F sc_steadied hm rfl rfl (fun _ _ _ _ _ _ us hl => match us, hl with | [a0, a1, a2, a3], _ => rfl) (fun cdv A outer s H E hr => T_steadied.2 C h_fixed h_none_row h_sights h_cells_next h_row_sum h_row_applied a cdv A outer s H E hr)

abbrev N_seen : List Str := ["plant", "cells"]
theorem nd_seen : (N_seen).Nodup := by decide +kernel
theorem sc_seen : FnScope N_seen (["plant", "cells"] : List Str) (defScope (top 34)) := ⟨rfl, rfl, rfl, nd_seen, rfl, by decide +kernel, by decide +kernel⟩
noncomputable def T_seen : { fb : FS // ∀ {P : Program} {w : World} {G : Gd} {mg : Str → Option Value} {base : Heap} {k : Nat} (C : Cn G mg) (h_sights : Fn P w G (XRK G) mg base k "sights" (defArgs (top 33)) 2 S_sights) (h_fixed : Fn P w G (XRK G) mg base k "fixed" (defArgs (top 3)) 1 (S_fixed 10)) (a : Addr) (cdv : Value) (A : Around) (outer : List Env) (s : Shared) (H : Hp) (E : XK), Room k (bodyX P w G.K mg base N_seen "seen" (defScope (top 34)) a cdv A outer s H E).A → PSsd G (XRK G) (bodyX P w G.K mg base N_seen "seen" (defScope (top 34)) a cdv A outer s H E) (WE0 E) (defBody (top 34)) fb } :=
  ⟨_, fun {P w G mg base k} C h_sights h_fixed a cdv A outer s H E hr =>
  have ow : PassesOwn (model P w) (bodyX P w G.K mg base N_seen "seen" (defScope (top 34)) a cdv A outer s H E).A (bodyX P w G.K mg base N_seen "seen" (defScope (top 34)) a cdv A outer s H E).env (bodyX P w G.K mg base N_seen "seen" (defScope (top 34)) a cdv A outer s H E).xe := own_body
  have c : Cc G (bodyX P w G.K mg base N_seen "seen" (defScope (top 34)) a cdv A outer s H E) (WE0 E) k := ⟨rfl, rfl, nd_seen, hr, takes_body⟩
  (pssd_cons (psd_ret (d_call c h_sights nm_sights rfl (pad_cons (d_call c h_fixed nm_fixed rfl (pad_cons (d_var 0 nm_plant rfl rfl) pad_nil rfl) rfl rfl) (pad_cons (d_call c h_fixed nm_fixed rfl (pad_cons (d_var 1 nm_cells rfl rfl) pad_nil rfl) rfl rfl) pad_nil rfl) rfl) rfl rfl))
  pssd_nil)⟩
noncomputable def S_seen : FN := callD 2 T_seen.1
theorem ok_seen {P : Program} {w : World} {G : Gd} {mg : Str → Option Value} {base : Heap} {k : Nat} (C : Cn G mg) (h_sights : Fn P w G (XRK G) mg base k "sights" (defArgs (top 33)) 2 S_sights) (h_fixed : Fn P w G (XRK G) mg base k "fixed" (defArgs (top 3)) 1 (S_fixed 10)) {a : Addr} {fd : FuncData} (F : FunD G.K "seen" "seen" (defArgs (top 34)) (defBody (top 34)) (defScope (top 34)) [] [] a fd) (hm : mg "seen" = some (.ref a)) : Fn P w G (XRK G) mg base (k + 1) "seen" (defArgs (top 34)) 2 S_seen :=
  fn_mk (k := k) (N := N_seen) (ps := (["plant", "cells"] : List Str)) (xr1_ok _ _ _) F sc_seen hm rfl rfl (fun _ _ _ _ _ _ us hl => match us, hl with | [a0, a1], _ => rfl) (fun cdv A outer s H E hr => T_seen.2 C h_sights h_fixed a cdv A outer s H E hr)

abbrev N_ticked : List Str := ["plant", "cells", "moves"]
theorem nd_ticked : (N_ticked).Nodup := by decide +kernel
theorem sc_ticked : FnScope N_ticked (["plant", "cells", "moves"] : List Str) (defScope (top 36)) := ⟨rfl, rfl, rfl, nd_ticked, rfl, by decide +kernel, by decide +kernel⟩
noncomputable def T_ticked : { fb : FS // ∀ {P : Program} {w : World} {G : Gd} {mg : Str → Option Value} {base : Heap} {k : Nat} (C : Cn G mg) (h_cells_next : Fn P w G (XRK G) mg base k "cells_next" (defArgs (top 35)) 3 S_cells_next) (h_fixed : Fn P w G (XRK G) mg base k "fixed" (defArgs (top 3)) 1 (S_fixed 10)) (a : Addr) (cdv : Value) (A : Around) (outer : List Env) (s : Shared) (H : Hp) (E : XK), Room k (bodyX P w G.K mg base N_ticked "ticked" (defScope (top 36)) a cdv A outer s H E).A → PSsd G (XRK G) (bodyX P w G.K mg base N_ticked "ticked" (defScope (top 36)) a cdv A outer s H E) (WE0 E) (defBody (top 36)) fb } :=
  ⟨_, fun {P w G mg base k} C h_cells_next h_fixed a cdv A outer s H E hr =>
  have ow : PassesOwn (model P w) (bodyX P w G.K mg base N_ticked "ticked" (defScope (top 36)) a cdv A outer s H E).A (bodyX P w G.K mg base N_ticked "ticked" (defScope (top 36)) a cdv A outer s H E).env (bodyX P w G.K mg base N_ticked "ticked" (defScope (top 36)) a cdv A outer s H E).xe := own_body
  have c : Cc G (bodyX P w G.K mg base N_ticked "ticked" (defScope (top 36)) a cdv A outer s H E) (WE0 E) k := ⟨rfl, rfl, nd_ticked, hr, takes_body⟩
  (pssd_cons (psd_ret (d_call c h_cells_next nm_cells_next rfl (pad_cons (d_call c h_fixed nm_fixed rfl (pad_cons (d_var 0 nm_plant rfl rfl) pad_nil rfl) rfl rfl) (pad_cons (d_call c h_fixed nm_fixed rfl (pad_cons (d_var 1 nm_cells rfl rfl) pad_nil rfl) rfl rfl) (pad_cons (d_call c h_fixed nm_fixed rfl (pad_cons (d_var 2 nm_moves rfl rfl) pad_nil rfl) rfl rfl) pad_nil rfl) rfl) rfl) rfl rfl))
  pssd_nil)⟩
noncomputable def S_ticked : FN := callD 3 T_ticked.1
theorem ok_ticked {P : Program} {w : World} {G : Gd} {mg : Str → Option Value} {base : Heap} {k : Nat} (C : Cn G mg) (h_cells_next : Fn P w G (XRK G) mg base k "cells_next" (defArgs (top 35)) 3 S_cells_next) (h_fixed : Fn P w G (XRK G) mg base k "fixed" (defArgs (top 3)) 1 (S_fixed 10)) {a : Addr} {fd : FuncData} (F : FunD G.K "ticked" "ticked" (defArgs (top 36)) (defBody (top 36)) (defScope (top 36)) [] [] a fd) (hm : mg "ticked" = some (.ref a)) : Fn P w G (XRK G) mg base (k + 1) "ticked" (defArgs (top 36)) 3 S_ticked :=
  fn_mk (k := k) (N := N_ticked) (ps := (["plant", "cells", "moves"] : List Str)) (xr1_ok _ _ _) F sc_ticked hm rfl rfl (fun _ _ _ _ _ _ us hl => match us, hl with | [a0, a1, a2], _ => rfl) (fun cdv A outer s H E hr => T_ticked.2 C h_cells_next h_fixed a cdv A outer s H E hr)

abbrev N_shown_along : List Str := ["reading", "play"]
theorem nd_shown_along : (N_shown_along).Nodup := by decide +kernel
theorem sc_shown_along : FnScope N_shown_along (["reading", "play"] : List Str) (defScope (top 42)) := ⟨rfl, rfl, rfl, nd_shown_along, rfl, by decide +kernel, by decide +kernel⟩
noncomputable def T_shown_along : { fb : FS // ∀ {P : Program} {w : World} {G : Gd} {mg : Str → Option Value} {base : Heap} {k : Nat} (C : Cn G mg) (h_row_applied : Fn P w G (XRK G) mg base k "row_applied" (defArgs (top 21)) 2 S_row_applied) (h_fixed : Fn P w G (XRK G) mg base k "fixed" (defArgs (top 3)) 1 (S_fixed 10)) (a : Addr) (cdv : Value) (A : Around) (outer : List Env) (s : Shared) (H : Hp) (E : XK), Room k (bodyX P w G.K mg base N_shown_along "shown_along" (defScope (top 42)) a cdv A outer s H E).A → PSsd G (XRK G) (bodyX P w G.K mg base N_shown_along "shown_along" (defScope (top 42)) a cdv A outer s H E) (WE0 E) (defBody (top 42)) fb } :=
  ⟨_, fun {P w G mg base k} C h_row_applied h_fixed a cdv A outer s H E hr =>
  have ow : PassesOwn (model P w) (bodyX P w G.K mg base N_shown_along "shown_along" (defScope (top 42)) a cdv A outer s H E).A (bodyX P w G.K mg base N_shown_along "shown_along" (defScope (top 42)) a cdv A outer s H E).env (bodyX P w G.K mg base N_shown_along "shown_along" (defScope (top 42)) a cdv A outer s H E).xe := own_body
  have c : Cc G (bodyX P w G.K mg base N_shown_along "shown_along" (defScope (top 42)) a cdv A outer s H E) (WE0 E) k := ⟨rfl, rfl, nd_shown_along, hr, takes_body⟩
  (pssd_cons (psd_ret (d_call c h_row_applied nm_row_applied rfl (pad_cons (ped_ix c.K (d_call c h_fixed nm_fixed rfl (pad_cons (d_var 1 nm_play rfl rfl) pad_nil rfl) rfl rfl) d_int (fun _ _ => rfl)) (pad_cons (d_call c h_fixed nm_fixed rfl (pad_cons (d_var 0 nm_reading rfl rfl) pad_nil rfl) rfl rfl) pad_nil rfl) rfl) rfl rfl))
  pssd_nil)⟩
noncomputable def S_shown_along : FN := callD 2 T_shown_along.1
theorem ok_shown_along {P : Program} {w : World} {G : Gd} {mg : Str → Option Value} {base : Heap} {k : Nat} (C : Cn G mg) (h_row_applied : Fn P w G (XRK G) mg base k "row_applied" (defArgs (top 21)) 2 S_row_applied) (h_fixed : Fn P w G (XRK G) mg base k "fixed" (defArgs (top 3)) 1 (S_fixed 10)) {a : Addr} {fd : FuncData} (F : FunD G.K "shown_along" "shown_along" (defArgs (top 42)) (defBody (top 42)) (defScope (top 42)) [] [] a fd) (hm : mg "shown_along" = some (.ref a)) : Fn P w G (XRK G) mg base (k + 1) "shown_along" (defArgs (top 42)) 2 S_shown_along :=
  fn_mk (k := k) (N := N_shown_along) (ps := (["reading", "play"] : List Str)) (xr1_ok _ _ _) F sc_shown_along hm rfl rfl (fun _ _ _ _ _ _ us hl => match us, hl with | [a0, a1], _ => rfl) (fun cdv A outer s H E hr => T_shown_along.2 C h_row_applied h_fixed a cdv A outer s H E hr)

abbrev N_check_ticks : List Str := ["one", "other"]
theorem nd_check_ticks : (N_check_ticks).Nodup := by decide +kernel
theorem sc_check_ticks : FnScope N_check_ticks (["one", "other"] : List Str) (defScope (top 43)) := ⟨rfl, rfl, rfl, nd_check_ticks, rfl, by decide +kernel, by decide +kernel⟩
noncomputable def T_check_ticks : { fb : FS // ∀ {P : Program} {w : World} {G : Gd} {mg : Str → Option Value} {base : Heap} {k : Nat} (C : Cn G mg) (a : Addr) (cdv : Value) (A : Around) (outer : List Env) (s : Shared) (H : Hp) (E : XK), Room k (bodyX P w G.K mg base N_check_ticks "check_ticks" (defScope (top 43)) a cdv A outer s H E).A → PSsd G (XRK G) (bodyX P w G.K mg base N_check_ticks "check_ticks" (defScope (top 43)) a cdv A outer s H E) (WE0 E) (defBody (top 43)) fb } :=
  ⟨_, fun {P w G mg base k} C a cdv A outer s H E hr =>
  have ow : PassesOwn (model P w) (bodyX P w G.K mg base N_check_ticks "check_ticks" (defScope (top 43)) a cdv A outer s H E).A (bodyX P w G.K mg base N_check_ticks "check_ticks" (defScope (top 43)) a cdv A outer s H E).env (bodyX P w G.K mg base N_check_ticks "check_ticks" (defScope (top 43)) a cdv A outer s H E).xe := own_body
  have c : Cc G (bodyX P w G.K mg base N_check_ticks "check_ticks" (defScope (top 43)) a cdv A outer s H E) (WE0 E) k := ⟨rfl, rfl, nd_check_ticks, hr, takes_body⟩
  (pssd_cons (psd_if (pcd_cmp (opd_ne c.K c.room.units) (d_callB (calld_len c.K) bn_len C.f_len rfl (pad_cons (ped_ix c.K (d_var 0 nm_one rfl rfl) d_int (fun _ _ => rfl)) pad_nil rfl) rfl rfl) (d_callB (calld_len c.K) bn_len C.f_len rfl (pad_cons (ped_ix c.K (d_var 1 nm_other rfl rfl) d_int (fun _ _ => rfl)) pad_nil rfl) rfl rfl) rfl) (pssd_cons (psd_raiseN (n := 1) c.calm c.tk PySem.F.excBase_ValueError C.q_Unfit C.c_Unfit C.k_Unfit (raises_own C.s_Unfit C.y_Unfit) rfl nm_Unfit.db rfl)
  pssd_nil) pssd_nil)
  pssd_nil)⟩
noncomputable def S_check_ticks : FN := callD 2 T_check_ticks.1
theorem ok_check_ticks {P : Program} {w : World} {G : Gd} {mg : Str → Option Value} {base : Heap} {k : Nat} (C : Cn G mg) {a : Addr} {fd : FuncData} (F : FunD G.K "check_ticks" "check_ticks" (defArgs (top 43)) (defBody (top 43)) (defScope (top 43)) [] [] a fd) (hm : mg "check_ticks" = some (.ref a)) : Fn P w G (XRK G) mg base (k + 1) "check_ticks" (defArgs (top 43)) 2 S_check_ticks :=
  fn_mk (k := k) (N := N_check_ticks) (ps := (["one", "other"] : List Str)) (xr1_ok _ _ _) F sc_check_ticks hm rfl rfl (fun _ _ _ _ _ _ us hl => match us, hl with | [a0, a1], _ => rfl) (fun cdv A outer s H E hr => T_check_ticks.2 C a cdv A outer s H E hr)

abbrev N_less : List Str := ["one", "other"]
theorem nd_less : (N_less).Nodup := by decide +kernel
theorem sc_less : FnScope N_less (["one", "other"] : List Str) (defScope (top 9)) := ⟨rfl, rfl, rfl, nd_less, rfl, by decide +kernel, by decide +kernel⟩
noncomputable def T_less : { fb : FS // ∀ {P : Program} {w : World} {G : Gd} {mg : Str → Option Value} {base : Heap} {k : Nat} (C : Cn G mg) (h_fraction : Fn P w G (XRK G) mg base k "fraction" (defArgs (top 7)) 2 S_fraction) (a : Addr) (cdv : Value) (A : Around) (outer : List Env) (s : Shared) (H : Hp) (E : XK), Room k (bodyX P w G.K mg base N_less "less" (defScope (top 9)) a cdv A outer s H E).A → PSsd G (XRK G) (bodyX P w G.K mg base N_less "less" (defScope (top 9)) a cdv A outer s H E) (WE0 E) (defBody (top 9)) fb } :=
  ⟨_, fun {P w G mg base k} C h_fraction a cdv A outer s H E hr =>
  have ow : PassesOwn (model P w) (bodyX P w G.K mg base N_less "less" (defScope (top 9)) a cdv A outer s H E).A (bodyX P w G.K mg base N_less "less" (defScope (top 9)) a cdv A outer s H E).env (bodyX P w G.K mg base N_less "less" (defScope (top 9)) a cdv A outer s H E).xe := own_body
  have c : Cc G (bodyX P w G.K mg base N_less "less" (defScope (top 9)) a cdv A outer s H E) (WE0 E) k := ⟨rfl, rfl, nd_less, hr, takes_body⟩
  (pssd_cons (psd_ret (d_call c h_fraction nm_fraction rfl (pad_cons (ped_bin opd_sub (ped_bin (opd_mul c.K) (ped_ix c.K (d_var 0 nm_one rfl rfl) d_int (fun _ _ => rfl)) (ped_ix c.K (d_var 1 nm_other rfl rfl) d_int (fun _ _ => rfl))) (ped_bin (opd_mul c.K) (ped_ix c.K (d_var 1 nm_other rfl rfl) d_int (fun _ _ => rfl)) (ped_ix c.K (d_var 0 nm_one rfl rfl) d_int (fun _ _ => rfl)))) (pad_cons (ped_bin (opd_mul c.K) (ped_ix c.K (d_var 0 nm_one rfl rfl) d_int (fun _ _ => rfl)) (ped_ix c.K (d_var 1 nm_other rfl rfl) d_int (fun _ _ => rfl))) pad_nil rfl) rfl) rfl rfl))
  pssd_nil)⟩
noncomputable def S_less : FN := callD 2 T_less.1
theorem ok_less {P : Program} {w : World} {G : Gd} {mg : Str → Option Value} {base : Heap} {k : Nat} (C : Cn G mg) (h_fraction : Fn P w G (XRK G) mg base k "fraction" (defArgs (top 7)) 2 S_fraction) {a : Addr} {fd : FuncData} (F : FunD G.K "less" "less" (defArgs (top 9)) (defBody (top 9)) (defScope (top 9)) [] [] a fd) (hm : mg "less" = some (.ref a)) : Fn P w G (XRK G) mg base (k + 1) "less" (defArgs (top 9)) 2 S_less :=
  fn_mk (k := k) (N := N_less) (ps := (["one", "other"] : List Str)) (xr1_ok _ _ _) F sc_less hm rfl rfl (fun _ _ _ _ _ _ us hl => match us, hl with | [a0, a1], _ => rfl) (fun cdv A outer s H E hr => T_less.2 C h_fraction a cdv A outer s H E hr)

abbrev N_row_less : List Str := ["one", "other", "first", "second"]
theorem nd_row_less : (N_row_less).Nodup := by decide +kernel
theorem sc_row_less : FnScope N_row_less (["one", "other"] : List Str) (defScope (top 19)) := ⟨rfl, rfl, rfl, nd_row_less, rfl, by decide +kernel, by decide +kernel⟩
noncomputable def T_row_less : { fb : FS // ∀ {P : Program} {w : World} {G : Gd} {mg : Str → Option Value} {base : Heap} {k : Nat} (C : Cn G mg) (h_less : Fn P w G (XRK G) mg base k "less" (defArgs (top 9)) 2 S_less) (a : Addr) (cdv : Value) (A : Around) (outer : List Env) (s : Shared) (H : Hp) (E : XK), Room k (bodyX P w G.K mg base N_row_less "row_less" (defScope (top 19)) a cdv A outer s H E).A → PSsd G (XRK G) (bodyX P w G.K mg base N_row_less "row_less" (defScope (top 19)) a cdv A outer s H E) (WE0 E) (defBody (top 19)) fb } :=
  ⟨_, fun {P w G mg base k} C h_less a cdv A outer s H E hr =>
  have ow : PassesOwn (model P w) (bodyX P w G.K mg base N_row_less "row_less" (defScope (top 19)) a cdv A outer s H E).A (bodyX P w G.K mg base N_row_less "row_less" (defScope (top 19)) a cdv A outer s H E).env (bodyX P w G.K mg base N_row_less "row_less" (defScope (top 19)) a cdv A outer s H E).xe := own_body
  have c : Cc G (bodyX P w G.K mg base N_row_less "row_less" (defScope (top 19)) a cdv A outer s H E) (WE0 E) k := ⟨rfl, rfl, nd_row_less, hr, takes_body⟩
  (pssd_cons (psd_ret (d_callT (calld_tup c.K) bn_tuple C.f_tuple rfl (pad_cons (ped_of_pld (d_comp c [("first", 2), ("second", 3)] (.many [2, 3]) (pid_zip2 c.K rfl C.f_zip (pad_cons (d_var 0 nm_one rfl rfl) (pad_cons (d_var 1 nm_other rfl rfl) pad_nil rfl) rfl) rfl rfl) (by kernel_rfl) rfl (fun _ _ _ _ _ => (pgd_many c.K c.calm rfl rfl (gs_cons 2 c.nd rfl rfl rfl (gs_cons 3 c.nd rfl rfl rfl pgsd_nil)))) (fun _ _ _ _ _ => ptsd_nil) (fun _ _ _ _ _ => (d_call c.blk h_less nm_less rfl (pad_cons (d_var 2 nm_first rfl rfl) (pad_cons (d_var 3 nm_second rfl rfl) pad_nil rfl) rfl) rfl rfl)) (fun _ => rfl))) pad_nil rfl) rfl rfl))
  pssd_nil)⟩
noncomputable def S_row_less : FN := callD 4 T_row_less.1
theorem ok_row_less {P : Program} {w : World} {G : Gd} {mg : Str → Option Value} {base : Heap} {k : Nat} (C : Cn G mg) (h_less : Fn P w G (XRK G) mg base k "less" (defArgs (top 9)) 2 S_less) {a : Addr} {fd : FuncData} (F : FunD G.K "row_less" "row_less" (defArgs (top 19)) (defBody (top 19)) (defScope (top 19)) [] [] a fd) (hm : mg "row_less" = some (.ref a)) : Fn P w G (XRK G) mg base (k + 1) "row_less" (defArgs (top 19)) 2 S_row_less :=
  fn_mk (k := k) (N := N_row_less) (ps := (["one", "other"] : List Str)) (xr1_ok _ _ _) F sc_row_less hm rfl rfl (fun _ _ _ _ _ _ us hl => match us, hl with | [a0, a1], _ => rfl) (fun cdv A outer s H E hr => T_row_less.2 C h_less a cdv A outer s H E hr)

abbrev N_apart : List Str := ["one", "other", "ahead", "after"]
theorem nd_apart : (N_apart).Nodup := by decide +kernel
theorem sc_apart : FnScope N_apart (["one", "other"] : List Str) (defScope (top 44)) := ⟨rfl, rfl, rfl, nd_apart, rfl, by decide +kernel, by decide +kernel⟩
noncomputable def T_apart : { fb : FS // ∀ {P : Program} {w : World} {G : Gd} {mg : Str → Option Value} {base : Heap} {k : Nat} (C : Cn G mg) (h_check_ticks : Fn P w G (XRK G) mg base k "check_ticks" (defArgs (top 43)) 2 S_check_ticks) (h_fixed : Fn P w G (XRK G) mg base k "fixed" (defArgs (top 3)) 1 (S_fixed 10)) (h_row_less : Fn P w G (XRK G) mg base k "row_less" (defArgs (top 19)) 2 S_row_less) (a : Addr) (cdv : Value) (A : Around) (outer : List Env) (s : Shared) (H : Hp) (E : XK), Room k (bodyX P w G.K mg base N_apart "apart" (defScope (top 44)) a cdv A outer s H E).A → PSsd G (XRK G) (bodyX P w G.K mg base N_apart "apart" (defScope (top 44)) a cdv A outer s H E) (WE0 E) (defBody (top 44)) fb } :=
  ⟨_, fun {P w G mg base k} C h_check_ticks h_fixed h_row_less a cdv A outer s H E hr =>
  have ow : PassesOwn (model P w) (bodyX P w G.K mg base N_apart "apart" (defScope (top 44)) a cdv A outer s H E).A (bodyX P w G.K mg base N_apart "apart" (defScope (top 44)) a cdv A outer s H E).env (bodyX P w G.K mg base N_apart "apart" (defScope (top 44)) a cdv A outer s H E).xe := own_body
  have c : Cc G (bodyX P w G.K mg base N_apart "apart" (defScope (top 44)) a cdv A outer s H E) (WE0 E) k := ⟨rfl, rfl, nd_apart, hr, takes_body⟩
  (pssd_cons (by first | exact psd_par c.calm c.nd (i := 0) (j := 1) rfl rfl (by decide) rfl rfl (pad_cons (d_call c h_fixed nm_fixed rfl (pad_cons (d_var 0 nm_one rfl rfl) pad_nil rfl) rfl rfl) (pad_cons (d_call c h_fixed nm_fixed rfl (pad_cons (d_var 1 nm_other rfl rfl) pad_nil rfl) rfl rfl) pad_nil rfl) rfl) rfl | exact psd_tup (ped_tupN (pad_cons (d_call c h_fixed nm_fixed rfl (pad_cons (d_var 0 nm_one rfl rfl) pad_nil rfl) rfl rfl) (pad_cons (d_call c h_fixed nm_fixed rfl (pad_cons (d_var 1 nm_other rfl rfl) pad_nil rfl) rfl rfl) pad_nil rfl) rfl) (lenA_cons (lenA_cons lenA_nil)) rfl) (pgd_many c.K c.calm rfl rfl (gs_cons 0 c.nd rfl rfl rfl (gs_cons 1 c.nd rfl rfl rfl pgsd_nil))) rfl rfl)
  (pssd_cons (psd_expr (d_call c h_check_ticks nm_check_ticks rfl (pad_cons (d_var 0 nm_one rfl rfl) (pad_cons (d_var 1 nm_other rfl rfl) pad_nil rfl) rfl) rfl rfl) rfl)
  (pssd_cons (psd_ret (d_callT (calld_tup c.K) bn_tuple C.f_tuple rfl (pad_cons (ped_of_pld (d_comp c [("ahead", 2), ("after", 3)] (.many [2, 3]) (pid_zip2 c.K rfl C.f_zip (pad_cons (ped_ix c.K (d_var 0 nm_one rfl rfl) d_int (fun _ _ => rfl)) (pad_cons (ped_ix c.K (d_var 1 nm_other rfl rfl) d_int (fun _ _ => rfl)) pad_nil rfl) rfl) rfl rfl) (by kernel_rfl) rfl (fun _ _ _ _ _ => (pgd_many c.K c.calm rfl rfl (gs_cons 2 c.nd rfl rfl rfl (gs_cons 3 c.nd rfl rfl rfl pgsd_nil)))) (fun _ _ _ _ _ => ptsd_nil) (fun _ _ _ _ _ => (d_call c.blk h_row_less nm_row_less rfl (pad_cons (d_var 3 nm_after rfl rfl) (pad_cons (d_var 2 nm_ahead rfl rfl) pad_nil rfl) rfl) rfl rfl)) (fun _ => rfl))) pad_nil rfl) rfl rfl))
  pssd_nil)))⟩
noncomputable def S_apart : FN := callD 4 T_apart.1
theorem ok_apart {P : Program} {w : World} {G : Gd} {mg : Str → Option Value} {base : Heap} {k : Nat} (C : Cn G mg) (h_check_ticks : Fn P w G (XRK G) mg base k "check_ticks" (defArgs (top 43)) 2 S_check_ticks) (h_fixed : Fn P w G (XRK G) mg base k "fixed" (defArgs (top 3)) 1 (S_fixed 10)) (h_row_less : Fn P w G (XRK G) mg base k "row_less" (defArgs (top 19)) 2 S_row_less) {a : Addr} {fd : FuncData} (F : FunD G.K "apart" "apart" (defArgs (top 44)) (defBody (top 44)) (defScope (top 44)) [] [] a fd) (hm : mg "apart" = some (.ref a)) : Fn P w G (XRK G) mg base (k + 1) "apart" (defArgs (top 44)) 2 S_apart :=
  fn_mk (k := k) (N := N_apart) (ps := (["one", "other"] : List Str)) (xr1_ok _ _ _) F sc_apart hm rfl rfl (fun _ _ _ _ _ _ us hl => match us, hl with | [a0, a1], _ => rfl) (fun cdv A outer s H E hr => T_apart.2 C h_check_ticks h_fixed h_row_less a cdv A outer s H E hr)

abbrev N_check_hand : List Str := ["plant", "hand"]
theorem nd_check_hand : (N_check_hand).Nodup := by decide +kernel
theorem sc_check_hand : FnScope N_check_hand (["plant", "hand"] : List Str) (defScope (top 25)) := ⟨rfl, rfl, rfl, nd_check_hand, rfl, by decide +kernel, by decide +kernel⟩
noncomputable def T_check_hand : { fb : FS // ∀ {P : Program} {w : World} {G : Gd} {mg : Str → Option Value} {base : Heap} {k : Nat} (C : Cn G mg) (a : Addr) (cdv : Value) (A : Around) (outer : List Env) (s : Shared) (H : Hp) (E : XK), Room (k + 2) (bodyX P w G.K mg base N_check_hand "check_hand" (defScope (top 25)) a cdv A outer s H E).A → PSsd G (XRK G) (bodyX P w G.K mg base N_check_hand "check_hand" (defScope (top 25)) a cdv A outer s H E) (WE0 E) (defBody (top 25)) fb } :=
  ⟨_, fun {P w G mg base k} C a cdv A outer s H E hr =>
  have ow : PassesOwn (model P w) (bodyX P w G.K mg base N_check_hand "check_hand" (defScope (top 25)) a cdv A outer s H E).A (bodyX P w G.K mg base N_check_hand "check_hand" (defScope (top 25)) a cdv A outer s H E).env (bodyX P w G.K mg base N_check_hand "check_hand" (defScope (top 25)) a cdv A outer s H E).xe := own_body
  have c : Cc G (bodyX P w G.K mg base N_check_hand "check_hand" (defScope (top 25)) a cdv A outer s H E) (WE0 E) (k + 2) := ⟨rfl, rfl, nd_check_hand, hr, takes_body⟩
  (pssd_cons (psd_if (pcd_not (pcd_chain2 opd_le opd_lt d_int (d_var 1 nm_hand rfl rfl) (d_callB (calld_len c.K) bn_len C.f_len rfl (pad_cons (ped_ix c.K (d_var 0 nm_plant rfl rfl) d_int (fun _ _ => rfl)) pad_nil rfl) rfl rfl) rfl)) (pssd_cons (psd_raiseI (n := 0) c.calm c.tk C.p_NoHand C.i_NoHand c.room rfl C.c_NoHand (d_var 1 nm_hand rfl rfl) nm_NoHand.db rfl rfl rfl)
  pssd_nil) pssd_nil)
  pssd_nil)⟩
noncomputable def S_check_hand : FN := callD 2 T_check_hand.1
theorem ok_check_hand {P : Program} {w : World} {G : Gd} {mg : Str → Option Value} {base : Heap} {k : Nat} (C : Cn G mg) {a : Addr} {fd : FuncData} (F : FunD G.K "check_hand" "check_hand" (defArgs (top 25)) (defBody (top 25)) (defScope (top 25)) [] [] a fd) (hm : mg "check_hand" = some (.ref a)) : Fn P w G (XRK G) mg base (k + 3) "check_hand" (defArgs (top 25)) 2 S_check_hand :=
  fn_mk (k := (k + 2)) (N := N_check_hand) (ps := (["plant", "hand"] : List Str)) (xr1_ok _ _ _) F sc_check_hand hm rfl rfl (fun _ _ _ _ _ _ us hl => match us, hl with | [a0, a1], _ => rfl) (fun cdv A outer s H E hr => T_check_hand.2 C a cdv A outer s H E hr)

abbrev N_hand_goes : List Str := ["plant", "hand", "one", "other", "gauges", "tick", "moves", "others"]
theorem nd_hand_goes : (N_hand_goes).Nodup := by decide +kernel
theorem sc_hand_goes : FnScope N_hand_goes (["plant", "hand", "one", "other"] : List Str) (defScope (top 46)) := ⟨rfl, rfl, rfl, nd_hand_goes, rfl, by decide +kernel, by decide +kernel⟩
noncomputable def T_hand_goes : { fb : FS // ∀ {P : Program} {w : World} {G : Gd} {mg : Str → Option Value} {base : Heap} {k : Nat} (C : Cn G mg) (h_row_applied : Fn P w G (XRK G) mg base k "row_applied" (defArgs (top 21)) 2 S_row_applied) (a : Addr) (cdv : Value) (A : Around) (outer : List Env) (s : Shared) (H : Hp) (E : XK), Room k (bodyX P w G.K mg base N_hand_goes "hand_goes" (defScope (top 46)) a cdv A outer s H E).A → PSsd G (XRK G) (bodyX P w G.K mg base N_hand_goes "hand_goes" (defScope (top 46)) a cdv A outer s H E) (WE0 E) (defBody (top 46)) fb } :=
  ⟨_, fun {P w G mg base k} C h_row_applied a cdv A outer s H E hr =>
  have ow : PassesOwn (model P w) (bodyX P w G.K mg base N_hand_goes "hand_goes" (defScope (top 46)) a cdv A outer s H E).A (bodyX P w G.K mg base N_hand_goes "hand_goes" (defScope (top 46)) a cdv A outer s H E).env (bodyX P w G.K mg base N_hand_goes "hand_goes" (defScope (top 46)) a cdv A outer s H E).xe := own_body
  have c : Cc G (bodyX P w G.K mg base N_hand_goes "hand_goes" (defScope (top 46)) a cdv A outer s H E) (WE0 E) k := ⟨rfl, rfl, nd_hand_goes, hr, takes_body⟩
  (pssd_cons (s_set 4 c rfl rfl rfl (ped_ix c.K (ped_ix c.K (ped_ix c.K (d_var 0 nm_plant rfl rfl) d_int (fun _ _ => rfl)) (d_var 1 nm_hand rfl rfl) (fun _ _ => rfl)) d_int (fun _ _ => rfl)) rfl)
  (pssd_cons (psd_for ow c.calm (pid_enumZip c.K rfl C.f_zip rfl C.f_enumerate (pad_cons (ped_ix c.K (d_var 2 nm_one rfl rfl) d_int (fun _ _ => rfl)) (pad_cons (ped_ix c.K (d_var 3 nm_other rfl rfl) d_int (fun _ _ => rfl)) pad_nil rfl) rfl) rfl rfl rfl) (pgd_tree c.K c.calm rfl rfl (tts_cons (tt_nm (i := 5) c.nd rfl (loc_ok rfl) (fn_ok rfl)) (tts_cons (tt_row c.K c.calm rfl rfl (tts_cons (tt_nm (i := 6) c.nd rfl (loc_ok rfl) (fn_ok rfl)) (tts_cons (tt_nm (i := 7) c.nd rfl (loc_ok rfl) (fn_ok rfl)) tts_nil rfl) rfl)) tts_nil rfl) rfl)) (pssd_cons (psd_if (pcd_cmp (opd_ne c.K c.room.units) (d_call c h_row_applied nm_row_applied rfl (pad_cons (d_var 4 nm_gauges rfl rfl) (pad_cons (ped_ix c.K (ped_ix c.K (d_var 2 nm_one rfl rfl) d_int (fun _ _ => rfl)) (d_var 5 nm_tick rfl rfl) (fun _ _ => rfl)) pad_nil rfl) rfl) rfl rfl) (d_call c h_row_applied nm_row_applied rfl (pad_cons (d_var 4 nm_gauges rfl rfl) (pad_cons (ped_ix c.K (ped_ix c.K (d_var 3 nm_other rfl rfl) d_int (fun _ _ => rfl)) (d_var 5 nm_tick rfl rfl) (fun _ _ => rfl)) pad_nil rfl) rfl) rfl rfl) rfl) (pssd_cons (psd_ret d_bl)
  pssd_nil) pssd_nil)
  (pssd_cons (psd_if (pcd_cmp (opd_ne c.K c.room.units) (ped_ix c.K (d_var 6 nm_moves rfl rfl) (d_var 1 nm_hand rfl rfl) (fun _ _ => rfl)) (ped_ix c.K (d_var 7 nm_others rfl rfl) (d_var 1 nm_hand rfl rfl) (fun _ _ => rfl)) rfl) (pssd_cons (psd_ret d_bl)
  pssd_nil) pssd_nil)
  pssd_nil)) (fun _ => rfl))
  (pssd_cons (psd_ret d_bl)
  pssd_nil)))⟩
noncomputable def S_hand_goes : FN := callD 8 T_hand_goes.1
theorem ok_hand_goes {P : Program} {w : World} {G : Gd} {mg : Str → Option Value} {base : Heap} {k : Nat} (C : Cn G mg) (h_row_applied : Fn P w G (XRK G) mg base k "row_applied" (defArgs (top 21)) 2 S_row_applied) {a : Addr} {fd : FuncData} (F : FunD G.K "hand_goes" "hand_goes" (defArgs (top 46)) (defBody (top 46)) (defScope (top 46)) [] [] a fd) (hm : mg "hand_goes" = some (.ref a)) : Fn P w G (XRK G) mg base (k + 1) "hand_goes" (defArgs (top 46)) 4 S_hand_goes :=
  fn_mk (k := k) (N := N_hand_goes) (ps := (["plant", "hand", "one", "other"] : List Str)) (xr1_ok _ _ _) F sc_hand_goes hm rfl rfl (fun _ _ _ _ _ _ us hl => match us, hl with | [a0, a1, a2, a3], _ => rfl) (fun cdv A outer s H E hr => T_hand_goes.2 C h_row_applied a cdv A outer s H E hr)

abbrev N_go_together : List Str := ["plant", "hand", "one", "other"]
theorem nd_go_together : (N_go_together).Nodup := by decide +kernel
theorem sc_go_together : FnScope N_go_together (["plant", "hand", "one", "other"] : List Str) (defScope (top 45)) := ⟨rfl, rfl, rfl, nd_go_together, rfl, by decide +kernel, by decide +kernel⟩
noncomputable def T_go_together : { fb : FS // ∀ {P : Program} {w : World} {G : Gd} {mg : Str → Option Value} {base : Heap} {k : Nat} (C : Cn G mg) (h_check_hand : Fn P w G (XRK G) mg base k "check_hand" (defArgs (top 25)) 2 S_check_hand) (h_check_ticks : Fn P w G (XRK G) mg base k "check_ticks" (defArgs (top 43)) 2 S_check_ticks) (h_hand_goes : Fn P w G (XRK G) mg base k "hand_goes" (defArgs (top 46)) 4 S_hand_goes) (h_fixed : Fn P w G (XRK G) mg base k "fixed" (defArgs (top 3)) 1 (S_fixed 10)) (a : Addr) (cdv : Value) (A : Around) (outer : List Env) (s : Shared) (H : Hp) (E : XK), Room k (bodyX P w G.K mg base N_go_together "go_together" (defScope (top 45)) a cdv A outer s H E).A → PSsd G (XRK G) (bodyX P w G.K mg base N_go_together "go_together" (defScope (top 45)) a cdv A outer s H E) (WE0 E) (defBody (top 45)) fb } :=
  ⟨_, fun {P w G mg base k} C h_check_hand h_check_ticks h_hand_goes h_fixed a cdv A outer s H E hr =>
  have ow : PassesOwn (model P w) (bodyX P w G.K mg base N_go_together "go_together" (defScope (top 45)) a cdv A outer s H E).A (bodyX P w G.K mg base N_go_together "go_together" (defScope (top 45)) a cdv A outer s H E).env (bodyX P w G.K mg base N_go_together "go_together" (defScope (top 45)) a cdv A outer s H E).xe := own_body
  have c : Cc G (bodyX P w G.K mg base N_go_together "go_together" (defScope (top 45)) a cdv A outer s H E) (WE0 E) k := ⟨rfl, rfl, nd_go_together, hr, takes_body⟩
  (pssd_cons (by first | exact psd_par3 c.calm c.nd (i := 0) (j := 2) (l := 3) rfl rfl rfl (by decide) (by decide) (by decide) rfl rfl rfl (pad_cons (d_call c h_fixed nm_fixed rfl (pad_cons (d_var 0 nm_plant rfl rfl) pad_nil rfl) rfl rfl) (pad_cons (d_call c h_fixed nm_fixed rfl (pad_cons (d_var 2 nm_one rfl rfl) pad_nil rfl) rfl rfl) (pad_cons (d_call c h_fixed nm_fixed rfl (pad_cons (d_var 3 nm_other rfl rfl) pad_nil rfl) rfl rfl) pad_nil rfl) rfl) rfl) rfl | exact psd_tup (ped_tupN (pad_cons (d_call c h_fixed nm_fixed rfl (pad_cons (d_var 0 nm_plant rfl rfl) pad_nil rfl) rfl rfl) (pad_cons (d_call c h_fixed nm_fixed rfl (pad_cons (d_var 2 nm_one rfl rfl) pad_nil rfl) rfl rfl) (pad_cons (d_call c h_fixed nm_fixed rfl (pad_cons (d_var 3 nm_other rfl rfl) pad_nil rfl) rfl rfl) pad_nil rfl) rfl) rfl) (lenA_cons (lenA_cons (lenA_cons lenA_nil))) rfl) (pgd_many c.K c.calm rfl rfl (gs_cons 0 c.nd rfl rfl rfl (gs_cons 2 c.nd rfl rfl rfl (gs_cons 3 c.nd rfl rfl rfl pgsd_nil)))) rfl rfl)
  (pssd_cons (psd_expr (d_call c h_check_hand nm_check_hand rfl (pad_cons (d_var 0 nm_plant rfl rfl) (pad_cons (d_var 1 nm_hand rfl rfl) pad_nil rfl) rfl) rfl rfl) rfl)
  (pssd_cons (psd_expr (d_call c h_check_ticks nm_check_ticks rfl (pad_cons (d_var 2 nm_one rfl rfl) (pad_cons (d_var 3 nm_other rfl rfl) pad_nil rfl) rfl) rfl rfl) rfl)
  (pssd_cons (psd_ret (d_call c h_hand_goes nm_hand_goes rfl (pad_cons (d_var 0 nm_plant rfl rfl) (pad_cons (d_var 1 nm_hand rfl rfl) (pad_cons (d_var 2 nm_one rfl rfl) (pad_cons (d_var 3 nm_other rfl rfl) pad_nil rfl) rfl) rfl) rfl) rfl rfl))
  pssd_nil))))⟩
noncomputable def S_go_together : FN := callD 4 T_go_together.1
theorem ok_go_together {P : Program} {w : World} {G : Gd} {mg : Str → Option Value} {base : Heap} {k : Nat} (C : Cn G mg) (h_check_hand : Fn P w G (XRK G) mg base k "check_hand" (defArgs (top 25)) 2 S_check_hand) (h_check_ticks : Fn P w G (XRK G) mg base k "check_ticks" (defArgs (top 43)) 2 S_check_ticks) (h_hand_goes : Fn P w G (XRK G) mg base k "hand_goes" (defArgs (top 46)) 4 S_hand_goes) (h_fixed : Fn P w G (XRK G) mg base k "fixed" (defArgs (top 3)) 1 (S_fixed 10)) {a : Addr} {fd : FuncData} (F : FunD G.K "go_together" "go_together" (defArgs (top 45)) (defBody (top 45)) (defScope (top 45)) [] [] a fd) (hm : mg "go_together" = some (.ref a)) : Fn P w G (XRK G) mg base (k + 1) "go_together" (defArgs (top 45)) 4 S_go_together :=
  fn_mk (k := k) (N := N_go_together) (ps := (["plant", "hand", "one", "other"] : List Str)) (xr1_ok _ _ _) F sc_go_together hm rfl rfl (fun _ _ _ _ _ _ us hl => match us, hl with | [a0, a1, a2, a3], _ => rfl) (fun cdv A outer s H E hr => T_go_together.2 C h_check_hand h_check_ticks h_hand_goes h_fixed a cdv A outer s H E hr)

abbrev N_all_together : List Str := ["plant", "one", "other", "hand"]
theorem nd_all_together : (N_all_together).Nodup := by decide +kernel
theorem sc_all_together : FnScope N_all_together (["plant", "one", "other"] : List Str) (defScope (top 47)) := ⟨rfl, rfl, rfl, nd_all_together, rfl, by decide +kernel, by decide +kernel⟩
noncomputable def T_all_together : { fb : FS // ∀ {P : Program} {w : World} {G : Gd} {mg : Str → Option Value} {base : Heap} {k : Nat} (C : Cn G mg) (h_check_ticks : Fn P w G (XRK G) mg base k "check_ticks" (defArgs (top 43)) 2 S_check_ticks) (h_fixed : Fn P w G (XRK G) mg base k "fixed" (defArgs (top 3)) 1 (S_fixed 10)) (h_hand_goes : Fn P w G (XRK G) mg base k "hand_goes" (defArgs (top 46)) 4 S_hand_goes) (a : Addr) (cdv : Value) (A : Around) (outer : List Env) (s : Shared) (H : Hp) (E : XK), Room k (bodyX P w G.K mg base N_all_together "all_together" (defScope (top 47)) a cdv A outer s H E).A → PSsd G (XRK G) (bodyX P w G.K mg base N_all_together "all_together" (defScope (top 47)) a cdv A outer s H E) (WE0 E) (defBody (top 47)) fb } :=
  ⟨_, fun {P w G mg base k} C h_check_ticks h_fixed h_hand_goes a cdv A outer s H E hr =>
  have ow : PassesOwn (model P w) (bodyX P w G.K mg base N_all_together "all_together" (defScope (top 47)) a cdv A outer s H E).A (bodyX P w G.K mg base N_all_together "all_together" (defScope (top 47)) a cdv A outer s H E).env (bodyX P w G.K mg base N_all_together "all_together" (defScope (top 47)) a cdv A outer s H E).xe := own_body
  have c : Cc G (bodyX P w G.K mg base N_all_together "all_together" (defScope (top 47)) a cdv A outer s H E) (WE0 E) k := ⟨rfl, rfl, nd_all_together, hr, takes_body⟩
  (pssd_cons (psd_tup (ped_tupN (pad_cons (d_call c h_fixed nm_fixed rfl (pad_cons (d_var 0 nm_plant rfl rfl) pad_nil rfl) rfl rfl) (pad_cons (d_call c h_fixed nm_fixed rfl (pad_cons (d_var 1 nm_one rfl rfl) pad_nil rfl) rfl rfl) (pad_cons (d_call c h_fixed nm_fixed rfl (pad_cons (d_var 2 nm_other rfl rfl) pad_nil rfl) rfl rfl) pad_nil rfl) rfl) rfl) (lenA_cons (lenA_cons (lenA_cons lenA_nil))) rfl) (pgd_many c.K c.calm rfl rfl (gs_cons 0 c.nd rfl rfl rfl (gs_cons 1 c.nd rfl rfl rfl (gs_cons 2 c.nd rfl rfl rfl pgsd_nil)))) rfl rfl)
  (pssd_cons (psd_expr (d_call c h_check_ticks nm_check_ticks rfl (pad_cons (d_var 1 nm_one rfl rfl) (pad_cons (d_var 2 nm_other rfl rfl) pad_nil rfl) rfl) rfl rfl) rfl)
  (pssd_cons (psd_ret (d_callB (calld_all c.K c.calm) bn_all C.f_all rfl (pad_cons (ped_of_pld (d_comp c [("hand", 3)] (.one 3) (pid_range1 rfl C.f_range (pad_cons (d_callB (calld_len c.K) bn_len C.f_len rfl (pad_cons (ped_ix c.K (d_var 0 nm_plant rfl rfl) d_int (fun _ _ => rfl)) pad_nil rfl) rfl rfl) pad_nil rfl) rfl) (by kernel_rfl) rfl (fun _ _ _ _ _ => (g_one 3 c.nd rfl rfl rfl)) (fun _ _ _ _ _ => ptsd_nil) (fun _ _ _ _ _ => (d_call c.blk h_hand_goes nm_hand_goes rfl (pad_cons (d_var 0 nm_plant rfl rfl) (pad_cons (d_var 3 nm_hand rfl rfl) (pad_cons (d_var 1 nm_one rfl rfl) (pad_cons (d_var 2 nm_other rfl rfl) pad_nil rfl) rfl) rfl) rfl) rfl rfl)) (fun _ => rfl))) pad_nil rfl) rfl rfl))
  pssd_nil)))⟩
noncomputable def S_all_together : FN := callD 4 T_all_together.1
theorem ok_all_together {P : Program} {w : World} {G : Gd} {mg : Str → Option Value} {base : Heap} {k : Nat} (C : Cn G mg) (h_check_ticks : Fn P w G (XRK G) mg base k "check_ticks" (defArgs (top 43)) 2 S_check_ticks) (h_fixed : Fn P w G (XRK G) mg base k "fixed" (defArgs (top 3)) 1 (S_fixed 10)) (h_hand_goes : Fn P w G (XRK G) mg base k "hand_goes" (defArgs (top 46)) 4 S_hand_goes) {a : Addr} {fd : FuncData} (F : FunD G.K "all_together" "all_together" (defArgs (top 47)) (defBody (top 47)) (defScope (top 47)) [] [] a fd) (hm : mg "all_together" = some (.ref a)) : Fn P w G (XRK G) mg base (k + 1) "all_together" (defArgs (top 47)) 3 S_all_together :=
  fn_mk (k := k) (N := N_all_together) (ps := (["plant", "one", "other"] : List Str)) (xr1_ok _ _ _) F sc_all_together hm rfl rfl (fun _ _ _ _ _ _ us hl => match us, hl with | [a0, a1, a2], _ => rfl) (fun cdv A outer s H E hr => T_all_together.2 C h_check_ticks h_fixed h_hand_goes a cdv A outer s H E hr)

abbrev N__law_refused : List Str := ["act_so", "mill_so", "word_so", "cells_so", "near_so", "far_so", "bare_so", "flaw"]
theorem nd__law_refused : (N__law_refused).Nodup := by decide +kernel
theorem sc__law_refused : FnScope N__law_refused (["act_so"] : List Str) (defScope (top 59)) := ⟨rfl, rfl, rfl, nd__law_refused, rfl, by decide +kernel, by decide +kernel⟩
noncomputable def T__law_refused : { fb : FS // ∀ {P : Program} {w : World} {G : Gd} {mg : Str → Option Value} {base : Heap} {k : Nat} (C : Cn G mg) (h__law_mill : Fn P w G (XRK G) mg base k "_law_mill" (defArgs (top 51)) 0 S__law_mill) (h_idled : Fn P w G (XRK G) mg base k "idled" (defArgs (top 40)) 3 S_idled) (h_go_together : Fn P w G (XRK G) mg base k "go_together" (defArgs (top 45)) 4 S_go_together) (h_all_together : Fn P w G (XRK G) mg base k "all_together" (defArgs (top 47)) 3 S_all_together) (h_apart : Fn P w G (XRK G) mg base k "apart" (defArgs (top 44)) 2 S_apart) (a : Addr) (cdv : Value) (A : Around) (outer : List Env) (s : Shared) (H : Hp) (E : XK), Room k (bodyX P w G.K mg base N__law_refused "_law_refused" (defScope (top 59)) a cdv A outer s H E).A → PSsd G (XRK G) (bodyX P w G.K mg base N__law_refused "_law_refused" (defScope (top 59)) a cdv A outer s H E) (WE0 E) (defBody (top 59)) fb } :=
  ⟨_, fun {P w G mg base k} C h__law_mill h_idled h_go_together h_all_together h_apart a cdv A outer s H E hr =>
  have ow : PassesOwn (model P w) (bodyX P w G.K mg base N__law_refused "_law_refused" (defScope (top 59)) a cdv A outer s H E).A (bodyX P w G.K mg base N__law_refused "_law_refused" (defScope (top 59)) a cdv A outer s H E).env (bodyX P w G.K mg base N__law_refused "_law_refused" (defScope (top 59)) a cdv A outer s H E).xe := own_body
  have c : Cc G (bodyX P w G.K mg base N__law_refused "_law_refused" (defScope (top 59)) a cdv A outer s H E) (WE0 E) k := ⟨rfl, rfl, nd__law_refused, hr, takes_body⟩
  (pssd_cons (by first | exact psd_par c.calm c.nd (i := 1) (j := 2) rfl rfl (by decide) rfl rfl (pad_cons (d_call0 c h__law_mill nm__law_mill rfl) (pad_cons d_str pad_nil rfl) rfl) rfl | exact psd_tup (ped_tupN (pad_cons (d_call0 c h__law_mill nm__law_mill rfl) (pad_cons d_str pad_nil rfl) rfl) (lenA_cons (lenA_cons lenA_nil)) rfl) (pgd_many c.K c.calm rfl rfl (gs_cons 1 c.nd rfl rfl rfl (gs_cons 2 c.nd rfl rfl rfl pgsd_nil))) rfl rfl)
  (pssd_cons (s_set 3 c rfl rfl rfl (ped_tupN (pad_cons (ped_tupN (pad_cons d_int (pad_cons d_int pad_nil rfl) rfl) (lenA_cons (lenA_cons lenA_nil)) rfl) (pad_cons (ped_tupN (pad_cons d_int (pad_cons d_int pad_nil rfl) rfl) (lenA_cons (lenA_cons lenA_nil)) rfl) pad_nil rfl) rfl) (lenA_cons (lenA_cons lenA_nil)) rfl) rfl)
  (pssd_cons (by first | exact psd_par c.calm c.nd (i := 4) (j := 5) rfl rfl (by decide) rfl rfl (pad_cons (d_call c h_idled nm_idled rfl (pad_cons (d_var 1 nm_mill_so rfl rfl) (pad_cons (d_var 3 nm_cells_so rfl rfl) (pad_cons d_int pad_nil rfl) rfl) rfl) rfl rfl) (pad_cons (d_call c h_idled nm_idled rfl (pad_cons (d_var 1 nm_mill_so rfl rfl) (pad_cons (d_var 3 nm_cells_so rfl rfl) (pad_cons d_int pad_nil rfl) rfl) rfl) rfl rfl) pad_nil rfl) rfl) rfl | exact psd_tup (ped_tupN (pad_cons (d_call c h_idled nm_idled rfl (pad_cons (d_var 1 nm_mill_so rfl rfl) (pad_cons (d_var 3 nm_cells_so rfl rfl) (pad_cons d_int pad_nil rfl) rfl) rfl) rfl rfl) (pad_cons (d_call c h_idled nm_idled rfl (pad_cons (d_var 1 nm_mill_so rfl rfl) (pad_cons (d_var 3 nm_cells_so rfl rfl) (pad_cons d_int pad_nil rfl) rfl) rfl) rfl rfl) pad_nil rfl) rfl) (lenA_cons (lenA_cons lenA_nil)) rfl) (pgd_many c.K c.calm rfl rfl (gs_cons 4 c.nd rfl rfl rfl (gs_cons 5 c.nd rfl rfl rfl pgsd_nil))) rfl rfl)
  (pssd_cons (psd_tryL (xc := xcA G) (fld := fldK) rfl rfl c.nd c.tk
 (fun W pn xe tk2 ow2 => have c2 : Cc G _ W _ := c.tr tk2; (pssd_cons (psd_if (pcd_cmp (opd_eq c2.K c2.room.units) (ped_ix c2.K (d_var 0 nm_act_so rfl rfl) d_int (fun _ _ => rfl)) d_str rfl) (pssd_cons (psd_expr (d_call c2 h_go_together nm_go_together rfl (pad_cons (d_var 1 nm_mill_so rfl rfl) (pad_cons (ped_ix c2.K (d_var 0 nm_act_so rfl rfl) d_int (fun _ _ => rfl)) (pad_cons (d_var 4 nm_near_so rfl rfl) (pad_cons (d_var 5 nm_far_so rfl rfl) pad_nil rfl) rfl) rfl) rfl) rfl rfl) rfl)
  pssd_nil) pssd_nil)
  (pssd_cons (psd_if (pcd_cmp (opd_eq c2.K c2.room.units) (ped_ix c2.K (d_var 0 nm_act_so rfl rfl) d_int (fun _ _ => rfl)) d_str rfl) (pssd_cons (psd_expr (d_call c2 h_all_together nm_all_together rfl (pad_cons (d_var 1 nm_mill_so rfl rfl) (pad_cons (d_var 5 nm_far_so rfl rfl) (pad_cons (d_var 4 nm_near_so rfl rfl) pad_nil rfl) rfl) rfl) rfl rfl) rfl)
  pssd_nil) pssd_nil)
  (pssd_cons (psd_if (pcd_cmp (opd_eq c2.K c2.room.units) (ped_ix c2.K (d_var 0 nm_act_so rfl rfl) d_int (fun _ _ => rfl)) d_str rfl) (pssd_cons (psd_expr (d_call c2 h_apart nm_apart rfl (pad_cons (d_var 4 nm_near_so rfl rfl) (pad_cons (d_var 5 nm_far_so rfl rfl) pad_nil rfl) rfl) rfl rfl) rfl)
  pssd_nil) pssd_nil)
  (pssd_cons (psd_if (pcd_cmp (opd_eq c2.K c2.room.units) (ped_ix c2.K (d_var 0 nm_act_so rfl rfl) d_int (fun _ _ => rfl)) d_str rfl) (pssd_cons (s_set 6 c2 rfl rfl rfl (ped_tupN (pad_cons (ped_tupN (pad_cons (ped_tupN (pad_cons (ped_tupN (pad_cons d_int (pad_cons d_int pad_nil rfl) rfl) (lenA_cons (lenA_cons lenA_nil)) rfl) pad_nil rfl) (lenA_cons lenA_nil) rfl) pad_nil rfl) (lenA_cons lenA_nil) rfl) (pad_cons (ped_tupN pad_nil lenA_nil rfl) pad_nil rfl) rfl) (lenA_cons (lenA_cons lenA_nil)) rfl) rfl)
  (pssd_cons (psd_expr (d_call c2 h_all_together nm_all_together rfl (pad_cons (d_var 6 nm_bare_so rfl rfl) (pad_cons (d_call c2 h_idled nm_idled rfl (pad_cons (d_var 6 nm_bare_so rfl rfl) (pad_cons (ped_tupN (pad_cons (ped_tupN (pad_cons d_int (pad_cons d_int pad_nil rfl) rfl) (lenA_cons (lenA_cons lenA_nil)) rfl) pad_nil rfl) (lenA_cons lenA_nil) rfl) (pad_cons d_int pad_nil rfl) rfl) rfl) rfl rfl) (pad_cons (d_call c2 h_idled nm_idled rfl (pad_cons (d_var 6 nm_bare_so rfl rfl) (pad_cons (ped_tupN (pad_cons (ped_tupN (pad_cons d_int (pad_cons d_int pad_nil rfl) rfl) (lenA_cons (lenA_cons lenA_nil)) rfl) pad_nil rfl) (lenA_cons lenA_nil) rfl) (pad_cons (ped_ix c2.K (d_var 0 nm_act_so rfl rfl) d_int (fun _ _ => rfl)) pad_nil rfl) rfl) rfl) rfl rfl) pad_nil rfl) rfl) rfl) rfl rfl) rfl)
  pssd_nil)) pssd_nil)
  (pssd_cons (psd_if (pcd_cmp (opd_eq c2.K c2.room.units) (ped_ix c2.K (d_var 0 nm_act_so rfl rfl) d_int (fun _ _ => rfl)) d_str rfl) (pssd_cons (psd_expr (d_call c2 h_go_together nm_go_together rfl (pad_cons (d_var 1 nm_mill_so rfl rfl) (pad_cons (ped_ix c2.K (d_var 0 nm_act_so rfl rfl) d_int (fun _ _ => rfl)) (pad_cons (d_call c2 h_idled nm_idled rfl (pad_cons (d_var 1 nm_mill_so rfl rfl) (pad_cons (d_var 3 nm_cells_so rfl rfl) (pad_cons d_int pad_nil rfl) rfl) rfl) rfl rfl) (pad_cons (d_call c2 h_idled nm_idled rfl (pad_cons (d_var 1 nm_mill_so rfl rfl) (pad_cons (ped_tupN (pad_cons (ped_tupN (pad_cons d_int (pad_cons d_int pad_nil rfl) rfl) (lenA_cons (lenA_cons lenA_nil)) rfl) (pad_cons (ped_tupN (pad_cons d_int (pad_cons d_int pad_nil rfl) rfl) (lenA_cons (lenA_cons lenA_nil)) rfl) pad_nil rfl) rfl) (lenA_cons (lenA_cons lenA_nil)) rfl) (pad_cons d_int pad_nil rfl) rfl) rfl) rfl rfl) pad_nil rfl) rfl) rfl) rfl) rfl rfl) rfl)
  pssd_nil) pssd_nil)
  (pssd_cons (psd_if (pcd_cmp (opd_eq c2.K c2.room.units) (ped_ix c2.K (d_var 0 nm_act_so rfl rfl) d_int (fun _ _ => rfl)) d_str rfl) (pssd_cons (psd_expr (d_call c2 h_go_together nm_go_together rfl (pad_cons (d_var 1 nm_mill_so rfl rfl) (pad_cons (ped_ix c2.K (d_var 0 nm_act_so rfl rfl) d_int (fun _ _ => rfl)) (pad_cons (d_var 5 nm_far_so rfl rfl) (pad_cons (d_var 5 nm_far_so rfl rfl) pad_nil rfl) rfl) rfl) rfl) rfl rfl) rfl)
  pssd_nil) pssd_nil)
  pssd_nil)))))))
 (ClsD.cons (xc := xcA G) (i := 7) (hit := fun k => ([true, false] : List Bool)[k]?) rfl rfl ⟨rfl, nm_NoHand.db, .inl C.c_NoHand⟩ (fun k b hk => match k, hk with | 0, hk => by cases hk; exact C.m_NoHand_NoHand | 1, hk => by cases hk; exact C.m_Unfit_NoHand | _ + 2, hk => nomatch hk)
    (suok_2 (j := 2) (bb := true) ⟨c.nd, rfl, vis_ok rfl, rfl, loc_ok rfl, fn_ok rfl, rfl, C.f_isinstance, rfl, C.f_LookupError, bn_LookupError.boot, bn_LookupError.ne, bn_LookupError.db, nm_flaw⟩ (fun k hk => match k, hk with | 0, hk => ⟨C.e_NoHand, rfl, C.n_NoHand, C.t_NoHand_LookupError⟩ | 1, hk => by cases hk | _ + 2, hk => nomatch hk) rfl rfl rfl rfl rfl rfl rfl rfl) (ClsD.cons (xc := xcA G) (i := 7) (hit := fun k => ([false, true] : List Bool)[k]?) rfl rfl ⟨rfl, nm_Unfit.db, .inl C.c_Unfit⟩ (fun k b hk => match k, hk with | 0, hk => by cases hk; exact C.m_NoHand_Unfit | 1, hk => by cases hk; exact C.m_Unfit_Unfit | _ + 2, hk => nomatch hk)
    (suok_1 (j := 2) (bb := true) ⟨c.nd, rfl, vis_ok rfl, rfl, loc_ok rfl, fn_ok rfl, rfl, C.f_isinstance, rfl, C.f_ValueError, bn_ValueError.boot, bn_ValueError.ne, bn_ValueError.db, nm_flaw⟩ (fun k hk => match k, hk with | 0, hk => by cases hk | 1, hk => ⟨C.e_Unfit, rfl, C.t_Unfit_ValueError⟩ | _ + 2, hk => nomatch hk) rfl rfl rfl rfl rfl rfl) ClsD.nil)))
  (pssd_cons (psd_ret (d_var 2 nm_word_so rfl rfl))
  pssd_nil)))))⟩
noncomputable def S__law_refused : FN := callD 8 T__law_refused.1
theorem ok__law_refused {P : Program} {w : World} {G : Gd} {mg : Str → Option Value} {base : Heap} {k : Nat} (C : Cn G mg) (h__law_mill : Fn P w G (XRK G) mg base k "_law_mill" (defArgs (top 51)) 0 S__law_mill) (h_idled : Fn P w G (XRK G) mg base k "idled" (defArgs (top 40)) 3 S_idled) (h_go_together : Fn P w G (XRK G) mg base k "go_together" (defArgs (top 45)) 4 S_go_together) (h_all_together : Fn P w G (XRK G) mg base k "all_together" (defArgs (top 47)) 3 S_all_together) (h_apart : Fn P w G (XRK G) mg base k "apart" (defArgs (top 44)) 2 S_apart) {a : Addr} {fd : FuncData} (F : FunD G.K "_law_refused" "_law_refused" (defArgs (top 59)) (defBody (top 59)) (defScope (top 59)) [] [] a fd) (hm : mg "_law_refused" = some (.ref a)) : Fn P w G (XRK G) mg base (k + 1) "_law_refused" (defArgs (top 59)) 1 S__law_refused :=
  fn_mk (k := k) (N := N__law_refused) (ps := (["act_so"] : List Str)) (xr1_ok _ _ _) F sc__law_refused hm rfl rfl (fun _ _ _ _ _ _ us hl => match us, hl with | [a0], _ => rfl) (fun cdv A outer s H E hr => T__law_refused.2 C h__law_mill h_idled h_go_together h_all_together h_apart a cdv A outer s H E hr)

abbrev N__law_words_right : List Str := ["mill_so", "cells_so", "soft", "rules_so", "clock_so", "there_so", "play_so", "got", "due", "own"]
theorem nd__law_words_right : (N__law_words_right).Nodup := by decide +kernel
theorem sc__law_words_right : FnScope N__law_words_right ([] : List Str) (defScope (top 61)) := ⟨rfl, rfl, rfl, nd__law_words_right, rfl, by decide +kernel, by decide +kernel⟩
noncomputable def T__law_words_right : { fb : FS // ∀ {P : Program} {w : World} {G : Gd} {mg : Str → Option Value} {base : Heap} {k : Nat} (C : Cn G mg) (h_played : Fn P w G (XRK G) mg base k "played" (defArgs (top 39)) 4 S_played) (h__law_same : Fn P w G (XRK G) mg base k "_law_same" (defArgs (top 50)) 2 (S__law_same 10)) (h__law_mill : Fn P w G (XRK G) mg base k "_law_mill" (defArgs (top 51)) 0 S__law_mill) (h__law_lists : Fn P w G (XRK G) mg base k "_law_lists" (defArgs (top 49)) 1 (S__law_lists 10)) (h_idled : Fn P w G (XRK G) mg base k "idled" (defArgs (top 40)) 3 S_idled) (h_steadied : Fn P w G (XRK G) mg base k "steadied" (defArgs (top 41)) 4 S_steadied) (h__law_steady_ones : Fn P w G (XRK G) mg base k "_law_steady_ones" (defArgs (top 53)) 0 S__law_steady_ones) (h_seen : Fn P w G (XRK G) mg base k "seen" (defArgs (top 34)) 2 S_seen) (h_ticked : Fn P w G (XRK G) mg base k "ticked" (defArgs (top 36)) 3 S_ticked) (h_shown_along : Fn P w G (XRK G) mg base k "shown_along" (defArgs (top 42)) 2 S_shown_along) (h_apart : Fn P w G (XRK G) mg base k "apart" (defArgs (top 44)) 2 S_apart) (h_go_together : Fn P w G (XRK G) mg base k "go_together" (defArgs (top 45)) 4 S_go_together) (h_all_together : Fn P w G (XRK G) mg base k "all_together" (defArgs (top 47)) 3 S_all_together) (h_is_play : Fn P w G (XRK G) mg base k "is_play" (defArgs (top 32)) 2 S_is_play) (h_is_moves : Fn P w G (XRK G) mg base k "is_moves" (defArgs (top 28)) 2 S_is_moves) (h_is_clock : Fn P w G (XRK G) mg base k "is_clock" (defArgs (top 29)) 2 S_is_clock) (h_is_steady : Fn P w G (XRK G) mg base k "is_steady" (defArgs (top 30)) 2 S_is_steady) (h__law_refused : Fn P w G (XRK G) mg base k "_law_refused" (defArgs (top 59)) 1 S__law_refused) (a : Addr) (cdv : Value) (A : Around) (outer : List Env) (s : Shared) (H : Hp) (E : XK), Room k (bodyX P w G.K mg base N__law_words_right "_law_words_right" (defScope (top 61)) a cdv A outer s H E).A → PSsd G (XRK G) (bodyX P w G.K mg base N__law_words_right "_law_words_right" (defScope (top 61)) a cdv A outer s H E) (WE0 E) (defBody (top 61)) fb } :=
  ⟨_, fun {P w G mg base k} C h_played h__law_same h__law_mill h__law_lists h_idled h_steadied h__law_steady_ones h_seen h_ticked h_shown_along h_apart h_go_together h_all_together h_is_play h_is_moves h_is_clock h_is_steady h__law_refused a cdv A outer s H E hr =>
  have ow : PassesOwn (model P w) (bodyX P w G.K mg base N__law_words_right "_law_words_right" (defScope (top 61)) a cdv A outer s H E).A (bodyX P w G.K mg base N__law_words_right "_law_words_right" (defScope (top 61)) a cdv A outer s H E).env (bodyX P w G.K mg base N__law_words_right "_law_words_right" (defScope (top 61)) a cdv A outer s H E).xe := own_body
  have c : Cc G (bodyX P w G.K mg base N__law_words_right "_law_words_right" (defScope (top 61)) a cdv A outer s H E) (WE0 E) k := ⟨rfl, rfl, nd__law_words_right, hr, takes_body⟩
  (pssd_cons (by first | exact psd_par c.calm c.nd (i := 0) (j := 1) rfl rfl (by decide) rfl rfl (pad_cons (d_call0 c h__law_mill nm__law_mill rfl) (pad_cons (ped_tupN (pad_cons (ped_tupN (pad_cons d_int (pad_cons d_int pad_nil rfl) rfl) (lenA_cons (lenA_cons lenA_nil)) rfl) (pad_cons (ped_tupN (pad_cons d_int (pad_cons d_int pad_nil rfl) rfl) (lenA_cons (lenA_cons lenA_nil)) rfl) pad_nil rfl) rfl) (lenA_cons (lenA_cons lenA_nil)) rfl) pad_nil rfl) rfl) rfl | exact psd_tup (ped_tupN (pad_cons (d_call0 c h__law_mill nm__law_mill rfl) (pad_cons (ped_tupN (pad_cons (ped_tupN (pad_cons d_int (pad_cons d_int pad_nil rfl) rfl) (lenA_cons (lenA_cons lenA_nil)) rfl) (pad_cons (ped_tupN (pad_cons d_int (pad_cons d_int pad_nil rfl) rfl) (lenA_cons (lenA_cons lenA_nil)) rfl) pad_nil rfl) rfl) (lenA_cons (lenA_cons lenA_nil)) rfl) pad_nil rfl) rfl) (lenA_cons (lenA_cons lenA_nil)) rfl) (pgd_many c.K c.calm rfl rfl (gs_cons 0 c.nd rfl rfl rfl (gs_cons 1 c.nd rfl rfl rfl pgsd_nil))) rfl rfl)
  (pssd_cons (by first | exact psd_par c.calm c.nd (i := 2) (j := 3) rfl rfl (by decide) rfl rfl (pad_cons (d_call c h__law_lists nm__law_lists rfl (pad_cons (d_var 0 nm_mill_so rfl rfl) pad_nil rfl) rfl rfl) (pad_cons (ped_tupN (pad_cons (ped_tupN (pad_cons (ped_tupN (pad_cons (ped_tupN (pad_cons (ped_un und_neg d_int) (pad_cons d_int pad_nil rfl) rfl) (lenA_cons (lenA_cons lenA_nil)) rfl) pad_nil rfl) (lenA_cons lenA_nil) rfl) pad_nil rfl) (lenA_cons lenA_nil) rfl) (pad_cons (ped_tupN (pad_cons (ped_tupN pad_nil lenA_nil rfl) (pad_cons (ped_tupN pad_nil lenA_nil rfl) pad_nil rfl) rfl) (lenA_cons (lenA_cons lenA_nil)) rfl) (pad_cons (ped_tupN pad_nil lenA_nil rfl) pad_nil rfl) rfl) rfl) (lenA_cons (lenA_cons (lenA_cons lenA_nil))) rfl) pad_nil rfl) rfl) rfl | exact psd_tup (ped_tupN (pad_cons (d_call c h__law_lists nm__law_lists rfl (pad_cons (d_var 0 nm_mill_so rfl rfl) pad_nil rfl) rfl rfl) (pad_cons (ped_tupN (pad_cons (ped_tupN (pad_cons (ped_tupN (pad_cons (ped_tupN (pad_cons (ped_un und_neg d_int) (pad_cons d_int pad_nil rfl) rfl) (lenA_cons (lenA_cons lenA_nil)) rfl) pad_nil rfl) (lenA_cons lenA_nil) rfl) pad_nil rfl) (lenA_cons lenA_nil) rfl) (pad_cons (ped_tupN (pad_cons (ped_tupN pad_nil lenA_nil rfl) (pad_cons (ped_tupN pad_nil lenA_nil rfl) pad_nil rfl) rfl) (lenA_cons (lenA_cons lenA_nil)) rfl) (pad_cons (ped_tupN pad_nil lenA_nil rfl) pad_nil rfl) rfl) rfl) (lenA_cons (lenA_cons (lenA_cons lenA_nil))) rfl) pad_nil rfl) rfl) (lenA_cons (lenA_cons lenA_nil)) rfl) (pgd_many c.K c.calm rfl rfl (gs_cons 2 c.nd rfl rfl rfl (gs_cons 3 c.nd rfl rfl rfl pgsd_nil))) rfl rfl)
  (pssd_cons (by first | exact psd_par c.calm c.nd (i := 4) (j := 5) rfl rfl (by decide) rfl rfl (pad_cons (d_call c h__law_lists nm__law_lists rfl (pad_cons (ped_tupN (pad_cons (d_var 3 nm_rules_so rfl rfl) pad_nil rfl) (lenA_cons lenA_nil) rfl) pad_nil rfl) rfl rfl) (pad_cons (d_call c h__law_lists nm__law_lists rfl (pad_cons (d_var 1 nm_cells_so rfl rfl) pad_nil rfl) rfl rfl) pad_nil rfl) rfl) rfl | exact psd_tup (ped_tupN (pad_cons (d_call c h__law_lists nm__law_lists rfl (pad_cons (ped_tupN (pad_cons (d_var 3 nm_rules_so rfl rfl) pad_nil rfl) (lenA_cons lenA_nil) rfl) pad_nil rfl) rfl rfl) (pad_cons (d_call c h__law_lists nm__law_lists rfl (pad_cons (d_var 1 nm_cells_so rfl rfl) pad_nil rfl) rfl rfl) pad_nil rfl) rfl) (lenA_cons (lenA_cons lenA_nil)) rfl) (pgd_many c.K c.calm rfl rfl (gs_cons 4 c.nd rfl rfl rfl (gs_cons 5 c.nd rfl rfl rfl pgsd_nil))) rfl rfl)
  (pssd_cons (s_set 6 c rfl rfl rfl (d_call c h_played nm_played rfl (pad_cons (d_var 0 nm_mill_so rfl rfl) (pad_cons (d_var 1 nm_cells_so rfl rfl) (pad_cons (ped_tupN (pad_cons (d_var 3 nm_rules_so rfl rfl) pad_nil rfl) (lenA_cons lenA_nil) rfl) (pad_cons d_int pad_nil rfl) rfl) rfl) rfl) rfl rfl) rfl)
  (pssd_cons (s_set 7 c rfl rfl rfl (ped_of_pld (pld_lstN (pad_cons (d_callK 4 ["ticks", "clock", "cells", "plant"] [3, 2, 1, 0] c h_played nm_played rfl (pkd_cons d_int (pkd_cons (d_var 4 nm_clock_so rfl rfl) (pkd_cons (d_var 5 nm_there_so rfl rfl) (pkd_cons (d_var 2 nm_soft rfl rfl) pkd_nil)))) (fun _ _ _ _ _ _ _ _ ws hl => match ws, hl with | [x0, x1, x2, x3], _ => ⟨[x3, x2, x1, x0], rfl, rfl⟩) rfl rfl rfl) (pad_cons (d_callK 3 ["ticks", "cells", "plant"] [2, 1, 0] c h_idled nm_idled rfl (pkd_cons d_int (pkd_cons (d_var 5 nm_there_so rfl rfl) (pkd_cons (d_var 2 nm_soft rfl rfl) pkd_nil))) (fun _ _ _ _ _ _ _ _ ws hl => match ws, hl with | [x0, x1, x2], _ => ⟨[x2, x1, x0], rfl, rfl⟩) rfl rfl rfl) pad_nil rfl) rfl) (lenA_cons (lenA_cons lenA_nil)) rfl)) rfl)
  (pssd_cons (s_set 7 c rfl rfl rfl (ped_bin (opd_add c.K) (d_var 7 nm_got rfl rfl) (ped_of_pld (pld_lstN (pad_cons (d_callK 4 ["ticks", "steady", "cells", "plant"] [3, 2, 1, 0] c h_steadied nm_steadied rfl (pkd_cons d_int (pkd_cons (d_call c h__law_lists nm__law_lists rfl (pad_cons (d_call0 c h__law_steady_ones nm__law_steady_ones rfl) pad_nil rfl) rfl rfl) (pkd_cons (d_var 5 nm_there_so rfl rfl) (pkd_cons (d_var 2 nm_soft rfl rfl) pkd_nil)))) (fun _ _ _ _ _ _ _ _ ws hl => match ws, hl with | [x0, x1, x2, x3], _ => ⟨[x3, x2, x1, x0], rfl, rfl⟩) rfl rfl rfl) pad_nil rfl) (lenA_cons lenA_nil) rfl))) rfl)
  (pssd_cons (s_set 8 c rfl rfl rfl (ped_of_pld (pld_lstN (pad_cons (d_var 6 nm_play_so rfl rfl) (pad_cons (d_call c h_idled nm_idled rfl (pad_cons (d_var 0 nm_mill_so rfl rfl) (pad_cons (d_var 1 nm_cells_so rfl rfl) (pad_cons d_int pad_nil rfl) rfl) rfl) rfl rfl) (pad_cons (d_call c h_steadied nm_steadied rfl (pad_cons (d_var 0 nm_mill_so rfl rfl) (pad_cons (d_var 1 nm_cells_so rfl rfl) (pad_cons (d_call0 c h__law_steady_ones nm__law_steady_ones rfl) (pad_cons d_int pad_nil rfl) rfl) rfl) rfl) rfl rfl) pad_nil rfl) rfl) rfl) (lenA_cons (lenA_cons (lenA_cons lenA_nil))) rfl)) rfl)
  (pssd_cons (s_set 7 c rfl rfl rfl (ped_bin (opd_add c.K) (d_var 7 nm_got rfl rfl) (ped_of_pld (pld_lstN (pad_cons (d_callK 2 ["cells", "plant"] [1, 0] c h_seen nm_seen rfl (pkd_cons (d_var 5 nm_there_so rfl rfl) (pkd_cons (d_var 2 nm_soft rfl rfl) pkd_nil)) (fun _ _ _ _ _ _ _ _ ws hl => match ws, hl with | [x0, x1], _ => ⟨[x1, x0], rfl, rfl⟩) rfl rfl rfl) (pad_cons (d_callK 3 ["moves", "cells", "plant"] [2, 1, 0] c h_ticked nm_ticked rfl (pkd_cons (d_call c h__law_lists nm__law_lists rfl (pad_cons (ped_ix c.K (ped_ix c.K (d_var 6 nm_play_so rfl rfl) d_int (fun _ _ => rfl)) d_int (fun _ _ => rfl)) pad_nil rfl) rfl rfl) (pkd_cons (d_var 5 nm_there_so rfl rfl) (pkd_cons (d_var 2 nm_soft rfl rfl) pkd_nil))) (fun _ _ _ _ _ _ _ _ ws hl => match ws, hl with | [x0, x1, x2], _ => ⟨[x2, x1, x0], rfl, rfl⟩) rfl rfl rfl) pad_nil rfl) rfl) (lenA_cons (lenA_cons lenA_nil)) rfl))) rfl)
  (pssd_cons (s_set 8 c rfl rfl rfl (ped_bin (opd_add c.K) (d_var 8 nm_due rfl rfl) (ped_of_pld (pld_lstN (pad_cons (d_call c h_seen nm_seen rfl (pad_cons (d_var 0 nm_mill_so rfl rfl) (pad_cons (d_var 1 nm_cells_so rfl rfl) pad_nil rfl) rfl) rfl rfl) (pad_cons (ped_ix c.K (ped_ix c.K (d_var 6 nm_play_so rfl rfl) d_int (fun _ _ => rfl)) d_int (fun _ _ => rfl)) pad_nil rfl) rfl) (lenA_cons (lenA_cons lenA_nil)) rfl))) rfl)
  (pssd_cons (s_set 7 c rfl rfl rfl (ped_bin (opd_add c.K) (d_var 7 nm_got rfl rfl) (ped_of_pld (pld_lstN (pad_cons (d_callK 2 ["play", "reading"] [1, 0] c h_shown_along nm_shown_along rfl (pkd_cons (d_call c h__law_lists nm__law_lists rfl (pad_cons (d_var 6 nm_play_so rfl rfl) pad_nil rfl) rfl rfl) (pkd_cons (ped_of_pld (pld_lstN (pad_cons (ped_of_pld (pld_lstN (pad_cons d_int (pad_cons d_int pad_nil rfl) rfl) (lenA_cons (lenA_cons lenA_nil)) rfl)) (pad_cons (ped_of_pld (pld_lstN (pad_cons d_int (pad_cons d_int pad_nil rfl) rfl) (lenA_cons (lenA_cons lenA_nil)) rfl)) pad_nil rfl) rfl) (lenA_cons (lenA_cons lenA_nil)) rfl)) pkd_nil)) (fun _ _ _ _ _ _ _ _ ws hl => match ws, hl with | [x0, x1], _ => ⟨[x1, x0], rfl, rfl⟩) rfl rfl rfl) (pad_cons (d_callK 2 ["other", "one"] [1, 0] c h_apart nm_apart rfl (pkd_cons (d_call c h__law_lists nm__law_lists rfl (pad_cons (d_var 6 nm_play_so rfl rfl) pad_nil rfl) rfl rfl) (pkd_cons (d_var 6 nm_play_so rfl rfl) pkd_nil)) (fun _ _ _ _ _ _ _ _ ws hl => match ws, hl with | [x0, x1], _ => ⟨[x1, x0], rfl, rfl⟩) rfl rfl rfl) pad_nil rfl) rfl) (lenA_cons (lenA_cons lenA_nil)) rfl))) rfl)
  (pssd_cons (s_set 8 c rfl rfl rfl (ped_bin (opd_add c.K) (d_var 8 nm_due rfl rfl) (ped_of_pld (pld_lstN (pad_cons (ped_tupN (pad_cons (ped_tupN (pad_cons d_int (pad_cons d_int pad_nil rfl) rfl) (lenA_cons (lenA_cons lenA_nil)) rfl) (pad_cons (ped_tupN (pad_cons d_int (pad_cons d_int pad_nil rfl) rfl) (lenA_cons (lenA_cons lenA_nil)) rfl) (pad_cons (ped_tupN (pad_cons d_int (pad_cons d_int pad_nil rfl) rfl) (lenA_cons (lenA_cons lenA_nil)) rfl) pad_nil rfl) rfl) rfl) (lenA_cons (lenA_cons (lenA_cons lenA_nil))) rfl) (pad_cons (ped_bin (opd_mul c.K) (ped_tupN (pad_cons (ped_tupN (pad_cons (ped_tupN (pad_cons d_int (pad_cons d_int pad_nil rfl) rfl) (lenA_cons (lenA_cons lenA_nil)) rfl) (pad_cons (ped_tupN (pad_cons d_int (pad_cons d_int pad_nil rfl) rfl) (lenA_cons (lenA_cons lenA_nil)) rfl) pad_nil rfl) rfl) (lenA_cons (lenA_cons lenA_nil)) rfl) pad_nil rfl) (lenA_cons lenA_nil) rfl) d_int) pad_nil rfl) rfl) (lenA_cons (lenA_cons lenA_nil)) rfl))) rfl)
  (pssd_cons (s_set 7 c rfl rfl rfl (ped_bin (opd_add c.K) (d_var 7 nm_got rfl rfl) (ped_of_pld (pld_lstN (pad_cons (d_callK 4 ["other", "one", "hand", "plant"] [3, 2, 1, 0] c h_go_together nm_go_together rfl (pkd_cons (d_call c h__law_lists nm__law_lists rfl (pad_cons (d_var 6 nm_play_so rfl rfl) pad_nil rfl) rfl rfl) (pkd_cons (d_var 6 nm_play_so rfl rfl) (pkd_cons d_int (pkd_cons (d_var 2 nm_soft rfl rfl) pkd_nil)))) (fun _ _ _ _ _ _ _ _ ws hl => match ws, hl with | [x0, x1, x2, x3], _ => ⟨[x3, x2, x1, x0], rfl, rfl⟩) rfl rfl rfl) (pad_cons (d_callK 3 ["other", "one", "plant"] [2, 1, 0] c h_all_together nm_all_together rfl (pkd_cons (d_var 6 nm_play_so rfl rfl) (pkd_cons (d_call c h__law_lists nm__law_lists rfl (pad_cons (d_var 6 nm_play_so rfl rfl) pad_nil rfl) rfl rfl) (pkd_cons (d_var 2 nm_soft rfl rfl) pkd_nil))) (fun _ _ _ _ _ _ _ _ ws hl => match ws, hl with | [x0, x1, x2], _ => ⟨[x2, x1, x0], rfl, rfl⟩) rfl rfl rfl) pad_nil rfl) rfl) (lenA_cons (lenA_cons lenA_nil)) rfl))) rfl)
  (pssd_cons (s_set 7 c rfl rfl rfl (ped_bin (opd_add c.K) (d_var 7 nm_got rfl rfl) (ped_of_pld (pld_lstN (pad_cons (d_callK 2 ["thing", "plant"] [1, 0] c h_is_play nm_is_play rfl (pkd_cons (d_var 6 nm_play_so rfl rfl) (pkd_cons (d_var 2 nm_soft rfl rfl) pkd_nil)) (fun _ _ _ _ _ _ _ _ ws hl => match ws, hl with | [x0, x1], _ => ⟨[x1, x0], rfl, rfl⟩) rfl rfl rfl) (pad_cons (d_callK 2 ["thing", "plant"] [1, 0] c h_is_moves nm_is_moves rfl (pkd_cons (ped_ix c.K (ped_ix c.K (d_var 6 nm_play_so rfl rfl) d_int (fun _ _ => rfl)) d_int (fun _ _ => rfl)) (pkd_cons (d_var 2 nm_soft rfl rfl) pkd_nil)) (fun _ _ _ _ _ _ _ _ ws hl => match ws, hl with | [x0, x1], _ => ⟨[x1, x0], rfl, rfl⟩) rfl rfl rfl) (pad_cons (d_callK 2 ["thing", "plant"] [1, 0] c h_is_clock nm_is_clock rfl (pkd_cons (ped_tupN (pad_cons (d_var 3 nm_rules_so rfl rfl) pad_nil rfl) (lenA_cons lenA_nil) rfl) (pkd_cons (d_var 2 nm_soft rfl rfl) pkd_nil)) (fun _ _ _ _ _ _ _ _ ws hl => match ws, hl with | [x0, x1], _ => ⟨[x1, x0], rfl, rfl⟩) rfl rfl rfl) pad_nil rfl) rfl) rfl) (lenA_cons (lenA_cons (lenA_cons lenA_nil))) rfl))) rfl)
  (pssd_cons (s_set 7 c rfl rfl rfl (ped_bin (opd_add c.K) (d_var 7 nm_got rfl rfl) (ped_of_pld (pld_lstN (pad_cons (d_callK 2 ["thing", "plant"] [1, 0] c h_is_steady nm_is_steady rfl (pkd_cons (d_call0 c h__law_steady_ones nm__law_steady_ones rfl) (pkd_cons (d_var 2 nm_soft rfl rfl) pkd_nil)) (fun _ _ _ _ _ _ _ _ ws hl => match ws, hl with | [x0, x1], _ => ⟨[x1, x0], rfl, rfl⟩) rfl rfl rfl) (pad_cons (d_var 2 nm_soft rfl rfl) (pad_cons (d_var 4 nm_clock_so rfl rfl) pad_nil rfl) rfl) rfl) (lenA_cons (lenA_cons (lenA_cons lenA_nil))) rfl))) rfl)
  (pssd_cons (s_set 8 c rfl rfl rfl (ped_bin (opd_add c.K) (ped_bin (opd_add c.K) (d_var 8 nm_due rfl rfl) (ped_bin (opd_mul c.K) (ped_of_pld (pld_lstN (pad_cons d_bl pad_nil rfl) (lenA_cons lenA_nil) rfl)) d_int)) (ped_of_pld (pld_lstN (pad_cons (d_call c h__law_lists nm__law_lists rfl (pad_cons (d_var 0 nm_mill_so rfl rfl) pad_nil rfl) rfl rfl) (pad_cons (d_call c h__law_lists nm__law_lists rfl (pad_cons (ped_tupN (pad_cons (d_var 3 nm_rules_so rfl rfl) pad_nil rfl) (lenA_cons lenA_nil) rfl) pad_nil rfl) rfl rfl) pad_nil rfl) rfl) (lenA_cons (lenA_cons lenA_nil)) rfl))) rfl)
  (pssd_cons (s_set 7 c rfl rfl rfl (ped_bin (opd_add c.K) (d_var 7 nm_got rfl rfl) (ped_of_pld (d_comp c [("own", 9)] (.one 9) (pid_seq c.K (ped_tupN (pad_cons (ped_tupN (pad_cons d_str (pad_cons d_int pad_nil rfl) rfl) (lenA_cons (lenA_cons lenA_nil)) rfl) (pad_cons (ped_tupN (pad_cons d_str (pad_cons (ped_un und_neg d_int) pad_nil rfl) rfl) (lenA_cons (lenA_cons lenA_nil)) rfl) (pad_cons (ped_tupN (pad_cons d_str (pad_cons d_int pad_nil rfl) rfl) (lenA_cons (lenA_cons lenA_nil)) rfl) (pad_cons (ped_tupN (pad_cons d_str (pad_cons d_int pad_nil rfl) rfl) (lenA_cons (lenA_cons lenA_nil)) rfl) (pad_cons (ped_tupN (pad_cons d_str (pad_cons d_int pad_nil rfl) rfl) (lenA_cons (lenA_cons lenA_nil)) rfl) (pad_cons (ped_tupN (pad_cons d_str (pad_cons d_int pad_nil rfl) rfl) (lenA_cons (lenA_cons lenA_nil)) rfl) (pad_cons (ped_tupN (pad_cons d_str (pad_cons d_int pad_nil rfl) rfl) (lenA_cons (lenA_cons lenA_nil)) rfl) pad_nil rfl) rfl) rfl) rfl) rfl) rfl) rfl) (lenA_cons (lenA_cons (lenA_cons (lenA_cons (lenA_cons (lenA_cons (lenA_cons lenA_nil))))))) rfl)) (by kernel_rfl) rfl (fun _ _ _ _ _ => (g_one 9 c.nd rfl rfl rfl)) (fun _ _ _ _ _ => ptsd_nil) (fun _ _ _ _ _ => (d_call c.blk h__law_refused nm__law_refused rfl (pad_cons (d_var 9 nm_own rfl rfl) pad_nil rfl) rfl rfl)) (fun _ => rfl)))) rfl)
  (pssd_cons (s_set 8 c rfl rfl rfl (ped_bin (opd_add c.K) (d_var 8 nm_due rfl rfl) (ped_of_pld (pld_lstN (pad_cons (ped_of_pld (pld_lstN (pad_cons d_str (pad_cons d_int (pad_cons d_bl pad_nil rfl) rfl) rfl) (lenA_cons (lenA_cons (lenA_cons lenA_nil))) rfl)) (pad_cons (ped_of_pld (pld_lstN (pad_cons d_str (pad_cons (ped_un und_neg d_int) (pad_cons d_bl pad_nil rfl) rfl) rfl) (lenA_cons (lenA_cons (lenA_cons lenA_nil))) rfl)) (pad_cons (ped_of_pld (pld_lstN (pad_cons d_str (pad_cons d_bl pad_nil rfl) rfl) (lenA_cons (lenA_cons lenA_nil)) rfl)) (pad_cons (ped_of_pld (pld_lstN (pad_cons d_str (pad_cons d_bl pad_nil rfl) rfl) (lenA_cons (lenA_cons lenA_nil)) rfl)) (pad_cons (ped_of_pld (pld_lstN (pad_cons d_str (pad_cons d_bl pad_nil rfl) rfl) (lenA_cons (lenA_cons lenA_nil)) rfl)) (pad_cons (ped_of_pld (pld_lstN (pad_cons d_str (pad_cons d_int (pad_cons d_bl pad_nil rfl) rfl) rfl) (lenA_cons (lenA_cons (lenA_cons lenA_nil))) rfl)) (pad_cons d_str pad_nil rfl) rfl) rfl) rfl) rfl) rfl) rfl) (lenA_cons (lenA_cons (lenA_cons (lenA_cons (lenA_cons (lenA_cons (lenA_cons lenA_nil))))))) rfl))) rfl)
  (pssd_cons (psd_ret (d_call c h__law_same nm__law_same rfl (pad_cons (d_var 7 nm_got rfl rfl) (pad_cons (d_var 8 nm_due rfl rfl) pad_nil rfl) rfl) rfl rfl))
  pssd_nil))))))))))))))))))⟩
noncomputable def S__law_words_right : FN := callD 10 T__law_words_right.1
theorem ok__law_words_right {P : Program} {w : World} {G : Gd} {mg : Str → Option Value} {base : Heap} {k : Nat} (C : Cn G mg) (h_played : Fn P w G (XRK G) mg base k "played" (defArgs (top 39)) 4 S_played) (h__law_same : Fn P w G (XRK G) mg base k "_law_same" (defArgs (top 50)) 2 (S__law_same 10)) (h__law_mill : Fn P w G (XRK G) mg base k "_law_mill" (defArgs (top 51)) 0 S__law_mill) (h__law_lists : Fn P w G (XRK G) mg base k "_law_lists" (defArgs (top 49)) 1 (S__law_lists 10)) (h_idled : Fn P w G (XRK G) mg base k "idled" (defArgs (top 40)) 3 S_idled) (h_steadied : Fn P w G (XRK G) mg base k "steadied" (defArgs (top 41)) 4 S_steadied) (h__law_steady_ones : Fn P w G (XRK G) mg base k "_law_steady_ones" (defArgs (top 53)) 0 S__law_steady_ones) (h_seen : Fn P w G (XRK G) mg base k "seen" (defArgs (top 34)) 2 S_seen) (h_ticked : Fn P w G (XRK G) mg base k "ticked" (defArgs (top 36)) 3 S_ticked) (h_shown_along : Fn P w G (XRK G) mg base k "shown_along" (defArgs (top 42)) 2 S_shown_along) (h_apart : Fn P w G (XRK G) mg base k "apart" (defArgs (top 44)) 2 S_apart) (h_go_together : Fn P w G (XRK G) mg base k "go_together" (defArgs (top 45)) 4 S_go_together) (h_all_together : Fn P w G (XRK G) mg base k "all_together" (defArgs (top 47)) 3 S_all_together) (h_is_play : Fn P w G (XRK G) mg base k "is_play" (defArgs (top 32)) 2 S_is_play) (h_is_moves : Fn P w G (XRK G) mg base k "is_moves" (defArgs (top 28)) 2 S_is_moves) (h_is_clock : Fn P w G (XRK G) mg base k "is_clock" (defArgs (top 29)) 2 S_is_clock) (h_is_steady : Fn P w G (XRK G) mg base k "is_steady" (defArgs (top 30)) 2 S_is_steady) (h__law_refused : Fn P w G (XRK G) mg base k "_law_refused" (defArgs (top 59)) 1 S__law_refused) {a : Addr} {fd : FuncData} (F : FunD G.K "_law_words_right" "_law_words_right" (defArgs (top 61)) (defBody (top 61)) (defScope (top 61)) [] [] a fd) (hm : mg "_law_words_right" = some (.ref a)) : Fn P w G (XRK G) mg base (k + 1) "_law_words_right" (defArgs (top 61)) 0 S__law_words_right :=
  fn_mk (k := k) (N := N__law_words_right) (ps := ([] : List Str)) (xr1_ok _ _ _) F sc__law_words_right hm rfl rfl (fun _ _ _ _ _ _ us hl => match us, hl with | [], _ => rfl) (fun cdv A outer s H E hr => T__law_words_right.2 C h_played h__law_same h__law_mill h__law_lists h_idled h_steadied h__law_steady_ones h_seen h_ticked h_shown_along h_apart h_go_together h_all_together h_is_play h_is_moves h_is_clock h_is_steady h__law_refused a cdv A outer s H E hr)

abbrev N__law_lone : List Str := []
theorem nd__law_lone : (N__law_lone).Nodup := by decide +kernel
theorem sc__law_lone : FnScope N__law_lone ([] : List Str) (defScope (top 52)) := ⟨rfl, rfl, rfl, nd__law_lone, rfl, by decide +kernel, by decide +kernel⟩
noncomputable def T__law_lone : { fb : FS // ∀ {P : Program} {w : World} {G : Gd} {mg : Str → Option Value} {base : Heap} {k : Nat} (C : Cn G mg) (a : Addr) (cdv : Value) (A : Around) (outer : List Env) (s : Shared) (H : Hp) (E : XK), Room k (bodyX P w G.K mg base N__law_lone "_law_lone" (defScope (top 52)) a cdv A outer s H E).A → PSsd G (XRK G) (bodyX P w G.K mg base N__law_lone "_law_lone" (defScope (top 52)) a cdv A outer s H E) (WE0 E) (defBody (top 52)) fb } :=
  ⟨_, fun {P w G mg base k} C a cdv A outer s H E hr =>
  have ow : PassesOwn (model P w) (bodyX P w G.K mg base N__law_lone "_law_lone" (defScope (top 52)) a cdv A outer s H E).A (bodyX P w G.K mg base N__law_lone "_law_lone" (defScope (top 52)) a cdv A outer s H E).env (bodyX P w G.K mg base N__law_lone "_law_lone" (defScope (top 52)) a cdv A outer s H E).xe := own_body
  have c : Cc G (bodyX P w G.K mg base N__law_lone "_law_lone" (defScope (top 52)) a cdv A outer s H E) (WE0 E) k := ⟨rfl, rfl, nd__law_lone, hr, takes_body⟩
  (pssd_cons (psd_ret (ped_tupN (pad_cons (ped_tupN (pad_cons (ped_tupN (pad_cons (ped_tupN (pad_cons d_int (pad_cons d_int pad_nil rfl) rfl) (lenA_cons (lenA_cons lenA_nil)) rfl) pad_nil rfl) (lenA_cons lenA_nil) rfl) pad_nil rfl) (lenA_cons lenA_nil) rfl) (pad_cons (ped_tupN (pad_cons (ped_tupN (pad_cons (ped_tupN (pad_cons (ped_tupN (pad_cons (ped_tupN (pad_cons d_int (pad_cons d_int pad_nil rfl) rfl) (lenA_cons (lenA_cons lenA_nil)) rfl) pad_nil rfl) (lenA_cons lenA_nil) rfl) pad_nil rfl) (lenA_cons lenA_nil) rfl) (pad_cons (ped_tupN (pad_cons (ped_tupN (pad_cons (ped_tupN (pad_cons d_int (pad_cons d_int pad_nil rfl) rfl) (lenA_cons (lenA_cons lenA_nil)) rfl) pad_nil rfl) (lenA_cons lenA_nil) rfl) pad_nil rfl) (lenA_cons lenA_nil) rfl) pad_nil rfl) rfl) (lenA_cons (lenA_cons lenA_nil)) rfl) pad_nil rfl) (lenA_cons lenA_nil) rfl) pad_nil rfl) rfl) (lenA_cons (lenA_cons lenA_nil)) rfl))
  pssd_nil)⟩
noncomputable def S__law_lone : FN := callD 0 T__law_lone.1
theorem ok__law_lone {P : Program} {w : World} {G : Gd} {mg : Str → Option Value} {base : Heap} {k : Nat} (C : Cn G mg) {a : Addr} {fd : FuncData} (F : FunD G.K "_law_lone" "_law_lone" (defArgs (top 52)) (defBody (top 52)) (defScope (top 52)) [] [] a fd) (hm : mg "_law_lone" = some (.ref a)) : Fn P w G (XRK G) mg base (k + 1) "_law_lone" (defArgs (top 52)) 0 S__law_lone :=
  fn_mk (k := k) (N := N__law_lone) (ps := ([] : List Str)) (xr1_ok _ _ _) F sc__law_lone hm rfl rfl (fun _ _ _ _ _ _ us hl => match us, hl with | [], _ => rfl) (fun cdv A outer s H E hr => T__law_lone.2 C a cdv A outer s H E hr)

abbrev N__law_beyond_right : List Str := ["mill_so", "lone_so", "nil_so", "unit_so", "four_so", "got", "due", "calm_so", "wide_so", "still_so", "near_so", "far_so", "bare_so"]
theorem nd__law_beyond_right : (N__law_beyond_right).Nodup := by decide +kernel
theorem sc__law_beyond_right : FnScope N__law_beyond_right ([] : List Str) (defScope (top 60)) := ⟨rfl, rfl, rfl, nd__law_beyond_right, rfl, by decide +kernel, by decide +kernel⟩
noncomputable def T__law_beyond_right : { fb : FS // ∀ {P : Program} {w : World} {G : Gd} {mg : Str → Option Value} {base : Heap} {k : Nat} (C : Cn G mg) (h__law_same : Fn P w G (XRK G) mg base k "_law_same" (defArgs (top 50)) 2 (S__law_same 10)) (h__law_mill : Fn P w G (XRK G) mg base k "_law_mill" (defArgs (top 51)) 0 S__law_mill) (h__law_lone : Fn P w G (XRK G) mg base k "_law_lone" (defArgs (top 52)) 0 S__law_lone) (h_is_steady : Fn P w G (XRK G) mg base k "is_steady" (defArgs (top 30)) 2 S_is_steady) (h_is_play : Fn P w G (XRK G) mg base k "is_play" (defArgs (top 32)) 2 S_is_play) (h_idled : Fn P w G (XRK G) mg base k "idled" (defArgs (top 40)) 3 S_idled) (h_is_moves : Fn P w G (XRK G) mg base k "is_moves" (defArgs (top 28)) 2 S_is_moves) (h_is_clock : Fn P w G (XRK G) mg base k "is_clock" (defArgs (top 29)) 2 S_is_clock) (h_apart : Fn P w G (XRK G) mg base k "apart" (defArgs (top 44)) 2 S_apart) (h_go_together : Fn P w G (XRK G) mg base k "go_together" (defArgs (top 45)) 4 S_go_together) (h_all_together : Fn P w G (XRK G) mg base k "all_together" (defArgs (top 47)) 3 S_all_together) (h__law_refused : Fn P w G (XRK G) mg base k "_law_refused" (defArgs (top 59)) 1 S__law_refused) (h__law_steady_ones : Fn P w G (XRK G) mg base k "_law_steady_ones" (defArgs (top 53)) 0 S__law_steady_ones) (a : Addr) (cdv : Value) (A : Around) (outer : List Env) (s : Shared) (H : Hp) (E : XK), Room k (bodyX P w G.K mg base N__law_beyond_right "_law_beyond_right" (defScope (top 60)) a cdv A outer s H E).A → PSsd G (XRK G) (bodyX P w G.K mg base N__law_beyond_right "_law_beyond_right" (defScope (top 60)) a cdv A outer s H E) (WE0 E) (defBody (top 60)) fb } :=
  ⟨_, fun {P w G mg base k} C h__law_same h__law_mill h__law_lone h_is_steady h_is_play h_idled h_is_moves h_is_clock h_apart h_go_together h_all_together h__law_refused h__law_steady_ones a cdv A outer s H E hr =>
  have ow : PassesOwn (model P w) (bodyX P w G.K mg base N__law_beyond_right "_law_beyond_right" (defScope (top 60)) a cdv A outer s H E).A (bodyX P w G.K mg base N__law_beyond_right "_law_beyond_right" (defScope (top 60)) a cdv A outer s H E).env (bodyX P w G.K mg base N__law_beyond_right "_law_beyond_right" (defScope (top 60)) a cdv A outer s H E).xe := own_body
  have c : Cc G (bodyX P w G.K mg base N__law_beyond_right "_law_beyond_right" (defScope (top 60)) a cdv A outer s H E) (WE0 E) k := ⟨rfl, rfl, nd__law_beyond_right, hr, takes_body⟩
  (pssd_cons (psd_tup (ped_tupN (pad_cons (d_call0 c h__law_mill nm__law_mill rfl) (pad_cons (d_call0 c h__law_lone nm__law_lone rfl) (pad_cons (ped_tupN (pad_cons d_int (pad_cons d_int pad_nil rfl) rfl) (lenA_cons (lenA_cons lenA_nil)) rfl) (pad_cons (ped_tupN (pad_cons d_int (pad_cons d_int pad_nil rfl) rfl) (lenA_cons (lenA_cons lenA_nil)) rfl) pad_nil rfl) rfl) rfl) rfl) (lenA_cons (lenA_cons (lenA_cons (lenA_cons lenA_nil)))) rfl) (pgd_many c.K c.calm rfl rfl (gs_cons 0 c.nd rfl rfl rfl (gs_cons 1 c.nd rfl rfl rfl (gs_cons 2 c.nd rfl rfl rfl (gs_cons 3 c.nd rfl rfl rfl pgsd_nil))))) rfl rfl)
  (pssd_cons (s_set 4 c rfl rfl rfl (ped_tupN (pad_cons (ped_bin (opd_mul c.K) (ped_tupN (pad_cons (ped_bin (opd_mul c.K) (ped_tupN (pad_cons (d_var 2 nm_nil_so rfl rfl) pad_nil rfl) (lenA_cons lenA_nil) rfl) d_int) pad_nil rfl) (lenA_cons lenA_nil) rfl) d_int) (pad_cons (ped_bin (opd_mul c.K) (ped_tupN (pad_cons (ped_tupN (pad_cons (d_var 3 nm_unit_so rfl rfl) pad_nil rfl) (lenA_cons lenA_nil) rfl) pad_nil rfl) (lenA_cons lenA_nil) rfl) d_int) (pad_cons (ped_tupN (pad_cons (ped_bin (opd_mul c.K) (ped_tupN (pad_cons (d_var 2 nm_nil_so rfl rfl) pad_nil rfl) (lenA_cons lenA_nil) rfl) d_int) pad_nil rfl) (lenA_cons lenA_nil) rfl) (pad_cons (ped_tupN (pad_cons (ped_tupN (pad_cons (d_var 3 nm_unit_so rfl rfl) pad_nil rfl) (lenA_cons lenA_nil) rfl) pad_nil rfl) (lenA_cons lenA_nil) rfl) pad_nil rfl) rfl) rfl) rfl) (lenA_cons (lenA_cons (lenA_cons (lenA_cons lenA_nil)))) rfl) rfl)
  (pssd_cons (s_set 5 c rfl rfl rfl (ped_alloc (pld_lstN (pad_cons (d_call c h_is_steady nm_is_steady rfl (pad_cons (d_var 0 nm_mill_so rfl rfl) (pad_cons (ped_bin (opd_add c.K) (ped_tupN (pad_cons (d_var 4 nm_four_so rfl rfl) pad_nil rfl) (lenA_cons lenA_nil) rfl) (ped_slice c.K (d_call0 c h__law_steady_ones nm__law_steady_ones rfl) (pod_some d_int) pod_none)) pad_nil rfl) rfl) rfl rfl) (pad_cons (d_call c h_is_steady nm_is_steady rfl (pad_cons (d_var 0 nm_mill_so rfl rfl) (pad_cons (ped_bin (opd_add c.K) (ped_tupN (pad_cons (ped_bin (opd_add c.K) (ped_bin (opd_add c.K) (ped_slice c.K (d_var 4 nm_four_so rfl rfl) pod_none (pod_some d_int)) (ped_tupN (pad_cons (ped_bin (opd_mul c.K) (ped_tupN (pad_cons (ped_tupN (pad_cons (d_var 3 nm_unit_so rfl rfl) pad_nil rfl) (lenA_cons lenA_nil) rfl) pad_nil rfl) (lenA_cons lenA_nil) rfl) d_int) pad_nil rfl) (lenA_cons lenA_nil) rfl)) (ped_slice c.K (d_var 4 nm_four_so rfl rfl) (pod_some d_int) pod_none)) pad_nil rfl) (lenA_cons lenA_nil) rfl) (ped_slice c.K (d_call0 c h__law_steady_ones nm__law_steady_ones rfl) (pod_some d_int) pod_none)) pad_nil rfl) rfl) rfl rfl) pad_nil rfl) rfl) (lenA_cons (lenA_cons lenA_nil)) rfl)) rfl)
  (pssd_cons (s_set 6 c rfl rfl rfl (ped_of_pld (pld_lstN (pad_cons d_bl (pad_cons d_bl pad_nil rfl) rfl) (lenA_cons (lenA_cons lenA_nil)) rfl)) rfl)
  (pssd_cons (s_set 7 c rfl rfl rfl (ped_tupN (pad_cons (ped_bin (opd_mul c.K) (ped_tupN (pad_cons (ped_tupN (pad_cons (d_var 2 nm_nil_so rfl rfl) pad_nil rfl) (lenA_cons lenA_nil) rfl) pad_nil rfl) (lenA_cons lenA_nil) rfl) d_int) (pad_cons (ped_bin (opd_mul c.K) (ped_tupN (pad_cons (ped_tupN (pad_cons (ped_tupN (pad_cons (d_var 2 nm_nil_so rfl rfl) pad_nil rfl) (lenA_cons lenA_nil) rfl) pad_nil rfl) (lenA_cons lenA_nil) rfl) pad_nil rfl) (lenA_cons lenA_nil) rfl) d_int) pad_nil rfl) rfl) (lenA_cons (lenA_cons lenA_nil)) rfl) rfl)
  (pssd_cons (s_set 5 c rfl rfl rfl (ped_alloc (pld_add (d_var 5 nm_got rfl rfl) (ped_of_pld (pld_lstN (pad_cons (d_call c h_is_play nm_is_play rfl (pad_cons (d_var 1 nm_lone_so rfl rfl) (pad_cons (d_var 7 nm_calm_so rfl rfl) pad_nil rfl) rfl) rfl rfl) (pad_cons (d_call c h_is_play nm_is_play rfl (pad_cons (d_var 1 nm_lone_so rfl rfl) (pad_cons (ped_tupN (pad_cons (ped_ix c.K (d_var 7 nm_calm_so rfl rfl) d_int (fun _ _ => rfl)) (pad_cons (ped_slice c.K (ped_ix c.K (d_var 7 nm_calm_so rfl rfl) d_int (fun _ _ => rfl)) pod_none (pod_some d_int)) pad_nil rfl) rfl) (lenA_cons (lenA_cons lenA_nil)) rfl) pad_nil rfl) rfl) rfl rfl) (pad_cons (d_call c h_is_play nm_is_play rfl (pad_cons (d_var 1 nm_lone_so rfl rfl) (pad_cons (ped_tupN (pad_cons (ped_bin (opd_add c.K) (ped_tupN (pad_cons (ped_tupN (pad_cons (d_var 3 nm_unit_so rfl rfl) pad_nil rfl) (lenA_cons lenA_nil) rfl) pad_nil rfl) (lenA_cons lenA_nil) rfl) (ped_slice c.K (ped_ix c.K (d_var 7 nm_calm_so rfl rfl) d_int (fun _ _ => rfl)) (pod_some d_int) pod_none)) (pad_cons (ped_ix c.K (d_var 7 nm_calm_so rfl rfl) d_int (fun _ _ => rfl)) pad_nil rfl) rfl) (lenA_cons (lenA_cons lenA_nil)) rfl) pad_nil rfl) rfl) rfl rfl) pad_nil rfl) rfl) rfl) (lenA_cons (lenA_cons (lenA_cons lenA_nil))) rfl)))) rfl)
  (pssd_cons (s_set 6 c rfl rfl rfl (ped_bin (opd_add c.K) (d_var 6 nm_due rfl rfl) (ped_of_pld (pld_lstN (pad_cons d_bl (pad_cons d_bl (pad_cons d_bl pad_nil rfl) rfl) rfl) (lenA_cons (lenA_cons (lenA_cons lenA_nil))) rfl))) rfl)
  (pssd_cons (by first | exact psd_par c.calm c.nd (i := 8) (j := 9) rfl rfl (by decide) rfl rfl (pad_cons (ped_tupN (pad_cons (ped_bin opd_pow d_int d_int) (pad_cons d_int pad_nil rfl) rfl) (lenA_cons (lenA_cons lenA_nil)) rfl) (pad_cons (ped_tupN (pad_cons (d_var 2 nm_nil_so rfl rfl) (pad_cons (d_var 2 nm_nil_so rfl rfl) pad_nil rfl) rfl) (lenA_cons (lenA_cons lenA_nil)) rfl) pad_nil rfl) rfl) rfl | exact psd_tup (ped_tupN (pad_cons (ped_tupN (pad_cons (ped_bin opd_pow d_int d_int) (pad_cons d_int pad_nil rfl) rfl) (lenA_cons (lenA_cons lenA_nil)) rfl) (pad_cons (ped_tupN (pad_cons (d_var 2 nm_nil_so rfl rfl) (pad_cons (d_var 2 nm_nil_so rfl rfl) pad_nil rfl) rfl) (lenA_cons (lenA_cons lenA_nil)) rfl) pad_nil rfl) rfl) (lenA_cons (lenA_cons lenA_nil)) rfl) (pgd_many c.K c.calm rfl rfl (gs_cons 8 c.nd rfl rfl rfl (gs_cons 9 c.nd rfl rfl rfl pgsd_nil))) rfl rfl)
  (pssd_cons (s_set 5 c rfl rfl rfl (ped_alloc (pld_add (d_var 5 nm_got rfl rfl) (ped_of_pld (pld_lstN (pad_cons (d_call c h_is_moves nm_is_moves rfl (pad_cons (d_var 0 nm_mill_so rfl rfl) (pad_cons (ped_tupN (pad_cons (ped_tupN (pad_cons (d_var 8 nm_wide_so rfl rfl) pad_nil rfl) (lenA_cons lenA_nil) rfl) (pad_cons (d_var 9 nm_still_so rfl rfl) (pad_cons (ped_tupN pad_nil lenA_nil rfl) pad_nil rfl) rfl) rfl) (lenA_cons (lenA_cons (lenA_cons lenA_nil))) rfl) pad_nil rfl) rfl) rfl rfl) (pad_cons (d_call c h_is_clock nm_is_clock rfl (pad_cons (d_var 0 nm_mill_so rfl rfl) (pad_cons (ped_bin (opd_mul c.K) (ped_tupN (pad_cons (ped_tupN (pad_cons (ped_tupN (pad_cons (ped_tupN (pad_cons (d_var 8 nm_wide_so rfl rfl) pad_nil rfl) (lenA_cons lenA_nil) rfl) pad_nil rfl) (lenA_cons lenA_nil) rfl) (pad_cons (ped_tupN (pad_cons (ped_tupN pad_nil lenA_nil rfl) (pad_cons (ped_tupN pad_nil lenA_nil rfl) pad_nil rfl) rfl) (lenA_cons (lenA_cons lenA_nil)) rfl) (pad_cons (ped_tupN pad_nil lenA_nil rfl) pad_nil rfl) rfl) rfl) (lenA_cons (lenA_cons (lenA_cons lenA_nil))) rfl) pad_nil rfl) (lenA_cons lenA_nil) rfl) d_int) pad_nil rfl) rfl) rfl rfl) pad_nil rfl) rfl) (lenA_cons (lenA_cons lenA_nil)) rfl)))) rfl)
  (pssd_cons (psd_expr (d_append c (d_var 5 nm_got rfl rfl) (d_call c h_is_play nm_is_play rfl (pad_cons (d_var 1 nm_lone_so rfl rfl) (pad_cons (ped_tupN (pad_cons (ped_tupN (pad_cons (ped_tupN (pad_cons (d_var 8 nm_wide_so rfl rfl) pad_nil rfl) (lenA_cons lenA_nil) rfl) (pad_cons (ped_tupN (pad_cons (ped_tupN (pad_cons (ped_bin (opd_mul c.K) d_int (ped_bin opd_pow d_int d_int)) (pad_cons d_int pad_nil rfl) rfl) (lenA_cons (lenA_cons lenA_nil)) rfl) pad_nil rfl) (lenA_cons lenA_nil) rfl) pad_nil rfl) rfl) (lenA_cons (lenA_cons lenA_nil)) rfl) (pad_cons (ped_tupN (pad_cons (ped_tupN (pad_cons (ped_tupN (pad_cons (d_var 8 nm_wide_so rfl rfl) pad_nil rfl) (lenA_cons lenA_nil) rfl) pad_nil rfl) (lenA_cons lenA_nil) rfl) pad_nil rfl) (lenA_cons lenA_nil) rfl) pad_nil rfl) rfl) (lenA_cons (lenA_cons lenA_nil)) rfl) pad_nil rfl) rfl) rfl rfl) rfl rfl rfl) rfl)
  (pssd_cons (s_set 6 c rfl rfl rfl (ped_bin (opd_add c.K) (d_var 6 nm_due rfl rfl) (ped_of_pld (pld_lstN (pad_cons d_bl (pad_cons d_bl (pad_cons d_bl pad_nil rfl) rfl) rfl) (lenA_cons (lenA_cons (lenA_cons lenA_nil))) rfl))) rfl)
  (pssd_cons (by first | exact psd_par c.calm c.nd (i := 10) (j := 11) rfl rfl (by decide) rfl rfl (pad_cons (d_call c h_idled nm_idled rfl (pad_cons (d_var 0 nm_mill_so rfl rfl) (pad_cons (ped_tupN (pad_cons (ped_tupN (pad_cons d_int (pad_cons d_int pad_nil rfl) rfl) (lenA_cons (lenA_cons lenA_nil)) rfl) (pad_cons (ped_tupN (pad_cons d_int (pad_cons d_int pad_nil rfl) rfl) (lenA_cons (lenA_cons lenA_nil)) rfl) pad_nil rfl) rfl) (lenA_cons (lenA_cons lenA_nil)) rfl) (pad_cons d_int pad_nil rfl) rfl) rfl) rfl rfl) (pad_cons (d_call c h_idled nm_idled rfl (pad_cons (d_var 0 nm_mill_so rfl rfl) (pad_cons (ped_tupN (pad_cons (ped_tupN (pad_cons d_int (pad_cons d_int pad_nil rfl) rfl) (lenA_cons (lenA_cons lenA_nil)) rfl) (pad_cons (d_var 2 nm_nil_so rfl rfl) pad_nil rfl) rfl) (lenA_cons (lenA_cons lenA_nil)) rfl) (pad_cons d_int pad_nil rfl) rfl) rfl) rfl rfl) pad_nil rfl) rfl) rfl | exact psd_tup (ped_tupN (pad_cons (d_call c h_idled nm_idled rfl (pad_cons (d_var 0 nm_mill_so rfl rfl) (pad_cons (ped_tupN (pad_cons (ped_tupN (pad_cons d_int (pad_cons d_int pad_nil rfl) rfl) (lenA_cons (lenA_cons lenA_nil)) rfl) (pad_cons (ped_tupN (pad_cons d_int (pad_cons d_int pad_nil rfl) rfl) (lenA_cons (lenA_cons lenA_nil)) rfl) pad_nil rfl) rfl) (lenA_cons (lenA_cons lenA_nil)) rfl) (pad_cons d_int pad_nil rfl) rfl) rfl) rfl rfl) (pad_cons (d_call c h_idled nm_idled rfl (pad_cons (d_var 0 nm_mill_so rfl rfl) (pad_cons (ped_tupN (pad_cons (ped_tupN (pad_cons d_int (pad_cons d_int pad_nil rfl) rfl) (lenA_cons (lenA_cons lenA_nil)) rfl) (pad_cons (d_var 2 nm_nil_so rfl rfl) pad_nil rfl) rfl) (lenA_cons (lenA_cons lenA_nil)) rfl) (pad_cons d_int pad_nil rfl) rfl) rfl) rfl rfl) pad_nil rfl) rfl) (lenA_cons (lenA_cons lenA_nil)) rfl) (pgd_many c.K c.calm rfl rfl (gs_cons 10 c.nd rfl rfl rfl (gs_cons 11 c.nd rfl rfl rfl pgsd_nil))) rfl rfl)
  (pssd_cons (s_set 5 c rfl rfl rfl (ped_alloc (pld_add (d_var 5 nm_got rfl rfl) (ped_of_pld (pld_lstN (pad_cons (d_call c h_apart nm_apart rfl (pad_cons (d_var 10 nm_near_so rfl rfl) (pad_cons (d_var 11 nm_far_so rfl rfl) pad_nil rfl) rfl) rfl rfl) (pad_cons (d_call c h_go_together nm_go_together rfl (pad_cons (d_var 0 nm_mill_so rfl rfl) (pad_cons d_int (pad_cons (d_var 10 nm_near_so rfl rfl) (pad_cons (d_var 11 nm_far_so rfl rfl) pad_nil rfl) rfl) rfl) rfl) rfl rfl) (pad_cons (d_call c h_all_together nm_all_together rfl (pad_cons (d_var 0 nm_mill_so rfl rfl) (pad_cons (d_var 10 nm_near_so rfl rfl) (pad_cons (d_var 11 nm_far_so rfl rfl) pad_nil rfl) rfl) rfl) rfl rfl) pad_nil rfl) rfl) rfl) (lenA_cons (lenA_cons (lenA_cons lenA_nil))) rfl)))) rfl)
  (pssd_cons (s_set 6 c rfl rfl rfl (ped_bin (opd_add c.K) (d_var 6 nm_due rfl rfl) (ped_of_pld (pld_lstN (pad_cons (ped_tupN (pad_cons (ped_tupN (pad_cons (ped_tupN (pad_cons d_int (pad_cons d_int pad_nil rfl) rfl) (lenA_cons (lenA_cons lenA_nil)) rfl) (pad_cons (ped_tupN (pad_cons (ped_un und_neg d_int) (pad_cons d_int pad_nil rfl) rfl) (lenA_cons (lenA_cons lenA_nil)) rfl) pad_nil rfl) rfl) (lenA_cons (lenA_cons lenA_nil)) rfl) pad_nil rfl) (lenA_cons lenA_nil) rfl) (pad_cons d_bl (pad_cons d_bl pad_nil rfl) rfl) rfl) (lenA_cons (lenA_cons (lenA_cons lenA_nil))) rfl))) rfl)
  (pssd_cons (s_set 12 c rfl rfl rfl (ped_tupN (pad_cons (ped_tupN (pad_cons (ped_tupN (pad_cons (ped_tupN (pad_cons d_int (pad_cons d_int pad_nil rfl) rfl) (lenA_cons (lenA_cons lenA_nil)) rfl) pad_nil rfl) (lenA_cons lenA_nil) rfl) pad_nil rfl) (lenA_cons lenA_nil) rfl) (pad_cons (ped_tupN pad_nil lenA_nil rfl) pad_nil rfl) rfl) (lenA_cons (lenA_cons lenA_nil)) rfl) rfl)
  (pssd_cons (s_set 5 c rfl rfl rfl (ped_alloc (pld_add (d_var 5 nm_got rfl rfl) (ped_of_pld (pld_lstN (pad_cons (d_call c h_all_together nm_all_together rfl (pad_cons (d_var 12 nm_bare_so rfl rfl) (pad_cons (d_call c h_idled nm_idled rfl (pad_cons (d_var 12 nm_bare_so rfl rfl) (pad_cons (ped_tupN (pad_cons (ped_tupN (pad_cons d_int (pad_cons d_int pad_nil rfl) rfl) (lenA_cons (lenA_cons lenA_nil)) rfl) pad_nil rfl) (lenA_cons lenA_nil) rfl) (pad_cons d_int pad_nil rfl) rfl) rfl) rfl rfl) (pad_cons (d_call c h_idled nm_idled rfl (pad_cons (d_var 12 nm_bare_so rfl rfl) (pad_cons (ped_tupN (pad_cons (d_var 3 nm_unit_so rfl rfl) pad_nil rfl) (lenA_cons lenA_nil) rfl) (pad_cons d_int pad_nil rfl) rfl) rfl) rfl rfl) pad_nil rfl) rfl) rfl) rfl rfl) (pad_cons (d_call c h__law_refused nm__law_refused rfl (pad_cons (ped_tupN (pad_cons d_str (pad_cons d_int pad_nil rfl) rfl) (lenA_cons (lenA_cons lenA_nil)) rfl) pad_nil rfl) rfl rfl) (pad_cons (d_call c h__law_refused nm__law_refused rfl (pad_cons (ped_tupN (pad_cons d_str (pad_cons d_int pad_nil rfl) rfl) (lenA_cons (lenA_cons lenA_nil)) rfl) pad_nil rfl) rfl rfl) pad_nil rfl) rfl) rfl) (lenA_cons (lenA_cons (lenA_cons lenA_nil))) rfl)))) rfl)
  (pssd_cons (psd_ret (d_call c h__law_same nm__law_same rfl (pad_cons (d_var 5 nm_got rfl rfl) (pad_cons (ped_bin (opd_add c.K) (d_var 6 nm_due rfl rfl) (ped_of_pld (pld_lstN (pad_cons d_bl (pad_cons (ped_of_pld (pld_lstN (pad_cons d_str (pad_cons d_bl pad_nil rfl) rfl) (lenA_cons (lenA_cons lenA_nil)) rfl)) (pad_cons (ped_of_pld (pld_lstN (pad_cons d_str (pad_cons d_int (pad_cons d_bl pad_nil rfl) rfl) rfl) (lenA_cons (lenA_cons (lenA_cons lenA_nil))) rfl)) pad_nil rfl) rfl) rfl) (lenA_cons (lenA_cons (lenA_cons lenA_nil))) rfl))) pad_nil rfl) rfl) rfl rfl))
  pssd_nil)))))))))))))))))⟩
noncomputable def S__law_beyond_right : FN := callD 13 T__law_beyond_right.1
theorem ok__law_beyond_right {P : Program} {w : World} {G : Gd} {mg : Str → Option Value} {base : Heap} {k : Nat} (C : Cn G mg) (h__law_same : Fn P w G (XRK G) mg base k "_law_same" (defArgs (top 50)) 2 (S__law_same 10)) (h__law_mill : Fn P w G (XRK G) mg base k "_law_mill" (defArgs (top 51)) 0 S__law_mill) (h__law_lone : Fn P w G (XRK G) mg base k "_law_lone" (defArgs (top 52)) 0 S__law_lone) (h_is_steady : Fn P w G (XRK G) mg base k "is_steady" (defArgs (top 30)) 2 S_is_steady) (h_is_play : Fn P w G (XRK G) mg base k "is_play" (defArgs (top 32)) 2 S_is_play) (h_idled : Fn P w G (XRK G) mg base k "idled" (defArgs (top 40)) 3 S_idled) (h_is_moves : Fn P w G (XRK G) mg base k "is_moves" (defArgs (top 28)) 2 S_is_moves) (h_is_clock : Fn P w G (XRK G) mg base k "is_clock" (defArgs (top 29)) 2 S_is_clock) (h_apart : Fn P w G (XRK G) mg base k "apart" (defArgs (top 44)) 2 S_apart) (h_go_together : Fn P w G (XRK G) mg base k "go_together" (defArgs (top 45)) 4 S_go_together) (h_all_together : Fn P w G (XRK G) mg base k "all_together" (defArgs (top 47)) 3 S_all_together) (h__law_refused : Fn P w G (XRK G) mg base k "_law_refused" (defArgs (top 59)) 1 S__law_refused) (h__law_steady_ones : Fn P w G (XRK G) mg base k "_law_steady_ones" (defArgs (top 53)) 0 S__law_steady_ones) {a : Addr} {fd : FuncData} (F : FunD G.K "_law_beyond_right" "_law_beyond_right" (defArgs (top 60)) (defBody (top 60)) (defScope (top 60)) [] [] a fd) (hm : mg "_law_beyond_right" = some (.ref a)) : Fn P w G (XRK G) mg base (k + 1) "_law_beyond_right" (defArgs (top 60)) 0 S__law_beyond_right :=
  fn_mk (k := k) (N := N__law_beyond_right) (ps := ([] : List Str)) (xr1_ok _ _ _) F sc__law_beyond_right hm rfl rfl (fun _ _ _ _ _ _ us hl => match us, hl with | [], _ => rfl) (fun cdv A outer s H E hr => T__law_beyond_right.2 C h__law_same h__law_mill h__law_lone h_is_steady h_is_play h_idled h_is_moves h_is_clock h_apart h_go_together h_all_together h__law_refused h__law_steady_ones a cdv A outer s H E hr)

abbrev N__law_played_right : List Str := ["mill_so", "cells_so", "still_so", "rules_so", "none_so", "got", "due", "acted_so", "later_so", "line_so", "first_so", "next_so"]
theorem nd__law_played_right : (N__law_played_right).Nodup := by decide +kernel
theorem sc__law_played_right : FnScope N__law_played_right ([] : List Str) (defScope (top 54)) := ⟨rfl, rfl, rfl, nd__law_played_right, rfl, by decide +kernel, by decide +kernel⟩
noncomputable def T__law_played_right : { fb : FS // ∀ {P : Program} {w : World} {G : Gd} {mg : Str → Option Value} {base : Heap} {k : Nat} (C : Cn G mg) (h__law_same : Fn P w G (XRK G) mg base k "_law_same" (defArgs (top 50)) 2 (S__law_same 10)) (h__law_mill : Fn P w G (XRK G) mg base k "_law_mill" (defArgs (top 51)) 0 S__law_mill) (h_seen : Fn P w G (XRK G) mg base k "seen" (defArgs (top 34)) 2 S_seen) (h_ticked : Fn P w G (XRK G) mg base k "ticked" (defArgs (top 36)) 3 S_ticked) (h_steadied : Fn P w G (XRK G) mg base k "steadied" (defArgs (top 41)) 4 S_steadied) (h_apart : Fn P w G (XRK G) mg base k "apart" (defArgs (top 44)) 2 S_apart) (h_idled : Fn P w G (XRK G) mg base k "idled" (defArgs (top 40)) 3 S_idled) (h_played : Fn P w G (XRK G) mg base k "played" (defArgs (top 39)) 4 S_played) (h_shown_along : Fn P w G (XRK G) mg base k "shown_along" (defArgs (top 42)) 2 S_shown_along) (h__law_steady_ones : Fn P w G (XRK G) mg base k "_law_steady_ones" (defArgs (top 53)) 0 S__law_steady_ones) (a : Addr) (cdv : Value) (A : Around) (outer : List Env) (s : Shared) (H : Hp) (E : XK), Room k (bodyX P w G.K mg base N__law_played_right "_law_played_right" (defScope (top 54)) a cdv A outer s H E).A → PSsd G (XRK G) (bodyX P w G.K mg base N__law_played_right "_law_played_right" (defScope (top 54)) a cdv A outer s H E) (WE0 E) (defBody (top 54)) fb } :=
  ⟨_, fun {P w G mg base k} C h__law_same h__law_mill h_seen h_ticked h_steadied h_apart h_idled h_played h_shown_along h__law_steady_ones a cdv A outer s H E hr =>
  have ow : PassesOwn (model P w) (bodyX P w G.K mg base N__law_played_right "_law_played_right" (defScope (top 54)) a cdv A outer s H E).A (bodyX P w G.K mg base N__law_played_right "_law_played_right" (defScope (top 54)) a cdv A outer s H E).env (bodyX P w G.K mg base N__law_played_right "_law_played_right" (defScope (top 54)) a cdv A outer s H E).xe := own_body
  have c : Cc G (bodyX P w G.K mg base N__law_played_right "_law_played_right" (defScope (top 54)) a cdv A outer s H E) (WE0 E) k := ⟨rfl, rfl, nd__law_played_right, hr, takes_body⟩
  (pssd_cons (by first | exact psd_par3 c.calm c.nd (i := 0) (j := 1) (l := 2) rfl rfl rfl (by decide) (by decide) (by decide) rfl rfl rfl (pad_cons (d_call0 c h__law_mill nm__law_mill rfl) (pad_cons (ped_tupN (pad_cons (ped_tupN (pad_cons d_int (pad_cons d_int pad_nil rfl) rfl) (lenA_cons (lenA_cons lenA_nil)) rfl) (pad_cons (ped_tupN (pad_cons d_int (pad_cons d_int pad_nil rfl) rfl) (lenA_cons (lenA_cons lenA_nil)) rfl) pad_nil rfl) rfl) (lenA_cons (lenA_cons lenA_nil)) rfl) (pad_cons (ped_tupN (pad_cons (ped_tupN (pad_cons (ped_tupN (pad_cons d_int (pad_cons d_int pad_nil rfl) rfl) (lenA_cons (lenA_cons lenA_nil)) rfl) pad_nil rfl) (lenA_cons lenA_nil) rfl) (pad_cons (ped_tupN (pad_cons (ped_tupN (pad_cons d_int (pad_cons d_int pad_nil rfl) rfl) (lenA_cons (lenA_cons lenA_nil)) rfl) (pad_cons (ped_tupN (pad_cons d_int (pad_cons d_int pad_nil rfl) rfl) (lenA_cons (lenA_cons lenA_nil)) rfl) pad_nil rfl) rfl) (lenA_cons (lenA_cons lenA_nil)) rfl) (pad_cons (ped_tupN pad_nil lenA_nil rfl) pad_nil rfl) rfl) rfl) (lenA_cons (lenA_cons (lenA_cons lenA_nil))) rfl) pad_nil rfl) rfl) rfl) rfl | exact psd_tup (ped_tupN (pad_cons (d_call0 c h__law_mill nm__law_mill rfl) (pad_cons (ped_tupN (pad_cons (ped_tupN (pad_cons d_int (pad_cons d_int pad_nil rfl) rfl) (lenA_cons (lenA_cons lenA_nil)) rfl) (pad_cons (ped_tupN (pad_cons d_int (pad_cons d_int pad_nil rfl) rfl) (lenA_cons (lenA_cons lenA_nil)) rfl) pad_nil rfl) rfl) (lenA_cons (lenA_cons lenA_nil)) rfl) (pad_cons (ped_tupN (pad_cons (ped_tupN (pad_cons (ped_tupN (pad_cons d_int (pad_cons d_int pad_nil rfl) rfl) (lenA_cons (lenA_cons lenA_nil)) rfl) pad_nil rfl) (lenA_cons lenA_nil) rfl) (pad_cons (ped_tupN (pad_cons (ped_tupN (pad_cons d_int (pad_cons d_int pad_nil rfl) rfl) (lenA_cons (lenA_cons lenA_nil)) rfl) (pad_cons (ped_tupN (pad_cons d_int (pad_cons d_int pad_nil rfl) rfl) (lenA_cons (lenA_cons lenA_nil)) rfl) pad_nil rfl) rfl) (lenA_cons (lenA_cons lenA_nil)) rfl) (pad_cons (ped_tupN pad_nil lenA_nil rfl) pad_nil rfl) rfl) rfl) (lenA_cons (lenA_cons (lenA_cons lenA_nil))) rfl) pad_nil rfl) rfl) rfl) (lenA_cons (lenA_cons (lenA_cons lenA_nil))) rfl) (pgd_many c.K c.calm rfl rfl (gs_cons 0 c.nd rfl rfl rfl (gs_cons 1 c.nd rfl rfl rfl (gs_cons 2 c.nd rfl rfl rfl pgsd_nil)))) rfl rfl)
  (pssd_cons (by first | exact psd_par c.calm c.nd (i := 3) (j := 4) rfl rfl (by decide) rfl rfl (pad_cons (ped_tupN (pad_cons (ped_tupN (pad_cons (ped_tupN (pad_cons (ped_tupN (pad_cons (ped_un und_neg d_int) (pad_cons d_int pad_nil rfl) rfl) (lenA_cons (lenA_cons lenA_nil)) rfl) pad_nil rfl) (lenA_cons lenA_nil) rfl) pad_nil rfl) (lenA_cons lenA_nil) rfl) (pad_cons (ped_tupN (pad_cons (ped_tupN pad_nil lenA_nil rfl) (pad_cons (ped_tupN pad_nil lenA_nil rfl) pad_nil rfl) rfl) (lenA_cons (lenA_cons lenA_nil)) rfl) (pad_cons (ped_tupN pad_nil lenA_nil rfl) pad_nil rfl) rfl) rfl) (lenA_cons (lenA_cons (lenA_cons lenA_nil))) rfl) (pad_cons (ped_tupN (pad_cons (ped_tupN (pad_cons (ped_tupN (pad_cons (ped_tupN (pad_cons d_int (pad_cons d_int pad_nil rfl) rfl) (lenA_cons (lenA_cons lenA_nil)) rfl) pad_nil rfl) (lenA_cons lenA_nil) rfl) pad_nil rfl) (lenA_cons lenA_nil) rfl) (pad_cons (ped_tupN (pad_cons (ped_tupN pad_nil lenA_nil rfl) (pad_cons (ped_tupN pad_nil lenA_nil rfl) pad_nil rfl) rfl) (lenA_cons (lenA_cons lenA_nil)) rfl) (pad_cons (ped_tupN pad_nil lenA_nil rfl) pad_nil rfl) rfl) rfl) (lenA_cons (lenA_cons (lenA_cons lenA_nil))) rfl) pad_nil rfl) rfl) rfl | exact psd_tup (ped_tupN (pad_cons (ped_tupN (pad_cons (ped_tupN (pad_cons (ped_tupN (pad_cons (ped_tupN (pad_cons (ped_un und_neg d_int) (pad_cons d_int pad_nil rfl) rfl) (lenA_cons (lenA_cons lenA_nil)) rfl) pad_nil rfl) (lenA_cons lenA_nil) rfl) pad_nil rfl) (lenA_cons lenA_nil) rfl) (pad_cons (ped_tupN (pad_cons (ped_tupN pad_nil lenA_nil rfl) (pad_cons (ped_tupN pad_nil lenA_nil rfl) pad_nil rfl) rfl) (lenA_cons (lenA_cons lenA_nil)) rfl) (pad_cons (ped_tupN pad_nil lenA_nil rfl) pad_nil rfl) rfl) rfl) (lenA_cons (lenA_cons (lenA_cons lenA_nil))) rfl) (pad_cons (ped_tupN (pad_cons (ped_tupN (pad_cons (ped_tupN (pad_cons (ped_tupN (pad_cons d_int (pad_cons d_int pad_nil rfl) rfl) (lenA_cons (lenA_cons lenA_nil)) rfl) pad_nil rfl) (lenA_cons lenA_nil) rfl) pad_nil rfl) (lenA_cons lenA_nil) rfl) (pad_cons (ped_tupN (pad_cons (ped_tupN pad_nil lenA_nil rfl) (pad_cons (ped_tupN pad_nil lenA_nil rfl) pad_nil rfl) rfl) (lenA_cons (lenA_cons lenA_nil)) rfl) (pad_cons (ped_tupN pad_nil lenA_nil rfl) pad_nil rfl) rfl) rfl) (lenA_cons (lenA_cons (lenA_cons lenA_nil))) rfl) pad_nil rfl) rfl) (lenA_cons (lenA_cons lenA_nil)) rfl) (pgd_many c.K c.calm rfl rfl (gs_cons 3 c.nd rfl rfl rfl (gs_cons 4 c.nd rfl rfl rfl pgsd_nil))) rfl rfl)
  (pssd_cons (s_set 5 c rfl rfl rfl (ped_alloc (pld_lstN (pad_cons (d_call c h_seen nm_seen rfl (pad_cons (d_var 0 nm_mill_so rfl rfl) (pad_cons (d_var 1 nm_cells_so rfl rfl) pad_nil rfl) rfl) rfl rfl) (pad_cons (d_call c h_ticked nm_ticked rfl (pad_cons (d_var 0 nm_mill_so rfl rfl) (pad_cons (d_var 1 nm_cells_so rfl rfl) (pad_cons (ped_tupN (pad_cons (ped_tupN (pad_cons (ped_tupN (pad_cons (ped_un und_neg d_int) (pad_cons d_int pad_nil rfl) rfl) (lenA_cons (lenA_cons lenA_nil)) rfl) pad_nil rfl) (lenA_cons lenA_nil) rfl) (pad_cons (ped_tupN (pad_cons (ped_tupN (pad_cons d_int (pad_cons d_int pad_nil rfl) rfl) (lenA_cons (lenA_cons lenA_nil)) rfl) (pad_cons (ped_tupN (pad_cons d_int (pad_cons d_int pad_nil rfl) rfl) (lenA_cons (lenA_cons lenA_nil)) rfl) pad_nil rfl) rfl) (lenA_cons (lenA_cons lenA_nil)) rfl) (pad_cons (ped_tupN pad_nil lenA_nil rfl) pad_nil rfl) rfl) rfl) (lenA_cons (lenA_cons (lenA_cons lenA_nil))) rfl) pad_nil rfl) rfl) rfl) rfl rfl) pad_nil rfl) rfl) (lenA_cons (lenA_cons lenA_nil)) rfl)) rfl)
  (pssd_cons (s_set 6 c rfl rfl rfl (ped_alloc (pld_lstN (pad_cons (ped_tupN (pad_cons (ped_tupN (pad_cons (ped_tupN (pad_cons d_int (pad_cons d_int pad_nil rfl) rfl) (lenA_cons (lenA_cons lenA_nil)) rfl) pad_nil rfl) (lenA_cons lenA_nil) rfl) (pad_cons (ped_tupN pad_nil lenA_nil rfl) (pad_cons (ped_tupN (pad_cons (ped_tupN (pad_cons d_int (pad_cons d_int pad_nil rfl) rfl) (lenA_cons (lenA_cons lenA_nil)) rfl) (pad_cons (ped_tupN (pad_cons d_int (pad_cons d_int pad_nil rfl) rfl) (lenA_cons (lenA_cons lenA_nil)) rfl) pad_nil rfl) rfl) (lenA_cons (lenA_cons lenA_nil)) rfl) pad_nil rfl) rfl) rfl) (lenA_cons (lenA_cons (lenA_cons lenA_nil))) rfl) (pad_cons (ped_tupN (pad_cons (ped_tupN (pad_cons d_int (pad_cons d_int pad_nil rfl) rfl) (lenA_cons (lenA_cons lenA_nil)) rfl) (pad_cons (ped_tupN (pad_cons d_int (pad_cons d_int pad_nil rfl) rfl) (lenA_cons (lenA_cons lenA_nil)) rfl) pad_nil rfl) rfl) (lenA_cons (lenA_cons lenA_nil)) rfl) pad_nil rfl) rfl) (lenA_cons (lenA_cons lenA_nil)) rfl)) rfl)
  (pssd_cons (s_set 7 c rfl rfl rfl (ped_tupN (pad_cons (ped_tupN (pad_cons (ped_tupN (pad_cons (ped_un und_neg d_int) (pad_cons d_int pad_nil rfl) rfl) (lenA_cons (lenA_cons lenA_nil)) rfl) pad_nil rfl) (lenA_cons lenA_nil) rfl) (pad_cons (ped_tupN (pad_cons (ped_tupN (pad_cons d_int (pad_cons d_int pad_nil rfl) rfl) (lenA_cons (lenA_cons lenA_nil)) rfl) (pad_cons (ped_tupN (pad_cons d_int (pad_cons d_int pad_nil rfl) rfl) (lenA_cons (lenA_cons lenA_nil)) rfl) pad_nil rfl) rfl) (lenA_cons (lenA_cons lenA_nil)) rfl) (pad_cons (ped_tupN pad_nil lenA_nil rfl) pad_nil rfl) rfl) rfl) (lenA_cons (lenA_cons (lenA_cons lenA_nil))) rfl) rfl)
  (pssd_cons (s_set 5 c rfl rfl rfl (ped_alloc (pld_add (d_var 5 nm_got rfl rfl) (ped_of_pld (pld_lstN (pad_cons (d_call c h_played nm_played rfl (pad_cons (d_var 0 nm_mill_so rfl rfl) (pad_cons (d_var 1 nm_cells_so rfl rfl) (pad_cons (ped_tupN (pad_cons (d_var 3 nm_rules_so rfl rfl) pad_nil rfl) (lenA_cons lenA_nil) rfl) (pad_cons d_int pad_nil rfl) rfl) rfl) rfl) rfl rfl) (pad_cons (d_call c h_played nm_played rfl (pad_cons (d_var 0 nm_mill_so rfl rfl) (pad_cons (d_var 1 nm_cells_so rfl rfl) (pad_cons (ped_tupN (pad_cons (d_var 3 nm_rules_so rfl rfl) (pad_cons (d_var 4 nm_none_so rfl rfl) (pad_cons (d_var 4 nm_none_so rfl rfl) pad_nil rfl) rfl) rfl) (lenA_cons (lenA_cons (lenA_cons lenA_nil))) rfl) (pad_cons d_int pad_nil rfl) rfl) rfl) rfl) rfl rfl) pad_nil rfl) rfl) (lenA_cons (lenA_cons lenA_nil)) rfl)))) rfl)
  (pssd_cons (s_set 6 c rfl rfl rfl (ped_alloc (pld_add (d_var 6 nm_due rfl rfl) (ped_of_pld (pld_lstN (pad_cons (ped_tupN (pad_cons (ped_tupN (pad_cons (d_var 1 nm_cells_so rfl rfl) (pad_cons (ped_tupN (pad_cons (ped_tupN (pad_cons d_int (pad_cons d_int pad_nil rfl) rfl) (lenA_cons (lenA_cons lenA_nil)) rfl) (pad_cons (ped_tupN (pad_cons d_int (pad_cons d_int pad_nil rfl) rfl) (lenA_cons (lenA_cons lenA_nil)) rfl) pad_nil rfl) rfl) (lenA_cons (lenA_cons lenA_nil)) rfl) (pad_cons (ped_tupN (pad_cons (ped_tupN (pad_cons d_int (pad_cons d_int pad_nil rfl) rfl) (lenA_cons (lenA_cons lenA_nil)) rfl) (pad_cons (ped_tupN (pad_cons d_int (pad_cons d_int pad_nil rfl) rfl) (lenA_cons (lenA_cons lenA_nil)) rfl) pad_nil rfl) rfl) (lenA_cons (lenA_cons lenA_nil)) rfl) pad_nil rfl) rfl) rfl) (lenA_cons (lenA_cons (lenA_cons lenA_nil))) rfl) (pad_cons (ped_tupN (pad_cons (d_var 7 nm_acted_so rfl rfl) (pad_cons (d_var 2 nm_still_so rfl rfl) pad_nil rfl) rfl) (lenA_cons (lenA_cons lenA_nil)) rfl) pad_nil rfl) rfl) (lenA_cons (lenA_cons lenA_nil)) rfl) pad_nil rfl) (lenA_cons lenA_nil) rfl)))) rfl)
  (pssd_cons (psd_expr (d_append c (d_var 6 nm_due rfl rfl) (ped_tupN (pad_cons (ped_tupN (pad_cons (d_var 1 nm_cells_so rfl rfl) (pad_cons (ped_tupN (pad_cons (ped_tupN (pad_cons d_int (pad_cons d_int pad_nil rfl) rfl) (lenA_cons (lenA_cons lenA_nil)) rfl) (pad_cons (ped_tupN (pad_cons d_int (pad_cons d_int pad_nil rfl) rfl) (lenA_cons (lenA_cons lenA_nil)) rfl) pad_nil rfl) rfl) (lenA_cons (lenA_cons lenA_nil)) rfl) pad_nil rfl) rfl) (lenA_cons (lenA_cons lenA_nil)) rfl) (pad_cons (ped_tupN (pad_cons (d_var 7 nm_acted_so rfl rfl) pad_nil rfl) (lenA_cons lenA_nil) rfl) pad_nil rfl) rfl) (lenA_cons (lenA_cons lenA_nil)) rfl) rfl rfl rfl) rfl)
  (pssd_cons (s_set 5 c rfl rfl rfl (ped_alloc (pld_add (d_var 5 nm_got rfl rfl) (ped_of_pld (pld_lstN (pad_cons (d_call c h_played nm_played rfl (pad_cons (d_var 0 nm_mill_so rfl rfl) (pad_cons (d_var 1 nm_cells_so rfl rfl) (pad_cons (ped_tupN (pad_cons (d_var 4 nm_none_so rfl rfl) (pad_cons (d_var 3 nm_rules_so rfl rfl) pad_nil rfl) rfl) (lenA_cons (lenA_cons lenA_nil)) rfl) (pad_cons d_int pad_nil rfl) rfl) rfl) rfl) rfl rfl) (pad_cons (d_call c h_played nm_played rfl (pad_cons (d_var 0 nm_mill_so rfl rfl) (pad_cons (d_var 1 nm_cells_so rfl rfl) (pad_cons (ped_tupN (pad_cons (d_var 3 nm_rules_so rfl rfl) pad_nil rfl) (lenA_cons lenA_nil) rfl) (pad_cons d_int pad_nil rfl) rfl) rfl) rfl) rfl rfl) pad_nil rfl) rfl) (lenA_cons (lenA_cons lenA_nil)) rfl)))) rfl)
  (pssd_cons (s_set 8 c rfl rfl rfl (ped_tupN (pad_cons (ped_tupN (pad_cons (ped_tupN (pad_cons (ped_un und_neg d_int) (pad_cons d_int pad_nil rfl) rfl) (lenA_cons (lenA_cons lenA_nil)) rfl) pad_nil rfl) (lenA_cons lenA_nil) rfl) (pad_cons (ped_tupN (pad_cons (ped_tupN (pad_cons d_int (pad_cons d_int pad_nil rfl) rfl) (lenA_cons (lenA_cons lenA_nil)) rfl) (pad_cons (ped_tupN (pad_cons d_int (pad_cons d_int pad_nil rfl) rfl) (lenA_cons (lenA_cons lenA_nil)) rfl) pad_nil rfl) rfl) (lenA_cons (lenA_cons lenA_nil)) rfl) (pad_cons (ped_tupN pad_nil lenA_nil rfl) pad_nil rfl) rfl) rfl) (lenA_cons (lenA_cons (lenA_cons lenA_nil))) rfl) rfl)
  (pssd_cons (s_set 6 c rfl rfl rfl (ped_alloc (pld_add (d_var 6 nm_due rfl rfl) (ped_of_pld (pld_lstN (pad_cons (ped_tupN (pad_cons (ped_tupN (pad_cons (d_var 1 nm_cells_so rfl rfl) (pad_cons (ped_tupN (pad_cons (ped_tupN (pad_cons d_int (pad_cons d_int pad_nil rfl) rfl) (lenA_cons (lenA_cons lenA_nil)) rfl) (pad_cons (ped_tupN (pad_cons d_int (pad_cons d_int pad_nil rfl) rfl) (lenA_cons (lenA_cons lenA_nil)) rfl) pad_nil rfl) rfl) (lenA_cons (lenA_cons lenA_nil)) rfl) (pad_cons (ped_tupN (pad_cons (ped_tupN (pad_cons (ped_un und_neg d_int) (pad_cons d_int pad_nil rfl) rfl) (lenA_cons (lenA_cons lenA_nil)) rfl) (pad_cons (ped_tupN (pad_cons d_int (pad_cons d_int pad_nil rfl) rfl) (lenA_cons (lenA_cons lenA_nil)) rfl) pad_nil rfl) rfl) (lenA_cons (lenA_cons lenA_nil)) rfl) pad_nil rfl) rfl) rfl) (lenA_cons (lenA_cons (lenA_cons lenA_nil))) rfl) (pad_cons (ped_tupN (pad_cons (d_var 2 nm_still_so rfl rfl) (pad_cons (d_var 8 nm_later_so rfl rfl) pad_nil rfl) rfl) (lenA_cons (lenA_cons lenA_nil)) rfl) pad_nil rfl) rfl) (lenA_cons (lenA_cons lenA_nil)) rfl) (pad_cons (ped_tupN (pad_cons (ped_tupN (pad_cons (d_var 1 nm_cells_so rfl rfl) pad_nil rfl) (lenA_cons lenA_nil) rfl) (pad_cons (ped_tupN pad_nil lenA_nil rfl) pad_nil rfl) rfl) (lenA_cons (lenA_cons lenA_nil)) rfl) pad_nil rfl) rfl) (lenA_cons (lenA_cons lenA_nil)) rfl)))) rfl)
  (pssd_cons (s_set 9 c rfl rfl rfl (ped_tupN (pad_cons (d_var 1 nm_cells_so rfl rfl) (pad_cons (ped_tupN (pad_cons (ped_tupN (pad_cons d_int (pad_cons d_int pad_nil rfl) rfl) (lenA_cons (lenA_cons lenA_nil)) rfl) (pad_cons (ped_tupN (pad_cons d_int (pad_cons d_int pad_nil rfl) rfl) (lenA_cons (lenA_cons lenA_nil)) rfl) pad_nil rfl) rfl) (lenA_cons (lenA_cons lenA_nil)) rfl) (pad_cons (ped_tupN (pad_cons (ped_tupN (pad_cons d_int (pad_cons d_int pad_nil rfl) rfl) (lenA_cons (lenA_cons lenA_nil)) rfl) (pad_cons (ped_tupN (pad_cons d_int (pad_cons d_int pad_nil rfl) rfl) (lenA_cons (lenA_cons lenA_nil)) rfl) pad_nil rfl) rfl) (lenA_cons (lenA_cons lenA_nil)) rfl) (pad_cons (ped_tupN (pad_cons (ped_tupN (pad_cons d_int (pad_cons d_int pad_nil rfl) rfl) (lenA_cons (lenA_cons lenA_nil)) rfl) (pad_cons (ped_tupN (pad_cons d_int (pad_cons d_int pad_nil rfl) rfl) (lenA_cons (lenA_cons lenA_nil)) rfl) pad_nil rfl) rfl) (lenA_cons (lenA_cons lenA_nil)) rfl) pad_nil rfl) rfl) rfl) rfl) (lenA_cons (lenA_cons (lenA_cons (lenA_cons lenA_nil)))) rfl) rfl)
  (pssd_cons (s_set 5 c rfl rfl rfl (ped_alloc (pld_add (d_var 5 nm_got rfl rfl) (ped_of_pld (pld_lstN (pad_cons (d_call c h_idled nm_idled rfl (pad_cons (d_var 0 nm_mill_so rfl rfl) (pad_cons (d_var 1 nm_cells_so rfl rfl) (pad_cons d_int pad_nil rfl) rfl) rfl) rfl rfl) (pad_cons (d_call c h_shown_along nm_shown_along rfl (pad_cons (ped_tupN (pad_cons (ped_tupN (pad_cons d_int (pad_cons d_int pad_nil rfl) rfl) (lenA_cons (lenA_cons lenA_nil)) rfl) (pad_cons (ped_tupN (pad_cons (ped_un und_neg d_int) (pad_cons d_int pad_nil rfl) rfl) (lenA_cons (lenA_cons lenA_nil)) rfl) pad_nil rfl) rfl) (lenA_cons (lenA_cons lenA_nil)) rfl) (pad_cons (d_call c h_idled nm_idled rfl (pad_cons (d_var 0 nm_mill_so rfl rfl) (pad_cons (d_var 1 nm_cells_so rfl rfl) (pad_cons d_int pad_nil rfl) rfl) rfl) rfl rfl) pad_nil rfl) rfl) rfl rfl) pad_nil rfl) rfl) (lenA_cons (lenA_cons lenA_nil)) rfl)))) rfl)
  (pssd_cons (s_set 6 c rfl rfl rfl (ped_alloc (pld_add (d_var 6 nm_due rfl rfl) (ped_of_pld (pld_lstN (pad_cons (ped_tupN (pad_cons (d_var 9 nm_line_so rfl rfl) (pad_cons (ped_bin (opd_mul c.K) (ped_tupN (pad_cons (d_var 2 nm_still_so rfl rfl) pad_nil rfl) (lenA_cons lenA_nil) rfl) d_int) pad_nil rfl) rfl) (lenA_cons (lenA_cons lenA_nil)) rfl) (pad_cons (ped_tupN (pad_cons (ped_tupN (pad_cons (ped_un und_neg d_int) (pad_cons d_int pad_nil rfl) rfl) (lenA_cons (lenA_cons lenA_nil)) rfl) (pad_cons (ped_tupN (pad_cons (ped_un und_neg d_int) (pad_cons d_int pad_nil rfl) rfl) (lenA_cons (lenA_cons lenA_nil)) rfl) (pad_cons (ped_tupN (pad_cons (ped_un und_neg d_int) (pad_cons d_int pad_nil rfl) rfl) (lenA_cons (lenA_cons lenA_nil)) rfl) (pad_cons (ped_tupN (pad_cons (ped_un und_neg d_int) (pad_cons d_int pad_nil rfl) rfl) (lenA_cons (lenA_cons lenA_nil)) rfl) pad_nil rfl) rfl) rfl) rfl) (lenA_cons (lenA_cons (lenA_cons (lenA_cons lenA_nil)))) rfl) pad_nil rfl) rfl) (lenA_cons (lenA_cons lenA_nil)) rfl)))) rfl)
  (pssd_cons (psd_expr (d_append c (d_var 5 nm_got rfl rfl) (d_call c h_steadied nm_steadied rfl (pad_cons (d_var 0 nm_mill_so rfl rfl) (pad_cons (d_var 1 nm_cells_so rfl rfl) (pad_cons (d_call0 c h__law_steady_ones nm__law_steady_ones rfl) (pad_cons d_int pad_nil rfl) rfl) rfl) rfl) rfl rfl) rfl rfl rfl) rfl)
  (pssd_cons (by first | exact psd_par c.calm c.nd (i := 10) (j := 11) rfl rfl (by decide) rfl rfl (pad_cons (ped_tupN (pad_cons (ped_tupN (pad_cons (ped_tupN (pad_cons d_int (pad_cons d_int pad_nil rfl) rfl) (lenA_cons (lenA_cons lenA_nil)) rfl) pad_nil rfl) (lenA_cons lenA_nil) rfl) (pad_cons (ped_tupN (pad_cons (ped_tupN (pad_cons d_int (pad_cons d_int pad_nil rfl) rfl) (lenA_cons (lenA_cons lenA_nil)) rfl) (pad_cons (ped_tupN (pad_cons d_int (pad_cons d_int pad_nil rfl) rfl) (lenA_cons (lenA_cons lenA_nil)) rfl) pad_nil rfl) rfl) (lenA_cons (lenA_cons lenA_nil)) rfl) (pad_cons (ped_tupN pad_nil lenA_nil rfl) pad_nil rfl) rfl) rfl) (lenA_cons (lenA_cons (lenA_cons lenA_nil))) rfl) (pad_cons (ped_tupN (pad_cons (ped_tupN (pad_cons (ped_tupN (pad_cons d_int (pad_cons d_int pad_nil rfl) rfl) (lenA_cons (lenA_cons lenA_nil)) rfl) pad_nil rfl) (lenA_cons lenA_nil) rfl) (pad_cons (ped_tupN (pad_cons (ped_tupN (pad_cons d_int (pad_cons d_int pad_nil rfl) rfl) (lenA_cons (lenA_cons lenA_nil)) rfl) (pad_cons (ped_tupN (pad_cons d_int (pad_cons d_int pad_nil rfl) rfl) (lenA_cons (lenA_cons lenA_nil)) rfl) pad_nil rfl) rfl) (lenA_cons (lenA_cons lenA_nil)) rfl) (pad_cons (ped_tupN pad_nil lenA_nil rfl) pad_nil rfl) rfl) rfl) (lenA_cons (lenA_cons (lenA_cons lenA_nil))) rfl) pad_nil rfl) rfl) rfl | exact psd_tup (ped_tupN (pad_cons (ped_tupN (pad_cons (ped_tupN (pad_cons (ped_tupN (pad_cons d_int (pad_cons d_int pad_nil rfl) rfl) (lenA_cons (lenA_cons lenA_nil)) rfl) pad_nil rfl) (lenA_cons lenA_nil) rfl) (pad_cons (ped_tupN (pad_cons (ped_tupN (pad_cons d_int (pad_cons d_int pad_nil rfl) rfl) (lenA_cons (lenA_cons lenA_nil)) rfl) (pad_cons (ped_tupN (pad_cons d_int (pad_cons d_int pad_nil rfl) rfl) (lenA_cons (lenA_cons lenA_nil)) rfl) pad_nil rfl) rfl) (lenA_cons (lenA_cons lenA_nil)) rfl) (pad_cons (ped_tupN pad_nil lenA_nil rfl) pad_nil rfl) rfl) rfl) (lenA_cons (lenA_cons (lenA_cons lenA_nil))) rfl) (pad_cons (ped_tupN (pad_cons (ped_tupN (pad_cons (ped_tupN (pad_cons d_int (pad_cons d_int pad_nil rfl) rfl) (lenA_cons (lenA_cons lenA_nil)) rfl) pad_nil rfl) (lenA_cons lenA_nil) rfl) (pad_cons (ped_tupN (pad_cons (ped_tupN (pad_cons d_int (pad_cons d_int pad_nil rfl) rfl) (lenA_cons (lenA_cons lenA_nil)) rfl) (pad_cons (ped_tupN (pad_cons d_int (pad_cons d_int pad_nil rfl) rfl) (lenA_cons (lenA_cons lenA_nil)) rfl) pad_nil rfl) rfl) (lenA_cons (lenA_cons lenA_nil)) rfl) (pad_cons (ped_tupN pad_nil lenA_nil rfl) pad_nil rfl) rfl) rfl) (lenA_cons (lenA_cons (lenA_cons lenA_nil))) rfl) pad_nil rfl) rfl) (lenA_cons (lenA_cons lenA_nil)) rfl) (pgd_many c.K c.calm rfl rfl (gs_cons 10 c.nd rfl rfl rfl (gs_cons 11 c.nd rfl rfl rfl pgsd_nil))) rfl rfl)
  (pssd_cons (psd_expr (d_append c (d_var 6 nm_due rfl rfl) (ped_tupN (pad_cons (ped_tupN (pad_cons (d_var 1 nm_cells_so rfl rfl) (pad_cons (ped_tupN (pad_cons (ped_tupN (pad_cons d_int (pad_cons d_int pad_nil rfl) rfl) (lenA_cons (lenA_cons lenA_nil)) rfl) (pad_cons (ped_tupN (pad_cons d_int (pad_cons d_int pad_nil rfl) rfl) (lenA_cons (lenA_cons lenA_nil)) rfl) pad_nil rfl) rfl) (lenA_cons (lenA_cons lenA_nil)) rfl) (pad_cons (ped_tupN (pad_cons (ped_tupN (pad_cons d_int (pad_cons d_int pad_nil rfl) rfl) (lenA_cons (lenA_cons lenA_nil)) rfl) (pad_cons (ped_tupN (pad_cons d_int (pad_cons d_int pad_nil rfl) rfl) (lenA_cons (lenA_cons lenA_nil)) rfl) pad_nil rfl) rfl) (lenA_cons (lenA_cons lenA_nil)) rfl) pad_nil rfl) rfl) rfl) (lenA_cons (lenA_cons (lenA_cons lenA_nil))) rfl) (pad_cons (ped_tupN (pad_cons (d_var 10 nm_first_so rfl rfl) (pad_cons (d_var 11 nm_next_so rfl rfl) pad_nil rfl) rfl) (lenA_cons (lenA_cons lenA_nil)) rfl) pad_nil rfl) rfl) (lenA_cons (lenA_cons lenA_nil)) rfl) rfl rfl rfl) rfl)
  (pssd_cons (psd_expr (d_append c (d_var 5 nm_got rfl rfl) (d_call c h_apart nm_apart rfl (pad_cons (d_call c h_idled nm_idled rfl (pad_cons (d_var 0 nm_mill_so rfl rfl) (pad_cons (d_var 1 nm_cells_so rfl rfl) (pad_cons d_int pad_nil rfl) rfl) rfl) rfl rfl) (pad_cons (d_call c h_idled nm_idled rfl (pad_cons (d_var 0 nm_mill_so rfl rfl) (pad_cons (ped_tupN (pad_cons (ped_tupN (pad_cons d_int (pad_cons d_int pad_nil rfl) rfl) (lenA_cons (lenA_cons lenA_nil)) rfl) (pad_cons (ped_tupN (pad_cons d_int (pad_cons d_int pad_nil rfl) rfl) (lenA_cons (lenA_cons lenA_nil)) rfl) pad_nil rfl) rfl) (lenA_cons (lenA_cons lenA_nil)) rfl) (pad_cons d_int pad_nil rfl) rfl) rfl) rfl rfl) pad_nil rfl) rfl) rfl rfl) rfl rfl rfl) rfl)
  (pssd_cons (psd_expr (d_append c (d_var 6 nm_due rfl rfl) (ped_tupN (pad_cons (ped_tupN (pad_cons (ped_tupN (pad_cons d_int (pad_cons d_int pad_nil rfl) rfl) (lenA_cons (lenA_cons lenA_nil)) rfl) (pad_cons (ped_tupN (pad_cons d_int (pad_cons d_int pad_nil rfl) rfl) (lenA_cons (lenA_cons lenA_nil)) rfl) pad_nil rfl) rfl) (lenA_cons (lenA_cons lenA_nil)) rfl) (pad_cons (ped_tupN (pad_cons (ped_tupN (pad_cons d_int (pad_cons d_int pad_nil rfl) rfl) (lenA_cons (lenA_cons lenA_nil)) rfl) (pad_cons (ped_tupN (pad_cons d_int (pad_cons d_int pad_nil rfl) rfl) (lenA_cons (lenA_cons lenA_nil)) rfl) pad_nil rfl) rfl) (lenA_cons (lenA_cons lenA_nil)) rfl) pad_nil rfl) rfl) (lenA_cons (lenA_cons lenA_nil)) rfl) rfl rfl rfl) rfl)
  (pssd_cons (psd_expr (d_append c (d_var 5 nm_got rfl rfl) (d_call c h_idled nm_idled rfl (pad_cons (ped_tupN (pad_cons (ped_tupN (pad_cons (ped_tupN (pad_cons (ped_tupN (pad_cons d_int (pad_cons d_int pad_nil rfl) rfl) (lenA_cons (lenA_cons lenA_nil)) rfl) pad_nil rfl) (lenA_cons lenA_nil) rfl) pad_nil rfl) (lenA_cons lenA_nil) rfl) (pad_cons (ped_tupN pad_nil lenA_nil rfl) pad_nil rfl) rfl) (lenA_cons (lenA_cons lenA_nil)) rfl) (pad_cons (ped_tupN (pad_cons (ped_tupN (pad_cons d_int (pad_cons d_int pad_nil rfl) rfl) (lenA_cons (lenA_cons lenA_nil)) rfl) pad_nil rfl) (lenA_cons lenA_nil) rfl) (pad_cons d_int pad_nil rfl) rfl) rfl) rfl rfl) rfl rfl rfl) rfl)
  (pssd_cons (psd_ret (d_call c h__law_same nm__law_same rfl (pad_cons (d_var 5 nm_got rfl rfl) (pad_cons (ped_bin (opd_add c.K) (d_var 6 nm_due rfl rfl) (ped_of_pld (pld_lstN (pad_cons (ped_tupN (pad_cons (ped_tupN (pad_cons (ped_tupN (pad_cons (ped_tupN (pad_cons d_int (pad_cons d_int pad_nil rfl) rfl) (lenA_cons (lenA_cons lenA_nil)) rfl) pad_nil rfl) (lenA_cons lenA_nil) rfl) (pad_cons (ped_tupN (pad_cons (ped_tupN (pad_cons d_int (pad_cons d_int pad_nil rfl) rfl) (lenA_cons (lenA_cons lenA_nil)) rfl) pad_nil rfl) (lenA_cons lenA_nil) rfl) (pad_cons (ped_tupN (pad_cons (ped_tupN (pad_cons d_int (pad_cons d_int pad_nil rfl) rfl) (lenA_cons (lenA_cons lenA_nil)) rfl) pad_nil rfl) (lenA_cons lenA_nil) rfl) pad_nil rfl) rfl) rfl) (lenA_cons (lenA_cons (lenA_cons lenA_nil))) rfl) (pad_cons (ped_tupN (pad_cons (ped_tupN pad_nil lenA_nil rfl) (pad_cons (ped_tupN pad_nil lenA_nil rfl) pad_nil rfl) rfl) (lenA_cons (lenA_cons lenA_nil)) rfl) pad_nil rfl) rfl) (lenA_cons (lenA_cons lenA_nil)) rfl) pad_nil rfl) (lenA_cons lenA_nil) rfl))) pad_nil rfl) rfl) rfl rfl))
  pssd_nil)))))))))))))))))))))⟩
noncomputable def S__law_played_right : FN := callD 12 T__law_played_right.1
theorem ok__law_played_right {P : Program} {w : World} {G : Gd} {mg : Str → Option Value} {base : Heap} {k : Nat} (C : Cn G mg) (h__law_same : Fn P w G (XRK G) mg base k "_law_same" (defArgs (top 50)) 2 (S__law_same 10)) (h__law_mill : Fn P w G (XRK G) mg base k "_law_mill" (defArgs (top 51)) 0 S__law_mill) (h_seen : Fn P w G (XRK G) mg base k "seen" (defArgs (top 34)) 2 S_seen) (h_ticked : Fn P w G (XRK G) mg base k "ticked" (defArgs (top 36)) 3 S_ticked) (h_steadied : Fn P w G (XRK G) mg base k "steadied" (defArgs (top 41)) 4 S_steadied) (h_apart : Fn P w G (XRK G) mg base k "apart" (defArgs (top 44)) 2 S_apart) (h_idled : Fn P w G (XRK G) mg base k "idled" (defArgs (top 40)) 3 S_idled) (h_played : Fn P w G (XRK G) mg base k "played" (defArgs (top 39)) 4 S_played) (h_shown_along : Fn P w G (XRK G) mg base k "shown_along" (defArgs (top 42)) 2 S_shown_along) (h__law_steady_ones : Fn P w G (XRK G) mg base k "_law_steady_ones" (defArgs (top 53)) 0 S__law_steady_ones) {a : Addr} {fd : FuncData} (F : FunD G.K "_law_played_right" "_law_played_right" (defArgs (top 54)) (defBody (top 54)) (defScope (top 54)) [] [] a fd) (hm : mg "_law_played_right" = some (.ref a)) : Fn P w G (XRK G) mg base (k + 1) "_law_played_right" (defArgs (top 54)) 0 S__law_played_right :=
  fn_mk (k := k) (N := N__law_played_right) (ps := ([] : List Str)) (xr1_ok _ _ _) F sc__law_played_right hm rfl rfl (fun _ _ _ _ _ _ us hl => match us, hl with | [], _ => rfl) (fun cdv A outer s H E hr => T__law_played_right.2 C h__law_same h__law_mill h_seen h_ticked h_steadied h_apart h_idled h_played h_shown_along h__law_steady_ones a cdv A outer s H E hr)

abbrev N__law_together_right : List Str := ["mill_so", "rules_so", "still_so", "near_so", "far_so", "got", "due", "later_so", "k"]
theorem nd__law_together_right : (N__law_together_right).Nodup := by decide +kernel
theorem sc__law_together_right : FnScope N__law_together_right ([] : List Str) (defScope (top 55)) := ⟨rfl, rfl, rfl, nd__law_together_right, rfl, by decide +kernel, by decide +kernel⟩
noncomputable def T__law_together_right : { fb : FS // ∀ {P : Program} {w : World} {G : Gd} {mg : Str → Option Value} {base : Heap} {k : Nat} (C : Cn G mg) (h_idled : Fn P w G (XRK G) mg base k "idled" (defArgs (top 40)) 3 S_idled) (h__law_same : Fn P w G (XRK G) mg base k "_law_same" (defArgs (top 50)) 2 (S__law_same 10)) (h__law_mill : Fn P w G (XRK G) mg base k "_law_mill" (defArgs (top 51)) 0 S__law_mill) (h_played : Fn P w G (XRK G) mg base k "played" (defArgs (top 39)) 4 S_played) (h_all_together : Fn P w G (XRK G) mg base k "all_together" (defArgs (top 47)) 3 S_all_together) (h_go_together : Fn P w G (XRK G) mg base k "go_together" (defArgs (top 45)) 4 S_go_together) (h_is_play : Fn P w G (XRK G) mg base k "is_play" (defArgs (top 32)) 2 S_is_play) (a : Addr) (cdv : Value) (A : Around) (outer : List Env) (s : Shared) (H : Hp) (E : XK), Room k (bodyX P w G.K mg base N__law_together_right "_law_together_right" (defScope (top 55)) a cdv A outer s H E).A → PSsd G (XRK G) (bodyX P w G.K mg base N__law_together_right "_law_together_right" (defScope (top 55)) a cdv A outer s H E) (WE0 E) (defBody (top 55)) fb } :=
  ⟨_, fun {P w G mg base k} C h_idled h__law_same h__law_mill h_played h_all_together h_go_together h_is_play a cdv A outer s H E hr =>
  have ow : PassesOwn (model P w) (bodyX P w G.K mg base N__law_together_right "_law_together_right" (defScope (top 55)) a cdv A outer s H E).A (bodyX P w G.K mg base N__law_together_right "_law_together_right" (defScope (top 55)) a cdv A outer s H E).env (bodyX P w G.K mg base N__law_together_right "_law_together_right" (defScope (top 55)) a cdv A outer s H E).xe := own_body
  have c : Cc G (bodyX P w G.K mg base N__law_together_right "_law_together_right" (defScope (top 55)) a cdv A outer s H E) (WE0 E) k := ⟨rfl, rfl, nd__law_together_right, hr, takes_body⟩
  (pssd_cons (psd_tup (ped_tupN (pad_cons (d_call0 c h__law_mill nm__law_mill rfl) (pad_cons (ped_tupN (pad_cons (ped_tupN (pad_cons (ped_tupN (pad_cons (ped_tupN (pad_cons (ped_un und_neg d_int) (pad_cons d_int pad_nil rfl) rfl) (lenA_cons (lenA_cons lenA_nil)) rfl) pad_nil rfl) (lenA_cons lenA_nil) rfl) pad_nil rfl) (lenA_cons lenA_nil) rfl) (pad_cons (ped_tupN (pad_cons (ped_tupN pad_nil lenA_nil rfl) (pad_cons (ped_tupN pad_nil lenA_nil rfl) pad_nil rfl) rfl) (lenA_cons (lenA_cons lenA_nil)) rfl) (pad_cons (ped_tupN pad_nil lenA_nil rfl) pad_nil rfl) rfl) rfl) (lenA_cons (lenA_cons (lenA_cons lenA_nil))) rfl) pad_nil rfl) rfl) (lenA_cons (lenA_cons lenA_nil)) rfl) (pgd_many c.K c.calm rfl rfl (gs_cons 0 c.nd rfl rfl rfl (gs_cons 1 c.nd rfl rfl rfl pgsd_nil))) rfl rfl)
  (pssd_cons (s_set 2 c rfl rfl rfl (ped_tupN (pad_cons (ped_tupN (pad_cons (ped_tupN (pad_cons d_int (pad_cons d_int pad_nil rfl) rfl) (lenA_cons (lenA_cons lenA_nil)) rfl) pad_nil rfl) (lenA_cons lenA_nil) rfl) (pad_cons (ped_tupN (pad_cons (ped_tupN (pad_cons d_int (pad_cons d_int pad_nil rfl) rfl) (lenA_cons (lenA_cons lenA_nil)) rfl) (pad_cons (ped_tupN (pad_cons d_int (pad_cons d_int pad_nil rfl) rfl) (lenA_cons (lenA_cons lenA_nil)) rfl) pad_nil rfl) rfl) (lenA_cons (lenA_cons lenA_nil)) rfl) (pad_cons (ped_tupN pad_nil lenA_nil rfl) pad_nil rfl) rfl) rfl) (lenA_cons (lenA_cons (lenA_cons lenA_nil))) rfl) rfl)
  (pssd_cons (psd_tup (ped_tupN (pad_cons (d_call c h_played nm_played rfl (pad_cons (d_var 0 nm_mill_so rfl rfl) (pad_cons (ped_tupN (pad_cons (ped_tupN (pad_cons d_int (pad_cons d_int pad_nil rfl) rfl) (lenA_cons (lenA_cons lenA_nil)) rfl) (pad_cons (ped_tupN (pad_cons d_int (pad_cons d_int pad_nil rfl) rfl) (lenA_cons (lenA_cons lenA_nil)) rfl) pad_nil rfl) rfl) (lenA_cons (lenA_cons lenA_nil)) rfl) (pad_cons (ped_tupN (pad_cons (d_var 1 nm_rules_so rfl rfl) pad_nil rfl) (lenA_cons lenA_nil) rfl) (pad_cons d_int pad_nil rfl) rfl) rfl) rfl) rfl rfl) (pad_cons (d_call c h_idled nm_idled rfl (pad_cons (d_var 0 nm_mill_so rfl rfl) (pad_cons (ped_tupN (pad_cons (ped_tupN (pad_cons d_int (pad_cons d_int pad_nil rfl) rfl) (lenA_cons (lenA_cons lenA_nil)) rfl) (pad_cons (ped_tupN (pad_cons d_int (pad_cons d_int pad_nil rfl) rfl) (lenA_cons (lenA_cons lenA_nil)) rfl) pad_nil rfl) rfl) (lenA_cons (lenA_cons lenA_nil)) rfl) (pad_cons d_int pad_nil rfl) rfl) rfl) rfl rfl) pad_nil rfl) rfl) (lenA_cons (lenA_cons lenA_nil)) rfl) (pgd_many c.K c.calm rfl rfl (gs_cons 3 c.nd rfl rfl rfl (gs_cons 4 c.nd rfl rfl rfl pgsd_nil))) rfl rfl)
  (pssd_cons (s_set 5 c rfl rfl rfl (ped_of_pld (pld_lstN (pad_cons (ped_of_pld (d_comp c [("k", 8)] (.one 8) (pid_range1 rfl C.f_range (pad_cons d_int pad_nil rfl) rfl) (by kernel_rfl) rfl (fun _ _ _ _ _ => (g_one 8 c.nd rfl rfl rfl)) (fun _ _ _ _ _ => ptsd_nil) (fun _ _ _ _ _ => (d_call c.blk h_go_together nm_go_together rfl (pad_cons (d_var 0 nm_mill_so rfl rfl) (pad_cons (d_var 8 nm_k rfl rfl) (pad_cons (d_var 3 nm_near_so rfl rfl) (pad_cons (d_var 4 nm_far_so rfl rfl) pad_nil rfl) rfl) rfl) rfl) rfl rfl)) (fun _ => rfl))) (pad_cons (d_call c h_all_together nm_all_together rfl (pad_cons (d_var 0 nm_mill_so rfl rfl) (pad_cons (d_var 3 nm_near_so rfl rfl) (pad_cons (d_var 4 nm_far_so rfl rfl) pad_nil rfl) rfl) rfl) rfl rfl) pad_nil rfl) rfl) (lenA_cons (lenA_cons lenA_nil)) rfl)) rfl)
  (pssd_cons (s_set 6 c rfl rfl rfl (ped_of_pld (pld_lstN (pad_cons (ped_of_pld (pld_lstN (pad_cons d_bl (pad_cons d_bl (pad_cons d_bl pad_nil rfl) rfl) rfl) (lenA_cons (lenA_cons (lenA_cons lenA_nil))) rfl)) (pad_cons d_bl pad_nil rfl) rfl) (lenA_cons (lenA_cons lenA_nil)) rfl)) rfl)
  (pssd_cons (s_set 3 c rfl rfl rfl (ped_tupN (pad_cons (ped_tupN (pad_cons (ped_tupN (pad_cons (ped_tupN (pad_cons d_int (pad_cons d_int pad_nil rfl) rfl) (lenA_cons (lenA_cons lenA_nil)) rfl) (pad_cons (ped_tupN (pad_cons d_int (pad_cons d_int pad_nil rfl) rfl) (lenA_cons (lenA_cons lenA_nil)) rfl) pad_nil rfl) rfl) (lenA_cons (lenA_cons lenA_nil)) rfl) (pad_cons (ped_tupN (pad_cons (ped_tupN (pad_cons d_int (pad_cons d_int pad_nil rfl) rfl) (lenA_cons (lenA_cons lenA_nil)) rfl) (pad_cons (ped_tupN (pad_cons d_int (pad_cons d_int pad_nil rfl) rfl) (lenA_cons (lenA_cons lenA_nil)) rfl) pad_nil rfl) rfl) (lenA_cons (lenA_cons lenA_nil)) rfl) pad_nil rfl) rfl) (lenA_cons (lenA_cons lenA_nil)) rfl) (pad_cons (ped_tupN (pad_cons (ped_tupN (pad_cons (ped_tupN (pad_cons (ped_tupN (pad_cons d_int (pad_cons d_int pad_nil rfl) rfl) (lenA_cons (lenA_cons lenA_nil)) rfl) pad_nil rfl) (lenA_cons lenA_nil) rfl) (pad_cons (ped_tupN (pad_cons (ped_tupN (pad_cons d_int (pad_cons d_int pad_nil rfl) rfl) (lenA_cons (lenA_cons lenA_nil)) rfl) (pad_cons (ped_tupN (pad_cons d_int (pad_cons d_int pad_nil rfl) rfl) (lenA_cons (lenA_cons lenA_nil)) rfl) pad_nil rfl) rfl) (lenA_cons (lenA_cons lenA_nil)) rfl) (pad_cons (ped_tupN pad_nil lenA_nil rfl) pad_nil rfl) rfl) rfl) (lenA_cons (lenA_cons (lenA_cons lenA_nil))) rfl) pad_nil rfl) (lenA_cons lenA_nil) rfl) pad_nil rfl) rfl) (lenA_cons (lenA_cons lenA_nil)) rfl) rfl)
  (pssd_cons (s_set 4 c rfl rfl rfl (d_call c h_idled nm_idled rfl (pad_cons (d_var 0 nm_mill_so rfl rfl) (pad_cons (ped_tupN (pad_cons (ped_tupN (pad_cons d_int (pad_cons d_int pad_nil rfl) rfl) (lenA_cons (lenA_cons lenA_nil)) rfl) (pad_cons (ped_tupN (pad_cons d_int (pad_cons d_int pad_nil rfl) rfl) (lenA_cons (lenA_cons lenA_nil)) rfl) pad_nil rfl) rfl) (lenA_cons (lenA_cons lenA_nil)) rfl) (pad_cons d_int pad_nil rfl) rfl) rfl) rfl rfl) rfl)
  (pssd_cons (s_set 5 c rfl rfl rfl (ped_bin (opd_add c.K) (d_var 5 nm_got rfl rfl) (ped_of_pld (pld_lstN (pad_cons (ped_of_pld (d_comp c [("k", 8)] (.one 8) (pid_range1 rfl C.f_range (pad_cons d_int pad_nil rfl) rfl) (by kernel_rfl) rfl (fun _ _ _ _ _ => (g_one 8 c.nd rfl rfl rfl)) (fun _ _ _ _ _ => ptsd_nil) (fun _ _ _ _ _ => (d_call c.blk h_go_together nm_go_together rfl (pad_cons (d_var 0 nm_mill_so rfl rfl) (pad_cons (d_var 8 nm_k rfl rfl) (pad_cons (d_var 3 nm_near_so rfl rfl) (pad_cons (d_var 4 nm_far_so rfl rfl) pad_nil rfl) rfl) rfl) rfl) rfl rfl)) (fun _ => rfl))) (pad_cons (d_call c h_all_together nm_all_together rfl (pad_cons (d_var 0 nm_mill_so rfl rfl) (pad_cons (d_var 3 nm_near_so rfl rfl) (pad_cons (d_var 4 nm_far_so rfl rfl) pad_nil rfl) rfl) rfl) rfl rfl) pad_nil rfl) rfl) (lenA_cons (lenA_cons lenA_nil)) rfl))) rfl)
  (pssd_cons (s_set 6 c rfl rfl rfl (ped_bin (opd_add c.K) (d_var 6 nm_due rfl rfl) (ped_of_pld (pld_lstN (pad_cons (ped_of_pld (pld_lstN (pad_cons d_bl (pad_cons d_bl (pad_cons d_bl pad_nil rfl) rfl) rfl) (lenA_cons (lenA_cons (lenA_cons lenA_nil))) rfl)) (pad_cons d_bl pad_nil rfl) rfl) (lenA_cons (lenA_cons lenA_nil)) rfl))) rfl)
  (pssd_cons (s_set 3 c rfl rfl rfl (d_call c h_idled nm_idled rfl (pad_cons (d_var 0 nm_mill_so rfl rfl) (pad_cons (ped_tupN (pad_cons (ped_tupN (pad_cons d_int (pad_cons d_int pad_nil rfl) rfl) (lenA_cons (lenA_cons lenA_nil)) rfl) (pad_cons (ped_tupN (pad_cons d_int (pad_cons d_int pad_nil rfl) rfl) (lenA_cons (lenA_cons lenA_nil)) rfl) pad_nil rfl) rfl) (lenA_cons (lenA_cons lenA_nil)) rfl) (pad_cons d_int pad_nil rfl) rfl) rfl) rfl rfl) rfl)
  (pssd_cons (s_set 7 c rfl rfl rfl (ped_tupN (pad_cons (ped_tupN (pad_cons (ped_tupN (pad_cons d_int (pad_cons d_int pad_nil rfl) rfl) (lenA_cons (lenA_cons lenA_nil)) rfl) pad_nil rfl) (lenA_cons lenA_nil) rfl) (pad_cons (ped_tupN (pad_cons (ped_tupN (pad_cons d_int (pad_cons d_int pad_nil rfl) rfl) (lenA_cons (lenA_cons lenA_nil)) rfl) (pad_cons (ped_tupN (pad_cons d_int (pad_cons d_int pad_nil rfl) rfl) (lenA_cons (lenA_cons lenA_nil)) rfl) pad_nil rfl) rfl) (lenA_cons (lenA_cons lenA_nil)) rfl) (pad_cons (ped_tupN pad_nil lenA_nil rfl) pad_nil rfl) rfl) rfl) (lenA_cons (lenA_cons (lenA_cons lenA_nil))) rfl) rfl)
  (pssd_cons (s_set 4 c rfl rfl rfl (ped_tupN (pad_cons (ped_tupN (pad_cons (ped_tupN (pad_cons (ped_tupN (pad_cons (ped_un und_neg d_int) (pad_cons d_int pad_nil rfl) rfl) (lenA_cons (lenA_cons lenA_nil)) rfl) (pad_cons (ped_tupN (pad_cons d_int (pad_cons d_int pad_nil rfl) rfl) (lenA_cons (lenA_cons lenA_nil)) rfl) pad_nil rfl) rfl) (lenA_cons (lenA_cons lenA_nil)) rfl) (pad_cons (ped_tupN (pad_cons (ped_tupN (pad_cons (ped_un und_neg d_int) (pad_cons d_int pad_nil rfl) rfl) (lenA_cons (lenA_cons lenA_nil)) rfl) (pad_cons (ped_tupN (pad_cons d_int (pad_cons d_int pad_nil rfl) rfl) (lenA_cons (lenA_cons lenA_nil)) rfl) pad_nil rfl) rfl) (lenA_cons (lenA_cons lenA_nil)) rfl) (pad_cons (ped_tupN (pad_cons (ped_tupN (pad_cons d_int (pad_cons d_int pad_nil rfl) rfl) (lenA_cons (lenA_cons lenA_nil)) rfl) (pad_cons (ped_tupN (pad_cons (ped_un und_neg d_int) (pad_cons d_int pad_nil rfl) rfl) (lenA_cons (lenA_cons lenA_nil)) rfl) pad_nil rfl) rfl) (lenA_cons (lenA_cons lenA_nil)) rfl) pad_nil rfl) rfl) rfl) (lenA_cons (lenA_cons (lenA_cons lenA_nil))) rfl) (pad_cons (ped_tupN (pad_cons (d_var 2 nm_still_so rfl rfl) (pad_cons (d_var 7 nm_later_so rfl rfl) pad_nil rfl) rfl) (lenA_cons (lenA_cons lenA_nil)) rfl) pad_nil rfl) rfl) (lenA_cons (lenA_cons lenA_nil)) rfl) rfl)
  (pssd_cons (s_set 5 c rfl rfl rfl (ped_bin (opd_add c.K) (d_var 5 nm_got rfl rfl) (ped_of_pld (pld_lstN (pad_cons (d_call c h_is_play nm_is_play rfl (pad_cons (d_var 0 nm_mill_so rfl rfl) (pad_cons (d_var 4 nm_far_so rfl rfl) pad_nil rfl) rfl) rfl rfl) (pad_cons (ped_of_pld (d_comp c [("k", 8)] (.one 8) (pid_range1 rfl C.f_range (pad_cons d_int pad_nil rfl) rfl) (by kernel_rfl) rfl (fun _ _ _ _ _ => (g_one 8 c.nd rfl rfl rfl)) (fun _ _ _ _ _ => ptsd_nil) (fun _ _ _ _ _ => (d_call c.blk h_go_together nm_go_together rfl (pad_cons (d_var 0 nm_mill_so rfl rfl) (pad_cons (d_var 8 nm_k rfl rfl) (pad_cons (d_var 3 nm_near_so rfl rfl) (pad_cons (d_var 4 nm_far_so rfl rfl) pad_nil rfl) rfl) rfl) rfl) rfl rfl)) (fun _ => rfl))) pad_nil rfl) rfl) (lenA_cons (lenA_cons lenA_nil)) rfl))) rfl)
  (pssd_cons (s_set 5 c rfl rfl rfl (ped_bin (opd_add c.K) (d_var 5 nm_got rfl rfl) (ped_of_pld (pld_lstN (pad_cons (d_call c h_all_together nm_all_together rfl (pad_cons (d_var 0 nm_mill_so rfl rfl) (pad_cons (d_var 3 nm_near_so rfl rfl) (pad_cons (d_var 4 nm_far_so rfl rfl) pad_nil rfl) rfl) rfl) rfl rfl) (pad_cons (d_call c h_all_together nm_all_together rfl (pad_cons (d_var 0 nm_mill_so rfl rfl) (pad_cons (d_var 4 nm_far_so rfl rfl) (pad_cons (d_var 4 nm_far_so rfl rfl) pad_nil rfl) rfl) rfl) rfl rfl) pad_nil rfl) rfl) (lenA_cons (lenA_cons lenA_nil)) rfl))) rfl)
  (pssd_cons (psd_ret (d_call c h__law_same nm__law_same rfl (pad_cons (d_var 5 nm_got rfl rfl) (pad_cons (ped_bin (opd_add c.K) (d_var 6 nm_due rfl rfl) (ped_of_pld (pld_lstN (pad_cons d_bl (pad_cons (ped_of_pld (pld_lstN (pad_cons d_bl (pad_cons d_bl (pad_cons d_bl pad_nil rfl) rfl) rfl) (lenA_cons (lenA_cons (lenA_cons lenA_nil))) rfl)) (pad_cons d_bl (pad_cons d_bl pad_nil rfl) rfl) rfl) rfl) (lenA_cons (lenA_cons (lenA_cons (lenA_cons lenA_nil)))) rfl))) pad_nil rfl) rfl) rfl rfl))
  pssd_nil)))))))))))))))⟩
noncomputable def S__law_together_right : FN := callD 9 T__law_together_right.1
theorem ok__law_together_right {P : Program} {w : World} {G : Gd} {mg : Str → Option Value} {base : Heap} {k : Nat} (C : Cn G mg) (h_idled : Fn P w G (XRK G) mg base k "idled" (defArgs (top 40)) 3 S_idled) (h__law_same : Fn P w G (XRK G) mg base k "_law_same" (defArgs (top 50)) 2 (S__law_same 10)) (h__law_mill : Fn P w G (XRK G) mg base k "_law_mill" (defArgs (top 51)) 0 S__law_mill) (h_played : Fn P w G (XRK G) mg base k "played" (defArgs (top 39)) 4 S_played) (h_all_together : Fn P w G (XRK G) mg base k "all_together" (defArgs (top 47)) 3 S_all_together) (h_go_together : Fn P w G (XRK G) mg base k "go_together" (defArgs (top 45)) 4 S_go_together) (h_is_play : Fn P w G (XRK G) mg base k "is_play" (defArgs (top 32)) 2 S_is_play) {a : Addr} {fd : FuncData} (F : FunD G.K "_law_together_right" "_law_together_right" (defArgs (top 55)) (defBody (top 55)) (defScope (top 55)) [] [] a fd) (hm : mg "_law_together_right" = some (.ref a)) : Fn P w G (XRK G) mg base (k + 1) "_law_together_right" (defArgs (top 55)) 0 S__law_together_right :=
  fn_mk (k := k) (N := N__law_together_right) (ps := ([] : List Str)) (xr1_ok _ _ _) F sc__law_together_right hm rfl rfl (fun _ _ _ _ _ _ us hl => match us, hl with | [], _ => rfl) (fun cdv A outer s H E hr => T__law_together_right.2 C h_idled h__law_same h__law_mill h_played h_all_together h_go_together h_is_play a cdv A outer s H E hr)

abbrev N__law_great_right : List Str := ["lone_so", "near_so", "far_so", "both_so", "got", "mixed_so", "own", "bit"]
theorem nd__law_great_right : (N__law_great_right).Nodup := by decide +kernel
theorem sc__law_great_right : FnScope N__law_great_right ([] : List Str) (defScope (top 56)) := ⟨rfl, rfl, rfl, nd__law_great_right, rfl, by decide +kernel, by decide +kernel⟩
noncomputable def T__law_great_right : { fb : FS // ∀ {P : Program} {w : World} {G : Gd} {mg : Str → Option Value} {base : Heap} {k : Nat} (C : Cn G mg) (h__law_same : Fn P w G (XRK G) mg base k "_law_same" (defArgs (top 50)) 2 (S__law_same 10)) (h__law_lone : Fn P w G (XRK G) mg base k "_law_lone" (defArgs (top 52)) 0 S__law_lone) (h_is_play : Fn P w G (XRK G) mg base k "is_play" (defArgs (top 32)) 2 S_is_play) (h_go_together : Fn P w G (XRK G) mg base k "go_together" (defArgs (top 45)) 4 S_go_together) (h_apart : Fn P w G (XRK G) mg base k "apart" (defArgs (top 44)) 2 S_apart) (h_idled : Fn P w G (XRK G) mg base k "idled" (defArgs (top 40)) 3 S_idled) (a : Addr) (cdv : Value) (A : Around) (outer : List Env) (s : Shared) (H : Hp) (E : XK), Room k (bodyX P w G.K mg base N__law_great_right "_law_great_right" (defScope (top 56)) a cdv A outer s H E).A → PSsd G (XRK G) (bodyX P w G.K mg base N__law_great_right "_law_great_right" (defScope (top 56)) a cdv A outer s H E) (WE0 E) (defBody (top 56)) fb } :=
  ⟨_, fun {P w G mg base k} C h__law_same h__law_lone h_is_play h_go_together h_apart h_idled a cdv A outer s H E hr =>
  have ow : PassesOwn (model P w) (bodyX P w G.K mg base N__law_great_right "_law_great_right" (defScope (top 56)) a cdv A outer s H E).A (bodyX P w G.K mg base N__law_great_right "_law_great_right" (defScope (top 56)) a cdv A outer s H E).env (bodyX P w G.K mg base N__law_great_right "_law_great_right" (defScope (top 56)) a cdv A outer s H E).xe := own_body
  have c : Cc G (bodyX P w G.K mg base N__law_great_right "_law_great_right" (defScope (top 56)) a cdv A outer s H E) (WE0 E) k := ⟨rfl, rfl, nd__law_great_right, hr, takes_body⟩
  (pssd_cons (psd_tup (ped_tupN (pad_cons (d_call0 c h__law_lone nm__law_lone rfl) (pad_cons (ped_tupN (pad_cons (ped_bin opd_pow d_int d_int) (pad_cons d_int pad_nil rfl) rfl) (lenA_cons (lenA_cons lenA_nil)) rfl) (pad_cons (ped_tupN (pad_cons (ped_bin (opd_add c.K) (ped_bin opd_pow d_int d_int) d_int) (pad_cons d_int pad_nil rfl) rfl) (lenA_cons (lenA_cons lenA_nil)) rfl) pad_nil rfl) rfl) rfl) (lenA_cons (lenA_cons (lenA_cons lenA_nil))) rfl) (pgd_many c.K c.calm rfl rfl (gs_cons 0 c.nd rfl rfl rfl (gs_cons 1 c.nd rfl rfl rfl (gs_cons 2 c.nd rfl rfl rfl pgsd_nil)))) rfl rfl)
  (pssd_cons (s_setLc false 3 [("own", 6), ("bit", 7)] (.many [6, 7]) c rfl rfl rfl (pid_seq c.K (ped_tupN (pad_cons (ped_tupN (pad_cons (ped_tupN (pad_cons (ped_bin (opd_mul c.K) d_int (ped_bin opd_pow d_int d_int)) (pad_cons d_int pad_nil rfl) rfl) (lenA_cons (lenA_cons lenA_nil)) rfl) (pad_cons (d_var 1 nm_near_so rfl rfl) pad_nil rfl) rfl) (lenA_cons (lenA_cons lenA_nil)) rfl) (pad_cons (ped_tupN (pad_cons (ped_tupN (pad_cons (ped_bin (opd_add c.K) (ped_bin (opd_mul c.K) d_int (ped_bin opd_pow d_int d_int)) d_int) (pad_cons d_int pad_nil rfl) rfl) (lenA_cons (lenA_cons lenA_nil)) rfl) (pad_cons (d_var 2 nm_far_so rfl rfl) pad_nil rfl) rfl) (lenA_cons (lenA_cons lenA_nil)) rfl) pad_nil rfl) rfl) (lenA_cons (lenA_cons lenA_nil)) rfl)) (by kernel_rfl) rfl (fun _ _ _ _ _ => (pgd_many c.K c.calm rfl rfl (gs_cons 6 c.nd rfl rfl rfl (gs_cons 7 c.nd rfl rfl rfl pgsd_nil)))) (fun _ _ _ _ _ => ptsd_nil) (fun _ _ _ _ _ => (ped_tupN (pad_cons (ped_tupN (pad_cons (ped_tupN (pad_cons (d_var 1 nm_near_so rfl rfl) pad_nil rfl) (lenA_cons lenA_nil) rfl) (pad_cons (ped_tupN (pad_cons (d_var 6 nm_own rfl rfl) pad_nil rfl) (lenA_cons lenA_nil) rfl) pad_nil rfl) rfl) (lenA_cons (lenA_cons lenA_nil)) rfl) (pad_cons (ped_tupN (pad_cons (ped_tupN (pad_cons (ped_tupN (pad_cons (d_var 7 nm_bit rfl rfl) pad_nil rfl) (lenA_cons lenA_nil) rfl) pad_nil rfl) (lenA_cons lenA_nil) rfl) pad_nil rfl) (lenA_cons lenA_nil) rfl) pad_nil rfl) rfl) (lenA_cons (lenA_cons lenA_nil)) rfl)) (fun _ => rfl))
  (pssd_cons (s_set 4 c rfl rfl rfl (ped_bin (opd_add c.K) (ped_of_pld (d_comp c [("own", 6)] (.one 6) (pid_seq c.K (d_var 3 nm_both_so rfl rfl)) (by kernel_rfl) rfl (fun _ _ _ _ _ => (g_one 6 c.nd rfl rfl rfl)) (fun _ _ _ _ _ => ptsd_nil) (fun _ _ _ _ _ => (d_call c.blk h_is_play nm_is_play rfl (pad_cons (d_var 0 nm_lone_so rfl rfl) (pad_cons (d_var 6 nm_own rfl rfl) pad_nil rfl) rfl) rfl rfl)) (fun _ => rfl))) (ped_of_pld (pld_lstN (pad_cons (d_call c h_go_together nm_go_together rfl (pad_cons (d_var 0 nm_lone_so rfl rfl) (pad_cons d_int (pad_cons (ped_ix c.K (d_var 3 nm_both_so rfl rfl) d_int (fun _ _ => rfl)) (pad_cons (ped_ix c.K (d_var 3 nm_both_so rfl rfl) d_int (fun _ _ => rfl)) pad_nil rfl) rfl) rfl) rfl) rfl rfl) pad_nil rfl) (lenA_cons lenA_nil) rfl))) rfl)
  (pssd_cons (s_set 5 c rfl rfl rfl (ped_tupN (pad_cons (ped_ix c.K (ped_ix c.K (d_var 3 nm_both_so rfl rfl) d_int (fun _ _ => rfl)) d_int (fun _ _ => rfl)) (pad_cons (ped_ix c.K (ped_ix c.K (d_var 3 nm_both_so rfl rfl) d_int (fun _ _ => rfl)) d_int (fun _ _ => rfl)) pad_nil rfl) rfl) (lenA_cons (lenA_cons lenA_nil)) rfl) rfl)
  (pssd_cons (s_set 4 c rfl rfl rfl (ped_bin (opd_add c.K) (d_var 4 nm_got rfl rfl) (ped_of_pld (pld_lstN (pad_cons (d_call c h_is_play nm_is_play rfl (pad_cons (d_var 0 nm_lone_so rfl rfl) (pad_cons (d_var 5 nm_mixed_so rfl rfl) pad_nil rfl) rfl) rfl rfl) (pad_cons (d_call c h_go_together nm_go_together rfl (pad_cons (d_var 0 nm_lone_so rfl rfl) (pad_cons d_int (pad_cons (d_call c h_idled nm_idled rfl (pad_cons (d_var 0 nm_lone_so rfl rfl) (pad_cons (ped_tupN (pad_cons (d_var 1 nm_near_so rfl rfl) pad_nil rfl) (lenA_cons lenA_nil) rfl) (pad_cons d_int pad_nil rfl) rfl) rfl) rfl rfl) (pad_cons (ped_ix c.K (d_var 3 nm_both_so rfl rfl) d_int (fun _ _ => rfl)) pad_nil rfl) rfl) rfl) rfl) rfl rfl) pad_nil rfl) rfl) (lenA_cons (lenA_cons lenA_nil)) rfl))) rfl)
  (pssd_cons (s_set 4 c rfl rfl rfl (ped_bin (opd_add c.K) (d_var 4 nm_got rfl rfl) (ped_of_pld (pld_lstN (pad_cons (d_call c h_go_together nm_go_together rfl (pad_cons (d_var 0 nm_lone_so rfl rfl) (pad_cons d_int (pad_cons (d_call c h_idled nm_idled rfl (pad_cons (d_var 0 nm_lone_so rfl rfl) (pad_cons (ped_tupN (pad_cons (d_var 2 nm_far_so rfl rfl) pad_nil rfl) (lenA_cons lenA_nil) rfl) (pad_cons d_int pad_nil rfl) rfl) rfl) rfl rfl) (pad_cons (ped_ix c.K (d_var 3 nm_both_so rfl rfl) d_int (fun _ _ => rfl)) pad_nil rfl) rfl) rfl) rfl) rfl rfl) (pad_cons (d_call c h_apart nm_apart rfl (pad_cons (ped_ix c.K (d_var 3 nm_both_so rfl rfl) d_int (fun _ _ => rfl)) (pad_cons (ped_ix c.K (d_var 3 nm_both_so rfl rfl) d_int (fun _ _ => rfl)) pad_nil rfl) rfl) rfl rfl) pad_nil rfl) rfl) (lenA_cons (lenA_cons lenA_nil)) rfl))) rfl)
  (pssd_cons (psd_ret (d_call c h__law_same nm__law_same rfl (pad_cons (d_var 4 nm_got rfl rfl) (pad_cons (ped_of_pld (pld_lstN (pad_cons d_bl (pad_cons d_bl (pad_cons d_bl (pad_cons d_bl (pad_cons d_bl (pad_cons d_bl (pad_cons (ped_tupN (pad_cons (ped_tupN (pad_cons (ped_tupN (pad_cons d_int (pad_cons d_int pad_nil rfl) rfl) (lenA_cons (lenA_cons lenA_nil)) rfl) pad_nil rfl) (lenA_cons lenA_nil) rfl) (pad_cons (ped_tupN (pad_cons (ped_tupN (pad_cons d_int (pad_cons d_int pad_nil rfl) rfl) (lenA_cons (lenA_cons lenA_nil)) rfl) pad_nil rfl) (lenA_cons lenA_nil) rfl) pad_nil rfl) rfl) (lenA_cons (lenA_cons lenA_nil)) rfl) pad_nil rfl) rfl) rfl) rfl) rfl) rfl) rfl) (lenA_cons (lenA_cons (lenA_cons (lenA_cons (lenA_cons (lenA_cons (lenA_cons lenA_nil))))))) rfl)) pad_nil rfl) rfl) rfl rfl))
  pssd_nil)))))))⟩
noncomputable def S__law_great_right : FN := callD 8 T__law_great_right.1
theorem ok__law_great_right {P : Program} {w : World} {G : Gd} {mg : Str → Option Value} {base : Heap} {k : Nat} (C : Cn G mg) (h__law_same : Fn P w G (XRK G) mg base k "_law_same" (defArgs (top 50)) 2 (S__law_same 10)) (h__law_lone : Fn P w G (XRK G) mg base k "_law_lone" (defArgs (top 52)) 0 S__law_lone) (h_is_play : Fn P w G (XRK G) mg base k "is_play" (defArgs (top 32)) 2 S_is_play) (h_go_together : Fn P w G (XRK G) mg base k "go_together" (defArgs (top 45)) 4 S_go_together) (h_apart : Fn P w G (XRK G) mg base k "apart" (defArgs (top 44)) 2 S_apart) (h_idled : Fn P w G (XRK G) mg base k "idled" (defArgs (top 40)) 3 S_idled) {a : Addr} {fd : FuncData} (F : FunD G.K "_law_great_right" "_law_great_right" (defArgs (top 56)) (defBody (top 56)) (defScope (top 56)) [] [] a fd) (hm : mg "_law_great_right" = some (.ref a)) : Fn P w G (XRK G) mg base (k + 1) "_law_great_right" (defArgs (top 56)) 0 S__law_great_right :=
  fn_mk (k := k) (N := N__law_great_right) (ps := ([] : List Str)) (xr1_ok _ _ _) F sc__law_great_right hm rfl rfl (fun _ _ _ _ _ _ us hl => match us, hl with | [], _ => rfl) (fun cdv A outer s H E hr => T__law_great_right.2 C h__law_same h__law_lone h_is_play h_go_together h_apart h_idled a cdv A outer s H E hr)

abbrev N_law : List Str := ["script"]
theorem nd_law : (N_law).Nodup := by decide +kernel
theorem sc_law : FnScope N_law (["script"] : List Str) (defScope (top 62)) := ⟨rfl, rfl, rfl, nd_law, rfl, by decide +kernel, by decide +kernel⟩
noncomputable def T_law : { fb : FS // ∀ {P : Program} {w : World} {G : Gd} {mg : Str → Option Value} {base : Heap} {k : Nat} (C : Cn G mg) (h__law_things_right : Fn P w G (XRK G) mg base k "_law_things_right" (defArgs (top 57)) 0 S__law_things_right) (h__law_words_right : Fn P w G (XRK G) mg base k "_law_words_right" (defArgs (top 61)) 0 S__law_words_right) (h__law_beyond_right : Fn P w G (XRK G) mg base k "_law_beyond_right" (defArgs (top 60)) 0 S__law_beyond_right) (h__law_played_right : Fn P w G (XRK G) mg base k "_law_played_right" (defArgs (top 54)) 0 S__law_played_right) (h__law_together_right : Fn P w G (XRK G) mg base k "_law_together_right" (defArgs (top 55)) 0 S__law_together_right) (h__law_great_right : Fn P w G (XRK G) mg base k "_law_great_right" (defArgs (top 56)) 0 S__law_great_right) (a : Addr) (cdv : Value) (A : Around) (outer : List Env) (s : Shared) (H : Hp) (E : XK), Room k (bodyX P w G.K mg base N_law "law" (defScope (top 62)) a cdv A outer s H E).A → PSsd G (XRK G) (bodyX P w G.K mg base N_law "law" (defScope (top 62)) a cdv A outer s H E) (WE0 E) (defBody (top 62)) fb } :=
  ⟨_, fun {P w G mg base k} C h__law_things_right h__law_words_right h__law_beyond_right h__law_played_right h__law_together_right h__law_great_right a cdv A outer s H E hr =>
  have ow : PassesOwn (model P w) (bodyX P w G.K mg base N_law "law" (defScope (top 62)) a cdv A outer s H E).A (bodyX P w G.K mg base N_law "law" (defScope (top 62)) a cdv A outer s H E).env (bodyX P w G.K mg base N_law "law" (defScope (top 62)) a cdv A outer s H E).xe := own_body
  have c : Cc G (bodyX P w G.K mg base N_law "law" (defScope (top 62)) a cdv A outer s H E) (WE0 E) k := ⟨rfl, rfl, nd_law, hr, takes_body⟩
  (pssd_cons (psd_if (PWd.pcd (pwd_or (pcd_not (pcd_truth c.K (d_call0 c h__law_played_right nm__law_played_right rfl) (fun _ => rfl))) (pwd_or (pcd_not (pcd_truth c.K (d_call0 c h__law_together_right nm__law_together_right rfl) (fun _ => rfl))) (pwd_or1 (pcd_not (pcd_truth c.K (d_call0 c h__law_great_right nm__law_great_right rfl) (fun _ => rfl))))))) (pssd_cons (psd_ret d_bl)
  pssd_nil) pssd_nil)
  (pssd_cons (psd_ret (ped_and c.K (d_call0 c h__law_things_right nm__law_things_right rfl) (ped_and c.K (d_call0 c h__law_words_right nm__law_words_right rfl) (ped_one (d_call0 c h__law_beyond_right nm__law_beyond_right rfl)))))
  pssd_nil))⟩
noncomputable def S_law : FN := callD 1 T_law.1
theorem ok_law {P : Program} {w : World} {G : Gd} {mg : Str → Option Value} {base : Heap} {k : Nat} (C : Cn G mg) (h__law_things_right : Fn P w G (XRK G) mg base k "_law_things_right" (defArgs (top 57)) 0 S__law_things_right) (h__law_words_right : Fn P w G (XRK G) mg base k "_law_words_right" (defArgs (top 61)) 0 S__law_words_right) (h__law_beyond_right : Fn P w G (XRK G) mg base k "_law_beyond_right" (defArgs (top 60)) 0 S__law_beyond_right) (h__law_played_right : Fn P w G (XRK G) mg base k "_law_played_right" (defArgs (top 54)) 0 S__law_played_right) (h__law_together_right : Fn P w G (XRK G) mg base k "_law_together_right" (defArgs (top 55)) 0 S__law_together_right) (h__law_great_right : Fn P w G (XRK G) mg base k "_law_great_right" (defArgs (top 56)) 0 S__law_great_right) {a : Addr} {fd : FuncData} (F : FunD G.K "law" "law" (defArgs (top 62)) (defBody (top 62)) (defScope (top 62)) [] [] a fd) (hm : mg "law" = some (.ref a)) : Fn P w G (XRK G) mg base (k + 1) "law" (defArgs (top 62)) 1 S_law :=
  fn_mk (k := k) (N := N_law) (ps := (["script"] : List Str)) (xr1_ok _ _ _) F sc_law hm rfl rfl (fun _ _ _ _ _ _ us hl => match us, hl with | [a0], _ => rfl) (fun cdv A outer s H E hr => T_law.2 C h__law_things_right h__law_words_right h__law_beyond_right h__law_played_right h__law_together_right h__law_great_right a cdv A outer s H E hr)

end K32
namespace K32
open PySem PySem.Spec L2 Ev
open PyProof.Rows hiding St
theorem law_run (d : D) : S_law [d] [] = .ok (.bl true) [] := by kernel_rfl
theorem cn {G : Gd} {h : Heap} {mg : Str → Option Value} (X : G.K.In h) (N : h.Ns mainGlobals mg) (c : He.SaysD fa fn G.K) (k : chk G.K = true) : Cn G mg := by
  obtain ⟨k0, k⟩ := He.ba k
  obtain ⟨k1, k⟩ := He.ba k
  obtain ⟨k2, k⟩ := He.ba k
  obtain ⟨k3, k⟩ := He.ba k
  obtain ⟨k4, k⟩ := He.ba k
  obtain ⟨k5, k⟩ := He.ba k
  obtain ⟨k6, k⟩ := He.ba k
  have k7 := k
  exact ⟨He.free_ok X N (c.fact 53 (f := .free "LookupError") rfl),
    He.free_ok X N (c.fact 54 (f := .free "ValueError") rfl),
    He.free_ok X N (c.fact 55 (f := .free "all") rfl),
    He.free_ok X N (c.fact 56 (f := .free "bool") rfl),
    He.free_ok X N (c.fact 57 (f := .free "enumerate") rfl),
    He.free_ok X N (c.fact 58 (f := .free "int") rfl),
    He.free_ok X N (c.fact 59 (f := .free "isinstance") rfl),
    He.free_ok X N (c.fact 60 (f := .free "len") rfl),
    He.free_ok X N (c.fact 61 (f := .free "list") rfl),
    He.free_ok X N (c.fact 62 (f := .free "range") rfl),
    He.free_ok X N (c.fact 63 (f := .free "str") rfl),
    He.free_ok X N (c.fact 64 (f := .free "sum") rfl),
    He.free_ok X N (c.fact 65 (f := .free "tuple") rfl),
    He.free_ok X N (c.fact 66 (f := .free "zip") rfl),
    isVal_ok X N k0,
    isVal_ok X N k1,
    gv_tup2 X N (c.fact 67 (f := .glo "NONE") rfl) k2,
    He.glo_ok X N (c.fact 68 (f := .glo "NoHand") rfl),
    excB_ok k3,
    He.exm_ok (c.fact 71 (f := .exm "NoHand" "NoHand" true) rfl),
    He.exm_ok (c.fact 72 (f := .exm "NoHand" "Unfit" false) rfl),
    of_decide_eq_true k5,
    expB_ok k4,
    (expB_ok k4).no,
    ⟨c.def_ 53 (d := ddI 14 "NoHand" "NoHand.__init__") rfl, ⟨rfl, rfl, rfl, by decide +kernel, rfl, by decide +kernel, by decide +kernel⟩, vis_ok rfl, vis_ok rfl, ⟨by decide +kernel, by decide +kernel⟩, ⟨by decide +kernel, by decide +kernel⟩, fun _ => rfl, fun _ _ _ _ _ _ us hl => match us, hl with | [_, _], _ => rfl⟩,
    He.glo_ok X N (c.fact 69 (f := .glo "Unfit") rfl),
    excB_ok k6,
    He.exm_ok (c.fact 73 (f := .exm "Unfit" "NoHand" false) rfl),
    He.exm_ok (c.fact 74 (f := .exm "Unfit" "Unfit" true) rfl),
    of_decide_eq_true k7,
    (He.exc_ok (c.fact 70 (f := .exc "Unfit") rfl)).1,
    (He.exc_ok (c.fact 70 (f := .exc "Unfit") rfl)).2.1,
    (He.exc_ok (c.fact 70 (f := .exc "Unfit") rfl)).2.2.1,
    (He.exc_ok (c.fact 70 (f := .exc "Unfit") rfl)).2.2.2⟩
theorem law_ok {P : Program} {w : World} {G : Gd} {h : Heap} {mg : Str → Option Value} (X : G.K.In h) (N : h.Ns mainGlobals mg) (c : He.SaysD fa fn G.K) (k : chk G.K = true) :
    ∃ fd, FunD G.K "law" "law" (defArgs (top 62)) (defBody (top 62)) (defScope (top 62)) [] [] (He.ga G.K "law") fd ∧ ∀ base : Heap, FnOk P w G.K mg base (L2.CX P w) 15 (He.ga G.K "law") fd ["script"] (spD G (XRK G) 1 S_law) := by
  have C := cn X N c k
  obtain ⟨fd__law_mill, F__law_mill⟩ : ∃ fd, FunD G.K "_law_mill" "_law_mill" (defArgs (top 51)) (defBody (top 51)) (defScope (top 51)) [] [] (He.ga G.K "_law_mill") fd := c.def_ 41 (d := dd 51 "_law_mill") rfl
  obtain ⟨fd__law_same, F__law_same⟩ : ∃ fd, FunD G.K "_law_same" "_law_same" (defArgs (top 50)) (defBody (top 50)) (defScope (top 50)) [] [] (He.ga G.K "_law_same") fd := c.def_ 40 (d := dd 50 "_law_same") rfl
  obtain ⟨fd__law_steady_ones, F__law_steady_ones⟩ : ∃ fd, FunD G.K "_law_steady_ones" "_law_steady_ones" (defArgs (top 53)) (defBody (top 53)) (defScope (top 53)) [] [] (He.ga G.K "_law_steady_ones") fd := c.def_ 43 (d := dd 53 "_law_steady_ones") rfl
  obtain ⟨fd_fixed, F_fixed⟩ : ∃ fd, FunD G.K "fixed" "fixed" (defArgs (top 3)) (defBody (top 3)) (defScope (top 3)) [] [] (He.ga G.K "fixed") fd := c.def_ 0 (d := dd 3 "fixed") rfl
  obtain ⟨fd_cleared, F_cleared⟩ : ∃ fd, FunD G.K "cleared" "cleared" (defArgs (top 11)) (defBody (top 11)) (defScope (top 11)) [] [] (He.ga G.K "cleared") fd := c.def_ 8 (d := dd 11 "cleared") rfl
  obtain ⟨fd_fraction, F_fraction⟩ : ∃ fd, FunD G.K "fraction" "fraction" (defArgs (top 7)) (defBody (top 7)) (defScope (top 7)) [] [] (He.ga G.K "fraction") fd := c.def_ 4 (d := dd 7 "fraction") rfl
  obtain ⟨fd_dot, F_dot⟩ : ∃ fd, FunD G.K "dot" "dot" (defArgs (top 12)) (defBody (top 12)) (defScope (top 12)) [] [] (He.ga G.K "dot") fd := c.def_ 9 (d := dd 12 "dot") rfl
  obtain ⟨fd_row_applied, F_row_applied⟩ : ∃ fd, FunD G.K "row_applied" "row_applied" (defArgs (top 21)) (defBody (top 21)) (defScope (top 21)) [] [] (He.ga G.K "row_applied") fd := c.def_ 14 (d := dd 21 "row_applied") rfl
  obtain ⟨fd_ruled_moves, F_ruled_moves⟩ : ∃ fd, FunD G.K "ruled_moves" "ruled_moves" (defArgs (top 38)) (defBody (top 38)) (defScope (top 38)) [] [] (He.ga G.K "ruled_moves") fd := c.def_ 29 (d := dd 38 "ruled_moves") rfl
  obtain ⟨fd_none_row, F_none_row⟩ : ∃ fd, FunD G.K "none_row" "none_row" (defArgs (top 10)) (defBody (top 10)) (defScope (top 10)) [] [] (He.ga G.K "none_row") fd := c.def_ 7 (d := dd 10 "none_row") rfl
  obtain ⟨fd_hand_sizes, F_hand_sizes⟩ : ∃ fd, FunD G.K "hand_sizes" "hand_sizes" (defArgs (top 24)) (defBody (top 24)) (defScope (top 24)) [] [] (He.ga G.K "hand_sizes") fd := c.def_ 16 (d := dd 24 "hand_sizes") rfl
  obtain ⟨fd_idle_moves, F_idle_moves⟩ : ∃ fd, FunD G.K "idle_moves" "idle_moves" (defArgs (top 37)) (defBody (top 37)) (defScope (top 37)) [] [] (He.ga G.K "idle_moves") fd := c.def_ 28 (d := dd 37 "idle_moves") rfl
  obtain ⟨fd_plus, F_plus⟩ : ∃ fd, FunD G.K "plus" "plus" (defArgs (top 8)) (defBody (top 8)) (defScope (top 8)) [] [] (He.ga G.K "plus") fd := c.def_ 5 (d := dd 8 "plus") rfl
  obtain ⟨fd_row_sum, F_row_sum⟩ : ∃ fd, FunD G.K "row_sum" "row_sum" (defArgs (top 18)) (defBody (top 18)) (defScope (top 18)) [] [] (He.ga G.K "row_sum") fd := c.def_ 11 (d := dd 18 "row_sum") rfl
  obtain ⟨fd_flipped, F_flipped⟩ : ∃ fd, FunD G.K "flipped" "flipped" (defArgs (top 20)) (defBody (top 20)) (defScope (top 20)) [] [] (He.ga G.K "flipped") fd := c.def_ 13 (d := dd 20 "flipped") rfl
  obtain ⟨fd_row_read, F_row_read⟩ : ∃ fd, FunD G.K "row_read" "row_read" (defArgs (top 22)) (defBody (top 22)) (defScope (top 22)) [] [] (He.ga G.K "row_read") fd := c.def_ 15 (d := dd 22 "row_read") rfl
  obtain ⟨fd_cells_next, F_cells_next⟩ : ∃ fd, FunD G.K "cells_next" "cells_next" (defArgs (top 35)) (defBody (top 35)) (defScope (top 35)) [] [] (He.ga G.K "cells_next") fd := c.def_ 26 (d := dd 35 "cells_next") rfl
  obtain ⟨fd_sights, F_sights⟩ : ∃ fd, FunD G.K "sights" "sights" (defArgs (top 33)) (defBody (top 33)) (defScope (top 33)) [] [] (He.ga G.K "sights") fd := c.def_ 24 (d := dd 33 "sights") rfl
  obtain ⟨fd_played, F_played⟩ : ∃ fd, FunD G.K "played" "played" (defArgs (top 39)) (defBody (top 39)) (defScope (top 39)) [] [] (He.ga G.K "played") fd := c.def_ 30 (d := dd 39 "played") rfl
  obtain ⟨fd_idled, F_idled⟩ : ∃ fd, FunD G.K "idled" "idled" (defArgs (top 40)) (defBody (top 40)) (defScope (top 40)) [] [] (He.ga G.K "idled") fd := c.def_ 31 (d := dd 40 "idled") rfl
  obtain ⟨fd_is_number, F_is_number⟩ : ∃ fd, FunD G.K "is_number" "is_number" (defArgs (top 4)) (defBody (top 4)) (defScope (top 4)) [] [] (He.ga G.K "is_number") fd := c.def_ 1 (d := dd 4 "is_number") rfl
  obtain ⟨fd_is_fraction, F_is_fraction⟩ : ∃ fd, FunD G.K "is_fraction" "is_fraction" (defArgs (top 5)) (defBody (top 5)) (defScope (top 5)) [] [] (He.ga G.K "is_fraction") fd := c.def_ 2 (d := dd 5 "is_fraction") rfl
  obtain ⟨fd_is_row, F_is_row⟩ : ∃ fd, FunD G.K "is_row" "is_row" (defArgs (top 6)) (defBody (top 6)) (defScope (top 6)) [] [] (He.ga G.K "is_row") fd := c.def_ 3 (d := dd 6 "is_row") rfl
  obtain ⟨fd_is_table, F_is_table⟩ : ∃ fd, FunD G.K "is_table" "is_table" (defArgs (top 17)) (defBody (top 17)) (defScope (top 17)) [] [] (He.ga G.K "is_table") fd := c.def_ 10 (d := dd 17 "is_table") rfl
  obtain ⟨fd_is_steady_program, F_is_steady_program⟩ : ∃ fd, FunD G.K "is_steady_program" "is_steady_program" (defArgs (top 31)) (defBody (top 31)) (defScope (top 31)) [] [] (He.ga G.K "is_steady_program") fd := c.def_ 22 (d := dd 31 "is_steady_program") rfl
  obtain ⟨fd_is_steady, F_is_steady⟩ : ∃ fd, FunD G.K "is_steady" "is_steady" (defArgs (top 30)) (defBody (top 30)) (defScope (top 30)) [] [] (He.ga G.K "is_steady") fd := c.def_ 21 (d := dd 30 "is_steady") rfl
  obtain ⟨fd_is_moves, F_is_moves⟩ : ∃ fd, FunD G.K "is_moves" "is_moves" (defArgs (top 28)) (defBody (top 28)) (defScope (top 28)) [] [] (He.ga G.K "is_moves") fd := c.def_ 19 (d := dd 28 "is_moves") rfl
  obtain ⟨fd_is_play, F_is_play⟩ : ∃ fd, FunD G.K "is_play" "is_play" (defArgs (top 32)) (defBody (top 32)) (defScope (top 32)) [] [] (He.ga G.K "is_play") fd := c.def_ 23 (d := dd 32 "is_play") rfl
  obtain ⟨fd__law_more_things_right, F__law_more_things_right⟩ : ∃ fd, FunD G.K "_law_more_things_right" "_law_more_things_right" (defArgs (top 58)) (defBody (top 58)) (defScope (top 58)) [] [] (He.ga G.K "_law_more_things_right") fd := c.def_ 48 (d := dd 58 "_law_more_things_right") rfl
  obtain ⟨fd_is_rules, F_is_rules⟩ : ∃ fd, FunD G.K "is_rules" "is_rules" (defArgs (top 26)) (defBody (top 26)) (defScope (top 26)) [] [] (He.ga G.K "is_rules") fd := c.def_ 18 (d := dd 26 "is_rules") rfl
  obtain ⟨fd_is_clock, F_is_clock⟩ : ∃ fd, FunD G.K "is_clock" "is_clock" (defArgs (top 29)) (defBody (top 29)) (defScope (top 29)) [] [] (He.ga G.K "is_clock") fd := c.def_ 20 (d := dd 29 "is_clock") rfl
  obtain ⟨fd__law_things_right, F__law_things_right⟩ : ∃ fd, FunD G.K "_law_things_right" "_law_things_right" (defArgs (top 57)) (defBody (top 57)) (defScope (top 57)) [] [] (He.ga G.K "_law_things_right") fd := c.def_ 47 (d := dd 57 "_law_things_right") rfl
  obtain ⟨fd__law_lists, F__law_lists⟩ : ∃ fd, FunD G.K "_law_lists" "_law_lists" (defArgs (top 49)) (defBody (top 49)) (defScope (top 49)) [] [] (He.ga G.K "_law_lists") fd := c.def_ 39 (d := dd 49 "_law_lists") rfl
  obtain ⟨fd_steadied, F_steadied⟩ : ∃ fd, FunD G.K "steadied" "steadied" (defArgs (top 41)) (defBody (top 41)) (defScope (top 41)) [] [] (He.ga G.K "steadied") fd := c.def_ 32 (d := dd 41 "steadied") rfl
  obtain ⟨fd_seen, F_seen⟩ : ∃ fd, FunD G.K "seen" "seen" (defArgs (top 34)) (defBody (top 34)) (defScope (top 34)) [] [] (He.ga G.K "seen") fd := c.def_ 25 (d := dd 34 "seen") rfl
  obtain ⟨fd_ticked, F_ticked⟩ : ∃ fd, FunD G.K "ticked" "ticked" (defArgs (top 36)) (defBody (top 36)) (defScope (top 36)) [] [] (He.ga G.K "ticked") fd := c.def_ 27 (d := dd 36 "ticked") rfl
  obtain ⟨fd_shown_along, F_shown_along⟩ : ∃ fd, FunD G.K "shown_along" "shown_along" (defArgs (top 42)) (defBody (top 42)) (defScope (top 42)) [] [] (He.ga G.K "shown_along") fd := c.def_ 33 (d := dd 42 "shown_along") rfl
  obtain ⟨fd_check_ticks, F_check_ticks⟩ : ∃ fd, FunD G.K "check_ticks" "check_ticks" (defArgs (top 43)) (defBody (top 43)) (defScope (top 43)) [] [] (He.ga G.K "check_ticks") fd := c.def_ 34 (d := dd 43 "check_ticks") rfl
  obtain ⟨fd_less, F_less⟩ : ∃ fd, FunD G.K "less" "less" (defArgs (top 9)) (defBody (top 9)) (defScope (top 9)) [] [] (He.ga G.K "less") fd := c.def_ 6 (d := dd 9 "less") rfl
  obtain ⟨fd_row_less, F_row_less⟩ : ∃ fd, FunD G.K "row_less" "row_less" (defArgs (top 19)) (defBody (top 19)) (defScope (top 19)) [] [] (He.ga G.K "row_less") fd := c.def_ 12 (d := dd 19 "row_less") rfl
  obtain ⟨fd_apart, F_apart⟩ : ∃ fd, FunD G.K "apart" "apart" (defArgs (top 44)) (defBody (top 44)) (defScope (top 44)) [] [] (He.ga G.K "apart") fd := c.def_ 35 (d := dd 44 "apart") rfl
  obtain ⟨fd_check_hand, F_check_hand⟩ : ∃ fd, FunD G.K "check_hand" "check_hand" (defArgs (top 25)) (defBody (top 25)) (defScope (top 25)) [] [] (He.ga G.K "check_hand") fd := c.def_ 17 (d := dd 25 "check_hand") rfl
  obtain ⟨fd_hand_goes, F_hand_goes⟩ : ∃ fd, FunD G.K "hand_goes" "hand_goes" (defArgs (top 46)) (defBody (top 46)) (defScope (top 46)) [] [] (He.ga G.K "hand_goes") fd := c.def_ 37 (d := dd 46 "hand_goes") rfl
  obtain ⟨fd_go_together, F_go_together⟩ : ∃ fd, FunD G.K "go_together" "go_together" (defArgs (top 45)) (defBody (top 45)) (defScope (top 45)) [] [] (He.ga G.K "go_together") fd := c.def_ 36 (d := dd 45 "go_together") rfl
  obtain ⟨fd_all_together, F_all_together⟩ : ∃ fd, FunD G.K "all_together" "all_together" (defArgs (top 47)) (defBody (top 47)) (defScope (top 47)) [] [] (He.ga G.K "all_together") fd := c.def_ 38 (d := dd 47 "all_together") rfl
  obtain ⟨fd__law_refused, F__law_refused⟩ : ∃ fd, FunD G.K "_law_refused" "_law_refused" (defArgs (top 59)) (defBody (top 59)) (defScope (top 59)) [] [] (He.ga G.K "_law_refused") fd := c.def_ 49 (d := dd 59 "_law_refused") rfl
  obtain ⟨fd__law_words_right, F__law_words_right⟩ : ∃ fd, FunD G.K "_law_words_right" "_law_words_right" (defArgs (top 61)) (defBody (top 61)) (defScope (top 61)) [] [] (He.ga G.K "_law_words_right") fd := c.def_ 51 (d := dd 61 "_law_words_right") rfl
  obtain ⟨fd__law_lone, F__law_lone⟩ : ∃ fd, FunD G.K "_law_lone" "_law_lone" (defArgs (top 52)) (defBody (top 52)) (defScope (top 52)) [] [] (He.ga G.K "_law_lone") fd := c.def_ 42 (d := dd 52 "_law_lone") rfl
  obtain ⟨fd__law_beyond_right, F__law_beyond_right⟩ : ∃ fd, FunD G.K "_law_beyond_right" "_law_beyond_right" (defArgs (top 60)) (defBody (top 60)) (defScope (top 60)) [] [] (He.ga G.K "_law_beyond_right") fd := c.def_ 50 (d := dd 60 "_law_beyond_right") rfl
  obtain ⟨fd__law_played_right, F__law_played_right⟩ : ∃ fd, FunD G.K "_law_played_right" "_law_played_right" (defArgs (top 54)) (defBody (top 54)) (defScope (top 54)) [] [] (He.ga G.K "_law_played_right") fd := c.def_ 44 (d := dd 54 "_law_played_right") rfl
  obtain ⟨fd__law_together_right, F__law_together_right⟩ : ∃ fd, FunD G.K "_law_together_right" "_law_together_right" (defArgs (top 55)) (defBody (top 55)) (defScope (top 55)) [] [] (He.ga G.K "_law_together_right") fd := c.def_ 45 (d := dd 55 "_law_together_right") rfl
  obtain ⟨fd__law_great_right, F__law_great_right⟩ : ∃ fd, FunD G.K "_law_great_right" "_law_great_right" (defArgs (top 56)) (defBody (top 56)) (defScope (top 56)) [] [] (He.ga G.K "_law_great_right") fd := c.def_ 46 (d := dd 56 "_law_great_right") rfl
  obtain ⟨fd_law, F_law⟩ : ∃ fd, FunD G.K "law" "law" (defArgs (top 62)) (defBody (top 62)) (defScope (top 62)) [] [] (He.ga G.K "law") fd := c.def_ 52 (d := dd 62 "law") rfl
  refine ⟨fd_law, F_law, fun base => ?_⟩
  have h__law_mill : Fn P w G (XRK G) mg base 1 "_law_mill" (defArgs (top 51)) 0 S__law_mill := ok__law_mill (k := 0) C F__law_mill (He.glo_ok X N (c.fact 41 (f := .glo "_law_mill") rfl))
  have h__law_same : Fn P w G (XRK G) mg base 10 "_law_same" (defArgs (top 50)) 2 (S__law_same 10) := ok__law_same C F__law_same (He.glo_ok X N (c.fact 40 (f := .glo "_law_same") rfl)) 10
  have h__law_steady_ones : Fn P w G (XRK G) mg base 1 "_law_steady_ones" (defArgs (top 53)) 0 S__law_steady_ones := ok__law_steady_ones (k := 0) C F__law_steady_ones (He.glo_ok X N (c.fact 43 (f := .glo "_law_steady_ones") rfl))
  have h_fixed : Fn P w G (XRK G) mg base 10 "fixed" (defArgs (top 3)) 1 (S_fixed 10) := ok_fixed C F_fixed (He.glo_ok X N (c.fact 0 (f := .glo "fixed") rfl)) 10
  have h_cleared : Fn P w G (XRK G) mg base 1 "cleared" (defArgs (top 11)) 1 S_cleared := ok_cleared (k := 0) C F_cleared (He.glo_ok X N (c.fact 8 (f := .glo "cleared") rfl))
  have h_fraction : Fn P w G (XRK G) mg base 1 "fraction" (defArgs (top 7)) 2 S_fraction := ok_fraction (k := 0) C F_fraction (He.glo_ok X N (c.fact 4 (f := .glo "fraction") rfl))
  have h_dot : Fn P w G (XRK G) mg base 1 "dot" (defArgs (top 12)) 2 S_dot := ok_dot (k := 0) C F_dot (He.glo_ok X N (c.fact 9 (f := .glo "dot") rfl))
  have h_row_applied : Fn P w G (XRK G) mg base 2 "row_applied" (defArgs (top 21)) 2 S_row_applied := ok_row_applied (k := 1) C (h_cleared.mono (by decide)) (h_fraction.mono (by decide)) (h_dot.mono (by decide)) F_row_applied (He.glo_ok X N (c.fact 14 (f := .glo "row_applied") rfl))
  have h_ruled_moves : Fn P w G (XRK G) mg base 3 "ruled_moves" (defArgs (top 38)) 2 S_ruled_moves := ok_ruled_moves (k := 2) C (h_row_applied.mono (by decide)) F_ruled_moves (He.glo_ok X N (c.fact 29 (f := .glo "ruled_moves") rfl))
  have h_none_row : Fn P w G (XRK G) mg base 1 "none_row" (defArgs (top 10)) 1 S_none_row := ok_none_row (k := 0) C F_none_row (He.glo_ok X N (c.fact 7 (f := .glo "none_row") rfl))
  have h_hand_sizes : Fn P w G (XRK G) mg base 1 "hand_sizes" (defArgs (top 24)) 1 S_hand_sizes := ok_hand_sizes (k := 0) C F_hand_sizes (He.glo_ok X N (c.fact 16 (f := .glo "hand_sizes") rfl))
  have h_idle_moves : Fn P w G (XRK G) mg base 2 "idle_moves" (defArgs (top 37)) 1 S_idle_moves := ok_idle_moves (k := 1) C (h_none_row.mono (by decide)) (h_hand_sizes.mono (by decide)) F_idle_moves (He.glo_ok X N (c.fact 28 (f := .glo "idle_moves") rfl))
  have h_plus : Fn P w G (XRK G) mg base 2 "plus" (defArgs (top 8)) 2 S_plus := ok_plus (k := 1) C (h_fraction.mono (by decide)) F_plus (He.glo_ok X N (c.fact 5 (f := .glo "plus") rfl))
  have h_row_sum : Fn P w G (XRK G) mg base 3 "row_sum" (defArgs (top 18)) 2 S_row_sum := ok_row_sum (k := 2) C (h_plus.mono (by decide)) F_row_sum (He.glo_ok X N (c.fact 11 (f := .glo "row_sum") rfl))
  have h_flipped : Fn P w G (XRK G) mg base 1 "flipped" (defArgs (top 20)) 1 S_flipped := ok_flipped (k := 0) C F_flipped (He.glo_ok X N (c.fact 13 (f := .glo "flipped") rfl))
  have h_row_read : Fn P w G (XRK G) mg base 3 "row_read" (defArgs (top 22)) 2 S_row_read := ok_row_read (k := 2) C (h_row_applied.mono (by decide)) (h_flipped.mono (by decide)) F_row_read (He.glo_ok X N (c.fact 15 (f := .glo "row_read") rfl))
  have h_cells_next : Fn P w G (XRK G) mg base 4 "cells_next" (defArgs (top 35)) 3 S_cells_next := ok_cells_next (k := 3) C (h_row_applied.mono (by decide)) (h_row_sum.mono (by decide)) (h_row_read.mono (by decide)) F_cells_next (He.glo_ok X N (c.fact 26 (f := .glo "cells_next") rfl))
  have h_sights : Fn P w G (XRK G) mg base 3 "sights" (defArgs (top 33)) 2 S_sights := ok_sights (k := 2) C (h_row_applied.mono (by decide)) F_sights (He.glo_ok X N (c.fact 24 (f := .glo "sights") rfl))
  have h_played : Fn P w G (XRK G) mg base 11 "played" (defArgs (top 39)) 4 S_played := ok_played (k := 10) C (h_fixed.mono (by decide)) (h_ruled_moves.mono (by decide)) (h_idle_moves.mono (by decide)) (h_cells_next.mono (by decide)) (h_sights.mono (by decide)) F_played (He.glo_ok X N (c.fact 30 (f := .glo "played") rfl))
  have h_idled : Fn P w G (XRK G) mg base 12 "idled" (defArgs (top 40)) 3 S_idled := ok_idled (k := 11) C (h_played.mono (by decide)) F_idled (He.glo_ok X N (c.fact 31 (f := .glo "idled") rfl))
  have h_is_number : Fn P w G (XRK G) mg base 1 "is_number" (defArgs (top 4)) 1 S_is_number := ok_is_number (k := 0) C F_is_number (He.glo_ok X N (c.fact 1 (f := .glo "is_number") rfl))
  have h_is_fraction : Fn P w G (XRK G) mg base 2 "is_fraction" (defArgs (top 5)) 1 S_is_fraction := ok_is_fraction (k := 1) C (h_is_number.mono (by decide)) F_is_fraction (He.glo_ok X N (c.fact 2 (f := .glo "is_fraction") rfl))
  have h_is_row : Fn P w G (XRK G) mg base 3 "is_row" (defArgs (top 6)) 2 S_is_row := ok_is_row (k := 2) C (h_is_fraction.mono (by decide)) F_is_row (He.glo_ok X N (c.fact 3 (f := .glo "is_row") rfl))
  have h_is_table : Fn P w G (XRK G) mg base 4 "is_table" (defArgs (top 17)) 3 S_is_table := ok_is_table (k := 3) C (h_is_row.mono (by decide)) F_is_table (He.glo_ok X N (c.fact 10 (f := .glo "is_table") rfl))
  have h_is_steady_program : Fn P w G (XRK G) mg base 5 "is_steady_program" (defArgs (top 31)) 3 S_is_steady_program := ok_is_steady_program (k := 4) C (h_is_table.mono (by decide)) F_is_steady_program (He.glo_ok X N (c.fact 22 (f := .glo "is_steady_program") rfl))
  have h_is_steady : Fn P w G (XRK G) mg base 11 "is_steady" (defArgs (top 30)) 2 S_is_steady := ok_is_steady (k := 10) C (h_fixed.mono (by decide)) (h_is_steady_program.mono (by decide)) (h_hand_sizes.mono (by decide)) F_is_steady (He.glo_ok X N (c.fact 21 (f := .glo "is_steady") rfl))
  have h_is_moves : Fn P w G (XRK G) mg base 11 "is_moves" (defArgs (top 28)) 2 S_is_moves := ok_is_moves (k := 10) C (h_fixed.mono (by decide)) (h_is_row.mono (by decide)) (h_hand_sizes.mono (by decide)) F_is_moves (He.glo_ok X N (c.fact 19 (f := .glo "is_moves") rfl))
  have h_is_play : Fn P w G (XRK G) mg base 12 "is_play" (defArgs (top 32)) 2 S_is_play := ok_is_play (k := 11) C (h_fixed.mono (by decide)) (h_cells_next.mono (by decide)) (h_is_row.mono (by decide)) (h_is_moves.mono (by decide)) F_is_play (He.glo_ok X N (c.fact 23 (f := .glo "is_play") rfl))
  have h__law_more_things_right : Fn P w G (XRK G) mg base 13 "_law_more_things_right" (defArgs (top 58)) 1 S__law_more_things_right := ok__law_more_things_right (k := 12) C (h__law_same.mono (by decide)) (h__law_mill.mono (by decide)) (h__law_steady_ones.mono (by decide)) (h_idled.mono (by decide)) (h_is_steady.mono (by decide)) (h_is_play.mono (by decide)) F__law_more_things_right (He.glo_ok X N (c.fact 48 (f := .glo "_law_more_things_right") rfl))
  have h_is_rules : Fn P w G (XRK G) mg base 11 "is_rules" (defArgs (top 26)) 2 S_is_rules := ok_is_rules (k := 10) C (h_fixed.mono (by decide)) (h_is_table.mono (by decide)) (h_hand_sizes.mono (by decide)) F_is_rules (He.glo_ok X N (c.fact 18 (f := .glo "is_rules") rfl))
  have h_is_clock : Fn P w G (XRK G) mg base 12 "is_clock" (defArgs (top 29)) 2 S_is_clock := ok_is_clock (k := 11) C (h_fixed.mono (by decide)) (h_is_rules.mono (by decide)) F_is_clock (He.glo_ok X N (c.fact 20 (f := .glo "is_clock") rfl))
  have h__law_things_right : Fn P w G (XRK G) mg base 14 "_law_things_right" (defArgs (top 57)) 0 S__law_things_right := ok__law_things_right (k := 13) C (h__law_mill.mono (by decide)) (h__law_same.mono (by decide)) (h__law_more_things_right.mono (by decide)) (h_is_moves.mono (by decide)) (h_is_clock.mono (by decide)) F__law_things_right (He.glo_ok X N (c.fact 47 (f := .glo "_law_things_right") rfl))
  have h__law_lists : Fn P w G (XRK G) mg base 10 "_law_lists" (defArgs (top 49)) 1 (S__law_lists 10) := ok__law_lists C F__law_lists (He.glo_ok X N (c.fact 39 (f := .glo "_law_lists") rfl)) 10
  have h_steadied : Fn P w G (XRK G) mg base 11 "steadied" (defArgs (top 41)) 4 S_steadied := ok_steadied (k := 10) C (h_fixed.mono (by decide)) (h_none_row.mono (by decide)) (h_sights.mono (by decide)) (h_cells_next.mono (by decide)) (h_row_sum.mono (by decide)) (h_row_applied.mono (by decide)) F_steadied (He.glo_ok X N (c.fact 32 (f := .glo "steadied") rfl))
  have h_seen : Fn P w G (XRK G) mg base 11 "seen" (defArgs (top 34)) 2 S_seen := ok_seen (k := 10) C (h_sights.mono (by decide)) (h_fixed.mono (by decide)) F_seen (He.glo_ok X N (c.fact 25 (f := .glo "seen") rfl))
  have h_ticked : Fn P w G (XRK G) mg base 11 "ticked" (defArgs (top 36)) 3 S_ticked := ok_ticked (k := 10) C (h_cells_next.mono (by decide)) (h_fixed.mono (by decide)) F_ticked (He.glo_ok X N (c.fact 27 (f := .glo "ticked") rfl))
  have h_shown_along : Fn P w G (XRK G) mg base 11 "shown_along" (defArgs (top 42)) 2 S_shown_along := ok_shown_along (k := 10) C (h_row_applied.mono (by decide)) (h_fixed.mono (by decide)) F_shown_along (He.glo_ok X N (c.fact 33 (f := .glo "shown_along") rfl))
  have h_check_ticks : Fn P w G (XRK G) mg base 1 "check_ticks" (defArgs (top 43)) 2 S_check_ticks := ok_check_ticks (k := 0) C F_check_ticks (He.glo_ok X N (c.fact 34 (f := .glo "check_ticks") rfl))
  have h_less : Fn P w G (XRK G) mg base 2 "less" (defArgs (top 9)) 2 S_less := ok_less (k := 1) C (h_fraction.mono (by decide)) F_less (He.glo_ok X N (c.fact 6 (f := .glo "less") rfl))
  have h_row_less : Fn P w G (XRK G) mg base 3 "row_less" (defArgs (top 19)) 2 S_row_less := ok_row_less (k := 2) C (h_less.mono (by decide)) F_row_less (He.glo_ok X N (c.fact 12 (f := .glo "row_less") rfl))
  have h_apart : Fn P w G (XRK G) mg base 11 "apart" (defArgs (top 44)) 2 S_apart := ok_apart (k := 10) C (h_check_ticks.mono (by decide)) (h_fixed.mono (by decide)) (h_row_less.mono (by decide)) F_apart (He.glo_ok X N (c.fact 35 (f := .glo "apart") rfl))
  have h_check_hand : Fn P w G (XRK G) mg base 3 "check_hand" (defArgs (top 25)) 2 S_check_hand := ok_check_hand (k := 0) C F_check_hand (He.glo_ok X N (c.fact 17 (f := .glo "check_hand") rfl))
  have h_hand_goes : Fn P w G (XRK G) mg base 3 "hand_goes" (defArgs (top 46)) 4 S_hand_goes := ok_hand_goes (k := 2) C (h_row_applied.mono (by decide)) F_hand_goes (He.glo_ok X N (c.fact 37 (f := .glo "hand_goes") rfl))
  have h_go_together : Fn P w G (XRK G) mg base 11 "go_together" (defArgs (top 45)) 4 S_go_together := ok_go_together (k := 10) C (h_check_hand.mono (by decide)) (h_check_ticks.mono (by decide)) (h_hand_goes.mono (by decide)) (h_fixed.mono (by decide)) F_go_together (He.glo_ok X N (c.fact 36 (f := .glo "go_together") rfl))
  have h_all_together : Fn P w G (XRK G) mg base 11 "all_together" (defArgs (top 47)) 3 S_all_together := ok_all_together (k := 10) C (h_check_ticks.mono (by decide)) (h_fixed.mono (by decide)) (h_hand_goes.mono (by decide)) F_all_together (He.glo_ok X N (c.fact 38 (f := .glo "all_together") rfl))
  have h__law_refused : Fn P w G (XRK G) mg base 13 "_law_refused" (defArgs (top 59)) 1 S__law_refused := ok__law_refused (k := 12) C (h__law_mill.mono (by decide)) (h_idled.mono (by decide)) (h_go_together.mono (by decide)) (h_all_together.mono (by decide)) (h_apart.mono (by decide)) F__law_refused (He.glo_ok X N (c.fact 49 (f := .glo "_law_refused") rfl))
  have h__law_words_right : Fn P w G (XRK G) mg base 14 "_law_words_right" (defArgs (top 61)) 0 S__law_words_right := ok__law_words_right (k := 13) C (h_played.mono (by decide)) (h__law_same.mono (by decide)) (h__law_mill.mono (by decide)) (h__law_lists.mono (by decide)) (h_idled.mono (by decide)) (h_steadied.mono (by decide)) (h__law_steady_ones.mono (by decide)) (h_seen.mono (by decide)) (h_ticked.mono (by decide)) (h_shown_along.mono (by decide)) (h_apart.mono (by decide)) (h_go_together.mono (by decide)) (h_all_together.mono (by decide)) (h_is_play.mono (by decide)) (h_is_moves.mono (by decide)) (h_is_clock.mono (by decide)) (h_is_steady.mono (by decide)) (h__law_refused.mono (by decide)) F__law_words_right (He.glo_ok X N (c.fact 51 (f := .glo "_law_words_right") rfl))
  have h__law_lone : Fn P w G (XRK G) mg base 1 "_law_lone" (defArgs (top 52)) 0 S__law_lone := ok__law_lone (k := 0) C F__law_lone (He.glo_ok X N (c.fact 42 (f := .glo "_law_lone") rfl))
  have h__law_beyond_right : Fn P w G (XRK G) mg base 14 "_law_beyond_right" (defArgs (top 60)) 0 S__law_beyond_right := ok__law_beyond_right (k := 13) C (h__law_same.mono (by decide)) (h__law_mill.mono (by decide)) (h__law_lone.mono (by decide)) (h_is_steady.mono (by decide)) (h_is_play.mono (by decide)) (h_idled.mono (by decide)) (h_is_moves.mono (by decide)) (h_is_clock.mono (by decide)) (h_apart.mono (by decide)) (h_go_together.mono (by decide)) (h_all_together.mono (by decide)) (h__law_refused.mono (by decide)) (h__law_steady_ones.mono (by decide)) F__law_beyond_right (He.glo_ok X N (c.fact 50 (f := .glo "_law_beyond_right") rfl))
  have h__law_played_right : Fn P w G (XRK G) mg base 13 "_law_played_right" (defArgs (top 54)) 0 S__law_played_right := ok__law_played_right (k := 12) C (h__law_same.mono (by decide)) (h__law_mill.mono (by decide)) (h_seen.mono (by decide)) (h_ticked.mono (by decide)) (h_steadied.mono (by decide)) (h_apart.mono (by decide)) (h_idled.mono (by decide)) (h_played.mono (by decide)) (h_shown_along.mono (by decide)) (h__law_steady_ones.mono (by decide)) F__law_played_right (He.glo_ok X N (c.fact 44 (f := .glo "_law_played_right") rfl))
  have h__law_together_right : Fn P w G (XRK G) mg base 13 "_law_together_right" (defArgs (top 55)) 0 S__law_together_right := ok__law_together_right (k := 12) C (h_idled.mono (by decide)) (h__law_same.mono (by decide)) (h__law_mill.mono (by decide)) (h_played.mono (by decide)) (h_all_together.mono (by decide)) (h_go_together.mono (by decide)) (h_is_play.mono (by decide)) F__law_together_right (He.glo_ok X N (c.fact 45 (f := .glo "_law_together_right") rfl))
  have h__law_great_right : Fn P w G (XRK G) mg base 13 "_law_great_right" (defArgs (top 56)) 0 S__law_great_right := ok__law_great_right (k := 12) C (h__law_same.mono (by decide)) (h__law_lone.mono (by decide)) (h_is_play.mono (by decide)) (h_go_together.mono (by decide)) (h_apart.mono (by decide)) (h_idled.mono (by decide)) F__law_great_right (He.glo_ok X N (c.fact 46 (f := .glo "_law_great_right") rfl))
  exact fnD_ok (N := N_law) (ps := (["script"] : List Str)) (k := 14) (xr1_ok _ _ _) F_law sc_law (fun cdv A outer s H E hr => T_law.2 C (h__law_things_right.mono (by decide)) (h__law_words_right.mono (by decide)) (h__law_beyond_right.mono (by decide)) (h__law_played_right.mono (by decide)) (h__law_together_right.mono (by decide)) (h__law_great_right.mono (by decide)) _ cdv A outer s H E hr)

theorem facts {P : Program} {w : World} {K : PySem.W.Frag} {h : Heap} {mg : Str → Option Value} {f : Addr} (X : K.In h) (N : h.Ns mainGlobals mg) (hfa : mg ("law" : Str) = some (.ref f)) (c : He.SaysD fa fn K) (k : chk K = true) :
    ∃ fd : FuncData, (∀ (s : Shared) (v : Value), BindsTo s fd ⟨[v], []⟩ [("script", v)]) ∧ ∀ base : Heap, FnOk P w K mg base L2.CX0 15 f fd ["script"] (fun vs H Q _ => spD ⟨K, fun _ => 0⟩ (XRK ⟨K, fun _ => 0⟩) 1 S_law vs H Q fun _ _ _ => False) := by
  obtain ⟨fd, F, hF⟩ := law_ok (P := P) (w := w) (G := ⟨K, fun _ => 0⟩) X N c k
  have e := hfa.symm.trans (He.glo_ok X N (c.fact 52 (f := .glo "law") rfl))
  cases e
  have b := FunD.bindsA (ps := ["script"]) F fun _ _ _ _ _ _ us hl => match us, hl with | [_], _ => rfl
  exact ⟨fd, fun s v => b s [v] rfl, fun base => fn_to0 (hF base)⟩
end K32
open PySem PySem.W PySem.Calls PyProof.Rows
theorem PySem.Challenge.cw_handsunread_k32_plays_by_hand_and_what_g_holds : PySem.Challenge.rw_handsunread_k32_plays_by_hand_and_what_g.Holds := by
  w_on; o_law
  refine HandSHeadRun.head_imp (r := OpenLaw.row PySem.Challenge.rw_handsunread_k32_plays_by_hand_and_what_g) (q := view (OpenLaw.row PySem.Challenge.rw_handsunread_k32_plays_by_hand_and_what_g).prog [0, 62]) (H := K32.hk) (ob := K32.ob) (M := 20000) (loose := K32.loose) (d := HandSHeadRun.topDef (OpenLaw.row PySem.Challenge.rw_handsunread_k32_plays_by_hand_and_what_g).prog 62) (kwd := []) K32.ob_eq
    K32.run (by kernel_rfl) (by kernel_rfl) (by kernel_rfl) (by rfl) (by first | assumption | decide +kernel) (by decide +kernel) ⟨rfl, rfl, rfl, rfl, rfl, by decide +kernel⟩ ?hw ?hc
  case hw => w_witness2
  case hc =>
    refine L2.walk_ofE (l := PySem.Challenge.rw_handsunread_k32_plays_by_hand_and_what_g) (n := 63) (k := 15) (x := "script") (CX := L2.CX0) rfl (by decide) (by kernel_rfl) ⟨rfl, by decide, by decide⟩ ?F (fun _ _ _ _ z => z)
    intro w mg fa h Y G hmg0
    obtain ⟨K, KX, c, k⟩ := Y
    have hmg : mg ("law" : PySem.Str) = some (.ref fa) := by
      have e : (HandSHeadRun.topDef (OpenLaw.row PySem.Challenge.rw_handsunread_k32_plays_by_hand_and_what_g).prog 62).name = ("law" : PySem.Str) := by kernel_rfl
      rw [← e]
      exact hmg0
    obtain ⟨fd, hb, hF⟩ := K32.facts (P := (PySem.Challenge.rw_handsunread_k32_plays_by_hand_and_what_g).prog) (w := w) KX G hmg c k
    refine ⟨K, fd, _, KX, hb, fun H a ns hl _ hS => ?_, fun base _ _ => hF base⟩
    obtain ⟨w0, d, rfl, eS, O, r⟩ := Ev.script_rep (G := ⟨K, fun _ => 0⟩) hS
    refine ⟨rfl, w0, [d], rfl, O, r, ?_⟩
    rw [eS, K32.law_run d]
    intro v w' T e O' rv
    cases rv
    rfl

