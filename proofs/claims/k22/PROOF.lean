import PyProof.Rows.All
import HandS.ForMost
import HandS.IsInst
import HandS.Gcd
import HandS.Wide
import HandS.Flow
import HandS.RevRange
import HandS.TupAny
import HandS.DeepEq
import HandS.Lambda
import HandS.EndTab
import HandS.Exc
import HandS.ExcOwn
import HandS.TryMany
import HandS.Style
import HandS.TryOnly
import HandS.Rev
import HandS.Star
import HandS.WideBits
import HandS.Flt
import HandS.List
import KE.KMathGC
import HandS.Deep
import HandS.Zip
import HandS.TupMul
import HandS.SortInts
import HandS.SetFor
import PyProof.Rows.IntBool
import HandS.ExcIs
import PyProof.EqKinds
import PyProof.NeKinds
import KE.GoesMore
import PyProof.Draws
import KE.DataMinKey
import PyProof.Rows.CallKwBuiltin
import PyProof.WalksMore
import KE.GoesRaise
import PySem.Challenge.RW_ballmoves_k22_moves_made
import KE.KIntText
import PyProof.Rows.ReprOcc
import KE.BitLaws
import Wide.FinOn
set_option Elab.async false
set_option linter.all false
set_option maxRecDepth 100000
set_option maxHeartbeats 4000000
namespace Mi
open PySem PySem.Spec PyProof.Rows L2

/-! ## values of the mirror, its heap, its runs -/
abbrev St := L2.St
inductive D where
  | non | bl (b : Bool) | int (i : Int) | str (x : Str) | tup (xs : List D) | lst (xs : List D) | fro (xs : List D) | emp | ref (n : Nat) | oth (v : V)
inductive AO where
  | lst (xs : List D) | dct (kvs : List (Key × D))
abbrev AH := List (Option AO)
abbrev Lc := List (Option D)
structure Ex where
  cls : Str
  args : List (Str × D)
inductive R (α : Type) where
  | no | ok (a : α) (ah : AH) | ex (e : Ex) (env : Lc) (ah : AH)
abbrev M (α : Type) := AH → R α
def M.ret {α : Type} (a : α) : M α := fun ah => .ok a ah
def M.no {α : Type} : M α := fun _ => .no
def M.andThen {α β : Type} (m : M α) (f : α → M β) : M β := fun ah =>
  match m ah with
  | .no => .no
  | .ok a ah' => f a ah'
  | .ex e env ah' => .ex e env ah'
def M.lift {α : Type} (o : Option α) : M α := fun ah =>
  match o with
  | some a => .ok a ah
  | none => .no
def M.when {α : Type} (c : Bool) (m : M α) : M α := fun ah => if c = true then m ah else .no

/-! ## what of the mirror stands for what of the layer's heap -/
structure Sit where
  ρ : Nat → Addr
  ah : AH
  H : Hp
  /-- lists that are just being made -/
  busy : List Addr
def Liv (S : Sit) (a : Addr) : Prop := (∃ i o, S.ah[i]? = some (some o) ∧ S.ρ i = a) ∨ a ∈ S.busy
/-- what stands still at a: nothing of the mirror's heap stands there -/
structure Still (S : Sit) (a : Addr) (u : HO) : Prop where
  here : S.H a = some u
  off : ¬ Liv S a
  nt : ∀ ps, u ≠ .tbl ps := by intro ps h; cases h
def TupAt (K : PySem.W.Frag) (S : Sit) (a : Addr) (vs : List V) : Prop :=
  (∃ u, Still S a u ∧ (u = .tup vs ∨ ∃ o, u = .frz o (.tup vs))) ∨
    ∃ (o : Obj) (its : Array Value) (n : Nat), K.lookup a = some o ∧ o.cls = .type "tuple" ∧ o.data = .seq its n ∧ its.size ≤ sizeLine ∧ Vals vs its.toList
def FroAt (K : PySem.W.Frag) (S : Sit) (a : Addr) (vs : List V) : Prop :=
  (∃ o, Still S a (.frz o (.lst vs))) ∨
    ∃ (o : Obj) (its : Array Value) (n : Nat), K.lookup a = some o ∧ o.cls = .type "list" ∧ o.dict = none ∧ o.data = .seq its n ∧ its.size ≤ sizeLine ∧ Vals vs its.toList
mutual
inductive RV (K : PySem.W.Frag) (S : Sit) : D → V → Prop
  | non : RV K S .non .non
  | bl (b : Bool) : RV K S (.bl b) (.bl b)
  | int (i : Int) : RV K S (.int i) (.int i)
  | str (x : Str) : RV K S (.str x) (.str x)
  | tup {ds : List D} {a : Addr} {vs : List V} : TupAt K S a vs → RVs K S ds vs → RV K S (.tup ds) (.ref a)
  | lst {ds : List D} {a : Addr} {vs : List V} : Still S a (.lst vs) → RVs K S ds vs → RV K S (.lst ds) (.ref a)
  | fro {ds : List D} {a : Addr} {vs : List V} : FroAt K S a vs → RVs K S ds vs → RV K S (.fro ds) (.ref a)
  | emp {a : Addr} : Still S a (.dK []) → RV K S .emp (.ref a)
  | ref {i : Nat} : i < S.ah.length → RV K S (.ref i) (.ref (S.ρ i))
  | oth (v : V) : RV K S (.oth v) v
inductive RVs (K : PySem.W.Frag) (S : Sit) : List D → List V → Prop
  | nil : RVs K S [] []
  | cons {d : D} {ds : List D} {v : V} {vs : List V} : RV K S d v → RVs K S ds vs → RVs K S (d :: ds) (v :: vs)
end
inductive RKs (K : PySem.W.Frag) (S : Sit) : List (Key × D) → List (Key × V) → Prop
  | nil : RKs K S [] []
  | cons {k : Key} {d : D} {v : V} {ds : List (Key × D)} {vs : List (Key × V)} : RV K S d v → RKs K S ds vs → RKs K S ((k, d) :: ds) ((k, v) :: vs)
inductive RO (K : PySem.W.Frag) (S : Sit) : AO → HO → Prop
  | lst {ds : List D} {vs : List V} : RVs K S ds vs → RO K S (.lst ds) (.lst vs)
  | dct {ds : List (Key × D)} {vs : List (Key × V)} : RKs K S ds vs → RO K S (.dct ds) (.dK vs)
/-- the names that a table's code objects bear -/
def TabQ (K : PySem.W.Frag) (P : Addr) (q : Str) : Prop := ∀ (c : Addr) (o : Obj) (vs : Array Value) (fq : Str) (t : Tok), K.lookup c = some o → o.data = .fields vs → vs[11]? = some (.ref P) → vs[1]? = some (.str fq t) → q = fq ++ ".<locals>." ++ "<lambda>"
structure TabAt (K : PySem.W.Frag) (S : Sit) (P : Addr) (ps : Array Value) : Prop where
  ok : TriplesOk ps.toList
  has : ∀ (pos : Pos) (cv : Value), codeAmong pos ps.toList = some cv → ∃ c q, cv = .ref c ∧ TabQ K P q ∧ Still S c (LamX.CodeO c q)
  nb : P ∉ S.busy
structure Ok (K : PySem.W.Frag) (S : Sit) : Prop where
  obj : ∀ i o, S.ah[i]? = some (some o) → ∃ u, S.H (S.ρ i) = some u ∧ RO K S o u
  inj : ∀ i j o o', S.ah[i]? = some (some o) → S.ah[j]? = some (some o') → S.ρ i = S.ρ j → i = j
  bus : ∀ a, a ∈ S.busy → ∃ u, S.H a = some u
  dis : ∀ i o, S.ah[i]? = some (some o) → S.ρ i ∉ S.busy
  tab : ∀ P ps, S.H P = some (.tbl ps) → TabAt K S P ps
structure Ext (S S' : Sit) : Prop where
  len : S.ah.length ≤ S'.ah.length
  agree : ∀ i, i < S.ah.length → S'.ρ i = S.ρ i
  pers : ∀ a u, Still S a u → S'.H a = some u
  liv : ∀ a, Liv S' a → Liv S a ∨ S.H a = none
  bsy : S'.busy = S.busy
  keep : ∀ a, a ∈ S.busy → S'.H a = S.H a
  tbl : ∀ P ps, S.H P = some (.tbl ps) → ∃ ps', S'.H P = some (.tbl ps')
section
variable {K : PySem.W.Frag} {S S' S'' : Sit}
theorem Ext.still (e : Ext S S') {a : Addr} {u : HO} (h : Still S a u) : Still S' a u :=
  ⟨e.pers a u h, fun l => (e.liv a l).elim h.2 fun n => (nomatch (h.1.symm.trans n)), h.3⟩
theorem Ext.codes (e : ∀ a u, Still S a u → Still S' a u) {P : Addr} {ps : Array Value} (t : TabAt K S P ps) (nb : P ∉ S'.busy) : TabAt K S' P ps :=
  ⟨t.ok, fun pos cv h => let ⟨c, q, a, b, d⟩ := t.has pos cv h; ⟨c, q, a, b, e _ _ d⟩, nb⟩
theorem Ext.refl (S : Sit) : Ext S S := ⟨Nat.le_refl _, fun _ _ => rfl, fun _ _ h => h.1, fun _ l => .inl l, rfl, fun _ _ => rfl, fun _ ps h => ⟨ps, h⟩⟩
theorem Ext.trans (a : Ext S S') (b : Ext S' S'') : Ext S S'' where
  len := Nat.le_trans a.len b.len
  agree := fun i h => (b.agree i (Nat.lt_of_lt_of_le h a.len)).trans (a.agree i h)
  pers := fun x u h => b.pers x u (a.still h)
  liv := fun x l => by
    rcases b.liv x l with l' | n
    · exact a.liv x l'
    · by_cases hl : Liv S x
      · exact .inl hl
      · refine .inr ?_
        cases q : S.H x with
        | none => rfl
        | some u =>
          by_cases hu : ∃ ps, u = .tbl ps
          · obtain ⟨ps, hu⟩ := hu
            rw [hu] at q
            obtain ⟨ps', q2⟩ := a.tbl x ps q
            rw [n] at q2
            cases q2
          · have q2 := a.pers x u ⟨q, hl, fun ps e => hu ⟨ps, e⟩⟩
            rw [n] at q2
            cases q2
  bsy := b.bsy.trans a.bsy
  tbl := fun P ps h => let ⟨_, h1⟩ := a.tbl P ps h; b.tbl P _ h1
  keep := fun x h => (b.keep x (by rw [a.bsy]; exact h)).trans (a.keep x h)
/-- what a value's meaning hangs on -/
structure Ext0 (S S' : Sit) : Prop where
  len : S.ah.length ≤ S'.ah.length
  agree : ∀ i, i < S.ah.length → S'.ρ i = S.ρ i
  still : ∀ a u, Still S a u → Still S' a u
theorem Ext.e0 (e : Ext S S') : Ext0 S S' := ⟨e.len, e.agree, fun _ _ h => e.still h⟩
theorem TupAt.ext0 (e : Ext0 S S') {a : Addr} {vs : List V} (h : TupAt K S a vs) : TupAt K S' a vs := by
  rcases h with ⟨u, hs, c⟩ | h
  · exact .inl ⟨u, e.still _ _ hs, c⟩
  · exact .inr h
theorem FroAt.ext0 (e : Ext0 S S') {a : Addr} {vs : List V} (h : FroAt K S a vs) : FroAt K S' a vs := by
  rcases h with ⟨o, hs⟩ | h
  · exact .inl ⟨o, e.still _ _ hs⟩
  · exact .inr h
theorem TupAt.ext (e : Ext S S') {a : Addr} {vs : List V} (h : TupAt K S a vs) : TupAt K S' a vs := h.ext0 e.e0
theorem FroAt.ext (e : Ext S S') {a : Addr} {vs : List V} (h : FroAt K S a vs) : FroAt K S' a vs := h.ext0 e.e0
theorem TupAt.seq {a : Addr} {vs : List V} (h : TupAt K S a vs) : SqT K S.H a vs := by
  rcases h with ⟨u, ⟨h, _⟩, rfl | ⟨o, rfl⟩⟩ | h
  · exact .inl (.inl h)
  · exact .inl (.inr ⟨o, h⟩)
  · exact .inr h
theorem FroAt.seq {a : Addr} {vs : List V} (h : FroAt K S a vs) : SqL K S.H a vs := by
  rcases h with ⟨o, h, _⟩ | h
  · exact .inl (.inr ⟨o, h⟩)
  · exact .inr h
mutual
theorem RV.ext0 (e : Ext0 S S') : ∀ {d : D} {v : V}, RV K S d v → RV K S' d v
  | _, _, .non => .non
  | _, _, .bl b => .bl b
  | _, _, .int i => .int i
  | _, _, .str x => .str x
  | _, _, .tup h r => .tup (h.ext0 e) (RVs.ext0 e r)
  | _, _, .lst h r => .lst (e.still _ _ h) (RVs.ext0 e r)
  | _, _, .fro h r => .fro (h.ext0 e) (RVs.ext0 e r)
  | _, _, .emp h => .emp (e.still _ _ h)
  | _, _, .ref h => by
    rw [← e.agree _ h]
    exact .ref (Nat.lt_of_lt_of_le h e.len)
  | _, _, .oth v => .oth v
theorem RVs.ext0 (e : Ext0 S S') : ∀ {ds : List D} {vs : List V}, RVs K S ds vs → RVs K S' ds vs
  | _, _, .nil => .nil
  | _, _, .cons r t => .cons (RV.ext0 e r) (RVs.ext0 e t)
end
theorem RV.ext (e : Ext S S') {d : D} {v : V} (h : RV K S d v) : RV K S' d v := h.ext0 e.e0
theorem RVs.ext (e : Ext S S') {ds : List D} {vs : List V} (h : RVs K S ds vs) : RVs K S' ds vs := h.ext0 e.e0
theorem RKs.ext0 (e : Ext0 S S') : ∀ {ds : List (Key × D)} {vs : List (Key × V)}, RKs K S ds vs → RKs K S' ds vs
  | _, _, .nil => .nil
  | _, _, .cons r t => .cons (r.ext0 e) (RKs.ext0 e t)
theorem RKs.ext (e : Ext S S') {ds : List (Key × D)} {vs : List (Key × V)} (h : RKs K S ds vs) : RKs K S' ds vs := h.ext0 e.e0
theorem RO.ext0 (e : Ext0 S S') {o : AO} {u : HO} : RO K S o u → RO K S' o u
  | .lst r => .lst (r.ext0 e)
  | .dct r => .dct (r.ext0 e)
theorem RO.ext (e : Ext S S') {o : AO} {u : HO} (h : RO K S o u) : RO K S' o u := h.ext0 e.e0
theorem RVs.length : ∀ {ds : List D} {vs : List V}, RVs K S ds vs → ds.length = vs.length
  | _, _, .nil => rfl
  | _, _, .cons _ t => congrArg (· + 1) (RVs.length t)
theorem RVs.get : ∀ {ds : List D} {vs : List V} {i : Nat} {d : D}, RVs K S ds vs → ds[i]? = some d → ∃ v, vs[i]? = some v ∧ RV K S d v
  | _, _, 0, _, .cons r _, h => by
    simp only [List.getElem?_cons_zero, Option.some.injEq] at h
    subst h
    exact ⟨_, rfl, r⟩
  | _, _, i + 1, _, .cons _ t, h => by
    rw [List.getElem?_cons_succ] at h
    obtain ⟨v, e, r⟩ := RVs.get t h
    exact ⟨v, by rw [List.getElem?_cons_succ]; exact e, r⟩
theorem RVs.append : ∀ {ds es : List D} {vs us : List V}, RVs K S ds vs → RVs K S es us → RVs K S (ds ++ es) (vs ++ us)
  | _, _, _, _, .nil, h => h
  | _, _, _, _, .cons r t, h => .cons r (RVs.append t h)
theorem RVs.take : ∀ (n : Nat) {ds : List D} {vs : List V}, RVs K S ds vs → RVs K S (ds.take n) (vs.take n)
  | 0, _, _, _ => .nil
  | _ + 1, _, _, .nil => .nil
  | n + 1, _, _, .cons r t => .cons r (RVs.take n t)
theorem RVs.drop : ∀ (n : Nat) {ds : List D} {vs : List V}, RVs K S ds vs → RVs K S (ds.drop n) (vs.drop n)
  | 0, _, _, h => h
  | _ + 1, _, _, .nil => .nil
  | n + 1, _, _, .cons _ t => RVs.drop n t
theorem RVs.reverse : ∀ {ds : List D} {vs : List V}, RVs K S ds vs → RVs K S ds.reverse vs.reverse
  | _, _, .nil => .nil
  | _, _, .cons r t => by
    rw [List.reverse_cons, List.reverse_cons]
    exact (RVs.reverse t).append (.cons r .nil)
/-! ## names by slot -/
def RE (K : PySem.W.Frag) (S : Sit) (env : Lc) (σ : St) : Prop :=
  env.length = σ.length ∧ ∀ (i : Nat) (d : D), env[i]? = some (some d) → ∃ v, σ[i]? = some (some v) ∧ RV K S d v
theorem RE.ext0 (e : Ext0 S S') {env : Lc} {σ : St} (h : RE K S env σ) : RE K S' env σ :=
  ⟨h.1, fun i d q => let ⟨v, a, b⟩ := h.2 i d q; ⟨v, a, b.ext0 e⟩⟩
theorem RE.ext (e : Ext S S') {env : Lc} {σ : St} (h : RE K S env σ) : RE K S' env σ :=
  ⟨h.1, fun i d q => let ⟨v, a, b⟩ := h.2 i d q; ⟨v, a, b.ext e⟩⟩
theorem RE.set {env : Lc} {σ : St} (h : RE K S env σ) (i : Nat) {d : D} {v : V} (r : RV K S d v) : RE K S (env.set i (some d)) (σ.set i (some v)) := by
  refine ⟨by rw [List.length_set, List.length_set]; exact h.1, fun j c q => ?_⟩
  by_cases hj : i = j
  · subst hj
    by_cases hl : i < env.length
    · rw [List.getElem?_set_self hl] at q
      cases q
      exact ⟨v, List.getElem?_set_self (h.1 ▸ hl), r⟩
    · rw [List.getElem?_eq_none (by rw [List.length_set]; omega)] at q
      cases q
  · rw [List.getElem?_set_ne hj] at q ⊢
    exact h.2 j c q
theorem RE.drop {env : Lc} {σ : St} (h : RE K S env σ) (i : Nat) : RE K S (env.set i none) σ := by
  refine ⟨by rw [List.length_set]; exact h.1, fun j c q => ?_⟩
  by_cases hj : i = j
  · subst hj
    by_cases hl : i < env.length
    · rw [List.getElem?_set_self hl] at q
      cases q
    · rw [List.getElem?_eq_none (by rw [List.length_set]; omega)] at q
      cases q
  · rw [List.getElem?_set_ne hj] at q
    exact h.2 j c q
def wipeE (env : Lc) : List Nat → Lc
  | [] => env
  | v :: vs => (wipeE env vs).set v none
theorem RE.wiped {env : Lc} {σ : St} (h : RE K S env σ) : ∀ vs : List Nat, RE K S (wipeE env vs) (wipe σ vs)
  | [] => h
  | v :: vs => by
    have ih := RE.wiped h vs
    refine ⟨by show ((wipeE env vs).set v none).length = ((wipe σ vs).set v none).length; rw [List.length_set, List.length_set]; exact ih.1, fun j c q => ?_⟩
    have q' : ((wipeE env vs).set v none)[j]? = some (some c) := q
    show ∃ x, ((wipe σ vs).set v none)[j]? = some (some x) ∧ _
    by_cases hj : v = j
    · subst hj
      by_cases hl : v < (wipeE env vs).length
      · rw [List.getElem?_set_self hl] at q'
        cases q'
      · rw [List.getElem?_eq_none (by rw [List.length_set]; omega)] at q'
        cases q'
    · rw [List.getElem?_set_ne hj] at q' ⊢
      exact ih.2 j c q'

/-! ## runs of the mirror held against the layer -/
abbrev EPT := St → Ex → Sit → Prop
def Post (K : PySem.W.Frag) (EP : EPT) (S : Sit) {α : Type} (G : α → Sit → Prop) : R α → Prop
  | .no => False
  | .ok a ah' => ∀ S', Ext S S' → Ok K S' → S'.ah = ah' → G a S'
  | .ex e env ah' => ∀ S', Ext S S' → Ok K S' → S'.ah = ah' → ∀ σ, RE K S' env σ → EP σ e S'
variable {EP : EPT} {α β : Type}
theorem Post.later {G : α → Sit → Prop} {r : R α} (h : Post K EP S G r) (e : Ext S S') : Post K EP S' G r := by
  cases r with
  | no => exact h
  | ok a ah' => exact fun S'' e' o q => h S'' (e.trans e') o q
  | ex x env ah' => exact fun S'' e' o q => h S'' (e.trans e') o q
theorem Post.imp {G G' : α → Sit → Prop} {r : R α} (h : Post K EP S G r) (f : ∀ a S', Ext S S' → Ok K S' → G a S' → G' a S') : Post K EP S G' r := by
  cases r with
  | no => exact h
  | ok a ah' => exact fun S'' e' o q => f a S'' e' o (h S'' e' o q)
  | ex x env ah' => exact h
theorem Post.split {G : β → Sit → Prop} {m : M α} {f : α → M β} (h : Post K EP S G (M.andThen m f S.ah)) :
    Post K EP S (fun a S1 => Post K EP S1 G (f a S1.ah)) (m S.ah) := by
  unfold M.andThen at h
  cases q : m S.ah with
  | no => rw [q] at h; exact h
  | ok a ah' =>
    rw [q] at h
    intro S1 e o hq
    subst hq
    exact h.later e
  | ex x env ah' => rw [q] at h; exact h
theorem Post.ret {G : α → Sit → Prop} {a : α} (h : Post K EP S G (M.ret a S.ah)) (o : Ok K S) : G a S := h S (Ext.refl S) o rfl
theorem Post.lifted {G : α → Sit → Prop} {x : Option α} (h : Post K EP S G (M.lift x S.ah)) (o : Ok K S) : ∃ a, x = some a ∧ G a S := by
  cases x with
  | none => exact False.elim h
  | some a => exact ⟨a, rfl, Post.ret (a := a) h o⟩
theorem Post.whened {G : α → Sit → Prop} {c : Bool} {m : M α} (h : Post K EP S G (M.when c m S.ah)) : c = true ∧ Post K EP S G (m S.ah) := by
  unfold M.when at h
  cases c with
  | true => exact ⟨rfl, h⟩
  | false => exact False.elim h
end
/-- what is wanted of a value -/
def GV (K : PySem.W.Frag) (Q : VK) : D → Sit → Prop := fun d S => ∀ v, RV K S d v → Q v S.H
def TD (K : PySem.W.Frag) (EP : EPT) (f : Lc → M D) : TE := fun σ H Q => ∃ S env, S.H = H ∧ Ok K S ∧ RE K S env σ ∧ Post K EP S (GV K Q) (f env S.ah)
def TB (K : PySem.W.Frag) (EP : EPT) (f : Lc → M Bool) : TT := fun σ H Q => ∃ S env, S.H = H ∧ Ok K S ∧ RE K S env σ ∧ Post K EP S (fun b S' => Q b S'.H) (f env S.ah)
def GVs (K : PySem.W.Frag) (Q : List V → Hp → Prop) : List D → Sit → Prop := fun ds S => ∀ vs, RVs K S ds vs → Q vs S.H
def TDs (K : PySem.W.Frag) (EP : EPT) (f : Lc → M (List D)) : TA := fun σ H Q => ∃ S env, S.H = H ∧ Ok K S ∧ RE K S env σ ∧ Post K EP S (GVs K Q) (f env S.ah)
inductive Fl where
  | nx | bk | ct | rt (d : D)
def GF (K : PySem.W.Frag) (Dn : Ends) : Fl × Lc → Sit → Prop := fun x S =>
  match x.1 with
  | .nx => ∀ σ, RE K S x.2 σ → Dn.nx σ S.H
  | .bk => ∀ σ, RE K S x.2 σ → Dn.bk σ S.H
  | .ct => ∀ σ, RE K S x.2 σ → Dn.ct σ S.H
  | .rt d => ∀ v, RV K S d v → Dn.rt v S.H
abbrev MS := Lc → M (Fl × Lc)
def TF (K : PySem.W.Frag) (EP : EPT) (g : MS) : TS := fun Dn σ H => ∃ S env, S.H = H ∧ Ok K S ∧ RE K S env σ ∧ Post K EP S (GF K Dn) (g env S.ah)
/-- a target: the value, the names -/
def TGo (K : PySem.W.Frag) (EP : EPT) (g : D → Lc → M Lc) : TG := fun v σ H Q => ∃ S env d, S.H = H ∧ Ok K S ∧ RE K S env σ ∧ RV K S d v ∧ Post K EP S (fun env' S' => ∀ σ', RE K S' env' σ' → Q σ' S'.H) (g d env S.ah)
def TGs' (K : PySem.W.Frag) (EP : EPT) (g : List D → Lc → M Lc) : TGs := fun vs σ H Q => ∃ S env ds, S.H = H ∧ Ok K S ∧ RE K S env σ ∧ RVs K S ds vs ∧ Post K EP S (fun env' S' => ∀ σ', RE K S' env' σ' → Q σ' S'.H) (g ds env S.ah)

section
variable {X : Cx}
theorem PE.by {e : Expr} {t t' : TE} (h : PE X e t) (i : ∀ σ H Q, t' σ H Q → t σ H Q) : PE X e t' := ⟨fun pins s σ H Q I q => h.run pins s σ H Q I (i σ H Q q)⟩
theorem PT.by {e : Expr} {t t' : TT} (h : PT X e t) (i : ∀ σ H Q, t' σ H Q → t σ H Q) : PT X e t' := ⟨fun pins s σ H Q I q => h.run pins s σ H Q I (i σ H Q q)⟩
theorem PW.by {e : Expr} {t t' : TT} (h : PW X e t) (i : ∀ σ H Q, t' σ H Q → t σ H Q) : PW X e t' := ⟨fun wh pins s σ H Q I q => h.run wh pins s σ H Q I (i σ H Q q)⟩
theorem PA.by {e : List Expr} {t t' : TA} (h : PA X e t) (i : ∀ σ H Q, t' σ H Q → t σ H Q) : PA X e t' := ⟨fun pos pins s σ H Q I q => h.run pos pins s σ H Q I (i σ H Q q)⟩
theorem PS.by {e : Stmt} {t t' : TS} (h : PS X e t) (i : ∀ σ H Q, t' Q σ H → t Q σ H) : PS X e t' := ⟨fun pins s σ H Q I q => h.run pins s σ H Q I (i σ H Q q)⟩
theorem PSs.by {e : List Stmt} {t t' : TS} (h : PSs X e t) (i : ∀ σ H Q, t' Q σ H → t Q σ H) : PSs X e t' := ⟨fun pins s σ H Q I q => h.run pins s σ H Q I (i σ H Q q)⟩
theorem PG.by {e : Expr} {t t' : TG} (h : PG X e t) (i : ∀ v σ H Q, t' v σ H Q → t v σ H Q) : PG X e t' := ⟨fun pins s σ H v u Q I r q => h.run pins s σ H v u Q I r (i v σ H Q q)⟩
theorem PGs.by {e : List Expr} {t t' : TGs} (h : PGs X e t) (i : ∀ v σ H Q, t' v σ H Q → t v σ H Q) : PGs X e t' := ⟨fun pins s σ H v u Q I r q => h.run pins s σ H v u Q I r (i v σ H Q q)⟩
end
end Mi
set_option Elab.async false
set_option linter.all false
set_option maxRecDepth 100000
set_option maxHeartbeats 4000000
namespace Mi
open PySem PySem.Spec PyProof.Rows L2

/-! ## new objects, stores -/
section
variable {K : PySem.W.Frag} {S : Sit} {EP : EPT}
/-- something new and still -/
def Sit.with (S : Sit) (p : Addr) (u : HO) : Sit := { S with H := upd S.H p u }
theorem upd_tbl {H : Hp} {p P : Addr} {u : HO} {ps : Array Value} (nt : ∀ ps, u ≠ .tbl ps) (h : upd H p u P = some (.tbl ps)) : H P = some (.tbl ps) ∧ P ≠ p := by
  by_cases z : P = p
  · rw [z, upd_same] at h
    exact (nt ps (Option.some.inj h)).elim
  · rw [upd_ne z] at h
    exact ⟨h, z⟩
theorem Sit.with_ext (ok : Ok K S) {p : Addr} {u : HO} (hp : S.H p = none) : Ext S (S.with p u) where
  tbl := fun P ps h => ⟨ps, by show upd S.H p u P = _; rw [upd_ne (ne_of_none h hp)]; exact h⟩
  len := Nat.le_refl _
  agree := fun _ _ => rfl
  pers := fun a w h => by
    show upd S.H p u a = some w
    rw [upd_ne (ne_of_none h.1 hp)]
    exact h.1
  liv := fun a l => .inl l
  bsy := rfl
  keep := fun a h => by
    obtain ⟨w, e⟩ := ok.bus a h
    show upd S.H p u a = _
    rw [upd_ne (ne_of_none e hp)]
theorem Ok.notLiv (ok : Ok K S) {p : Addr} (hp : S.H p = none) : ¬ Liv S p := fun l => by
  rcases l with ⟨i, o, h, e⟩ | h
  · obtain ⟨u, q, _⟩ := ok.obj i o h
    rw [e, hp] at q
    cases q
  · obtain ⟨u, q⟩ := ok.bus p h
    rw [hp] at q
    cases q
theorem Sit.with_still (ok : Ok K S) {p : Addr} {u : HO} (hp : S.H p = none) (nt : ∀ ps, u ≠ .tbl ps := by intro ps h; cases h) : Still (S.with p u) p u :=
  ⟨upd_same, fun l => ok.notLiv hp l, nt⟩
theorem Sit.with_ok (ok : Ok K S) {p : Addr} {u : HO} (hp : S.H p = none) (nt : ∀ ps, u ≠ .tbl ps := by intro ps h; cases h) : Ok K (S.with p u) where
  tab := fun P ps h => by
    have h2 := upd_tbl nt h
    exact Ext.codes (S' := S.with p u) (fun _ _ s => (Sit.with_ext ok hp).still s) (ok.tab P ps h2.1) (ok.tab P ps h2.1).nb
  obj := fun i o h => by
    obtain ⟨w, q, r⟩ := ok.obj i o h
    refine ⟨w, ?_, r.ext (Sit.with_ext ok hp)⟩
    show upd S.H p u (S.ρ i) = some w
    rw [upd_ne (ne_of_none q hp)]
    exact q
  inj := ok.inj
  bus := fun a h => by
    obtain ⟨w, e⟩ := ok.bus a h
    exact ⟨w, by show upd S.H p u a = _; rw [upd_ne (ne_of_none e hp)]; exact e⟩
  dis := ok.dis
theorem RO.nt {S : Sit} {o : AO} {u : HO} (r : RO K S o u) : ∀ ps, u ≠ .tbl ps := by
  intro ps h
  cases r <;> cases h
/-- a new object of the mirror's heap -/
def Sit.more (S : Sit) (p : Addr) (u : HO) (o : AO) : Sit := ⟨fun i => if i < S.ah.length then S.ρ i else p, S.ah ++ [some o], upd S.H p u, S.busy⟩
theorem Sit.more_old {p : Addr} {u : HO} {o : AO} {i : Nat} (h : i < S.ah.length) : (S.more p u o).ρ i = S.ρ i := if_pos h
theorem Sit.more_new {p : Addr} {u : HO} {o : AO} : (S.more p u o).ρ S.ah.length = p := if_neg (Nat.lt_irrefl _)
theorem more_get {ah : AH} {o : AO} {i : Nat} {q : AO} (h : (ah ++ [some o])[i]? = some (some q)) : (i < ah.length ∧ ah[i]? = some (some q)) ∨ (i = ah.length ∧ q = o) := by
  by_cases hi : i < ah.length
  · rw [List.getElem?_append_left hi] at h
    exact .inl ⟨hi, h⟩
  · rw [List.getElem?_append_right (by omega)] at h
    have e : i - ah.length = 0 := by
      by_cases z : i - ah.length = 0
      · exact z
      · rw [List.getElem?_eq_none (by simp only [List.length_singleton]; omega)] at h
        cases h
    rw [e] at h
    simp only [List.getElem?_cons_zero, Option.some.injEq] at h
    exact .inr ⟨by omega, h.symm⟩
theorem Sit.more_ext (ok : Ok K S) {p : Addr} {u : HO} {o : AO} (hp : S.H p = none) : Ext S (S.more p u o) where
  tbl := fun P ps h => ⟨ps, by show upd S.H p u P = _; rw [upd_ne (ne_of_none h hp)]; exact h⟩
  len := by show S.ah.length ≤ (S.ah ++ [some o]).length; rw [List.length_append]; omega
  agree := fun i h => Sit.more_old h
  pers := fun a w h => by
    show upd S.H p u a = some w
    rw [upd_ne (ne_of_none h.1 hp)]
    exact h.1
  liv := fun a l => by
    rcases l with ⟨i, q, h, e⟩ | l
    · rcases more_get h with ⟨hi, h'⟩ | ⟨hi, _⟩
      · rw [Sit.more_old hi] at e
        exact .inl (.inl ⟨i, q, h', e⟩)
      · subst hi
        rw [Sit.more_new] at e
        rw [← e]
        exact .inr hp
    · exact .inl (.inr l)
  bsy := rfl
  keep := fun a h => by
    obtain ⟨w, e⟩ := ok.bus a h
    show upd S.H p u a = _
    rw [upd_ne (ne_of_none e hp)]
theorem Sit.more_ok (ok : Ok K S) {p : Addr} {u : HO} {o : AO} (hp : S.H p = none) (r : RO K S o u) : Ok K (S.more p u o) where
  tab := fun P ps h => by
    have h2 := upd_tbl r.nt h
    exact Ext.codes (S' := S.more p u o) (fun _ _ s => (Sit.more_ext ok hp).still s) (ok.tab P ps h2.1) (ok.tab P ps h2.1).nb
  obj := fun i q h => by
    rcases more_get h with ⟨hi, h'⟩ | ⟨hi, hq⟩
    · obtain ⟨w, e, r'⟩ := ok.obj i q h'
      refine ⟨w, ?_, r'.ext (Sit.more_ext ok hp)⟩
      rw [Sit.more_old hi]
      show upd S.H p u (S.ρ i) = some w
      rw [upd_ne (ne_of_none e hp)]
      exact e
    · subst hi hq
      refine ⟨u, ?_, r.ext (Sit.more_ext ok hp)⟩
      rw [Sit.more_new]
      exact upd_same
  inj := fun i j o1 o2 h1 h2 e => by
    rcases more_get h1 with ⟨hi, h1'⟩ | ⟨hi, _⟩ <;> rcases more_get h2 with ⟨hj, h2'⟩ | ⟨hj, _⟩
    · rw [Sit.more_old hi, Sit.more_old hj] at e
      exact ok.inj i j o1 o2 h1' h2' e
    · subst hj
      rw [Sit.more_old hi, Sit.more_new] at e
      exact (ok.notLiv hp (.inl ⟨i, o1, h1', e⟩)).elim
    · subst hi
      rw [Sit.more_new, Sit.more_old hj] at e
      exact (ok.notLiv hp (.inl ⟨j, o2, h2', e.symm⟩)).elim
    · rw [hi, hj]
  bus := fun a h => by
    obtain ⟨w, e⟩ := ok.bus a h
    exact ⟨w, by show upd S.H p u a = _; rw [upd_ne (ne_of_none e hp)]; exact e⟩
  dis := fun i q h => by
    rcases more_get h with ⟨hi, h'⟩ | ⟨hi, _⟩
    · rw [Sit.more_old hi]
      exact ok.dis i q h'
    · subst hi
      rw [Sit.more_new]
      exact fun m => ok.notLiv hp (.inr m)
/-- a store -/
def Sit.put (S : Sit) (i : Nat) (u : HO) (o : AO) : Sit := ⟨S.ρ, S.ah.set i (some o), upd S.H (S.ρ i) u, S.busy⟩
theorem put_get {ah : AH} {o q : AO} {i j : Nat} (h : (ah.set i (some o))[j]? = some (some q)) : (i ≠ j ∧ ah[j]? = some (some q)) ∨ (i = j ∧ q = o) := by
  by_cases hj : i = j
  · subst hj
    by_cases hl : i < ah.length
    · rw [List.getElem?_set_self hl] at h
      simp only [Option.some.injEq] at h
      exact .inr ⟨rfl, h.symm⟩
    · rw [List.getElem?_eq_none (by rw [List.length_set]; omega)] at h
      cases h
  · rw [List.getElem?_set_ne hj] at h
    exact .inl ⟨hj, h⟩
theorem Ok.noTbl (ok : Ok K S) {i : Nat} {q : AO} (hi : S.ah[i]? = some (some q)) {P : Addr} {ps : Array Value} (h : S.H P = some (.tbl ps)) : P ≠ S.ρ i := fun z => by
  obtain ⟨w, e, r⟩ := ok.obj i q hi
  rw [← z, h] at e
  exact r.nt ps (Option.some.inj e).symm
theorem Sit.put_ext (ok : Ok K S) {i : Nat} {u : HO} {o q : AO} (hi : S.ah[i]? = some (some q)) : Ext S (S.put i u o) where
  tbl := fun P ps h => ⟨ps, by show upd S.H (S.ρ i) u P = _; rw [upd_ne (ok.noTbl hi h)]; exact h⟩
  len := by show S.ah.length ≤ (S.ah.set i (some o)).length; rw [List.length_set]; omega
  agree := fun _ _ => rfl
  pers := fun a w h => by
    show upd S.H (S.ρ i) u a = some w
    rw [upd_ne fun e => h.2 (.inl ⟨i, q, hi, e.symm⟩)]
    exact h.1
  liv := fun a l => by
    rcases l with ⟨j, q', h, e⟩ | l
    · rcases put_get h with ⟨_, h'⟩ | ⟨hj, _⟩
      · exact .inl (.inl ⟨j, q', h', e⟩)
      · subst hj
        exact .inl (.inl ⟨i, q, hi, e⟩)
    · exact .inl (.inr l)
  bsy := rfl
  keep := fun a h => by
    show upd S.H (S.ρ i) u a = _
    rw [upd_ne fun (z : a = S.ρ i) => ok.dis i q hi (z ▸ h)]
theorem Sit.put_ok (ok : Ok K S) {i : Nat} {u : HO} {o q : AO} (hi : S.ah[i]? = some (some q)) (r : RO K S o u) : Ok K (S.put i u o) where
  tab := fun P ps h => by
    have h2 := upd_tbl r.nt h
    exact Ext.codes (S' := S.put i u o) (fun _ _ s => (Sit.put_ext ok hi).still s) (ok.tab P ps h2.1) (ok.tab P ps h2.1).nb
  obj := fun j q' h => by
    rcases put_get h with ⟨hj, h'⟩ | ⟨hj, hq⟩
    · obtain ⟨w, e, r'⟩ := ok.obj j q' h'
      refine ⟨w, ?_, r'.ext (Sit.put_ext ok hi)⟩
      show upd S.H (S.ρ i) u (S.ρ j) = some w
      rw [upd_ne fun z => hj (ok.inj i j q q' hi h' z.symm)]
      exact e
    · subst hj hq
      exact ⟨u, upd_same, r.ext (Sit.put_ext ok hi)⟩
  inj := fun j k o1 o2 h1 h2 e => by
    rcases put_get h1 with ⟨_, h1'⟩ | ⟨hj, _⟩ <;> rcases put_get h2 with ⟨_, h2'⟩ | ⟨hk, _⟩
    · exact ok.inj j k o1 o2 h1' h2' e
    · exact ok.inj j k o1 q h1' (hk ▸ hi) e
    · exact ok.inj j k q o2 (hj ▸ hi) h2' e
    · rw [← hj, ← hk]
  bus := fun a h => by
    obtain ⟨w, e⟩ := ok.bus a h
    exact ⟨w, by show upd S.H (S.ρ i) u a = _; rw [upd_ne fun (z : a = S.ρ i) => ok.dis i q hi (z ▸ h)]; exact e⟩
  dis := fun j q' h => by
    rcases put_get h with ⟨_, h'⟩ | ⟨hj, _⟩
    · exact ok.dis j q' h'
    · rw [← hj]
      exact ok.dis i q hi
/-- an object of the mirror's heap stands still from here on -/
def Sit.fix (S : Sit) (i : Nat) : Sit := { S with ah := S.ah.set i none }
theorem fix_get {ah : AH} {q : AO} {i j : Nat} (h : (ah.set i none)[j]? = some (some q)) : i ≠ j ∧ ah[j]? = some (some q) := by
  by_cases hj : i = j
  · subst hj
    by_cases hl : i < ah.length
    · rw [List.getElem?_set_self hl] at h
      cases h
    · rw [List.getElem?_eq_none (by rw [List.length_set]; omega)] at h
      cases h
  · rw [List.getElem?_set_ne hj] at h
    exact ⟨hj, h⟩
theorem Sit.fix_ext (i : Nat) : Ext S (S.fix i) where
  tbl := fun _ ps h => ⟨ps, h⟩
  len := by show S.ah.length ≤ (S.ah.set i none).length; rw [List.length_set]; omega
  agree := fun _ _ => rfl
  pers := fun a w h => h.1
  liv := fun a l => by
    rcases l with ⟨j, q', h, e⟩ | l
    · exact .inl (.inl ⟨j, q', (fix_get h).2, e⟩)
    · exact .inl (.inr l)
  bsy := rfl
  keep := fun _ _ => rfl
theorem Sit.fix_ok (ok : Ok K S) (i : Nat) : Ok K (S.fix i) where
  tab := fun P ps h => Ext.codes (S' := S.fix i) (fun _ _ s => (Sit.fix_ext i).still s) (ok.tab P ps h) (ok.tab P ps h).nb
  obj := fun j q h => by
    obtain ⟨w, e, r⟩ := ok.obj j q (fix_get h).2
    exact ⟨w, e, r.ext (Sit.fix_ext i)⟩
  inj := fun j k o1 o2 h1 h2 e => ok.inj j k o1 o2 (fix_get h1).2 (fix_get h2).2 e
  bus := ok.bus
  dis := fun j q h => ok.dis j q (fix_get h).2
theorem Sit.fix_lst (ok : Ok K S) {i : Nat} {ds : List D} (hi : S.ah[i]? = some (some (.lst ds))) : RV K (S.fix i) (.lst ds) (.ref (S.ρ i)) := by
  obtain ⟨u, e, r⟩ := ok.obj i _ hi
  cases r with
  | lst r =>
    refine .lst ⟨e, fun l => ?_, by intro ps h; cases h⟩ (r.ext (Sit.fix_ext i))
    rcases l with ⟨j, q, h, z⟩ | l
    · have h2 := fix_get h
      exact h2.1 (ok.inj i j _ q hi h2.2 z.symm)
    · exact ok.dis i _ hi l
/-! ## mirror's heap: words -/
def newO (o : AO) : M D := fun ah => .ok (.ref ah.length) (ah ++ [some o])
def getO (i : Nat) : M AO := fun ah =>
  match ah[i]? with
  | some (some o) => .ok o ah
  | _ => .no
def putO (i : Nat) (o : AO) : M Unit := fun ah => .ok () (ah.set i (some o))
/-- a list of the mirror's heap becomes a value -/
def fixD : D → M D
  | .ref i => fun ah =>
    match ah[i]? with
    | some (some (.lst ds)) => .ok (.lst ds) (ah.set i none)
    | _ => .no
  | d => M.ret d
theorem Post.got {G : AO → Sit → Prop} {i : Nat} (h : Post K EP S G (getO i S.ah)) (ok : Ok K S) : ∃ o u, S.ah[i]? = some (some o) ∧ i < S.ah.length ∧ S.H (S.ρ i) = some u ∧ RO K S o u ∧ G o S := by
  unfold getO at h
  cases q : S.ah[i]? with
  | none => rw [q] at h; exact False.elim h
  | some x =>
    cases x with
    | none => rw [q] at h; exact False.elim h
    | some o =>
      rw [q] at h
      obtain ⟨u, e, r⟩ := ok.obj i o q
      exact ⟨o, u, rfl, (List.getElem?_eq_some_iff.mp q).1, e, r, h S (Ext.refl S) ok rfl⟩
theorem Post.new {G : D → Sit → Prop} {o : AO} (h : Post K EP S G (newO o S.ah)) (ok : Ok K S) {p : Addr} {u : HO} (hp : S.H p = none) (r : RO K S o u) : G (.ref S.ah.length) (S.more p u o) :=
  h _ (Sit.more_ext ok hp) (Sit.more_ok ok hp r) rfl
theorem Post.putted {G : Unit → Sit → Prop} {i : Nat} {o q : AO} {u : HO} (h : Post K EP S G (putO i o S.ah)) (ok : Ok K S) (hi : S.ah[i]? = some (some q)) (r : RO K S o u) : G () (S.put i u o) :=
  h _ (Sit.put_ext ok hi) (Sit.put_ok ok hi r) rfl
/-! ## what the layer's rules ask, by values -/
def Good1 (K : PySem.W.Frag) (EP : EPT) (r : V → Hp → VK → Prop) (g : D → M D) : Prop := ∀ S x v Q, Ok K S → RV K S x v → Post K EP S (GV K Q) (g x S.ah) → r v S.H Q
def Good2 (K : PySem.W.Frag) (EP : EPT) (r : R2) (g : D → D → M D) : Prop := ∀ S x y v w Q, Ok K S → RV K S x v → RV K S y w → Post K EP S (GV K Q) (g x y S.ah) → r v w S.H Q
def GoodL (K : PySem.W.Frag) (EP : EPT) (r : List V → Hp → VK → Prop) (g : List D → M D) : Prop := ∀ S ds vs Q, Ok K S → RVs K S ds vs → Post K EP S (GV K Q) (g ds S.ah) → r vs S.H Q
def GoodM (K : PySem.W.Frag) (EP : EPT) (T : String) (r : V → List V → Hp → VK → Prop) (c : D → AH → Bool) (g : D → List D → M D) : Prop :=
  (∀ S x v, Ok K S → RV K S x v → c x S.ah = true → tyV K T v S.H) ∧ ∀ S x v ds vs Q, Ok K S → RV K S x v → RVs K S ds vs → Post K EP S (GV K Q) (g x ds S.ah) → r v vs S.H Q
theorem Good2.or {r1 r2 : R2} {g1 g2 g : D → D → M D} (h1 : Good2 K EP r1 g1) (h2 : Good2 K EP r2 g2) (h : ∀ x y ah, g x y ah = .no ∨ g x y ah = g1 x y ah ∨ g x y ah = g2 x y ah) : Good2 K EP (fun x y H Q => r1 x y H Q ∨ r2 x y H Q) g :=
  fun S x y v w Q ok rx ry p => by
    rcases h x y S.ah with e | e | e
    · rw [e] at p; exact False.elim p
    · rw [e] at p; exact .inl (h1 S x y v w Q ok rx ry p)
    · rw [e] at p; exact .inr (h2 S x y v w Q ok rx ry p)
theorem GoodL.or {r1 r2 : List V → Hp → VK → Prop} {g1 g2 g : List D → M D} (h1 : GoodL K EP r1 g1) (h2 : GoodL K EP r2 g2) (h : ∀ x ah, g x ah = .no ∨ g x ah = g1 x ah ∨ g x ah = g2 x ah) : GoodL K EP (fun x H Q => r1 x H Q ∨ r2 x H Q) g :=
  fun S x v Q ok rx p => by
    rcases h x S.ah with e | e | e
    · rw [e] at p; exact False.elim p
    · rw [e] at p; exact .inl (h1 S x v Q ok rx p)
    · rw [e] at p; exact .inr (h2 S x v Q ok rx p)
end
section
variable {X : Cx}
theorem opR_or {f : Value → Value → Sem Value} {r1 r2 : R2} (h1 : OpR X f r1) (h2 : OpR X f r2) : OpR X f (fun x y H Q => r1 x y H Q ∨ r2 x y H Q) :=
  fun pins s σ H x y v u Q I rx ry h => h.elim (h1 pins s σ H x y v u Q I rx ry) (h2 pins s σ H x y v u Q I rx ry)
theorem ixR_or {r1 r2 : R2} (h1 : IxR X r1) (h2 : IxR X r2) : IxR X (fun x y H Q => r1 x y H Q ∨ r2 x y H Q) :=
  fun value slice pins s σ H x y v u Q I rx ry h e => h.elim (fun h => h1 value slice pins s σ H x y v u Q I rx ry h e) fun h => h2 value slice pins s σ H x y v u Q I rx ry h e
theorem callR_or {f : Value} {r1 r2 : List V → Hp → VK → Prop} (h1 : CallR X f r1) (h2 : CallR X f r2) : CallR X f (fun x H Q => r1 x H Q ∨ r2 x H Q) :=
  fun pins s σ H x u Q I rx h => h.elim (h1 pins s σ H x u Q I rx) (h2 pins s σ H x u Q I rx)
end
end Mi
set_option Elab.async false
set_option linter.all false
set_option maxRecDepth 100000
set_option maxHeartbeats 4000000
namespace Mi
open PySem PySem.Spec PyProof.Rows L2

/-! ## expressions -/
def eV (i : Nat) : Lc → M D := fun env => M.lift (env[i]?.join)
def eC (d : D) : Lc → M D := fun _ => M.ret d
def e2 (g : D → D → M D) (a b : Lc → M D) : Lc → M D := fun env => M.andThen (a env) fun x => M.andThen (b env) fun y => g x y
def e1 (g : D → M D) (a : Lc → M D) : Lc → M D := fun env => M.andThen (a env) g
def esN : Lc → M (List D) := fun _ => M.ret []
def esC (a : Lc → M D) (r : Lc → M (List D)) : Lc → M (List D) := fun env => M.andThen (a env) fun x => M.andThen (r env) fun xs => M.ret (x :: xs)
def eL (g : List D → M D) (r : Lc → M (List D)) : Lc → M D := fun env => M.andThen (r env) g
section
variable {X : Cx} {EP : EPT}
theorem Ok.ret {K : PySem.W.Frag} {S : Sit} {α : Type} {G : α → Sit → Prop} (ok : Ok K S) {a : α} (h : Post K EP S G (.ok a S.ah)) : G a S := h S (Ext.refl S) ok rfl
theorem d_var (i : Nat) {x : Str} {pos : Pos} (hN : X.N[i]? = some x := by rfl) (hv : Vis X.env.scope x := by first | exact Or.inl rfl | exact Or.inr (Or.inl rfl) | exact Or.inr (Or.inr rfl))
    (hd : (x == ("__debug__" : Str)) = false := by decide) (hcd : (x == ("__classdict__" : Str)) = false := by decide) : PE X (.Name x pos) (TD X.K EP (eV i)) := by
  refine PE.by (pe_var (i := i) hN hv hd hcd) fun σ H Q h => ?_
  obtain ⟨S, env, rfl, ok, re, p⟩ := h
  unfold eV at p
  obtain ⟨d, hd', g⟩ := Post.lifted p ok
  have he : env[i]? = some (some d) := by
    cases q : env[i]? with
    | none => rw [q] at hd'; cases hd'
    | some y => rw [q] at hd'; cases y with
      | none => cases hd'
      | some z => cases hd'; rfl
  obtain ⟨v, hs, r⟩ := re.2 i d he
  exact ⟨v, hs, g v r⟩
theorem d_of {e : Expr} {d : D} {v : V} (h : PE X e (tC v)) (r : ∀ S, RV X.K S d v) : PE X e (TD X.K EP (eC d)) := by
  refine PE.by h fun σ H Q ⟨S, env, e, ok, re, p⟩ => ?_
  subst e
  exact ok.ret (a := d) p v (r S)
theorem d_int {i j pos} : PE X (.Constant (.int i) j pos) (TD X.K EP (eC (.int i))) := d_of pe_int fun _ => .int i
theorem d_bl {i j pos} : PE X (.Constant (.bool i) j pos) (TD X.K EP (eC (.bl i))) := d_of pe_bl fun _ => .bl i
theorem d_str {i j pos} : PE X (.Constant (.str i) j pos) (TD X.K EP (eC (.str i))) := d_of pe_str fun _ => .str i
theorem d_non {j pos} : PE X (.Constant .none j pos) (TD X.K EP (eC .non)) := d_of pe_non fun _ => .non
variable {a b c : Expr} {fa fb fc : Lc → M D} {pos : Pos}
theorem run1 {K : PySem.W.Frag} {σ : St} {H : Hp} {fa : Lc → M D} {g : D → M D} {r : V → Hp → VK → Prop} {Q : VK} (hg : Good1 K EP r g) (h : TD K EP (e1 g fa) σ H Q) : TD K EP fa σ H fun x H1 => r x H1 Q := by
  obtain ⟨S, env, rfl, ok, re, p⟩ := h
  exact ⟨S, env, rfl, ok, re, (Post.split p).imp fun d S1 e1 o1 q v rv => hg S1 d v Q o1 rv q⟩
theorem run2 {K : PySem.W.Frag} {σ : St} {H : Hp} {fa fb : Lc → M D} {g : D → D → M D} {r : R2} {Q : VK} (hg : Good2 K EP r g) (h : TD K EP (e2 g fa fb) σ H Q) :
    TD K EP fa σ H fun x H1 => TD K EP fb σ H1 fun y H2 => r x y H2 Q := by
  obtain ⟨S, env, rfl, ok, re, p⟩ := h
  exact ⟨S, env, rfl, ok, re, (Post.split p).imp fun d S1 x1 o1 q v rv => ⟨S1, env, rfl, o1, re.ext x1, (Post.split q).imp fun d2 S2 x2 o2 q2 w rw => hg S2 d d2 v w Q o2 (rv.ext x2) rw q2⟩⟩
theorem runL {K : PySem.W.Frag} {σ : St} {H : Hp} {fs : Lc → M (List D)} {g : List D → M D} {r : List V → Hp → VK → Prop} {Q : VK} (hg : GoodL K EP r g) (h : TD K EP (eL g fs) σ H Q) :
    TDs K EP fs σ H fun x H1 => r x H1 Q := by
  obtain ⟨S, env, rfl, ok, re, p⟩ := h
  exact ⟨S, env, rfl, ok, re, (Post.split p).imp fun d S1 e1 o1 q v rv => hg S1 d v Q o1 rv q⟩
theorem d_op {op : Operator} {r : R2} {g : D → D → M D} (hr : OpR X (binaryOp op) r) (hg : Good2 X.K EP r g) (ha : PE X a (TD X.K EP fa)) (hb : PE X b (TD X.K EP fb)) : PE X (.BinOp a op b pos) (TD X.K EP (e2 g fa fb)) :=
  PE.by (pe_op hr ha hb) fun _ _ _ h => run2 hg h
theorem d_un {op : UnaryOp} {r : V → Hp → VK → Prop} {g : D → M D} (hr : UnR X (unaryOp op) r) (hg : Good1 X.K EP r g) (ha : PE X a (TD X.K EP fa)) : PE X (.UnaryOp op a pos) (TD X.K EP (e1 g fa)) :=
  PE.by (pe_un hr ha) fun _ _ _ h => run1 hg h
theorem d_cmp {op : CmpOp} {r : R2} {g : D → D → M D} (hr : OpR X (compareOp op) r) (hg : Good2 X.K EP r g) (ha : PE X a (TD X.K EP fa)) (hb : PE X b (TD X.K EP fb))
    (hm : behindInMarks op b = false := by first | exact nobehind _ (by decide) (by decide) | rfl) : PE X (.Compare a [op] [b] pos) (TD X.K EP (e2 g fa fb)) :=
  PE.by (pe_cmpR hr ha hb hm) fun _ _ _ h => run2 hg h
/-! arguments -/
theorem as_nil : PA X [] (TDs X.K EP esN) := by
  refine PA.by pa_nil fun σ H Q ⟨S, env, e, ok, re, p⟩ => ?_
  subst e
  exact ok.ret (a := ([] : List D)) p [] .nil
theorem as_cons {es : List Expr} {fs : Lc → M (List D)} (ha : PE X a (TD X.K EP fa)) (hr : PA X es (TDs X.K EP fs)) (hs : starEach (a :: es) X.env = (false, eval a X.env) :: starEach es X.env := by rfl) :
    PA X (a :: es) (TDs X.K EP (esC fa fs)) := by
  refine PA.by (pa_cons ha hr hs) fun σ H Q ⟨S, env, e, ok, re, p⟩ => ?_
  subst e
  exact ⟨S, env, rfl, ok, re, (Post.split p).imp fun d S1 x1 o1 q v rv => ⟨S1, env, rfl, o1, re.ext x1, (Post.split q).imp fun ds S2 x2 o2 q2 vs rvs => o2.ret (a := d :: ds) q2 (v :: vs) (.cons (rv.ext x2) rvs)⟩⟩
/-! displays -/
def gTupD (ds : List D) : M D := M.when (decide (ds.length ≤ sizeLine)) (M.ret (.tup ds))
def gLstD (ds : List D) : M D := M.when (decide (ds.length ≤ sizeLine)) (M.ret (.lst ds))
def gLstN (ds : List D) : M D := M.when (decide (ds.length ≤ sizeLine)) (newO (.lst ds))
theorem new_tup {K : PySem.W.Frag} {S : Sit} {ds : List D} {vs : List V} {Q : VK} (ok : Ok K S) (r : RVs K S ds vs) (p : Post K EP S (GV K Q) (M.ret (.tup ds) S.ah)) (q : Addr) (hq : S.H q = none) : Q (.ref q) (upd S.H q (.tup vs)) := by
  have x := Sit.with_ext ok (u := .tup vs) hq
  exact p (S.with q (.tup vs)) x (Sit.with_ok ok hq) rfl (.ref q) (.tup (.inl ⟨_, Sit.with_still ok hq, .inl rfl⟩) (r.ext x))
theorem new_lst {K : PySem.W.Frag} {S : Sit} {ds : List D} {vs : List V} {Q : VK} (ok : Ok K S) (r : RVs K S ds vs) (p : Post K EP S (GV K Q) (M.ret (.lst ds) S.ah)) (q : Addr) (hq : S.H q = none) : Q (.ref q) (upd S.H q (.lst vs)) := by
  have x := Sit.with_ext ok (u := .lst vs) hq
  exact p (S.with q (.lst vs)) x (Sit.with_ok ok hq) rfl (.ref q) (.lst (Sit.with_still ok hq) (r.ext x))
theorem new_lstN {K : PySem.W.Frag} {S : Sit} {ds : List D} {vs : List V} {Q : VK} (ok : Ok K S) (r : RVs K S ds vs) (p : Post K EP S (GV K Q) (newO (.lst ds) S.ah)) (q : Addr) (hq : S.H q = none) : Q (.ref q) (upd S.H q (.lst vs)) := by
  have h := Post.new p ok (u := .lst vs) hq (.lst r)
  have hr : RV K (S.more q (.lst vs) (.lst ds)) (.ref S.ah.length) (.ref ((S.more q (.lst vs) (.lst ds)).ρ S.ah.length)) := .ref (by show S.ah.length < (S.ah ++ [some (AO.lst ds)]).length; rw [List.length_append]; exact Nat.lt_succ_self _)
  rw [Sit.more_new] at hr
  exact h _ hr
theorem d_tup {es : List Expr} {x1 : Nat} {fs : Lc → M (List D)} (h : PA X es (TDs X.K EP fs)) : PE X (.Tuple es x1 pos) (TD X.K EP (eL gTupD fs)) := by
  refine PE.by (pe_tup h) fun σ H Q hh => ?_
  refine runL (r := fun xs H1 Q => xs.length ≤ sizeLine ∧ ∀ p, H1 p = none → Q (.ref p) (upd H1 p (.tup xs))) (fun S ds vs Q ok r p => ?_) hh
  obtain ⟨hc, p⟩ := Post.whened p
  exact ⟨by rw [← r.length]; exact of_decide_eq_true hc, new_tup ok r p⟩
theorem d_lst {es : List Expr} {fs : Lc → M (List D)} (h : PA X es (TDs X.K EP fs)) : PE X (.List es pos) (TD X.K EP (eL gLstD fs)) := by
  refine PE.by (pe_lst h) fun σ H Q hh => ?_
  refine runL (r := fun xs H1 Q => xs.length ≤ sizeLine ∧ ∀ p, H1 p = none → Q (.ref p) (upd H1 p (.lst xs))) (fun S ds vs Q ok r p => ?_) hh
  obtain ⟨hc, p⟩ := Post.whened p
  exact ⟨by rw [← r.length]; exact of_decide_eq_true hc, new_lst ok r p⟩
theorem d_lstN {es : List Expr} {fs : Lc → M (List D)} (h : PA X es (TDs X.K EP fs)) : PE X (.List es pos) (TD X.K EP (eL gLstN fs)) := by
  refine PE.by (pe_lst h) fun σ H Q hh => ?_
  refine runL (r := fun xs H1 Q => xs.length ≤ sizeLine ∧ ∀ p, H1 p = none → Q (.ref p) (upd H1 p (.lst xs))) (fun S ds vs Q ok r p => ?_) hh
  obtain ⟨hc, p⟩ := Post.whened p
  exact ⟨by rw [← r.length]; exact of_decide_eq_true hc, new_lstN ok r p⟩
/-- a list that was the mirror's heap's own stands still from here on -/
theorem d_fix (ha : PE X a (TD X.K EP fa)) : PE X a (TD X.K EP (e1 fixD fa)) := by
  refine PE.by ha fun σ H Q ⟨S, env, e, ok, re, p⟩ => ?_
  subst e
  refine ⟨S, env, rfl, ok, re, (Post.split p).imp fun d S1 x1 o1 q v rv => ?_⟩
  cases rv with
  | @ref i hi =>
    unfold fixD at q
    cases z : S1.ah[i]? with
    | none => simp only [z] at q; exact False.elim q
    | some y =>
      cases y with
      | none => simp only [z] at q; exact False.elim q
      | some o =>
        cases o with
        | dct _ => simp only [z] at q; exact False.elim q
        | lst ds => simp only [z] at q; exact q _ (Sit.fix_ext i) (Sit.fix_ok o1 i) rfl _ (Sit.fix_lst o1 z)
  | non => exact o1.ret (a := D.non) q _ .non
  | bl b => exact o1.ret (a := D.bl b) q _ (.bl b)
  | int b => exact o1.ret (a := D.int b) q _ (.int b)
  | str b => exact o1.ret (a := D.str b) q _ (.str b)
  | tup h1 h2 => exact o1.ret (a := D.tup _) q _ (.tup h1 h2)
  | lst h1 h2 => exact o1.ret (a := D.lst _) q _ (.lst h1 h2)
  | fro h1 h2 => exact o1.ret (a := D.fro _) q _ (.fro h1 h2)
  | emp h1 => exact o1.ret (a := D.emp) q _ (.emp h1)
  | oth => exact o1.ret (a := D.oth _) q _ (.oth _)
end
end Mi
set_option Elab.async false
set_option linter.all false
set_option maxRecDepth 100000
set_option maxHeartbeats 4000000
namespace Mi
open PySem PySem.Spec PyProof.Rows L2
section
variable {X : Cx} {EP : EPT} {K : PySem.W.Frag}
/-! ## numbers -/
def okMul (i j : Int) : Bool := (decide (-(2 ^ 64) < i) && decide (i < 2 ^ 64)) || (decide (-(2 ^ 64) < j) && decide (j < 2 ^ 64)) || decide (i.natAbs.log2 + j.natAbs.log2 < 1000000)
def okDiv (i j : Int) : Bool := decide (j ≠ 0) && decide (j.natAbs.log2 < 9000)
def okPow (i j : Int) : Bool := decide (0 ≤ j) && decide (j ≤ 1000000) && decide (i.natAbs < 2 ^ 64)
def okTxt (x y : Str) : Bool := decide (x.length + y.length ≤ sizeLine)
def okCat (xs ys : List D) : Bool := decide (xs.length + ys.length ≤ sizeLine)
def gAdd : D → D → M D
  | .int i, .int j => M.ret (.int (i + j))
  | .str x, .str y => M.when (okTxt x y) (M.ret (.str (x ++ y)))
  | .tup xs, .tup ys => M.when (okCat xs ys) (M.ret (.tup (xs ++ ys)))
  | .lst xs, .lst ys => M.when (okCat xs ys) (M.ret (.lst (xs ++ ys)))
  | _, _ => M.no
def rAddAll (K : PySem.W.Frag) : R2 := fun x y H Q => rI0 (fun i j => .int (i + j)) x y H Q ∨ (∃ i j, x = .str i ∧ y = .str j ∧ i.length + j.length ≤ sizeLine ∧ Q (.str (i ++ j)) H) ∨ rCatA K x y H Q ∨ rCat x y H Q
theorem o_add : OpR X (binaryOp .Add) (rAddAll X.K) := opR_or op_add (opR_or op_add_str (opR_or op_catA op_cat))
theorem RVs.nil_iff {S : Sit} {ds : List D} {vs : List V} (r : RVs K S ds vs) : vs = [] ↔ ds = [] := by
  cases r with
  | nil => exact ⟨fun _ => rfl, fun _ => rfl⟩
  | cons _ _ => exact ⟨fun z => (nomatch z), fun z => (nomatch z)⟩
theorem g_add : Good2 K EP (rAddAll K) gAdd := by
  intro S x y v w Q ok rx ry p
  unfold gAdd at p
  split at p
  · cases rx; cases ry
    exact .inl ⟨_, _, rfl, rfl, ok.ret p _ (.int _)⟩
  · cases rx; cases ry
    obtain ⟨c, p⟩ := Post.whened p
    exact .inr (.inl ⟨_, _, rfl, rfl, of_decide_eq_true c, ok.ret p _ (.str _)⟩)
  · cases rx with
    | tup h1 r1 =>
      cases ry with
      | tup h2 r2 =>
        obtain ⟨c, p⟩ := Post.whened p
        have c := of_decide_eq_true c
        refine .inr (.inr (.inl ⟨_, _, _, _, rfl, rfl, h1.seq, h2.seq, by rw [← r1.length, ← r2.length]; exact c, fun e => ?_, fun _ e => ?_, fun _ _ => new_tup ok (r1.append r2) p⟩))
        · have e' := r1.nil_iff.mp e
          subst e'
          exact ok.ret p _ (.tup h2 r2)
        · have e' := r2.nil_iff.mp e
          subst e'
          rw [List.append_nil] at p
          exact ok.ret p _ (.tup h1 r1)
  · cases rx with
    | lst h1 r1 =>
      cases ry with
      | lst h2 r2 =>
        obtain ⟨c, p⟩ := Post.whened p
        have c := of_decide_eq_true c
        exact .inr (.inr (.inr ⟨_, _, _, _, rfl, rfl, h1.1, h2.1, by rw [← r1.length, ← r2.length]; exact c, new_lst ok (r1.append r2) p⟩))
  · exact False.elim p
/-- two ints -/
def gI (c : Int → Int → Bool) (f : Int → Int → D) : D → D → M D
  | .int i, .int j => M.when (c i j) (M.ret (f i j))
  | _, _ => M.no
theorem g_int {C : Int → Int → Prop} {c : Int → Int → Bool} {f : Int → Int → D} {h : Int → Int → V} (hc : ∀ i j, c i j = true → C i j) (hf : ∀ S i j, RV K S (f i j) (h i j)) : Good2 K EP (rI C h) (gI c f) := by
  intro S x y v w Q ok rx ry p
  unfold gI at p
  split at p
  · cases rx; cases ry
    obtain ⟨cc, p⟩ := Post.whened p
    exact ⟨_, _, rfl, rfl, hc _ _ cc, ok.ret p _ (hf S _ _)⟩
  · exact False.elim p
theorem g_int0 {f : Int → Int → D} {h : Int → Int → V} (hf : ∀ S i j, RV K S (f i j) (h i j)) : Good2 K EP (rI0 h) (gI (fun _ _ => true) f) := by
  intro S x y v w Q ok rx ry p
  unfold gI at p
  split at p
  · cases rx; cases ry
    exact ⟨_, _, rfl, rfl, ok.ret p _ (hf S _ _)⟩
  · exact False.elim p
def gSub := gI (fun _ _ => true) fun i j => .int (i - j)
theorem g_sub : Good2 K EP (rI0 fun i j => .int (i - j)) gSub := g_int0 fun _ _ _ => .int _
def gFdiv := gI okDiv fun i j => .int (i.fdiv j)
def CDv (i j : Int) : Prop := j ≠ 0 ∧ j.natAbs.log2 < 9000
theorem o_fdiv : OpR X (binaryOp .FloorDiv) (rI CDv fun i j => .int (i.fdiv j)) := opI fun _ _ _ _ _ _ _ hc q => floordiv_int hc.1 q (.inl (PyProof.noPylong_of_log2 hc.2))
theorem g_fdiv : Good2 K EP (rI CDv fun i j => .int (i.fdiv j)) gFdiv := g_int (fun i j h => by
  have h' := Bool.and_eq_true_iff.mp h
  exact ⟨of_decide_eq_true h'.1, of_decide_eq_true h'.2⟩) fun _ _ _ => .int _
def gMod := gI (fun _ j => decide (j ≠ 0)) fun i j => .int (i.fmod j)
theorem g_mod : Good2 K EP (rI (fun _ j => j ≠ 0) fun i j => .int (i.fmod j)) gMod := g_int (fun _ _ h => of_decide_eq_true h) fun _ _ _ => .int _
def gPow := gI okPow fun i j => .int (i ^ j.toNat)
theorem okPow_ok {i j : Int} (h : okPow i j = true) : CPow i j := by
  have h1 := Bool.and_eq_true_iff.mp h
  have h2 := Bool.and_eq_true_iff.mp h1.1
  exact ⟨of_decide_eq_true h2.1, of_decide_eq_true h2.2, of_decide_eq_true h1.2⟩
theorem g_pow : Good2 K EP (rI CPow fun i j => .int (i ^ j.toNat)) gPow := g_int (fun _ _ h => okPow_ok h) fun _ _ _ => .int _
def gShl := gI okPow fun i j => .int (i * 2 ^ j.toNat)
theorem g_shl : Good2 K EP (rI CPow fun i j => .int (i * 2 ^ j.toNat)) gShl := g_int (fun _ _ h => okPow_ok h) fun _ _ _ => .int _
def gShr := gI (fun _ j => decide (0 ≤ j)) fun i j => .int (i / 2 ^ j.toNat)
theorem g_shr : Good2 K EP (rI (fun _ j => 0 ≤ j) fun i j => .int (i / 2 ^ j.toNat)) gShr := g_int (fun _ _ h => of_decide_eq_true h) fun _ _ _ => .int _
def gAnd := gI (fun _ _ => true) fun i j => .int (Builtin.bitAnd i j)
theorem g_and : Good2 K EP (rI0 fun i j => .int (Builtin.bitAnd i j)) gAnd := g_int0 fun _ _ _ => .int _
def gNeg : D → M D
  | .int i => M.ret (.int (-i))
  | _ => M.no
theorem g_neg : Good1 K EP (rU fun i => .int (-i)) gNeg := by
  intro S x v Q ok rx p
  unfold gNeg at p
  split at p
  · cases rx
    exact ⟨_, rfl, ok.ret p _ (.int _)⟩
  · exact False.elim p
def okRep (xs : List D) (k : Int) : Bool := decide (-(2 ^ 63) ≤ k) && decide (k < 2 ^ 63) && decide (xs.length * k.toNat ≤ sizeLine)
def gMul : D → D → M D
  | .int i, .int j => M.when (okMul i j) (M.ret (.int (i * j)))
  | .lst xs, .int k => M.when (okRep xs k) (M.ret (.lst (List.replicate k.toNat xs).flatten))
  | _, _ => M.no
def CMl (i j : Int) : Prop := CMul i j ∨ CMulW i j
theorem okMul_ok {i j : Int} (h : okMul i j = true) : CMl i j := by
  rcases Bool.or_eq_true_iff.mp h with h | h
  · rcases Bool.or_eq_true_iff.mp h with h | h
    · have h' := Bool.and_eq_true_iff.mp h
      exact .inl (.inl ⟨of_decide_eq_true h'.1, of_decide_eq_true h'.2⟩)
    · have h' := Bool.and_eq_true_iff.mp h
      exact .inl (.inr ⟨of_decide_eq_true h'.1, of_decide_eq_true h'.2⟩)
  · have c : _ < _ := of_decide_eq_true h
    exact .inr c
def rMulAll : R2 := fun x y H Q => rI CMl (fun i j => .int (i * j)) x y H Q ∨ rRep x y H Q
theorem o_mulI : OpR X (binaryOp .Mult) (rI CMl fun i j => .int (i * j)) := opI fun _ _ _ _ _ _ _ hc q => mul_int q (hc.elim (fun c => c.ok) fun c => c.ok)
theorem o_mul : OpR X (binaryOp .Mult) rMulAll := opR_or o_mulI op_rep
theorem RVs.rep {S : Sit} {ds : List D} {vs : List V} (r : RVs K S ds vs) : ∀ n, RVs K S (List.replicate n ds).flatten (List.replicate n vs).flatten
  | 0 => .nil
  | n + 1 => by
    rw [List.replicate_succ, List.replicate_succ, List.flatten_cons, List.flatten_cons]
    exact r.append (RVs.rep r n)
theorem g_mul : Good2 K EP rMulAll gMul := by
  intro S x y v w Q ok rx ry p
  unfold gMul at p
  split at p
  · cases rx; cases ry
    obtain ⟨c, p⟩ := Post.whened p
    exact .inl ⟨_, _, rfl, rfl, okMul_ok c, ok.ret p _ (.int _)⟩
  · cases ry
    cases rx with
    | lst h1 r1 =>
      obtain ⟨c, p⟩ := Post.whened p
      have c1 := Bool.and_eq_true_iff.mp c
      have c2 := Bool.and_eq_true_iff.mp c1.1
      exact .inr ⟨_, _, _, rfl, rfl, h1.1, of_decide_eq_true c2.1, of_decide_eq_true c2.2, by rw [← r1.length]; exact of_decide_eq_true c1.2, new_lst ok (r1.rep _) p⟩
  · exact False.elim p
/-! ## comparisons -/
def gCmp (f : Int → Int → Bool) := gI (fun _ _ => true) fun i j => .bl (f i j)
def gLt := gCmp fun i j => decide (i < j)
def gLe := gCmp fun i j => decide (i ≤ j)
def gGt := gCmp fun i j => decide (j < i)
def gGe := gCmp fun i j => decide (j ≤ i)
theorem g_lt : Good2 K EP (rI0 fun i j => .bl (decide (i < j))) gLt := g_int0 fun _ _ _ => .bl _
theorem g_le : Good2 K EP (rI0 fun i j => .bl (decide (i ≤ j))) gLe := g_int0 fun _ _ _ => .bl _
theorem g_gt : Good2 K EP (rI0 fun i j => .bl (decide (j < i))) gGt := g_int0 fun _ _ _ => .bl _
theorem g_ge : Good2 K EP (rI0 fun i j => .bl (decide (j ≤ i))) gGe := g_int0 fun _ _ _ => .bl _
/-! data without the heap -/
mutual
def D.p : D → PyData
  | .non => .none
  | .bl b => .bool b
  | .int i => .int i
  | .str x => .str x
  | .tup xs => .tuple (D.ps xs)
  | .lst xs => .list (D.ps xs)
  | .fro xs => .list (D.ps xs)
  | .emp => .dict []
  | .ref _ => .none
  | .oth _ => .none
def D.ps : List D → List PyData
  | [] => []
  | x :: xs => D.p x :: D.ps xs
end
mutual
/-- data for == : no dict -/
def D.flat : D → Bool
  | .non => true
  | .bl _ => true
  | .int _ => true
  | .str _ => true
  | .tup xs => D.flats xs
  | .lst xs => D.flats xs
  | .fro xs => D.flats xs
  | .emp => false
  | .ref _ => false
  | .oth _ => false
def D.flats : List D → Bool
  | [] => true
  | x :: xs => D.flat x && D.flats xs
end
mutual
theorem RV.dp {S : Sit} : ∀ {d : D} {v : V}, RV K S d v → d.flat = true → Dp K S.H v d.p
  | _, _, .non, _ => .non
  | _, _, .bl b, _ => .bl b
  | _, _, .int i, _ => .int i
  | _, _, .str x, _ => .str x
  | _, _, .tup h r, f => .tup h.seq (RVs.dp r f)
  | _, _, .lst h r, f => .lst (SqL.of h.1) (RVs.dp r f)
  | _, _, .fro h r, f => .lst h.seq (RVs.dp r f)
  | _, _, .emp _, f => nomatch f
  | _, _, .ref _, f => nomatch f
  | _, _, .oth _, f => nomatch f
theorem RVs.dp {S : Sit} : ∀ {ds : List D} {vs : List V}, RVs K S ds vs → D.flats ds = true → DpAll K S.H vs (D.ps ds)
  | _, _, .nil, _ => .nil
  | _, _, .cons r t, f => .cons (RV.dp r (Bool.and_eq_true_iff.mp f).1) (RVs.dp t (Bool.and_eq_true_iff.mp f).2)
end
def okEq (x y : D) : Bool := x.flat && y.flat && SeqAt.shaped x.p && SeqAt.shaped y.p
def gEq (x y : D) : M D := match x, y with
  | .int i, .int j => M.ret (.bl (decide (i = j)))
  | .str i, .str j => M.ret (.bl (decide (i = j)))
  | .lst xs, .lst ys => if xs.length ≠ ys.length then M.ret (.bl false) else M.when (okEq (.lst xs) (.lst ys)) (M.ret (.bl (PyData.eqv (D.p (.lst xs)) (D.p (.lst ys)))))
  | x, y => M.when (okEq x y) (M.ret (.bl (PyData.eqv x.p y.p)))
def gNe (x y : D) : M D := match x, y with
  | .int i, .int j => M.ret (.bl (!decide (i = j)))
  | .str i, .str j => M.ret (.bl (!decide (i = j)))
  | x, y => M.when (okEq x y) (M.ret (.bl (!PyData.eqv x.p y.p)))
/-- two lists of unlike length -/
def rEqLn : R2 := fun x y H Q => ∃ l b xs ys, x = .ref l ∧ y = .ref b ∧ H l = some (.lst xs) ∧ H b = some (.lst ys) ∧ xs.length ≠ ys.length ∧ Q (.bl false) H
theorem op_eqLn (hu : X.A.units + 64 < cLine) : OpR X (compareOp .Eq) rEqLn := by
  intro pins s σ H x y v u Q I rx ry h
  obtain ⟨l, b, xs, ys, rfl, rfl, hH, hB, hz, q⟩ := h
  cases rx
  cases ry
  obtain ⟨z, its, n, r, hl, e⟩ := I.lstM hH
  obtain ⟨z2, its2, n2, r2, hl2, e2⟩ := I.lstM hB
  refine PySem.P.eq_list_lengths e e2 (by rw [List.size_toArray, List.size_toArray, ← hl, ← hl2]; exact bne_iff_ne.mpr hz) (by omega) ?_
  exact ⟨.bl false, H, I, rfl, q⟩
def rEqAll (K : PySem.W.Frag) : R2 := fun x y H Q => rEq x y H Q ∨ rEqD K x y H Q ∨ rEqLn x y H Q
def rNeAll (K : PySem.W.Frag) : R2 := fun x y H Q => rNe x y H Q ∨ rNeD K x y H Q
theorem o_eq (hu : X.A.units + 64 < cLine) : OpR X (compareOp .Eq) (rEqAll X.K) := opR_or op_eq (opR_or (op_eqD hu) (op_eqLn hu))
theorem o_ne (hu : X.A.units + 64 < cLine) : OpR X (compareOp .NotEq) (rNeAll X.K) := opR_or op_ne (op_neD hu)
theorem dec_int (i j : Int) : decide (V.int i = V.int j) = decide (i = j) := by
  by_cases e : i = j
  · subst e; rw [decide_eq_true rfl, decide_eq_true rfl]
  · rw [decide_eq_false e, decide_eq_false fun z => e (V.int.inj z)]
theorem dec_str (i j : Str) : decide (V.str i = V.str j) = decide (i = j) := by
  by_cases e : i = j
  · subst e; rw [decide_eq_true rfl, decide_eq_true rfl]
  · rw [decide_eq_false e, decide_eq_false fun z => e (V.str.inj z)]
theorem okEq_ok {x y : D} (h : okEq x y = true) : x.flat = true ∧ y.flat = true ∧ SeqAt.shaped x.p = true ∧ SeqAt.shaped y.p = true := by
  have h1 := Bool.and_eq_true_iff.mp h
  have h2 := Bool.and_eq_true_iff.mp h1.1
  have h3 := Bool.and_eq_true_iff.mp h2.1
  exact ⟨h3.1, h3.2, h2.2, h1.2⟩
theorem g_eq : Good2 K EP (rEqAll K) gEq := by
  intro S x y v w Q ok rx ry p
  unfold gEq at p
  split at p
  · cases rx; cases ry
    have q := ok.ret p _ (.bl _)
    rw [← dec_int] at q
    exact .inl ⟨rfl, q⟩
  · cases rx; cases ry
    have q := ok.ret p _ (.bl _)
    rw [← dec_str] at q
    exact .inl ⟨rfl, q⟩
  · split at p
    · rename_i hne
      cases rx with
      | lst h1 r1 =>
        cases ry with
        | lst h2 r2 => exact .inr (.inr ⟨_, _, _, _, rfl, rfl, h1.1, h2.1, by rw [← r1.length, ← r2.length]; exact hne, ok.ret p _ (.bl _)⟩)
    · obtain ⟨c, p⟩ := Post.whened p
      obtain ⟨c1, c2, c3, c4⟩ := okEq_ok c
      exact .inr (.inl ⟨_, _, rx.dp c1, ry.dp c2, c3, c4, ok.ret p _ (.bl _)⟩)
  · obtain ⟨c, p⟩ := Post.whened p
    obtain ⟨c1, c2, c3, c4⟩ := okEq_ok c
    exact .inr (.inl ⟨_, _, rx.dp c1, ry.dp c2, c3, c4, ok.ret p _ (.bl _)⟩)
theorem g_ne : Good2 K EP (rNeAll K) gNe := by
  intro S x y v w Q ok rx ry p
  unfold gNe at p
  split at p
  · cases rx; cases ry
    have q := ok.ret p _ (.bl _)
    rw [← dec_int] at q
    exact .inl ⟨rfl, q⟩
  · cases rx; cases ry
    have q := ok.ret p _ (.bl _)
    rw [← dec_str] at q
    exact .inl ⟨rfl, q⟩
  · obtain ⟨c, p⟩ := Post.whened p
    obtain ⟨c1, c2, c3, c4⟩ := okEq_ok c
    exact .inr ⟨_, _, rx.dp c1, ry.dp c2, c3, c4, ok.ret p _ (.bl _)⟩
def D.isNon : D → Bool
  | .non => true
  | _ => false
def gIsN (x y : D) : M D := match y with
  | .non => match x with
    | .oth _ => M.no
    | _ => M.ret (.bl x.isNon)
  | _ => M.no
def gNotN (x y : D) : M D := match y with
  | .non => match x with
    | .oth _ => M.no
    | _ => M.ret (.bl (!x.isNon))
  | _ => M.no
theorem RV.isNon {S : Sit} {d : D} {v : V} (r : RV K S d v) (h : ∀ u, d ≠ .oth u) : decide (v = V.non) = d.isNon := by
  cases r with
  | non => rfl
  | oth v => exact absurd rfl (h v)
  | bl b => rfl
  | int i => rfl
  | str x => rfl
  | tup _ _ => rfl
  | lst _ _ => rfl
  | fro _ _ => rfl
  | emp _ => rfl
  | ref _ => rfl
theorem g_isN : Good2 K EP (fun x y H Q => y = .non ∧ Q (.bl (decide (x = .non))) H) gIsN := by
  intro S x y v w Q ok rx ry p
  unfold gIsN at p
  split at p
  · cases ry
    split at p
    · exact False.elim p
    · rename_i h
      refine ⟨rfl, ?_⟩
      rw [rx.isNon fun u z => h u z]
      exact ok.ret p _ (.bl _)
  · exact False.elim p
theorem g_notN : Good2 K EP (fun x y H Q => y = .non ∧ Q (.bl (!decide (x = .non))) H) gNotN := by
  intro S x y v w Q ok rx ry p
  unfold gNotN at p
  split at p
  · cases ry
    split at p
    · exact False.elim p
    · rename_i h
      refine ⟨rfl, ?_⟩
      rw [rx.isNon fun u z => h u z]
      exact ok.ret p _ (.bl _)
  · exact False.elim p
/-! ## items -/
def gIx : D → D → M D
  | .tup xs, .int i => M.lift (atI xs i)
  | .lst xs, .int i => M.lift (atI xs i)
  | .fro xs, .int i => M.lift (atI xs i)
  | .ref n, .int i => M.andThen (getO n) fun o => match o with
    | .lst xs => M.lift (atI xs i)
    | .dct _ => M.no
  | _, _ => M.no
theorem RVs.atI {S : Sit} {ds : List D} {vs : List V} {i : Int} {d : D} (r : RVs K S ds vs) (h : L2.atI ds i = some d) : ∃ v, L2.atI vs i = some v ∧ RV K S d v := by
  unfold L2.atI at h ⊢
  rw [← r.length]
  cases q : ixN ds.length i with
  | none => rw [q] at h; cases h
  | some j =>
    rw [q] at h
    exact r.get h
theorem g_ix : Good2 K EP (fun x y H Q => rIxL K x y H Q ∨ rIxT K x y H Q) gIx := by
  intro S x y v w Q ok rx ry p
  unfold gIx at p
  split at p
  · cases ry
    cases rx with
    | tup h r =>
      obtain ⟨d, e, g⟩ := Post.lifted p ok
      obtain ⟨v, e2, rv⟩ := r.atI e
      exact .inr ⟨_, _, _, v, rfl, rfl, h.seq, e2, g v rv⟩
  · cases ry
    cases rx with
    | lst h r =>
      obtain ⟨d, e, g⟩ := Post.lifted p ok
      obtain ⟨v, e2, rv⟩ := r.atI e
      exact .inl ⟨_, _, _, v, rfl, rfl, SqL.of h.1, e2, g v rv⟩
  · cases ry
    cases rx with
    | fro h r =>
      obtain ⟨d, e, g⟩ := Post.lifted p ok
      obtain ⟨v, e2, rv⟩ := r.atI e
      exact .inl ⟨_, _, _, v, rfl, rfl, h.seq, e2, g v rv⟩
  · cases ry
    cases rx with
    | ref hi =>
      obtain ⟨o, u, e1, _, e2, ro, p⟩ := Post.got (Post.split p) ok
      cases ro with
      | dct _ => exact False.elim p
      | lst r =>
        obtain ⟨d, e, g⟩ := Post.lifted p ok
        obtain ⟨v, e3, rv⟩ := r.atI e
        exact .inl ⟨_, _, _, v, rfl, rfl, SqL.of e2, e3, g v rv⟩
  · exact False.elim p
theorem d_ix {a b : Expr} {fa fb : Lc → M D} {pos : Pos} (ha : PE X a (TD X.K EP fa)) (hb : PE X b (TD X.K EP fb)) (hp : PlainIx b := by exact fun _ _ => rfl) : PE X (.Subscript a b pos) (TD X.K EP (e2 gIx fa fb)) :=
  PE.by (pe_ix (ixR_or ix_list ix_tup) ha hb hp) fun _ _ _ h => run2 g_ix h
/-! slices: bounds are ints -/
def cutD (xs : List D) (lo hi : Option Int) : List D := (xs.drop (HT.sIx xs.length 0 lo)).take (HT.sIx xs.length xs.length hi - HT.sIx xs.length 0 lo)
def gSl (x : D) (lo hi : Option Int) : M D := match x with
  | .lst xs => M.ret (.lst (cutD xs lo hi))
  | .fro xs => M.ret (.lst (cutD xs lo hi))
  | .tup xs => M.ret (.tup (cutD xs lo hi))
  | _ => M.no
theorem RVs.cut {S : Sit} {ds : List D} {vs : List V} (r : RVs K S ds vs) (lo hi : Option Int) : RVs K S (cutD ds lo hi) (cutV vs lo hi) := by
  unfold cutD cutV
  rw [r.length]
  exact (r.drop _).take _
theorem slR_or {r1 r2 : V → Option Int → Option Int → Hp → VK → Prop} (h1 : SlR X r1) (h2 : SlR X r2) : SlR X (fun x lo hi H Q => r1 x lo hi H Q ∨ r2 x lo hi H Q) :=
  fun pins s σ H x v vl vu lo hi sl Q I rx hs pl pu h => h.elim (fun h => h1 pins s σ H x v vl vu lo hi sl Q I rx hs pl pu h) fun h => h2 pins s σ H x v vl vu lo hi sl Q I rx hs pl pu h
def asPart : D → Option Int
  | .int i => some i
  | _ => none
def partN : Lc → M (Option Int) := fun _ => M.ret none
def partI (f : Lc → M D) : Lc → M (Option Int) := fun env => M.andThen (f env) fun d => match d with
  | .int i => M.ret (some i)
  | _ => M.no
def TO' (K : PySem.W.Frag) (EP : EPT) (f : Lc → M (Option Int)) : TO := fun σ H Q => ∃ S env, S.H = H ∧ Ok K S ∧ RE K S env σ ∧ Post K EP S (fun o S' => Q o S'.H) (f env S.ah)
theorem PO.by {e : Option Expr} {t t' : TO} (h : PO X e t) (i : ∀ σ H Q, t' σ H Q → t σ H Q) : PO X e t' := ⟨fun pins s σ H Q I q => h.run pins s σ H Q I (i σ H Q q)⟩
theorem p_none : PO X none (TO' X.K EP partN) := PO.by po_none fun σ H Q ⟨S, env, e, ok, re, p⟩ => by
  subst e
  exact ok.ret (a := (none : Option Int)) p
theorem p_some {e : Expr} {f : Lc → M D} (h : PE X e (TD X.K EP f)) : PO X (some e) (TO' X.K EP (partI f)) := PO.by (po_some h) fun σ H Q ⟨S, env, e, ok, re, p⟩ => by
  subst e
  refine ⟨S, env, rfl, ok, re, (Post.split p).imp fun d S1 x1 o1 q v rv => ?_⟩
  cases rv with
  | int i => exact ⟨i, rfl, o1.ret (a := some i) q⟩
  | non => exact False.elim q
  | bl _ => exact False.elim q
  | str _ => exact False.elim q
  | tup _ _ => exact False.elim q
  | lst _ _ => exact False.elim q
  | fro _ _ => exact False.elim q
  | emp _ => exact False.elim q
  | ref _ => exact False.elim q
  | oth => exact False.elim q
def eSl (fa : Lc → M D) (fl fh : Lc → M (Option Int)) : Lc → M D := fun env => M.andThen (fa env) fun x => M.andThen (fl env) fun l => M.andThen (fh env) fun h => gSl x l h
theorem d_slice {e : Expr} {lo hi : Option Expr} {fa : Lc → M D} {fl fh : Lc → M (Option Int)} {pos p2 : Pos} (ha : PE X e (TD X.K EP fa)) (hl : PO X lo (TO' X.K EP fl)) (hh : PO X hi (TO' X.K EP fh)) :
    PE X (.Subscript e (.Slice lo hi none p2) pos) (TD X.K EP (eSl fa fl fh)) := by
  refine PE.by (pe_slice (slR_or sl_list sl_tupA) ha hl hh) fun σ H Q ⟨S, env, e, ok, re, p⟩ => ?_
  subst e
  refine ⟨S, env, rfl, ok, re, (Post.split p).imp fun d S1 x1 o1 q v rv => ⟨S1, env, rfl, o1, re.ext x1, (Post.split q).imp fun l S2 x2 o2 q2 => ⟨S2, env, rfl, o2, (re.ext x1).ext x2, (Post.split q2).imp fun h S3 x3 o3 q3 => ?_⟩⟩⟩
  have rv := (rv.ext x2).ext x3
  unfold gSl at q3
  split at q3
  · cases rv with
    | lst h1 r1 => exact .inl ⟨_, _, rfl, SqL.of h1.1, new_lst o3 (r1.cut _ _) q3⟩
  · cases rv with
    | fro h1 r1 => exact .inl ⟨_, _, rfl, h1.seq, new_lst o3 (r1.cut _ _) q3⟩
  · cases rv with
    | @tup _ _ vs h1 r1 =>
      refine .inr ⟨_, _, rfl, h1.seq, fun hw => ?_, fun _ => new_tup o3 (r1.cut _ _) q3⟩
      refine o3.ret q3 _ (.tup h1 ?_)
      have hc := r1.cut l h
      have e : cutV vs l h = vs := by
        unfold cutV
        rw [hw.1, hw.2, List.drop_zero, Nat.sub_zero, List.take_length]
      rw [e] at hc
      exact hc
  · exact False.elim q3
end
end Mi
set_option Elab.async false
set_option linter.all false
set_option maxRecDepth 100000
set_option maxHeartbeats 4000000
namespace Mi
open PySem PySem.Spec PyProof.Rows L2
/-- the room that the rules ask for -/
theorem room66 {k : Nat} {A : Around} (r : Room k A) : A.units + 66 < cLine := by have := r.un; omega
structure Rm (X : Cx) : Prop where
  gu : X.A.guards = some []
  un : X.A.units + 64 < cLine
  cm : X.calm = true
  u5 : X.A.units + 66 < cLine
section
variable {X : Cx} {EP : EPT} {K : PySem.W.Frag}
/-! ## tests -/
def tV (f : Lc → M D) : Lc → M Bool := fun env => M.andThen (f env) fun d => match d with
  | .bl b => M.ret b
  | _ => M.no
theorem runB {σ : St} {H : Hp} {f : Lc → M D} {Q : Bool → Hp → Prop} (h : TB K EP (tV f) σ H Q) : TD K EP f σ H fun x H1 => ∃ c, x = .bl c ∧ Q c H1 := by
  obtain ⟨S, env, rfl, ok, re, p⟩ := h
  refine ⟨S, env, rfl, ok, re, (Post.split p).imp fun d S1 x1 o1 q v rv => ?_⟩
  split at q
  · cases rv
    exact ⟨_, rfl, o1.ret q⟩
  · exact False.elim q
variable {a b c : Expr} {fa fb fc : Lc → M D} {ta tb tc : Lc → M Bool} {pos : Pos} {rest : List Expr}
theorem t_val {e : Expr} {f : Lc → M D} (h : PE X e (TD X.K EP f)) (he : ∀ whole, isTrue e X.env whole = (do let v ← whole; standAt e.pos; holding [v] (truthy v)) := by intro _; rfl) : PT X e (TB X.K EP (tV f)) :=
  PT.by (pt_val h he) fun _ _ _ q => runB q
theorem t_cmp {op : CmpOp} {r : R2} {g : D → D → M D} (hr : OpR X (compareOp op) r) (hg : Good2 X.K EP r g) (ha : PE X a (TD X.K EP fa)) (hb : PE X b (TD X.K EP fb))
    (hm : behindInMarks op b = false := by first | exact nobehind _ (by decide) (by decide) | rfl) : PT X (.Compare a [op] [b] pos) (TB X.K EP (tV (e2 g fa fb))) :=
  PT.by (pt_cmpR hr ha hb hm) fun _ _ _ q => run2 (Q := fun x H' => ∃ k, x = .bl k ∧ _) hg (runB q)
def tN (t : Lc → M Bool) : Lc → M Bool := fun env => M.andThen (t env) fun b => M.ret (!b)
theorem t_not (h : PT X a (TB X.K EP ta)) : PT X (.UnaryOp .Not a pos) (TB X.K EP (tN ta)) := by
  refine PT.by (pt_not h) fun σ H Q ⟨S, env, e, ok, re, p⟩ => ?_
  subst e
  exact ⟨S, env, rfl, ok, re, (Post.split p).imp fun d S1 x1 o1 q => o1.ret q⟩
def tA (s t : Lc → M Bool) : Lc → M Bool := fun env => M.andThen (s env) fun b => if b = true then t env else M.ret false
def tO (s t : Lc → M Bool) : Lc → M Bool := fun env => M.andThen (s env) fun b => if b = true then M.ret true else t env
theorem w_and1 (h : PT X a (TB X.K EP ta)) : PW X (.BoolOp .And [a] pos) (TB X.K EP ta) := pw_and1 h
theorem w_or1 (h : PT X a (TB X.K EP ta)) : PW X (.BoolOp .Or [a] pos) (TB X.K EP ta) := pw_or1 h
theorem w_and (h : PT X a (TB X.K EP ta)) (h2 : PW X (.BoolOp .And (b :: rest) pos) (TB X.K EP tb)) : PW X (.BoolOp .And (a :: b :: rest) pos) (TB X.K EP (tA ta tb)) := by
  refine PW.by (pw_and h h2) fun σ H Q ⟨S, env, e, ok, re, p⟩ => ?_
  subst e
  refine ⟨S, env, rfl, ok, re, (Post.split p).imp fun d S1 x1 o1 q => ?_⟩
  cases d with
  | true => exact ⟨S1, env, rfl, o1, re.ext x1, q⟩
  | false => exact o1.ret q
theorem w_or (h : PT X a (TB X.K EP ta)) (h2 : PW X (.BoolOp .Or (b :: rest) pos) (TB X.K EP tb)) : PW X (.BoolOp .Or (a :: b :: rest) pos) (TB X.K EP (tO ta tb)) := by
  refine PW.by (pw_or h h2) fun σ H Q ⟨S, env, e, ok, re, p⟩ => ?_
  subst e
  refine ⟨S, env, rfl, ok, re, (Post.split p).imp fun d S1 x1 o1 q => ?_⟩
  cases d with
  | false => exact ⟨S1, env, rfl, o1, re.ext x1, q⟩
  | true => exact o1.ret q
/-! and, or, not as values -/
def eA (s t : Lc → M D) : Lc → M D := fun env => M.andThen (s env) fun d => match d with
  | .bl b => if b = true then t env else M.ret (.bl false)
  | _ => M.no
def eO (s t : Lc → M D) : Lc → M D := fun env => M.andThen (s env) fun d => match d with
  | .bl b => if b = true then M.ret (.bl true) else t env
  | _ => M.no
def gNot : D → M D
  | .bl b => M.ret (.bl (!b))
  | _ => M.no
theorem d_one {op : BoolOp} (h : PE X a (TD X.K EP fa)) : PE X (.BoolOp op [a] pos) (TD X.K EP fa) := pe_one h
theorem d_and (h : PE X a (TD X.K EP fa)) (h2 : PE X (.BoolOp .And (b :: rest) pos) (TD X.K EP fb)) : PE X (.BoolOp .And (a :: b :: rest) pos) (TD X.K EP (eA fa fb)) := by
  refine PE.by (pe_and h h2) fun σ H Q ⟨S, env, e, ok, re, p⟩ => ?_
  subst e
  refine ⟨S, env, rfl, ok, re, (Post.split p).imp fun d S1 x1 o1 q v rv => ?_⟩
  split at q
  · cases rv
    rename_i bb
    refine ⟨bb, rfl, ?_⟩
    cases bb with
    | true => exact ⟨S1, env, rfl, o1, re.ext x1, q⟩
    | false => exact o1.ret q _ (.bl _)
  · exact False.elim q
theorem d_or (h : PE X a (TD X.K EP fa)) (h2 : PE X (.BoolOp .Or (b :: rest) pos) (TD X.K EP fb)) : PE X (.BoolOp .Or (a :: b :: rest) pos) (TD X.K EP (eO fa fb)) := by
  refine PE.by (pe_or h h2) fun σ H Q ⟨S, env, e, ok, re, p⟩ => ?_
  subst e
  refine ⟨S, env, rfl, ok, re, (Post.split p).imp fun d S1 x1 o1 q v rv => ?_⟩
  split at q
  · cases rv
    rename_i bb
    refine ⟨bb, rfl, ?_⟩
    cases bb with
    | false => exact ⟨S1, env, rfl, o1, re.ext x1, q⟩
    | true => exact o1.ret q _ (.bl _)
  · exact False.elim q
theorem d_not (h : PE X a (TD X.K EP fa)) : PE X (.UnaryOp .Not a pos) (TD X.K EP (e1 gNot fa)) := by
  refine PE.by (pe_not h) fun σ H Q hh => ?_
  refine run1 (r := fun x H1 Q => ∃ c, x = .bl c ∧ Q (.bl (!c)) H1) (fun S x v Q ok rx p => ?_) hh
  unfold gNot at p
  split at p
  · cases rx
    exact ⟨_, rfl, ok.ret p _ (.bl _)⟩
  · exact False.elim p
def eI (t : Lc → M Bool) (f g : Lc → M D) : Lc → M D := fun env => M.andThen (t env) fun b => if b = true then f env else g env
theorem d_if (h : PT X c (TB X.K EP tc)) (ha : PE X a (TD X.K EP fa)) (hb : PE X b (TD X.K EP fb)) : PE X (.IfExp c a b pos) (TD X.K EP (eI tc fa fb)) := by
  refine PE.by (pe_ifExp h ha hb) fun σ H Q ⟨S, env, e, ok, re, p⟩ => ?_
  subst e
  refine ⟨S, env, rfl, ok, re, (Post.split p).imp fun d S1 x1 o1 q => ?_⟩
  cases d with
  | true => exact ⟨S1, env, rfl, o1, re.ext x1, q⟩
  | false => exact ⟨S1, env, rfl, o1, re.ext x1, q⟩
/-! ## what is called by a built-in name -/
theorem d_bfn {x : Str} {p : Pos} {id : String} {r : List V → Hp → VK → Prop} {g : List D → M D} {es : List Expr} {fs : Lc → M (List D)} (hc : CallR X (.builtin id) r) (hg : GoodL X.K EP r g) (hgl : Gl X x) (hm : X.mg x = none) (hv : bootBuiltins x = some (.builtin id))
    (ha : PA X (a :: es) (TDs X.K EP fs)) (hn : x ≠ "__name__" := by decide) (hdb : (x == ("__debug__" : Str)) = false := by decide)
    (he : starEach (a :: es) X.env = (false, eval a X.env) :: starEach es X.env := by rfl) (hpl : (backTo pos (starEach es X.env)).any (·.1) = false := by rfl) : PE X (.Call (.Name x p) (a :: es) [] pos) (TD X.K EP (eL g fs)) :=
  PE.by (pe_callB hc hgl hm hv ha hn hdb he hpl) fun _ _ _ h => runL hg h
theorem d_bty {x : Str} {p : Pos} {T : String} {r : List V → Hp → VK → Prop} {g : List D → M D} {es : List Expr} {fs : Lc → M (List D)} (hc : CallR X (.type T) r) (hg : GoodL X.K EP r g) (hgl : Gl X x) (hm : X.mg x = none) (hv : bootBuiltins x = some (.type T))
    (ha : PA X (a :: es) (TDs X.K EP fs)) (hn : x ≠ "__name__" := by decide) (hdb : (x == ("__debug__" : Str)) = false := by decide)
    (he : starEach (a :: es) X.env = (false, eval a X.env) :: starEach es X.env := by rfl) (hpl : (backTo pos (starEach es X.env)).any (·.1) = false := by rfl) : PE X (.Call (.Name x p) (a :: es) [] pos) (TD X.K EP (eL g fs)) :=
  PE.by (pe_callTy hc hgl hm hv ha hn hdb he hpl) fun _ _ _ h => runL hg h
/-- a name that a module gave to a built-in function (gcd) -/
theorem d_mfn {x : Str} {p : Pos} {id : String} {r : List V → Hp → VK → Prop} {g : List D → M D} {es : List Expr} {fs : Lc → M (List D)} (hc : CallR X (.builtin id) r) (hg : GoodL X.K EP r g) (hgl : Gl X x) (hm : X.mg x = some (.builtin id))
    (ha : PA X (a :: es) (TDs X.K EP fs)) (hdb : (x == ("__debug__" : Str)) = false := by decide)
    (he : starEach (a :: es) X.env = (false, eval a X.env) :: starEach es X.env := by rfl) (hpl : (backTo pos (starEach es X.env)).any (·.1) = false := by rfl) : PE X (.Call (.Name x p) (a :: es) [] pos) (TD X.K EP (eL g fs)) :=
  PE.by (pe_callBfun hc hgl hm ha hdb he hpl) fun _ _ _ h => runL hg h
def gGcd : List D → M D
  | [.int i, .int j] => M.ret (.int ((Nat.gcd i.natAbs j.natAbs : Nat) : Int))
  | _ => M.no
theorem rvs1 {S : Sit} {d : D} {vs : List V} (r : RVs K S [d] vs) : ∃ v, vs = [v] ∧ RV K S d v := by
  cases r with
  | cons r t => cases t; exact ⟨_, rfl, r⟩
theorem rvs2 {S : Sit} {d e : D} {vs : List V} (r : RVs K S [d, e] vs) : ∃ v w, vs = [v, w] ∧ RV K S d v ∧ RV K S e w := by
  cases r with
  | cons r t =>
    obtain ⟨w, rfl, q⟩ := rvs1 t
    exact ⟨_, _, rfl, r, q⟩
theorem g_gcd : GoodL K EP rGcd gGcd := by
  intro S ds vs Q ok r p
  unfold gGcd at p
  split at p
  · obtain ⟨v, w, rfl, r1, r2⟩ := rvs2 r
    cases r1; cases r2
    exact ⟨_, _, rfl, ok.ret p _ (.int _)⟩
  · exact False.elim p
def gAbs : List D → M D
  | [.int i] => M.ret (.int (if i < 0 then -i else i))
  | _ => M.no
theorem g_abs : GoodL K EP (fun xs H Q => ∃ i, xs = [.int i] ∧ Q (.int (if i < 0 then -i else i)) H) gAbs := by
  intro S ds vs Q ok r p
  unfold gAbs at p
  split at p
  · obtain ⟨v, rfl, r1⟩ := rvs1 r
    cases r1
    exact ⟨_, rfl, ok.ret p _ (.int _)⟩
  · exact False.elim p
def gInt : List D → M D
  | [.int i] => M.ret (.int i)
  | _ => M.no
theorem g_intc : GoodL K EP (fun xs H Q => (∃ i, xs = [.int i] ∧ Q (.int i) H) ∨ ∃ k, xs = [.bl k] ∧ Q (.int (if k then 1 else 0)) H) gInt := by
  intro S ds vs Q ok r p
  unfold gInt at p
  split at p
  · obtain ⟨v, rfl, r1⟩ := rvs1 r
    cases r1
    exact .inl ⟨_, rfl, ok.ret p _ (.int _)⟩
  · exact False.elim p
def gMax2 : List D → M D
  | [.int i, .int j] => M.ret (.int (if j > i then j else i))
  | _ => M.no
theorem g_max2 : GoodL K EP (fun xs H Q => ∃ i j, xs = [.int i, .int j] ∧ Q (.int (if j > i then j else i)) H) gMax2 := by
  intro S ds vs Q ok r p
  unfold gMax2 at p
  split at p
  · obtain ⟨v, w, rfl, r1, r2⟩ := rvs2 r
    cases r1; cases r2
    exact ⟨_, _, rfl, ok.ret p _ (.int _)⟩
  · exact False.elim p
def gMin2 : List D → M D
  | [.int i, .int j] => M.ret (.int (if j < i then j else i))
  | _ => M.no
theorem g_min2 : GoodL K EP (fun xs H Q => ∃ i j, xs = [.int i, .int j] ∧ Q (.int (if j < i then j else i)) H) gMin2 := by
  intro S ds vs Q ok r p
  unfold gMin2 at p
  split at p
  · obtain ⟨v, w, rfl, r1, r2⟩ := rvs2 r
    cases r1; cases r2
    exact ⟨_, _, rfl, ok.ret p _ (.int _)⟩
  · exact False.elim p
def gLen : List D → M D
  | [.str x] => M.when (decide (x.length ≤ sizeLine)) (M.ret (.int x.length))
  | [.tup xs] => M.ret (.int xs.length)
  | [.lst xs] => M.ret (.int xs.length)
  | [.fro xs] => M.ret (.int xs.length)
  | [.ref n] => M.andThen (getO n) fun o => match o with
    | .lst xs => M.ret (.int xs.length)
    | .dct _ => M.no
  | _ => M.no
def rLenAll (K : PySem.W.Frag) : List V → Hp → VK → Prop := fun xs H Q => (∃ p ys, xs = [.ref p] ∧ (SqL K H p ys ∨ SqT K H p ys) ∧ Q (.int ys.length) H) ∨ ∃ z, xs = [.str z] ∧ z.length ≤ sizeLine ∧ Q (.int z.length) H
theorem c_len : CallR X (.builtin "len") (rLenAll X.K) := callR_or call_len_seq call_len_str
theorem g_len : GoodL K EP (rLenAll K) gLen := by
  intro S ds vs Q ok r p
  unfold gLen at p
  split at p
  · obtain ⟨v, rfl, r1⟩ := rvs1 r
    cases r1
    obtain ⟨c, p⟩ := Post.whened p
    exact .inr ⟨_, rfl, of_decide_eq_true c, ok.ret p _ (.int _)⟩
  · obtain ⟨v, rfl, r1⟩ := rvs1 r
    cases r1 with
    | tup h rr =>
      refine .inl ⟨_, _, rfl, .inr h.seq, ?_⟩
      rw [← rr.length]
      exact ok.ret p _ (.int _)
  · obtain ⟨v, rfl, r1⟩ := rvs1 r
    cases r1 with
    | lst h rr =>
      refine .inl ⟨_, _, rfl, .inl (SqL.of h.1), ?_⟩
      rw [← rr.length]
      exact ok.ret p _ (.int _)
  · obtain ⟨v, rfl, r1⟩ := rvs1 r
    cases r1 with
    | fro h rr =>
      refine .inl ⟨_, _, rfl, .inl h.seq, ?_⟩
      rw [← rr.length]
      exact ok.ret p _ (.int _)
  · obtain ⟨v, rfl, r1⟩ := rvs1 r
    cases r1 with
    | ref hi =>
      obtain ⟨o, u, e1, _, e2, ro, p⟩ := Post.got (Post.split p) ok
      cases ro with
      | dct _ => exact False.elim p
      | lst rr =>
        refine .inl ⟨_, _, rfl, .inl (SqL.of e2), ?_⟩
        rw [← rr.length]
        exact ok.ret p _ (.int _)
  · exact False.elim p
def gTuple : List D → M D
  | [.tup xs] => M.ret (.tup xs)
  | [.lst xs] => M.ret (.tup xs)
  | [.fro xs] => M.ret (.tup xs)
  | [.ref n] => M.andThen (getO n) fun o => match o with
    | .lst xs => M.ret (.tup xs)
    | .dct _ => M.no
  | _ => M.no
def rTupleOf (K : PySem.W.Frag) : List V → Hp → VK → Prop := fun xs H Q => ∃ p ys, xs = [.ref p] ∧ ((SqL K H p ys ∧ ∀ l, H l = none → Q (.ref l) (upd H l (.tup ys))) ∨ (SqT K H p ys ∧ Q (.ref p) H))
theorem g_tuple : GoodL K EP (rTupleOf K) gTuple := by
  intro S ds vs Q ok r p
  unfold gTuple at p
  split at p
  · obtain ⟨v, rfl, r1⟩ := rvs1 r
    cases r1 with
    | tup h rr => exact ⟨_, _, rfl, .inr ⟨h.seq, ok.ret p _ (.tup h rr)⟩⟩
  · obtain ⟨v, rfl, r1⟩ := rvs1 r
    cases r1 with
    | lst h rr => exact ⟨_, _, rfl, .inl ⟨SqL.of h.1, new_tup ok rr p⟩⟩
  · obtain ⟨v, rfl, r1⟩ := rvs1 r
    cases r1 with
    | fro h rr => exact ⟨_, _, rfl, .inl ⟨h.seq, new_tup ok rr p⟩⟩
  · obtain ⟨v, rfl, r1⟩ := rvs1 r
    cases r1 with
    | ref hi =>
      obtain ⟨o, u, e1, _, e2, ro, p⟩ := Post.got (Post.split p) ok
      cases ro with
      | dct _ => exact False.elim p
      | lst rr => exact ⟨_, _, rfl, .inl ⟨SqL.of e2, new_tup ok rr p⟩⟩
  · exact False.elim p
def gListOf : List D → M D
  | [.tup xs] => M.ret (.lst xs)
  | [.lst xs] => M.ret (.lst xs)
  | [.fro xs] => M.ret (.lst xs)
  | [.ref n] => M.andThen (getO n) fun o => match o with
    | .lst xs => M.ret (.lst xs)
    | .dct _ => M.no
  | _ => M.no
def rListOf (K : PySem.W.Frag) : List V → Hp → VK → Prop := fun xs H Q => ∃ p ys, xs = [.ref p] ∧ (SqL K H p ys ∨ SqT K H p ys) ∧ ∀ l, H l = none → Q (.ref l) (upd H l (.lst ys))
theorem g_listof : GoodL K EP (rListOf K) gListOf := by
  intro S ds vs Q ok r p
  unfold gListOf at p
  split at p
  · obtain ⟨v, rfl, r1⟩ := rvs1 r
    cases r1 with
    | tup h rr => exact ⟨_, _, rfl, .inr h.seq, new_lst ok rr p⟩
  · obtain ⟨v, rfl, r1⟩ := rvs1 r
    cases r1 with
    | lst h rr => exact ⟨_, _, rfl, .inl (SqL.of h.1), new_lst ok rr p⟩
  · obtain ⟨v, rfl, r1⟩ := rvs1 r
    cases r1 with
    | fro h rr => exact ⟨_, _, rfl, .inl h.seq, new_lst ok rr p⟩
  · obtain ⟨v, rfl, r1⟩ := rvs1 r
    cases r1 with
    | ref hi =>
      obtain ⟨o, u, e1, _, e2, ro, p⟩ := Post.got (Post.split p) ok
      cases ro with
      | dct _ => exact False.elim p
      | lst rr => exact ⟨_, _, rfl, .inl (SqL.of e2), new_lst ok rr p⟩
  · exact False.elim p
/-! isinstance against a built-in type -/
def D.ty : D → AH → Option String
  | .non, _ => some "NoneType"
  | .bl _, _ => some "bool"
  | .int _, _ => some "int"
  | .str _, _ => some "str"
  | .tup _, _ => some "tuple"
  | .lst _, _ => some "list"
  | .fro _, _ => some "list"
  | .emp, _ => some "dict"
  | .ref n, ah => match ah[n]? with
    | some (some (.lst _)) => some "list"
    | some (some (.dct _)) => some "dict"
    | _ => none
  | .oth _, _ => none
theorem RV.ty {S : Sit} {d : D} {v : V} {t : String} (ok : Ok K S) (r : RV K S d v) (h : d.ty S.ah = some t) : TyX K S.H v (.type t) := by
  cases r with
  | non => cases h; exact .base .non
  | bl b => cases h; exact .base (.bl b)
  | int b => cases h; exact .base (.int b)
  | str b => cases h; exact .base (.str b)
  | tup q _ =>
    cases h
    rcases q with ⟨u, ⟨h, _⟩, rfl | ⟨o, rfl⟩⟩ | ⟨o, _, _, h, hc, _⟩
    · exact .base (.tup h)
    · exact .fTuple h
    · exact .kTuple h hc
  | lst q _ => cases h; exact .base (.lst q.1)
  | fro q _ =>
    cases h
    rcases q with ⟨o, h, _⟩ | ⟨o, _, _, h, hc, _⟩
    · exact .base (.frz h)
    · exact .kList h hc
  | emp q => cases h; exact .base (.dK q.1)
  | @ref i hi =>
    simp only [D.ty] at h
    cases e : S.ah[i]? with
    | none => rw [e] at h; cases h
    | some y =>
      cases y with
      | none => rw [e] at h; cases h
      | some o =>
        rw [e] at h
        obtain ⟨u, e2, ro⟩ := ok.obj i o e
        cases ro with
        | lst _ => cases h; exact .base (.lst e2)
        | dct _ => cases h; exact .base (.dK e2)
  | oth => cases h
def gIsi : List D → M D
  | [x, .oth (.ty n)] => fun ah => match (x.ty ah).bind fun t => kitB t n with
    | some b => .ok (.bl b) ah
    | none => .no
  | _ => M.no
theorem g_isi : GoodL K EP (rIsi K) gIsi := by
  intro S ds vs Q ok r p
  unfold gIsi at p
  split at p
  · obtain ⟨v, w, rfl, r1, r2⟩ := rvs2 r
    cases r2
    split at p
    · rename_i b e
      obtain ⟨t, e1, e2⟩ := Option.bind_eq_some_iff.mp e
      exact ⟨_, _, _, _, b, rfl, .ty _, r1.ty ok e1, kit_ty e2, ok.ret p _ (.bl b)⟩
    · exact False.elim p
  · exact False.elim p
theorem d_tyname {x : Str} {n : String} {pos : Pos} (hg : Gl X x) (hm : X.mg x = none) (hv : bootBuiltins x = some (.type n)) (hn : x ≠ "__name__" := by decide) (hd : (x == ("__debug__" : Str)) = false := by decide) :
    PE X (.Name x pos) (TD X.K EP (eC (.oth (.ty n)))) := d_of (pe_bltn (v := .ty n) hg hm hv rfl hn hd) fun _ => .oth _
end
end Mi
set_option Elab.async false
set_option linter.all false
set_option maxRecDepth 100000
set_option maxHeartbeats 4000000
namespace Mi
open PySem PySem.Spec PyProof.Rows L2
section
variable {X : Cx} {EP : EPT} {K : PySem.W.Frag} {a b c : Expr} {fa fb fc : Lc → M D} {ta tb tc : Lc → M Bool} {pos : Pos}
/-! ## repr -/
mutual
def D.shw : D → Bool
  | .non => true
  | .bl _ => true
  | .int _ => true
  | .str _ => true
  | .tup xs => D.shws xs
  | .lst _ => false
  | .fro _ => false
  | .emp => true
  | .ref _ => false
  | .oth _ => false
def D.shws : List D → Bool
  | [] => true
  | x :: xs => D.shw x && D.shws xs
end
theorem emp_reads {P : Program} {w : World} {H : Hp} {h : Heap} {a : Addr} (x : ObjOk P w H h a (.dK [])) : Reads h (.ref a) (.dict []) [a] ∧ a ≠ sysModules := by
  obtain ⟨_, ne, vs, kv, o, es, ep, e, ⟨hc, _, _⟩, d, _, pr, _⟩ := x
  cases kv
  refine ⟨?_, fun z => by rw [z] at ne; exact absurd ne (by decide)⟩
  have he : es.toList = [] := by
    generalize es.toList = l at pr
    cases pr
    rfl
  have r := Reads.dict (h := h) (kvs := []) (as := []) (bs := []) e hc d (by rw [he]; exact .nil) (by rw [he]; exact .nil)
  exact r
theorem flat_noDict : ∀ d : D, d.flat = true → d.p.hasDict = false := fun d => by
  have key : (∀ d : D, d.flat = true → d.p.hasDict = false) ∧ (∀ ds : List D, D.flats ds = true → PyData.hasDictAll (D.ps ds) = false) := by
    refine ⟨fun d => ?_, fun ds => ?_⟩
    · exact D.rec (motive_1 := fun d => d.flat = true → d.p.hasDict = false) (motive_2 := fun ds => D.flats ds = true → PyData.hasDictAll (D.ps ds) = false)
        (fun _ => rfl) (fun _ _ => rfl) (fun _ _ => rfl) (fun _ _ => rfl) (fun _ ih h => ih h) (fun _ ih h => ih h) (fun _ ih h => ih h) (fun h => nomatch h) (fun _ h => nomatch h) (fun _ h => nomatch h) (fun _ => rfl)
        (fun x xs i1 i2 h => by
          have h' := Bool.and_eq_true_iff.mp h
          show (x.p.hasDict || PyData.hasDictAll (D.ps xs)) = false
          rw [i1 h'.1, i2 h'.2]
          rfl) d
    · exact D.rec_1 (motive_1 := fun d => d.flat = true → d.p.hasDict = false) (motive_2 := fun ds => D.flats ds = true → PyData.hasDictAll (D.ps ds) = false)
        (fun _ => rfl) (fun _ _ => rfl) (fun _ _ => rfl) (fun _ _ => rfl) (fun _ ih h => ih h) (fun _ ih h => ih h) (fun _ ih h => ih h) (fun h => nomatch h) (fun _ h => nomatch h) (fun _ h => nomatch h) (fun _ => rfl)
        (fun x xs i1 i2 h => by
          have h' := Bool.and_eq_true_iff.mp h
          show (x.p.hasDict || PyData.hasDictAll (D.ps xs)) = false
          rw [i1 h'.1, i2 h'.2]
          rfl) ds
  exact key.1 d
mutual
theorem RV.reads {pins : List (Addr × Obj)} {σ : St} {s : Shared} {S : Sit} (I : L2.Inv X pins σ S.H s) : ∀ {d : D} {v : V} {u : Value}, RV X.K S d v → d.shw = true → RelV v u → ∃ as, Reads s.heap u d.p as ∧ sysModules ∉ as
  | _, _, _, .non, _, r => by cases r; exact ⟨_, Reads.none, fun h => nomatch h⟩
  | _, _, _, .bl b, _, r => by cases r; exact ⟨_, Reads.bool b, fun h => nomatch h⟩
  | _, _, _, .int i, _, r => by obtain ⟨t, rfl⟩ := r; exact ⟨_, Reads.int i t, fun h => nomatch h⟩
  | _, _, _, .str x, _, r => by obtain ⟨t, rfl⟩ := r; exact ⟨_, Reads.str x t, fun h => nomatch h⟩
  | _, _, _, .tup h q, f, r => by
    cases r
    obtain ⟨its, rv, ⟨o, ho, hc, n, hd⟩, _⟩ := I.tuple h.seq
    obtain ⟨as, hr, hs⟩ := RVs.reads I q f rv
    exact ⟨_, Reads.tuple ho hc hd hr, hs⟩
  | _, _, _, .lst _ _, f, _ => nomatch f
  | _, _, _, .fro _ _, f, _ => nomatch f
  | _, _, _, .emp h, _, r => by
    cases r
    obtain ⟨r1, r2⟩ := emp_reads (I.hok _ _ h.1)
    exact ⟨_, r1, fun m => r2 (List.mem_singleton.mp m).symm⟩
  | _, _, _, .ref _, f, _ => nomatch f
  | _, _, _, .oth _, f, _ => nomatch f
theorem RVs.reads {pins : List (Addr × Obj)} {σ : St} {s : Shared} {S : Sit} (I : L2.Inv X pins σ S.H s) : ∀ {ds : List D} {vs : List V} {us : List Value}, RVs X.K S ds vs → D.shws ds = true → Vals vs us → ∃ as, ReadsAll s.heap us (D.ps ds) as ∧ sysModules ∉ as
  | _, _, _, .nil, _, r => by cases r; exact ⟨_, ReadsAll.nil, fun h => nomatch h⟩
  | _, _, _, .cons q t, f, r => by
    cases r with
    | cons r1 r2 =>
      have f' := Bool.and_eq_true_iff.mp f
      obtain ⟨as, h1, s1⟩ := RV.reads I q f'.1 r1
      obtain ⟨bs, h2, s2⟩ := RVs.reads I t f'.2 r2
      exact ⟨_, ReadsAll.cons h1 h2, fun m => (List.mem_append.mp m).elim s1 s2⟩
end
def okShow (d : D) : Bool := (d.flat || d.shw) && d.p.showable && decide (d.p.shown.length ≤ sizeLine) && decide (d.p.depth ≤ 60)
def gRepr : List D → M D
  | [x] => M.when (okShow x) (M.ret (.str x.p.shown))
  | _ => M.no
def rRepr (K : PySem.W.Frag) : List V → Hp → VK → Prop := fun xs H Q => ∃ S d v, xs = [v] ∧ S.H = H ∧ RV K S d v ∧ okShow d = true ∧ Q (.str d.p.shown) H
theorem repr_any (rm : Rm X) {pins : List (Addr × Obj)} {σ : St} {H : Hp} {s : Shared} {Q : VK} (I : L2.Inv X pins σ H s) {dp : PyData} {u : Value} {as : List Addr} (hr : Reads s.heap u dp as) (hsh : dp.showable = true)
    (hsm : dp.hasDict = true → sysModules ∉ as) (hd : dp.depth ≤ 60) (hl : dp.shown.length ≤ sizeLine) (q : Q (.str dp.shown) H) : wpAny (model X.prog X.w) X.A (call (.builtin "repr") [u]) (L2.EP X pins σ Q) X.xe s := by
  have un := rm.un
  have fin : ∀ t, L2.EP X pins σ Q (.str dp.shown t) { s with toks := s.toks + 1 } := fun t => ⟨.str dp.shown, H, I.tok _, ⟨t, rfl⟩, q⟩
  cases hr with
  | none => exact PySem.P.repr_of_none (fin _)
  | bool b => exact PySem.P.repr_of_bool (fin _)
  | int i t => exact PySem.P.repr_of_int (of_decide_eq_true hsh) (fin _)
  | str x t => exact PySem.P.repr_of_str (fin _) hl
  | list h1 h2 h3 h4 => exact repr_of_reads' (.list h1 h2 h3 h4) hsh hsm rm.gu (by omega) (fun _ _ e => e) (fun h' u tk hk => ⟨.str _, H, I.kept hk, ⟨u, rfl⟩, q⟩) hl
  | tuple h1 h2 h3 h4 => exact repr_of_reads' (.tuple h1 h2 h3 h4) hsh hsm rm.gu (by omega) (fun _ _ e => e) (fun h' u tk hk => ⟨.str _, H, I.kept hk, ⟨u, rfl⟩, q⟩) hl
  | dict h1 h2 h3 h4 h5 => exact repr_of_reads' (.dict h1 h2 h3 h4 h5) hsh hsm rm.gu (by omega) (fun _ _ e => e) (fun h' u tk hk => ⟨.str _, H, I.kept hk, ⟨u, rfl⟩, q⟩) hl
theorem c_repr (rm : Rm X) : CallR X (.builtin "repr") (rRepr X.K) := by
  intro pins s σ H xs us Q I r h
  obtain ⟨S, d, v, rfl, rfl, rv, hok, q⟩ := h
  obtain ⟨u, rfl, ru⟩ := vals1 r
  have h1 := Bool.and_eq_true_iff.mp hok
  have h2 := Bool.and_eq_true_iff.mp h1.1
  have h3 := Bool.and_eq_true_iff.mp h2.1
  have hd := of_decide_eq_true h1.2
  have hl := of_decide_eq_true h2.2
  have rd : ∃ as, Reads s.heap u d.p as ∧ (d.p.hasDict = true → sysModules ∉ as) := by
    rcases Bool.or_eq_true_iff.mp h3.1 with f | f
    · obtain ⟨as, hr⟩ := Dp.reads I _ _ _ (RV.dp rv f) ru
      exact ⟨as, hr, PyData.noDict_hsm (flat_noDict d f)⟩
    · obtain ⟨as, hr, z⟩ := RV.reads I rv f ru
      exact ⟨as, hr, fun _ => z⟩
  obtain ⟨as, hr, hsm⟩ := rd
  exact repr_any rm I hr h3.2 hsm hd hl q
theorem g_repr : GoodL K EP (rRepr K) gRepr := by
  intro S ds vs Q ok r p
  unfold gRepr at p
  split at p
  · obtain ⟨v, rfl, r1⟩ := rvs1 r
    obtain ⟨c, p⟩ := Post.whened p
    exact ⟨S, _, v, rfl, rfl, r1, c, ok.ret p _ (.str _)⟩
  · exact False.elim p
end
end Mi
set_option Elab.async false
set_option linter.all false
set_option maxRecDepth 100000
set_option maxHeartbeats 4000000
namespace Mi
open PySem PySem.Spec PyProof.Rows L2
section
variable {X : Cx} {EP : EPT} {K : PySem.W.Frag} {a b c : Expr} {fa fb fc : Lc → M D} {ta tb tc : Lc → M Bool} {pos : Pos}
/-! ## statements -/
def sNx : MS := fun env => M.ret (.nx, env)
def sPs (g h : MS) : MS := fun env => M.andThen (g env) fun x => match x.1 with
  | .nx => h x.2
  | _ => M.ret x
def sEx (f : Lc → M D) : MS := fun env => M.andThen (f env) fun _ => M.ret (.nx, env)
def sRt (f : Lc → M D) : MS := fun env => M.andThen (f env) fun d => M.ret (.rt d, env)
def sRtN : MS := fun env => M.ret (.rt .non, env)
def sBk : MS := fun env => M.ret (.bk, env)
def sCt : MS := fun env => M.ret (.ct, env)
def sIf (t : Lc → M Bool) (g h : MS) : MS := fun env => M.andThen (t env) fun b => if b = true then g env else h env
def sSet (i : Nat) (f : Lc → M D) : MS := fun env => M.andThen (f env) fun d => M.ret (.nx, env.set i (some d))
def sAsg (gt : D → Lc → M Lc) (f : Lc → M D) : MS := fun env => M.andThen (f env) fun d => M.andThen (gt d env) fun env' => M.ret (.nx, env')
def sAug (i : Nat) (g : D → D → M D) (f : Lc → M D) : MS := fun env => M.andThen (eV i env) fun x => M.andThen (f env) fun y => M.andThen (g x y) fun z => M.ret (.nx, env.set i (some z))
theorem s_nil : PSs X [] (TF X.K EP sNx) := PSs.by pss_nil fun σ H Dn ⟨S, env, e, ok, re, p⟩ => by
  subst e
  exact ok.ret (a := (Fl.nx, env)) p σ re
theorem s_pass : PS X (.Pass pos) (TF X.K EP sNx) := PS.by ps_pass fun σ H Dn ⟨S, env, e, ok, re, p⟩ => by
  subst e
  exact ok.ret (a := (Fl.nx, env)) p σ re
theorem s_break : PS X (.Break pos) (TF X.K EP sBk) := PS.by ps_break fun σ H Dn ⟨S, env, e, ok, re, p⟩ => by
  subst e
  exact ok.ret (a := (Fl.bk, env)) p σ re
theorem s_continue : PS X (.Continue pos) (TF X.K EP sCt) := PS.by ps_continue fun σ H Dn ⟨S, env, e, ok, re, p⟩ => by
  subst e
  exact ok.ret (a := (Fl.ct, env)) p σ re
theorem s_cons {st : Stmt} {rest : List Stmt} {g h : MS} (h1 : PS X st (TF X.K EP g)) (h2 : PSs X rest (TF X.K EP h)) : PSs X (st :: rest) (TF X.K EP (sPs g h)) := by
  refine PSs.by (pss_cons h1 h2) fun σ H Dn ⟨S, env, e, ok, re, p⟩ => ?_
  subst e
  refine ⟨S, env, rfl, ok, re, (Post.split p).imp fun x S1 x1 o1 q => ?_⟩
  obtain ⟨fl, env1⟩ := x
  cases fl with
  | nx => exact fun σ1 re1 => ⟨S1, env1, rfl, o1, re1, q⟩
  | bk => exact o1.ret (EP := EP) (G := GF X.K Dn) (a := (Fl.bk, env1)) q
  | ct => exact o1.ret (EP := EP) (G := GF X.K Dn) (a := (Fl.ct, env1)) q
  | rt d => exact o1.ret (EP := EP) (G := GF X.K Dn) (a := (Fl.rt d, env1)) q
theorem s_one {st : Stmt} {g : MS} (h1 : PS X st (TF X.K EP g)) : PSs X [st] (TF X.K EP g) := pss_one h1
theorem s_expr {e : Expr} {f : Lc → M D} (he : PE X e (TD X.K EP f)) (hs : swapsWith e none pos.line X.env = pure false := by rfl) : PS X (.Expr e pos) (TF X.K EP (sEx f)) := by
  refine PS.by (ps_expr he hs) fun σ H Dn ⟨S, env, e, ok, re, p⟩ => ?_
  subst e
  exact ⟨S, env, rfl, ok, re, (Post.split p).imp fun d S1 x1 o1 q v rv => o1.ret (a := (Fl.nx, env)) q σ (re.ext x1)⟩
theorem s_ret {e : Expr} {f : Lc → M D} (he : PE X e (TD X.K EP f)) : PS X (.Return (some e) pos) (TF X.K EP (sRt f)) := by
  refine PS.by (ps_ret he) fun σ H Dn ⟨S, env, e, ok, re, p⟩ => ?_
  subst e
  exact ⟨S, env, rfl, ok, re, (Post.split p).imp fun d S1 x1 o1 q v rv => o1.ret (a := (Fl.rt d, env)) q v rv⟩
theorem s_retN : PS X (.Return none pos) (TF X.K EP sRtN) := PS.by ps_retN fun σ H Dn ⟨S, env, e, ok, re, p⟩ => by
  subst e
  exact ok.ret (a := (Fl.rt .non, env)) p _ .non
theorem s_if {g h : MS} {ss us : List Stmt} (ht : PT X c (TB X.K EP tc)) (h1 : PSs X ss (TF X.K EP g)) (h2 : PSs X us (TF X.K EP h)) : PS X (.If c ss us pos) (TF X.K EP (sIf tc g h)) := by
  refine PS.by (ps_if ht h1 h2) fun σ H Dn ⟨S, env, e, ok, re, p⟩ => ?_
  subst e
  refine ⟨S, env, rfl, ok, re, (Post.split p).imp fun d S1 x1 o1 q => ?_⟩
  cases d with
  | true => exact ⟨S1, env, rfl, o1, re.ext x1, q⟩
  | false => exact ⟨S1, env, rfl, o1, re.ext x1, q⟩
/-! targets -/
def gN (i : Nat) : D → Lc → M Lc := fun d env => M.ret (env.set i (some d))
def gsN : List D → Lc → M Lc := fun ds env => match ds with
  | [] => M.ret env
  | _ :: _ => M.no
def gsC (g : D → Lc → M Lc) (r : List D → Lc → M Lc) : List D → Lc → M Lc := fun ds env => match ds with
  | [] => M.no
  | d :: ds => M.andThen (g d env) fun env' => r ds env'
def gT (n : Nat) (r : List D → Lc → M Lc) : D → Lc → M Lc := fun d env => match d with
  | .tup ds => M.when (decide (ds.length = n)) (r ds env)
  | _ => M.no
def gLs (n : Nat) (r : List D → Lc → M Lc) : D → Lc → M Lc := fun d env => match d with
  | .lst ds => M.when (decide (ds.length = n)) (r ds env)
  | _ => M.no
theorem g_name (i : Nat) {x : Str} (hN : X.N.Nodup) (hi : X.N[i]? = some x := by rfl) (hx : L2.Loc X.env.scope x := by first | exact Or.inl rfl | exact Or.inr rfl) (hf : X.fn x = true ∨ X.env.scope.names.lookup x = some .local := by first | exact .inl rfl | exact .inr rfl) :
    PG X (.Name x pos) (TGo X.K EP (gN i)) := by
  refine PG.by (pg_name (i := i) hN hi hx hf) fun v σ H Q ⟨S, env, d, e, ok, re, rv, p⟩ => ?_
  subst e
  exact ok.ret p _ (re.set i rv)
theorem gs_nil : PGs X [] (TGs' X.K EP gsN) := by
  refine PGs.by pgs_nil fun v σ H Q ⟨S, env, ds, e, ok, re, rv, p⟩ => ?_
  subst e
  cases rv with
  | nil => exact ⟨rfl, ok.ret (a := env) p σ re⟩
  | cons _ _ => exact False.elim p
theorem gs_cons {e : Expr} {es : List Expr} {g : D → Lc → M Lc} {r : List D → Lc → M Lc} (h1 : PG X e (TGo X.K EP g)) (h2 : PGs X es (TGs' X.K EP r))
    (hs : (assignEach (e :: es) X.env).map (·.2) = assign e X.env :: (assignEach es X.env).map (·.2) := by rfl) : PGs X (e :: es) (TGs' X.K EP (gsC g r)) := by
  refine PGs.by (pgs_cons h1 h2 hs) fun v σ H Q ⟨S, env, ds, e, ok, re, rv, p⟩ => ?_
  subst e
  cases rv with
  | nil => exact False.elim p
  | cons r1 r2 => exact ⟨_, _, rfl, S, env, _, rfl, ok, re, r1, (Post.split p).imp fun env' S1 x1 o1 q σ' re' => ⟨S1, env', _, rfl, o1, re', r2.ext x1, q⟩⟩
theorem g_tupT {es : List Expr} {k n : Nat} {r : List D → Lc → M Lc} (rm : Rm X) (h : PGs X es (TGs' X.K EP r)) (hn : (assignEach es X.env).length = n := by rfl) (hst : (assignEach es X.env).findIdx? (·.1) = none := by rfl) :
    PG X (.Tuple es k pos) (TGo X.K EP (gT n r)) := by
  refine PG.by (pg_tup rm.cm h hn hst) fun v σ H Q ⟨S, env, d, e, ok, re, rv, p⟩ => ?_
  subst e
  unfold gT at p
  split at p
  · cases rv with
    | tup h1 r1 =>
      obtain ⟨c, p⟩ := Post.whened p
      exact ⟨_, _, rfl, h1.seq, by rw [← r1.length]; exact of_decide_eq_true c, S, env, _, rfl, ok, re, r1, p⟩
  · exact False.elim p
theorem g_lstT {es : List Expr} {k n : Nat} {r : List D → Lc → M Lc} (rm : Rm X) (h : PGs X es (TGs' X.K EP r)) (hn : (assignEach es X.env).length = n := by rfl) (hst : (assignEach es X.env).findIdx? (·.1) = none := by rfl) :
    PG X (.Tuple es k pos) (TGo X.K EP (gLs n r)) := by
  refine PG.by (pg_lst rm.cm h hn hst) fun v σ H Q ⟨S, env, d, e, ok, re, rv, p⟩ => ?_
  subst e
  unfold gLs at p
  split at p
  · cases rv with
    | lst h1 r1 =>
      obtain ⟨c, p⟩ := Post.whened p
      exact ⟨_, _, rfl, SqL.of h1.1, by rw [← r1.length]; exact of_decide_eq_true c, S, env, _, rfl, ok, re, r1, p⟩
  · exact False.elim p
theorem s_set (i : Nat) {x : Str} {e : Expr} {f : Lc → M D} {pos' : Pos} (hN : X.N.Nodup) (he : PE X e (TD X.K EP f)) (hi : X.N[i]? = some x := by rfl) (hx : L2.Loc X.env.scope x := by first | exact Or.inl rfl | exact Or.inr rfl)
    (hs : swapsWith e (some (.Name x pos')) pos.line X.env = pure false := by rfl) (hf : X.fn x = true ∨ X.env.scope.names.lookup x = some .local := by first | exact .inl rfl | exact .inr rfl) : PS X (.Assign [.Name x pos'] e pos) (TF X.K EP (sSet i f)) := by
  refine PS.by (ps_set (i := i) hN hi hx he hs hf) fun σ H Dn ⟨S, env, e, ok, re, p⟩ => ?_
  subst e
  exact ⟨S, env, rfl, ok, re, (Post.split p).imp fun d S1 x1 o1 q v rv => o1.ret (a := (Fl.nx, env.set i (some d))) q _ ((re.ext x1).set i rv)⟩
theorem s_asg {tg e : Expr} {f : Lc → M D} {gt : D → Lc → M Lc} (he : PE X e (TD X.K EP f)) (hg : PG X tg (TGo X.K EP gt)) (hs : swapsWithSole [tg] e pos.line X.env = pure false := by rfl) (hw : swappedStores [tg] e X.env = pure none := by rfl)
    (h1 : (assignEach [tg] X.env).map (·.2) = [assign tg X.env] := by rfl) : PS X (.Assign [tg] e pos) (TF X.K EP (sAsg gt f)) := by
  refine PS.by (ps_asg he hg hs hw h1) fun σ H Dn ⟨S, env, e, ok, re, p⟩ => ?_
  subst e
  exact ⟨S, env, rfl, ok, re, (Post.split p).imp fun d S1 x1 o1 q v rv => ⟨S1, env, d, rfl, o1, re.ext x1, rv, (Post.split q).imp fun env' S2 x2 o2 q2 σ' re' => o2.ret (a := (Fl.nx, env')) q2 σ' re'⟩⟩
def sPar2 (i j : Nat) (fs : Lc → M (List D)) : MS := fun env => M.andThen (fs env) fun ds => match ds with
  | [u, v] => M.ret (.nx, (env.set i (some u)).set j (some v))
  | _ => M.no
def sPar3 (i j l : Nat) (fs : Lc → M (List D)) : MS := fun env => M.andThen (fs env) fun ds => match ds with
  | [u, v, w] => M.ret (.nx, ((env.set i (some u)).set j (some v)).set l (some w))
  | _ => M.no
theorem rvs3 {S : Sit} {d e f : D} {vs : List V} (r : RVs K S [d, e, f] vs) : ∃ v w u, vs = [v, w, u] ∧ RV K S d v ∧ RV K S e w ∧ RV K S f u := by
  cases r with
  | cons r t =>
    obtain ⟨w, u, rfl, q, q2⟩ := rvs2 t
    exact ⟨_, _, _, rfl, r, q, q2⟩
theorem s_par2 (i j : Nat) {x y : Str} {fs : Lc → M (List D)} {px py pt : Pos} {kt k2 pt2} (rm : Rm X) (hN : X.N.Nodup) (ha : PA X [a, b] (TDs X.K EP fs)) (hi : X.N[i]? = some x := by rfl) (hj : X.N[j]? = some y := by rfl) (hij : i ≠ j := by decide)
    (hx : X.env.scope.names.lookup x = some .local := by rfl) (hy : X.env.scope.names.lookup y = some .local := by rfl)
    (hw : swappedStores [.Tuple [.Name x px, .Name y py] kt pt] (.Tuple [a, b] k2 pt2) X.env = pure (some [x, y]) := by rfl)
    (hs : swapsWithSole [.Tuple [.Name x px, .Name y py] kt pt] (.Tuple [a, b] k2 pt2) pos.line X.env = pure false := by rfl) :
    PS X (.Assign [.Tuple [.Name x px, .Name y py] kt pt] (.Tuple [a, b] k2 pt2) pos) (TF X.K EP (sPar2 i j fs)) := by
  refine PS.by (ps_par (i := i) (j := j) rm.cm hN hi hj hij hx hy ha hw hs) fun σ H Dn ⟨S, env, e, ok, re, p⟩ => ?_
  subst e
  refine ⟨S, env, rfl, ok, re, (Post.split p).imp fun ds S1 x1 o1 q vs rvs => ?_⟩
  split at q
  · obtain ⟨v, w, rfl, r1, r2⟩ := rvs2 rvs
    exact ⟨v, w, rfl, o1.ret q _ (((re.ext x1).set i r1).set j r2)⟩
  · exact False.elim q
theorem s_par3 (i j l : Nat) {x y z : Str} {fs : Lc → M (List D)} {px py pz pt : Pos} {kt k2 pt2} (rm : Rm X) (hN : X.N.Nodup) (ha : PA X [a, b, c] (TDs X.K EP fs)) (hi : X.N[i]? = some x := by rfl) (hj : X.N[j]? = some y := by rfl) (hl : X.N[l]? = some z := by rfl)
    (hij : i ≠ j := by decide) (hil : i ≠ l := by decide) (hjl : j ≠ l := by decide)
    (hx : X.env.scope.names.lookup x = some .local := by rfl) (hy : X.env.scope.names.lookup y = some .local := by rfl) (hz : X.env.scope.names.lookup z = some .local := by rfl)
    (hw : swappedStores [.Tuple [.Name x px, .Name y py, .Name z pz] kt pt] (.Tuple [a, b, c] k2 pt2) X.env = pure (some [x, y, z]) := by rfl)
    (hs : swapsWithSole [.Tuple [.Name x px, .Name y py, .Name z pz] kt pt] (.Tuple [a, b, c] k2 pt2) pos.line X.env = pure false := by rfl) :
    PS X (.Assign [.Tuple [.Name x px, .Name y py, .Name z pz] kt pt] (.Tuple [a, b, c] k2 pt2) pos) (TF X.K EP (sPar3 i j l fs)) := by
  refine PS.by (ps_par3 (i := i) (j := j) (l := l) rm.cm hN hi hj hl hij hil hjl hx hy hz ha hw hs) fun σ H Dn ⟨S, env, e, ok, re, p⟩ => ?_
  subst e
  refine ⟨S, env, rfl, ok, re, (Post.split p).imp fun ds S1 x1 o1 q vs rvs => ?_⟩
  split at q
  · obtain ⟨v, w, u, rfl, r1, r2, r3⟩ := rvs3 rvs
    exact ⟨v, w, u, rfl, o1.ret q _ ((((re.ext x1).set i r1).set j r2).set l r3)⟩
  · exact False.elim q
/-- op= at a local name -/
def GoodI (K : PySem.W.Frag) (EP : EPT) (r : TIp) (g : D → D → M D) : Prop := ∀ S x y v w Q, Ok K S → RV K S x v → RV K S y w → Post K EP S (GV K Q) (g x y S.ah) → r v w S.H Q
theorem s_aug (i : Nat) {x : Str} {e : Expr} {f : Lc → M D} {op : Operator} {ti : TIp} {g : D → D → M D} {pos' : Pos} (hN : X.N.Nodup) (ho : PIp X op ti) (hg : GoodI X.K EP ti g) (he : PE X e (TD X.K EP f)) (hi : X.N[i]? = some x := by rfl) (hx : L2.Loc X.env.scope x := by first | exact Or.inl rfl | exact Or.inr rfl)
    (hf : X.fn x = true ∨ X.env.scope.names.lookup x = some .local := by first | exact .inl rfl | exact .inr rfl) : PS X (.AugAssign (.Name x pos') op e pos) (TF X.K EP (sAug i g f)) := by
  refine PS.by (ps_aug (i := i) hN hi hx he ho hf) fun σ H Dn ⟨S, env, e, ok, re, p⟩ => ?_
  subst e
  obtain ⟨d, hd', p2⟩ := Post.lifted (Post.split p) ok
  have hh : env[i]? = some (some d) := by
    cases q : env[i]? with
    | none => rw [q] at hd'; cases hd'
    | some y => rw [q] at hd'; cases y with
      | none => cases hd'
      | some z => cases hd'; rfl
  obtain ⟨v, hs, rv⟩ := re.2 i d hh
  refine ⟨v, hs, S, env, rfl, ok, re, (Post.split p2).imp fun y S1 x1 o1 q w rw => ?_⟩
  exact hg S1 d y v w _ o1 (rv.ext x1) rw ((Post.split q).imp fun z S2 x2 o2 q2 u ru => o2.ret (a := (Fl.nx, env.set i (some z))) q2 _ (((re.ext x1).ext x2).set i ru))
def gIp (f : Int → Int → Int) : D → D → M D
  | .int i, .int j => M.ret (.int (f i j))
  | _, _ => M.no
theorem g_ip {f : Int → Int → Int} : GoodI K EP (ipI f) (gIp f) := by
  intro S x y v w Q ok rx ry p
  unfold gIp at p
  split at p
  · cases rx; cases ry
    exact ⟨_, _, rfl, rfl, ok.ret p _ (.int _)⟩
  · exact False.elim p
/-! ## while -/
def wh (c : Lc → M Bool) (b : MS) : Nat → MS
  | 0 => fun _ => M.no
  | n + 1 => fun env => M.andThen (c env) fun t => if t = true then M.andThen (b env) fun x => match x.1 with
      | .nx => wh c b n x.2
      | .ct => wh c b n x.2
      | .bk => M.ret (.nx, x.2)
      | .rt d => M.ret (.rt d, x.2)
    else M.ret (.nx, env)
theorem s_while (n : Nat) {body : List Stmt} {g : MS} (hp : PassesOwn (model X.prog X.w) X.A X.env X.xe) (ht : PT X c (TB X.K EP tc)) (hb : PSs X body (TF X.K EP g)) : PS X (.While c body [] pos) (TF X.K EP (wh tc g n)) := by
  refine PS.by (ps_while hp ht hb) fun σ H Dn ⟨S, env, e, ok, re, p⟩ => ?_
  subst e
  refine ⟨fun m σ H => ∃ S env, S.H = H ∧ Ok X.K S ∧ RE X.K S env σ ∧ Post X.K EP S (GF X.K Dn) (wh tc g m env S.ah), ⟨n, S, env, rfl, ok, re, p⟩, fun m σ H ⟨S, env, e, ok, re, p⟩ => ?_⟩
  subst e
  cases m with
  | zero => exact False.elim p
  | succ m =>
    refine ⟨S, env, rfl, ok, re, (Post.split p).imp fun t S1 x1 o1 q => ?_⟩
    cases t with
    | false => exact o1.ret (a := (Fl.nx, env)) q σ (re.ext x1)
    | true =>
      refine ⟨fun σ' H' => ∃ S env, S.H = H' ∧ Ok X.K S ∧ RE X.K S env σ' ∧ Post X.K EP S (GF X.K Dn) (wh tc g m env S.ah), fun σ' H' hN => ⟨m, Nat.lt_succ_self _, hN⟩, S1, env, rfl, o1, re.ext x1, (Post.split q).imp fun x S2 x2 o2 q2 => ?_⟩
      obtain ⟨fl, env2⟩ := x
      cases fl with
      | nx => exact fun σ2 re2 => ⟨S2, env2, rfl, o2, re2, q2⟩
      | ct => exact fun σ2 re2 => ⟨S2, env2, rfl, o2, re2, q2⟩
      | bk => exact o2.ret (EP := EP) (G := GF X.K Dn) (a := (Fl.nx, env2)) q2
      | rt d => exact o2.ret (EP := EP) (G := GF X.K Dn) (a := (Fl.rt d, env2)) q2
/-! ## for -/
def fo (gt : D → Lc → M Lc) (b : MS) : List D → MS
  | [] => sNx
  | d :: ds => fun env => M.andThen (gt d env) fun env1 => M.andThen (b env1) fun x => match x.1 with
    | .nx => fo gt b ds x.2
    | .ct => fo gt b ds x.2
    | .bk => M.ret (.nx, x.2)
    | .rt d => M.ret (.rt d, x.2)
def sFo (it : Lc → M (List D)) (gt : D → Lc → M Lc) (b : MS) : MS := fun env => M.andThen (it env) fun ds => fo gt b ds env
/-- a walk gives these things, whatever happens meanwhile -/
structure Serves (K : PySem.W.Frag) (J : It) (S : Sit) (ds : List D) : Prop where
  go : ∀ S' i, Ext S S' → i < ds.length → J.go i S'.H
  stop : ∀ S', Ext S S' → J.stop ds.length S'.H
  yld : ∀ S' i x H', Ext S S' → Ok K S' → J.yld i S'.H x H' → ∀ d, ds[i]? = some d → H' = S'.H ∧ RV K S d x
/-- what is walked: its things -/
def TI' (K : PySem.W.Frag) (EP : EPT) (f : Lc → M (List D)) : TI := fun σ H R => ∃ S env, S.H = H ∧ Ok K S ∧ RE K S env σ ∧ Post K EP S (fun ds S' => ∀ J, Serves K J S' ds → R J S'.H) (f env S.ah)
theorem PI.by {tg iter : Expr} {t t' : TI} (h : PI X tg iter t) (i : ∀ σ H R, t' σ H R → t σ H R) : PI X tg iter t' := by
  obtain ⟨r⟩ := h
  exact ⟨fun pins s σ H R I q => r pins s σ H R I (i σ H R q)⟩
theorem drop_get {α : Type} {ds : List α} {i : Nat} (h : i < ds.length) : ∃ d, ds[i]? = some d ∧ ds.drop i = d :: ds.drop (i + 1) :=
  ⟨ds[i], List.getElem?_eq_getElem h, List.drop_eq_getElem_cons h⟩
theorem s_for {tg iter : Expr} {body : List Stmt} {it : Lc → M (List D)} {gt : D → Lc → M Lc} {g : MS} (rm : Rm X) (hp : PassesOwn (model X.prog X.w) X.A X.env X.xe) (hi : PI X tg iter (TI' X.K EP it)) (hg : PG X tg (TGo X.K EP gt)) (hb : PSs X body (TF X.K EP g))
    (hf : ∀ x, foldedSetIterable iter X.env x = pure x := by intro _; rfl) : PS X (.For tg iter body [] pos) (TF X.K EP (sFo it gt g)) := by
  refine PS.by (ps_for hp rm.cm hi hg hb hf) fun σ H Dn ⟨S, env, e, ok, re, p⟩ => ?_
  subst e
  refine ⟨S, env, rfl, ok, re, (Post.split p).imp fun ds S1 x1 o1 q J sv => ?_⟩
  refine ⟨fun i m σ H => ∃ S2 env, S2.H = H ∧ Ext S1 S2 ∧ Ok X.K S2 ∧ RE X.K S2 env σ ∧ i + m = ds.length ∧ Post X.K EP S2 (GF X.K Dn) (fo gt g (ds.drop i) env S2.ah),
    ⟨ds.length, S1, env, rfl, Ext.refl _, o1, re.ext x1, by omega, by rw [List.drop_zero]; exact q⟩, fun i m σ H ⟨S2, env, e, x2, o2, re, hm, p⟩ => ?_⟩
  subst e
  by_cases hl : i < ds.length
  · obtain ⟨d, e1, e2⟩ := drop_get hl
    rw [e2] at p
    refine .inr ⟨sv.go S2 i x2 hl, fun σ' H' => ∃ S3 env, S3.H = H' ∧ Ext S1 S3 ∧ Ok X.K S3 ∧ RE X.K S3 env σ' ∧ Post X.K EP S3 (GF X.K Dn) (fo gt g (ds.drop (i + 1)) env S3.ah),
      fun σ' H' ⟨S3, env, a, b, c, d, f⟩ => ⟨m - 1, by omega, S3, env, a, b, c, d, by omega, f⟩, fun x H' hy => ?_⟩
    obtain ⟨rfl, rv⟩ := sv.yld S2 i x H' x2 o2 hy d e1
    refine ⟨S2, env, d, rfl, o2, re, rv.ext x2, (Post.split p).imp fun env1 S3 x3 o3 q3 σ3 re3 => ⟨S3, env1, rfl, o3, re3, (Post.split q3).imp fun y S4 x4 o4 q4 => ?_⟩⟩
    obtain ⟨fl, env4⟩ := y
    cases fl with
    | nx => exact fun σ4 re4 => ⟨S4, env4, rfl, (x2.trans x3).trans x4, o4, re4, q4⟩
    | ct => exact fun σ4 re4 => ⟨S4, env4, rfl, (x2.trans x3).trans x4, o4, re4, q4⟩
    | bk => exact o4.ret (EP := EP) (G := GF X.K Dn) (a := (Fl.nx, env4)) q4
    | rt d => exact o4.ret (EP := EP) (G := GF X.K Dn) (a := (Fl.rt d, env4)) q4
  · have e : i = ds.length := by omega
    subst e
    rw [List.drop_length] at p
    exact .inl ⟨sv.stop S2 x2, o2.ret (a := (Fl.nx, env)) p σ re⟩
/-! what is walked -/
def itD : D → M (List D)
  | .lst xs => M.ret xs
  | .fro xs => M.ret xs
  | _ => M.no
def itT : D → M (List D)
  | .tup xs => M.ret xs
  | _ => M.no
def iOf (h : D → M (List D)) (f : Lc → M D) : Lc → M (List D) := fun env => M.andThen (f env) h
theorem i_list {tg l : Expr} {f : Lc → M D} (hl : PE X l (TD X.K EP f)) : PI X tg l (TI' X.K EP (iOf itD f)) := by
  refine PI.by (pi_list hl) fun σ H R ⟨S, env, e, ok, re, p⟩ => ?_
  subst e
  refine ⟨S, env, rfl, ok, re, (Post.split p).imp fun d S1 x1 o1 q v rv => ?_⟩
  unfold itD at q
  split at q
  · cases rv with
    | lst h r =>
      refine ⟨_, rfl, ⟨_, SqL.of h.1⟩, o1.ret q _ ⟨fun S' i x hi => ?_, fun S' x => ?_, fun S' i y H' x o hy d hd => ?_⟩⟩
      · obtain ⟨w, e, _⟩ := r.get (List.getElem?_eq_getElem hi)
        exact ⟨_, w, SqL.of (x.pers _ _ h), e⟩
      · exact ⟨_, SqL.of (x.pers _ _ h), by rw [r.length]; exact Nat.le_refl _⟩
      · obtain ⟨e1, e2⟩ := hy
        obtain ⟨w, e, rw⟩ := r.get hd
        have e3 := e2 _ (SqL.of (x.pers _ _ h))
        rw [e] at e3
        cases e3
        exact ⟨e1, rw⟩
  · cases rv with
    | fro h r =>
      refine ⟨_, rfl, ⟨_, h.seq⟩, o1.ret q _ ⟨fun S' i x hi => ?_, fun S' x => ?_, fun S' i y H' x o hy d hd => ?_⟩⟩
      · obtain ⟨w, e, _⟩ := r.get (List.getElem?_eq_getElem hi)
        exact ⟨_, w, (h.ext x).seq, e⟩
      · exact ⟨_, (h.ext x).seq, by rw [r.length]; exact Nat.le_refl _⟩
      · obtain ⟨e1, e2⟩ := hy
        obtain ⟨w, e, rw⟩ := r.get hd
        have e3 := e2 _ (h.ext x).seq
        rw [e] at e3
        cases e3
        exact ⟨e1, rw⟩
  · exact False.elim q
theorem i_tup {tg l : Expr} {f : Lc → M D} (hl : PE X l (TD X.K EP f)) : PI X tg l (TI' X.K EP (iOf itT f)) := by
  refine PI.by (pi_tup hl) fun σ H R ⟨S, env, e, ok, re, p⟩ => ?_
  subst e
  refine ⟨S, env, rfl, ok, re, (Post.split p).imp fun d S1 x1 o1 q v rv => ?_⟩
  unfold itT at q
  split at q
  · cases rv with
    | tup h r =>
      refine ⟨_, rfl, ⟨_, h.seq⟩, o1.ret q _ ⟨fun S' i x hi => ?_, fun S' x => ?_, fun S' i y H' x o hy d hd => ?_⟩⟩
      · obtain ⟨w, e, _⟩ := r.get (List.getElem?_eq_getElem hi)
        exact ⟨_, w, (h.ext x).seq, e⟩
      · exact ⟨_, (h.ext x).seq, by rw [r.length]; exact Nat.le_refl _⟩
      · obtain ⟨e1, e2⟩ := hy
        obtain ⟨w, e, rw⟩ := r.get hd
        have e3 := e2 _ (h.ext x).seq
        rw [e] at e3
        cases e3
        exact ⟨e1, rw⟩
  · exact False.elim q
/-- lo, lo + 1, .. so many -/
def rng (lo : Int) : Nat → List D
  | 0 => []
  | n + 1 => .int lo :: rng (lo + 1) n
theorem rng_length : ∀ (n : Nat) (lo : Int), (rng lo n).length = n
  | 0, _ => rfl
  | n + 1, lo => congrArg (· + 1) (rng_length n (lo + 1))
theorem rng_get : ∀ (n i : Nat) (lo : Int), i < n → (rng lo n)[i]? = some (.int (lo + i))
  | n + 1, 0, lo, _ => by
    show some (D.int lo) = some (.int (lo + (0 : Nat)))
    rw [show lo + ((0 : Nat) : Int) = lo by omega]
  | n + 1, i + 1, lo, h => by
    show (rng (lo + 1) n)[i]? = _
    rw [rng_get n i (lo + 1) (by omega), show lo + 1 + (i : Int) = lo + ((i + 1 : Nat) : Int) by omega]
def okRng (i : Int) : Bool := decide (-(2 ^ 62) ≤ i) && decide (i < 2 ^ 62)
def itR1 : List D → M (List D)
  | [.int j] => M.when (okRng j) (M.ret (rng 0 j.toNat))
  | _ => M.no
def itR2 : List D → M (List D)
  | [.int i, .int j] => M.when (okRng i && okRng j) (M.ret (rng i (j - i).toNat))
  | _ => M.no
def iOfs (h : List D → M (List D)) (f : Lc → M (List D)) : Lc → M (List D) := fun env => M.andThen (f env) h
theorem serves_rng {S : Sit} (lo : Int) (n : Nat) : Serves K (Itr lo n) S (rng lo n) := by
  refine ⟨fun S' i x hi => ?_, fun S' x => ?_, fun S' i y H' x o hy d hd => ?_⟩
  · rw [rng_length] at hi; exact hi
  · show n ≤ (rng lo n).length
    rw [rng_length]
    exact Nat.le_refl _
  · obtain ⟨e1, e2⟩ := hy
    have hi := (List.getElem?_eq_some_iff.mp hd).1
    rw [rng_length] at hi
    rw [rng_get n i lo hi] at hd
    cases hd
    subst e2
    exact ⟨e1, .int _⟩
theorem i_rng1 {tg : Expr} {fs : Lc → M (List D)} {p : Pos} (hg : Gl X "range") (hm : X.mg "range" = none) (ha : PA X [a] (TDs X.K EP fs)) (hs : starEach [a] X.env = [(false, eval a X.env)] := by rfl) :
    PI X tg (.Call (.Name "range" p) [a] [] pos) (TI' X.K EP (iOfs itR1 fs)) := by
  refine PI.by (pi_range1 hg hm ha hs) fun σ H R ⟨S, env, e, ok, re, p⟩ => ?_
  subst e
  refine ⟨S, env, rfl, ok, re, (Post.split p).imp fun ds S1 x1 o1 q vs rvs => ?_⟩
  unfold itR1 at q
  split at q
  · obtain ⟨v, rfl, r1⟩ := rvs1 rvs
    cases r1
    obtain ⟨c, q⟩ := Post.whened q
    have c' := Bool.and_eq_true_iff.mp c
    exact ⟨_, rfl, of_decide_eq_true c'.1, of_decide_eq_true c'.2, o1.ret q _ (serves_rng 0 _)⟩
  · exact False.elim q
theorem i_rng2 {tg : Expr} {fs : Lc → M (List D)} {p : Pos} (hg : Gl X "range") (hm : X.mg "range" = none) (ha : PA X [a, b] (TDs X.K EP fs)) (hs : starEach [a, b] X.env = [(false, eval a X.env), (false, eval b X.env)] := by rfl)
    (hs2 : starEach [b] X.env = [(false, eval b X.env)] := by rfl) : PI X tg (.Call (.Name "range" p) [a, b] [] pos) (TI' X.K EP (iOfs itR2 fs)) := by
  refine PI.by (pi_range2 hg hm ha hs hs2) fun σ H R ⟨S, env, e, ok, re, p⟩ => ?_
  subst e
  refine ⟨S, env, rfl, ok, re, (Post.split p).imp fun ds S1 x1 o1 q vs rvs => ?_⟩
  unfold itR2 at q
  split at q
  · obtain ⟨v, w, rfl, r1, r2⟩ := rvs2 rvs
    cases r1; cases r2
    obtain ⟨c, q⟩ := Post.whened q
    have c0 := Bool.and_eq_true_iff.mp c
    have c1 := Bool.and_eq_true_iff.mp c0.1
    have c2 := Bool.and_eq_true_iff.mp c0.2
    exact ⟨_, _, rfl, ⟨of_decide_eq_true c1.1, of_decide_eq_true c1.2, of_decide_eq_true c2.1, of_decide_eq_true c2.2⟩, o1.ret q _ (serves_rng _ _)⟩
  · exact False.elim q
end
end Mi
set_option Elab.async false
set_option linter.all false
set_option maxRecDepth 100000
set_option maxHeartbeats 4000000
namespace Mi
open PySem PySem.Spec PyProof.Rows L2
/-! ## comprehensions -/
section
variable {K : PySem.W.Frag} {S S' : Sit} {EP : EPT}
/-- the list at p is being made: with it, without it -/
def Sit.open (S : Sit) (p : Addr) (u : HO) : Sit := ⟨S.ρ, S.ah, upd S.H p u, p :: S.busy⟩
def Sit.strip (S : Sit) (p : Addr) (B : List Addr) : Sit := ⟨S.ρ, S.ah, fun a => if a = p then none else S.H a, B⟩
def Sit.shut (S : Sit) (B : List Addr) : Sit := ⟨S.ρ, S.ah, S.H, B⟩
def Sit.poke (S : Sit) (p : Addr) (u : HO) : Sit := ⟨S.ρ, S.ah, upd S.H p u, S.busy⟩
structure Opn (S : Sit) (p : Addr) (B : List Addr) : Prop where
  b : S.busy = p :: B
  nb : p ∉ B
theorem Sit.open_ok (ok : Ok K S) {p : Addr} {u : HO} (hp : S.H p = none) (nt : ∀ ps, u ≠ .tbl ps := by intro ps h; cases h) : Ok K (S.open p u) ∧ Ext0 S (S.open p u) ∧ Opn (S.open p u) p S.busy := by
  have e0 : Ext0 S (S.open p u) := ⟨Nat.le_refl _, fun _ _ => rfl, fun a w h => by
    have ne : a ≠ p := ne_of_none h.1 hp
    refine ⟨by show upd S.H p u a = _; rw [upd_ne ne]; exact h.1, fun l => ?_, h.3⟩
    rcases l with l | l
    · exact h.2 (.inl l)
    · rcases List.mem_cons.mp l with z | l
      · exact ne z
      · exact h.2 (.inr l)⟩
  refine ⟨⟨fun i o h => ?_, ok.inj, fun a h => ?_, fun i o h m => ?_, fun P ps h => ?_⟩, e0, rfl, fun m => ?_⟩
  · obtain ⟨w, q, r⟩ := ok.obj i o h
    refine ⟨w, ?_, r.ext0 e0⟩
    show upd S.H p u (S.ρ i) = some w
    rw [upd_ne (ne_of_none q hp)]
    exact q
  · rcases List.mem_cons.mp h with z | h
    · rw [z]; exact ⟨u, upd_same⟩
    · obtain ⟨w, q⟩ := ok.bus a h
      exact ⟨w, by show upd S.H p u a = _; rw [upd_ne (ne_of_none q hp)]; exact q⟩
  · rcases List.mem_cons.mp m with z | m
    · obtain ⟨w, q, _⟩ := ok.obj i o h
      rw [show S.ρ i = p from z, hp] at q
      cases q
    · exact ok.dis i o h m
  · have h2 := upd_tbl nt h
    refine Ext.codes (fun _ _ s => e0.still _ _ s) (ok.tab P ps h2.1) fun m => ?_
    rcases List.mem_cons.mp m with z | m
    · exact h2.2 z
    · exact (ok.tab P ps h2.1).nb m
  · obtain ⟨w, q⟩ := ok.bus p m
    rw [hp] at q
    cases q
theorem Opn.live {p : Addr} {B : List Addr} (o : Opn S p B) : Liv S p := .inr (by rw [o.b]; exact List.mem_cons_self)
theorem Opn.ext {p : Addr} {B : List Addr} (o : Opn S p B) (e : Ext S S') : Opn S' p B := ⟨e.bsy.trans o.b, o.nb⟩
theorem strip_H {p a : Addr} {B : List Addr} (h : a ≠ p) : (S.strip p B).H a = S.H a := if_neg h
theorem Opn.ne {p : Addr} {B : List Addr} (o : Opn S p B) (ok : Ok K S) {i : Nat} {q : AO} (h : S.ah[i]? = some (some q)) : S.ρ i ≠ p := fun e => ok.dis i q h (by rw [e, o.b]; exact List.mem_cons_self)
theorem Sit.poke_ok {p : Addr} {B : List Addr} {u : HO} (o : Opn S p B) (ok : Ok K S) (nt : ∀ ps, u ≠ .tbl ps := by intro ps h; cases h) : Ok K (S.poke p u) ∧ Ext0 S (S.poke p u) ∧ Opn (S.poke p u) p B := by
  have e0 : Ext0 S (S.poke p u) := ⟨Nat.le_refl _, fun _ _ => rfl, fun a w h => by
    have ne : a ≠ p := fun z => h.2 (z ▸ o.live)
    exact ⟨by show upd S.H p u a = _; rw [upd_ne ne]; exact h.1, h.2, h.3⟩⟩
  refine ⟨⟨fun i q h => ?_, ok.inj, fun a h => ?_, ok.dis, fun P ps h => Ext.codes (fun _ _ s => e0.still _ _ s) (ok.tab P ps (upd_tbl nt h).1) (ok.tab P ps (upd_tbl nt h).1).nb⟩, e0, o.b, o.nb⟩
  · obtain ⟨w, e, r⟩ := ok.obj i q h
    refine ⟨w, ?_, r.ext0 e0⟩
    show upd S.H p u (S.ρ i) = some w
    rw [upd_ne (o.ne ok h)]
    exact e
  · by_cases z : a = p
    · rw [z]; exact ⟨u, upd_same⟩
    · obtain ⟨w, e⟩ := ok.bus a h
      exact ⟨w, by show upd S.H p u a = _; rw [upd_ne z]; exact e⟩
theorem strip_poke {p : Addr} {B : List Addr} {u : HO} : (S.poke p u).strip p B = S.strip p B := by
  unfold Sit.strip Sit.poke
  congr 1
  funext a
  show (if a = p then none else upd S.H p u a) = if a = p then none else S.H a
  by_cases z : a = p
  · rw [if_pos z, if_pos z]
  · rw [if_neg z, if_neg z, upd_ne z]
theorem strip_open {p : Addr} {u : HO} (hp : S.H p = none) : (S.open p u).strip p S.busy = S := by
  unfold Sit.strip Sit.open
  obtain ⟨ρ, ah, H, bs⟩ := S
  congr 1
  funext a
  show (if a = p then none else upd H p u a) = H a
  by_cases z : a = p
  · rw [if_pos z, z]; exact hp.symm
  · rw [if_neg z, upd_ne z]
theorem strip_liv {p a : Addr} {B : List Addr} (o : Opn S p B) (h : Liv (S.strip p B) a) : Liv S a := by
  rcases h with h | h
  · exact .inl h
  · exact .inr (by rw [o.b]; exact List.mem_cons_of_mem _ h)
theorem strip_still {p a : Addr} {B : List Addr} {u : HO} (o : Opn S p B) (h : Still (S.strip p B) a u) : Still S a u := by
  have ne : a ≠ p := fun z => by
    have q : (if a = p then none else S.H a) = some u := h.1
    rw [if_pos z] at q
    cases q
  refine ⟨by rw [← strip_H (B := B) ne]; exact h.1, fun l => h.2 ?_, h.3⟩
  rcases l with l | l
  · exact .inl l
  · rw [o.b] at l
    rcases List.mem_cons.mp l with z | l
    · exact absurd z ne
    · exact .inr l
theorem still_strip {p a : Addr} {B : List Addr} {u : HO} (o : Opn S p B) (h : Still S a u) : Still (S.strip p B) a u := by
  have ne : a ≠ p := fun z => h.2 (z ▸ o.live)
  exact ⟨by rw [strip_H ne]; exact h.1, fun l => h.2 (strip_liv o l), h.3⟩
theorem strip_e0 {p : Addr} {B : List Addr} (o : Opn S p B) : Ext0 S (S.strip p B) := ⟨Nat.le_refl _, fun _ _ => rfl, fun _ _ h => still_strip o h⟩
theorem strip_tbl {p P : Addr} {B : List Addr} {ps : Array Value} (h : (S.strip p B).H P = some (.tbl ps)) : S.H P = some (.tbl ps) ∧ P ≠ p := by
  by_cases z : P = p
  · have q : (if P = p then none else S.H P) = some (HO.tbl ps) := h
    rw [if_pos z] at q
    cases q
  · rw [strip_H z] at h
    exact ⟨h, z⟩
theorem Sit.strip_ok {p : Addr} {B : List Addr} (o : Opn S p B) (ok : Ok K S) : Ok K (S.strip p B) where
  tab := fun P ps h => Ext.codes (S' := S.strip p B) (fun _ _ s => still_strip o s) (ok.tab P ps (strip_tbl h).1) fun m => (ok.tab P ps (strip_tbl h).1).nb (by rw [o.b]; exact List.mem_cons_of_mem _ m)
  obj := fun i q h => by
    obtain ⟨w, e, r⟩ := ok.obj i q h
    refine ⟨w, ?_, r.ext0 (strip_e0 o)⟩
    show (S.strip p B).H (S.ρ i) = some w
    rw [strip_H (o.ne ok h)]
    exact e
  inj := ok.inj
  bus := fun a h => by
    have ne : a ≠ p := fun z => o.nb (z ▸ h)
    obtain ⟨w, e⟩ := ok.bus a (by rw [o.b]; exact List.mem_cons_of_mem _ h)
    exact ⟨w, by rw [strip_H ne]; exact e⟩
  dis := fun i q h m => ok.dis i q h (by rw [o.b]; exact List.mem_cons_of_mem _ m)
theorem Sit.strip_ext {p : Addr} {B : List Addr} (o : Opn S p B) (ok : Ok K S) (e : Ext S S') : Ext (S.strip p B) (S'.strip p B) where
  tbl := fun P ps h => by
    obtain ⟨h1, ne⟩ := strip_tbl h
    obtain ⟨ps', h2⟩ := e.tbl P ps h1
    exact ⟨ps', by rw [strip_H ne]; exact h2⟩
  len := e.len
  agree := e.agree
  pers := fun a u h => (still_strip (o.ext e) (e.still (strip_still o h))).1
  liv := fun a l => by
    have l' := strip_liv (o.ext e) l
    rcases e.liv a l' with z | z
    · by_cases q : Liv (S.strip p B) a
      · exact .inl q
      · refine .inr ?_
        by_cases ne : a = p
        · show (if a = p then none else S.H a) = none
          rw [if_pos ne]
        · exfalso
          rcases z with z | z
          · exact q (.inl z)
          · rw [o.b] at z
            rcases List.mem_cons.mp z with w | w
            · exact ne w
            · exact q (.inr w)
    · refine .inr ?_
      show (if a = p then none else S.H a) = none
      rw [z]
      exact ite_self _
  bsy := rfl
  keep := fun a h => by
    have ne : a ≠ p := fun z => o.nb (z ▸ h)
    rw [strip_H ne, strip_H ne]
    exact e.keep a (by rw [o.b]; exact List.mem_cons_of_mem _ h)
theorem Post.hide {α : Type} {G : α → Sit → Prop} {r : R α} {p : Addr} {B : List Addr} (o : Opn S p B) (ok : Ok K S) (hE : ∀ σ e S', Opn S' p B → EP σ e (S'.strip p B) → EP σ e S') (h : Post K EP (S.strip p B) G r) :
    Post K EP S (fun a S' => G a (S'.strip p B)) r := by
  cases r with
  | no => exact h
  | ok a ah' => exact fun S' e ok' q => h (S'.strip p B) (Sit.strip_ext o ok e) (Sit.strip_ok (o.ext e) ok') q
  | ex x env ah' => exact fun S' e ok' q σ re => hE σ x S' (o.ext e) (h (S'.strip p B) (Sit.strip_ext o ok e) (Sit.strip_ok (o.ext e) ok') q σ (re.ext0 (strip_e0 (o.ext e))))
theorem Sit.shut_ok {p : Addr} {B : List Addr} (o : Opn S p B) (ok : Ok K S) : Ok K (S.shut B) ∧ Ext (S.strip p B) (S.shut B) ∧ Ext0 S (S.shut B) ∧ ∀ u, S.H p = some u → (∀ ps, u ≠ .tbl ps) → Still (S.shut B) p u := by
  have e0 : Ext0 S (S.shut B) := ⟨Nat.le_refl _, fun _ _ => rfl, fun a u h => ⟨h.1, fun l => h.2 (by
    rcases l with l | l
    · exact .inl l
    · exact .inr (by rw [o.b]; exact List.mem_cons_of_mem _ l)), h.3⟩⟩
  refine ⟨⟨fun i q h => ?_, ok.inj, fun a h => ok.bus a (by rw [o.b]; exact List.mem_cons_of_mem _ h), fun i q h m => ok.dis i q h (by rw [o.b]; exact List.mem_cons_of_mem _ m), fun P ps h => Ext.codes (fun _ _ s => e0.still _ _ s) (ok.tab P ps h) fun m => (ok.tab P ps h).nb (by rw [o.b]; exact List.mem_cons_of_mem _ m)⟩, ⟨Nat.le_refl _, fun _ _ => rfl, fun a u h => (strip_still o h).1, fun a l => .inl l, rfl, fun a h => ?_, fun P ps h => ⟨ps, (strip_tbl h).1⟩⟩, e0, fun u h nt => ⟨h, fun l => ?_, nt⟩⟩
  · obtain ⟨w, e, r⟩ := ok.obj i q h
    exact ⟨w, e, r.ext0 e0⟩
  · have ne : a ≠ p := fun z => o.nb (z ▸ h)
    rw [strip_H ne]
    rfl
  · rcases l with ⟨i, q, hq, e⟩ | l
    · exact o.ne ok hq e
    · exact o.nb l
end
def EP0 : EPT := fun _ _ _ => False
def lc (go : D → Lc → Option Lc) (tt : Lc → M Bool) (el : Lc → M D) (vs : List Nat) (env : Lc) : List D → M (List D)
  | [] => M.ret []
  | d :: ds => M.andThen (M.lift (go d (wipeE env vs))) fun env1 => M.andThen (tt env1) fun b => if b = true then M.andThen (el env1) fun y => M.andThen (lc go tt el vs env ds) fun ys => M.ret (y :: ys) else lc go tt el vs env ds
/-- what is raised within is refused -/
def hush {α : Type} (m : M α) : M α := fun ah => match m ah with
  | .no => .no
  | .ok a ah' => .ok a ah'
  | .ex _ _ _ => .no
def eLc (it : Lc → M (List D)) (go : D → Lc → Option Lc) (tt : Lc → M Bool) (el : Lc → M D) (vs : List Nat) : Lc → M D := fun env => M.andThen (it env) fun ds => M.when (decide (ds.length ≤ sizeLine)) (M.andThen (hush (lc go tt el vs env ds)) fun ys => M.ret (.lst ys))
def tYs : Lc → M Bool := fun _ => M.ret true
theorem Post.hushed {K : PySem.W.Frag} {EP : EPT} {S : Sit} {α : Type} {G : α → Sit → Prop} {m : M α} (h : Post K EP S G (hush m S.ah)) : Post K EP0 S G (m S.ah) := by
  unfold hush at h
  cases q : m S.ah with
  | no => rw [q] at h; exact h
  | ok a ah' => rw [q] at h; exact h
  | ex x env ah' => rw [q] at h; exact False.elim h
def oN (i : Nat) : D → Lc → Option Lc := fun d env => some (env.set i (some d))
def oT2 (i j : Nat) : D → Lc → Option Lc := fun d env => match d with
  | .tup [x, y] => some ((env.set i (some x)).set j (some y))
  | _ => none
def oT3 (i j l : Nat) : D → Lc → Option Lc := fun d env => match d with
  | .tup [x, y, z] => some (((env.set i (some x)).set j (some y)).set l (some z))
  | _ => none
def Raw (K : PySem.W.Frag) (t : TG) (go : D → Lc → Option Lc) (vs : List Nat) : Prop :=
  ∀ (S : Sit) (env env1 : Lc) (σ : St) (d : D) (v : V) (Q : St → Hp → Prop), Ok K S → RE K S env σ → RV K S d v → go d (wipeE env vs) = some env1 → (∀ σ2, RE K S env1 σ2 → wipe σ2 vs = wipe σ vs → Q σ2 S.H) → t v (wipe σ vs) S.H Q
section
variable {X : Cx} {EP : EPT} {pos : Pos} {K : PySem.W.Frag}
theorem PTs.by {ifs : List Expr} {t t' : TT} (h : PTs X ifs t) (i : ∀ σ H Q, t' σ H Q → t σ H Q) : PTs X ifs t' := ⟨fun pins s σ H Q I q => h.run pins s σ H Q I (i σ H Q q)⟩
theorem ts_nil : PTs X [] (TB X.K EP tYs) := PTs.by pts_nil fun σ H Q ⟨S, env, e, ok, re, p⟩ => by
  subst e
  exact ok.ret (a := true) p
theorem ts_one {c : Expr} {f : Lc → M Bool} (h : PT X c (TB X.K EP f)) : PTs X [c] (TB X.K EP f) := pts_one h
theorem wipe_get {σ τ : St} {vs : List Nat} {j : Nat} (hj : j ∈ vs) (hτ : τ.length = σ.length) : (wipe τ vs)[j]? = if j < σ.length then some none else none := by
  have hlen : (wipe τ vs).length = σ.length := by rw [wipe_length]; exact hτ
  by_cases hl : j < σ.length
  · rw [if_pos hl]
    cases q : (wipe τ vs)[j]? with
    | none => rw [List.getElem?_eq_none_iff] at q; omega
    | some y =>
      cases y with
      | none => rfl
      | some z => exact absurd hj (wipe_some q).2
  · rw [if_neg hl, List.getElem?_eq_none (by omega)]
theorem wipe_eq {σ τ : St} {vs : List Nat} (hl : τ.length = σ.length) (h : ∀ j, j ∉ vs → τ[j]? = σ[j]?) : wipe τ vs = wipe σ vs := by
  refine List.ext_getElem? fun j => ?_
  by_cases hj : j ∈ vs
  · rw [wipe_get hj hl, wipe_get (σ := σ) hj rfl]
  · rw [wipe_out hj, wipe_out hj, h j hj]
theorem set_off {τ : St} {vs : List Nat} {i j : Nat} {y : Option V} (hi : i ∈ vs) (hj : j ∉ vs) : (τ.set i y)[j]? = τ[j]? := List.getElem?_set_ne fun (z : i = j) => hj (z ▸ hi)
theorem raw_n {i : Nat} {vs : List Nat} (hi : i ∈ vs) : Raw K (gName i) (oN i) vs := fun S env env1 σ d v Q ok re rv e h => by
  cases e
  refine h _ ((re.wiped vs).set i rv) (wipe_eq (by rw [List.length_set, wipe_length]) fun j hj => ?_)
  rw [set_off hi hj, wipe_out hj]
theorem raw_t2 {i j : Nat} {vs : List Nat} (hi : i ∈ vs) (hj : j ∈ vs) : Raw K (gTup K 2 (gCons (gName i) (gCons (gName j) gNil))) (oT2 i j) vs := fun S env env1 σ d v Q ok re rv e h => by
  unfold oT2 at e
  split at e
  · cases e
    cases rv with
    | tup q r =>
      obtain ⟨x, y, rfl, r1, r2⟩ := rvs2 r
      refine ⟨_, _, rfl, q.seq, rfl, _, _, rfl, _, _, rfl, rfl, h _ (((re.wiped vs).set i r1).set j r2) (wipe_eq (by rw [List.length_set, List.length_set, wipe_length]) fun k hk => ?_)⟩
      rw [set_off hj hk, set_off hi hk, wipe_out hk]
  · cases e
theorem raw_t3 {i j l : Nat} {vs : List Nat} (hi : i ∈ vs) (hj : j ∈ vs) (hl : l ∈ vs) : Raw K (gTup K 3 (gCons (gName i) (gCons (gName j) (gCons (gName l) gNil)))) (oT3 i j l) vs := fun S env env1 σ d v Q ok re rv e h => by
  unfold oT3 at e
  split at e
  · cases e
    cases rv with
    | tup q r =>
      obtain ⟨x, y, u, rfl, r1, r2, r3⟩ := rvs3 r
      refine ⟨_, _, rfl, q.seq, rfl, _, _, rfl, _, _, rfl, _, _, rfl, rfl, h _ ((((re.wiped vs).set i r1).set j r2).set l r3) (wipe_eq (by rw [List.length_set, List.length_set, List.length_set, wipe_length]) fun k hk => ?_)⟩
      rw [set_off hl hk, set_off hj hk, set_off hi hk, wipe_out hk]
  · cases e
theorem lc_run {g : TG} {go : D → Lc → Option Lc} {tt : Lc → M Bool} {el : Lc → M D} {vs : List Nat} (raw : Raw K g go vs) {it : Lc → M (List D)} {σ : St} {H : Hp} {Q : VK} (h : TD K EP (eLc it go tt el vs) σ H Q) :
    tLc (TI' K EP it) g (TB K EP0 tt) (TD K EP0 el) vs σ H Q := by
  obtain ⟨S, env, rfl, ok, re, p⟩ := h
  refine ⟨S, env, rfl, ok, re, (Post.split p).imp fun ds S1 x1 o1 q J sv D hD => ?_⟩
  obtain ⟨hlen, q⟩ := Post.whened q
  have hlen := of_decide_eq_true hlen
  have q := Post.hushed (Post.split q)
  have re := re.ext x1
  obtain ⟨ok0, e0, op0⟩ := Sit.open_ok o1 (u := .lst []) hD
  have str0 := strip_open (u := .lst []) hD
  have hide0 : ∀ (σ : St) (e : Ex) (S' : Sit), Opn S' D S1.busy → EP0 σ e (S'.strip D S1.busy) → EP0 σ e S' := fun _ _ _ _ z => z
  refine ⟨fun i' m H' => ∃ S2 accD accV, S2.H = H' ∧ Ok K S2 ∧ Opn S2 D S1.busy ∧ Ext S1 (S2.strip D S1.busy) ∧ RE K S2 env σ ∧ (∀ d v, RV K S1 d v → RV K S2 d v) ∧ S2.H D = some (.lst accV) ∧ RVs K S2 accD accV ∧ accD.length ≤ i' ∧ i' + m = ds.length ∧
      Post K EP0 (S2.strip D S1.busy) (fun ys S' => Post K EP S' (GV K Q) (M.ret (.lst (accD ++ ys)) S'.ah)) (lc go tt el vs env (ds.drop i') S2.ah),
    ⟨ds.length, S1.open D (.lst []), [], [], rfl, ok0, op0, by rw [str0]; exact Ext.refl _, re.ext0 e0, fun d v r => r.ext0 e0, upd_same, .nil, Nat.zero_le _, by omega, by rw [str0, List.drop_zero]; exact q⟩, fun i' m H' hW => ?_⟩
  obtain ⟨S2, accD, accV, rfl, ok2, op2, x2, re2, rv2, hd2, acc2, hle, hm, p2⟩ := hW
  obtain ⟨ok3, x3, e3, st3⟩ := Sit.shut_ok op2 ok2
  by_cases hl : i' < ds.length
  · obtain ⟨d, g1, g2⟩ := drop_get hl
    rw [g2] at p2
    refine .inr ⟨sv.go (S2.shut S1.busy) i' (x2.trans x3) hl, fun H' => ∃ S3 accD accV, S3.H = H' ∧ Ok K S3 ∧ Opn S3 D S1.busy ∧ Ext S1 (S3.strip D S1.busy) ∧ RE K S3 env σ ∧ (∀ d v, RV K S1 d v → RV K S3 d v) ∧ S3.H D = some (.lst accV) ∧ RVs K S3 accD accV ∧ accD.length ≤ i' + 1 ∧
        Post K EP0 (S3.strip D S1.busy) (fun ys S' => Post K EP S' (GV K Q) (M.ret (.lst (accD ++ ys)) S'.ah)) (lc go tt el vs env (ds.drop (i' + 1)) S3.ah),
      fun H' ⟨S3, aD, aV, b1, b2, b3, b4, b5, b6, b7, b8, b9, b10⟩ => ⟨m - 1, by omega, S3, aD, aV, b1, b2, b3, b4, b5, b6, b7, b8, b9, by omega, b10⟩, fun x H' hy => ?_⟩
    obtain ⟨rfl, rv⟩ := sv.yld (S2.shut S1.busy) i' x H' (x2.trans x3) ok3 hy d g1
    have rv := rv2 _ _ rv
    obtain ⟨env1, he1, p2⟩ := Post.lifted (Post.split p2) (Sit.strip_ok op2 ok2)
    refine raw S2 env env1 σ d x _ ok2 re2 rv he1 fun σ2 reσ hw => ⟨hw, S2, env1, rfl, ok2, reσ, (Post.hide op2 ok2 hide0 (Post.split p2)).imp fun b S3 y3 o3 q3 => ?_⟩
    have op3 := op2.ext y3
    have hd3 : S3.H D = some (.lst accV) := (y3.keep D (by rw [op2.b]; exact List.mem_cons_self)).trans hd2
    cases b with
    | false =>
      exact ⟨S3, accD, accV, rfl, o3, op3, x2.trans (Sit.strip_ext op2 ok2 y3), re2.ext y3, fun d v r => (rv2 d v r).ext y3, hd3, acc2.ext y3, by omega, q3⟩
    | true =>
      refine ⟨S3, env1, rfl, o3, reσ.ext y3, (Post.hide op3 o3 hide0 (Post.split q3)).imp fun y S4 y4 o4 q4 w rw4 => ?_⟩
      have op4 := op3.ext y4
      have hd4 : S4.H D = some (.lst accV) := (y4.keep D (by rw [op3.b]; exact List.mem_cons_self)).trans hd3
      have acc4 := (acc2.ext y3).ext y4
      obtain ⟨o5, e5, op5⟩ := Sit.poke_ok (u := .lst (accV ++ [w])) op4 o4
      refine ⟨accV, hd4, by rw [← acc4.length]; omega, S4.poke D (.lst (accV ++ [w])), accD ++ [y], accV ++ [w], rfl, o5, op5, by rw [strip_poke]; exact (x2.trans (Sit.strip_ext op2 ok2 y3)).trans (Sit.strip_ext op3 o3 y4), ((re2.ext y3).ext y4).ext0 e5,
        fun d v r => (((rv2 d v r).ext y3).ext y4).ext0 e5, upd_same, (acc4.append (.cons rw4 .nil)).ext0 e5, by rw [List.length_append]; simp only [List.length_singleton]; omega, ?_⟩
      rw [strip_poke]
      refine (Post.split q4).imp fun ys S6 y6 o6 q6 => ?_
      have z := Post.ret (G := fun ys S' => Post K EP S' (GV K Q) (M.ret (.lst (accD ++ ys)) S'.ah)) q6 o6
      rw [List.append_assoc]
      exact z
  · have e : i' = ds.length := by omega
    subst e
    rw [List.drop_length] at p2
    refine .inl ⟨sv.stop (S2.shut S1.busy) (x2.trans x3), ?_⟩
    have z : Post K EP (S2.shut S1.busy) (GV K Q) (M.ret (.lst (accD ++ [])) (S2.shut S1.busy).ah) := p2 (S2.shut S1.busy) x3 ok3 rfl
    rw [List.append_nil] at z
    exact ok3.ret (EP := EP) (a := Mi.D.lst accD) z _ (.lst (st3 _ hd2 (by intro ps h; cases h)) (acc2.ext0 e3))
/-- [elt for tg in iter if ..] -/
theorem d_lc {elt tg iter : Expr} {ifs : List Expr} {scope : Scope} {own : List (Str × Nat)} {g : TG} {go : D → Lc → Option Lc} {it : Lc → M (List D)} {tt : Lc → M Bool} {el : Lc → M D} (rm : Rm X) (hN : X.N.Nodup) (hi : PI X tg iter (TI' X.K EP it)) (ok : BlkOk X.N X.env.scope scope own)
    (raw : Raw X.K g go (own.map (·.2)))
    (hg : ∀ (s : Shared) (H : Hp) (C : Addr) (cl : List (Str × Addr)) (fp : List Addr), PG (X.blk s H scope (compEnvC scope cl C X.env) fp) tg g)
    (ht : ∀ (s : Shared) (H : Hp) (C : Addr) (cl : List (Str × Addr)) (fp : List Addr), PTs (X.blk s H scope (compEnvC scope cl C X.env) fp) ifs (TB X.K EP0 tt))
    (he : ∀ (s : Shared) (H : Hp) (C : Addr) (cl : List (Str × Addr)) (fp : List Addr), PE (X.blk s H scope (compEnvC scope cl C X.env) fp) elt (TD X.K EP0 el)) (hs : ∀ x, foldedSetIterable iter X.env x = pure x := by intro _; rfl) :
    PE X (.ListComp elt [{ target := tg, iter := iter, ifs := ifs, is_async := 0 }] scope pos) (TD X.K EP (eLc it go tt el (own.map (·.2)))) :=
  PE.by (pe_lc rm.cm hN hi ok hg ht he hs) fun _ _ _ h => lc_run raw h
theorem s_setLc (i : Nat) {y : Str} {py : Pos} {elt tg iter : Expr} {ifs : List Expr} {scope : Scope} {own : List (Str × Nat)} {spos : Pos} {g : TG} {go : D → Lc → Option Lc} {it : Lc → M (List D)} {tt : Lc → M Bool} {el : Lc → M D} (rm : Rm X) (hN : X.N.Nodup)
    (hi : PI X tg iter (TI' X.K EP it)) (ok : BlkOk X.N X.env.scope scope own)
    (raw : Raw X.K g go (own.map (·.2)))
    (hg : ∀ (s : Shared) (H : Hp) (C : Addr) (cl : List (Str × Addr)) (fp : List Addr), PG (X.blk s H scope (compEnvC scope cl C X.env) fp) tg g)
    (ht : ∀ (s : Shared) (H : Hp) (C : Addr) (cl : List (Str × Addr)) (fp : List Addr), PTs (X.blk s H scope (compEnvC scope cl C X.env) fp) ifs (TB X.K EP0 tt))
    (he : ∀ (s : Shared) (H : Hp) (C : Addr) (cl : List (Str × Addr)) (fp : List Addr), PE (X.blk s H scope (compEnvC scope cl C X.env) fp) elt (TD X.K EP0 el))
    (hy : X.N[i]? = some y := by rfl) (hyl : X.env.scope.names.lookup y = some .local := by rfl)
    (hsw : swapsWith (.ListComp elt [{ target := tg, iter := iter, ifs := ifs, is_async := 0 }] scope pos) (some (.Name y py)) spos.line X.env = pure true := by exact sw_true rfl rfl rfl (by decide +kernel))
    (hs : ∀ x, foldedSetIterable iter X.env x = pure x := by intro _; rfl) :
    PS X (.Assign [.Name y py] (.ListComp elt [{ target := tg, iter := iter, ifs := ifs, is_async := 0 }] scope pos) spos) (TF X.K EP (sSet i (eLc it go tt el (own.map (·.2))))) := by
  refine PS.by (ps_setLc (i := i) rm.cm hN hy hyl hsw hi ok hg ht he hs) fun σ H Dn ⟨S, env, e, o, re, p⟩ => ?_
  subst e
  refine lc_run (EP := EP) raw ⟨S, env, rfl, o, re, (Post.split p).imp fun d S1 x1 o1 q v rv => o1.ret (a := (Fl.nx, env.set i (some d))) q _ ((re.ext x1).set i rv)⟩
end
end Mi
set_option Elab.async false
set_option linter.all false
set_option maxRecDepth 100000
set_option maxHeartbeats 4000000
namespace Mi
open PySem PySem.Spec PyProof.Rows L2
section
variable {X : Cx} {EP : EPT} {K : PySem.W.Frag} {pos : Pos}
/-! ## dicts of the mirror's heap -/
def toKey : D → Option Key
  | .int i => some (.inl i)
  | .str x => some (.inr x)
  | _ => none
def lookD : List (Key × D) → Key → Option D
  | [], _ => none
  | (j, d) :: r, k => if j = k then some d else lookD r k
def putD : List (Key × D) → Key → D → List (Key × D)
  | [], k, d => [(k, d)]
  | (j, x) :: r, k, d => if j = k then (k, d) :: r else (j, x) :: putD r k d
def getL (o : AO) : Option (List D) := match o with
  | .lst xs => some xs
  | .dct _ => none
def getK (o : AO) : Option (List (Key × D)) := match o with
  | .lst _ => none
  | .dct xs => some xs
theorem RKs.look {S : Sit} : ∀ {ds : List (Key × D)} {vs : List (Key × V)} {k : Key} {d : D}, RKs K S ds vs → lookD ds k = some d → ∃ v, valV vs k = some v ∧ RV K S d v
  | _, _, _, _, .nil, h => nomatch h
  | _, _, k, d, @RKs.cons _ _ j _ v _ vs r t, h => by
    unfold lookD at h
    unfold valV
    rw [List.find?_cons]
    by_cases e : j = k
    · rw [if_pos e] at h
      cases h
      rw [decide_eq_true e]
      exact ⟨v, rfl, r⟩
    · rw [if_neg e] at h
      rw [decide_eq_false e]
      exact RKs.look t h
theorem RKs.none_of {S : Sit} : ∀ {ds : List (Key × D)} {vs : List (Key × V)} {k : Key}, RKs K S ds vs → lookD ds k = none → valV vs k = none
  | _, _, _, .nil, _ => rfl
  | _, _, k, @RKs.cons _ _ j _ v _ vs r t, h => by
    unfold lookD at h
    unfold valV
    rw [List.find?_cons]
    by_cases e : j = k
    · rw [if_pos e] at h
      cases h
    · rw [if_neg e] at h
      rw [decide_eq_false e]
      exact RKs.none_of t h
theorem RKs.length {S : Sit} : ∀ {ds : List (Key × D)} {vs : List (Key × V)}, RKs K S ds vs → ds.length = vs.length
  | _, _, .nil => rfl
  | _, _, .cons _ t => congrArg (· + 1) (RKs.length t)
/-- keys are unlike -/
def KeysOk : List (Key × D) → Bool
  | [] => true
  | (j, _) :: r => !(r.any fun p => decide (p.1 = j)) && KeysOk r
theorem any_keys {S : Sit} {k : Key} : ∀ {ds : List (Key × D)} {vs : List (Key × V)}, RKs K S ds vs → (vs.any fun p => decide (p.1 = k)) = ds.any fun p => decide (p.1 = k)
  | _, _, .nil => rfl
  | _, _, .cons _ t => by
    rw [List.any_cons, List.any_cons, any_keys t]
theorem map_off {k : Key} {w : V} : ∀ {vs : List (Key × V)}, (vs.any fun p => decide (p.1 = k)) = false → vs.map (fun kv => if kv.1 = k then (kv.1, w) else kv) = vs
  | [], _ => rfl
  | (j, x) :: r, h => by
    rw [List.any_cons, Bool.or_eq_false_iff] at h
    rw [List.map_cons, map_off h.2, if_neg (of_decide_eq_false h.1)]
theorem RKs.put {S : Sit} {k : Key} {d : D} {w : V} (rw' : RV K S d w) : ∀ {ds : List (Key × D)} {vs : List (Key × V)}, RKs K S ds vs → KeysOk ds = true → RKs K S (putD ds k d) (putK vs k w)
  | _, _, .nil, _ => .cons rw' .nil
  | _, _, @RKs.cons _ _ j dj v ds vs r t, hk => by
    have hk' := Bool.and_eq_true_iff.mp (show (!(ds.any fun p => decide (p.1 = j)) && KeysOk ds) = true from hk)
    unfold putD putK
    rw [List.any_cons]
    by_cases e : j = k
    · rw [if_pos e, decide_eq_true e, Bool.true_or, if_pos rfl, List.map_cons, if_pos e]
      have hno : (vs.any fun p => decide (p.1 = k)) = false := by
        rw [any_keys t, ← e]
        simpa using hk'.1
      rw [map_off hno]
      have e' : (j, w) = (k, w) := by rw [e]
      rw [e']
      exact .cons rw' t
    · rw [if_neg e, decide_eq_false e, Bool.false_or]
      have ih := RKs.put (k := k) rw' t hk'.2
      unfold putK at ih
      by_cases ha : (vs.any fun p => decide (p.1 = k)) = true
      · rw [if_pos ha] at ih ⊢
        rw [List.map_cons, if_neg e]
        exact .cons r ih
      · rw [if_neg ha] at ih ⊢
        rw [List.cons_append]
        exact .cons r ih
theorem Post.gotK {S : Sit} {β : Type} {G : β → Sit → Prop} {i : Nat} {f : List (Key × D) → M β} (h : Post K EP S G (M.andThen (getO i) (fun o => M.andThen (M.lift (getK o)) f) S.ah)) (ok : Ok K S) :
    ∃ kds kvs, S.ah[i]? = some (some (.dct kds)) ∧ S.H (S.ρ i) = some (.dK kvs) ∧ RKs K S kds kvs ∧ Post K EP S G (f kds S.ah) := by
  obtain ⟨o, u, e1, _, e2, ro, p⟩ := Post.got (Post.split h) ok
  obtain ⟨kds, e3, p⟩ := Post.lifted (Post.split p) ok
  cases ro with
  | lst _ => cases e3
  | dct r => cases e3; exact ⟨_, _, e1, e2, r, p⟩
theorem Post.gotL {S : Sit} {β : Type} {G : β → Sit → Prop} {i : Nat} {f : List D → M β} (h : Post K EP S G (M.andThen (getO i) (fun o => M.andThen (M.lift (getL o)) f) S.ah)) (ok : Ok K S) :
    ∃ ds vs, S.ah[i]? = some (some (.lst ds)) ∧ S.H (S.ρ i) = some (.lst vs) ∧ RVs K S ds vs ∧ Post K EP S G (f ds S.ah) := by
  obtain ⟨o, u, e1, _, e2, ro, p⟩ := Post.got (Post.split h) ok
  obtain ⟨kds, e3, p⟩ := Post.lifted (Post.split p) ok
  cases ro with
  | dct _ => cases e3
  | lst r => cases e3; exact ⟨_, _, e1, e2, r, p⟩
def gDGet (x y : D) : M D := match x with
  | .ref n => M.andThen (getO n) fun o => M.andThen (M.lift (getK o)) fun kds => M.lift ((toKey y).bind fun k => lookD kds k)
  | _ => M.no
theorem toKey_rv {S : Sit} {d : D} {v : V} {k : Key} (r : RV K S d v) (h : toKey d = some k) : v = kV k := by
  cases r with
  | int i => cases h; rfl
  | str x => cases h; rfl
  | non => cases h
  | bl _ => cases h
  | tup _ _ => cases h
  | lst _ _ => cases h
  | fro _ _ => cases h
  | emp _ => cases h
  | ref _ => cases h
  | oth => cases h
theorem g_dget : Good2 K EP (fun x y H Q => ∃ a v, x = .ref a ∧ DGet H a y (some v) ∧ Q v H) gDGet := by
  intro S x y v w Q ok rx ry p
  unfold gDGet at p
  split at p
  · cases rx with
    | ref hi =>
      obtain ⟨kds, kvs, e1, e2, r, p⟩ := Post.gotK p ok
      obtain ⟨d, e3, g⟩ := Post.lifted p ok
      obtain ⟨k, k1, k2⟩ := Option.bind_eq_some_iff.mp e3
      obtain ⟨u, u1, u2⟩ := r.look k2
      exact ⟨_, u, rfl, .inl ⟨kvs, k, .inl e2, toKey_rv ry k1, u1.symm⟩, g u u2⟩
  · exact False.elim p
theorem d_dget {o i : Expr} {fo fi : Lc → M D} (rm : Rm X) (ho : PE X o (TD X.K EP fo)) (hi : PE X i (TD X.K EP fi)) (hs : NoSl i := by exact fun _ _ => rfl) : PE X (.Subscript o i pos) (TD X.K EP (e2 gDGet fo fi)) :=
  PE.by (pe_dget (by have := rm.un; omega) ho hi hs) fun _ _ _ h => run2 (r := fun x y H Q => ∃ a v, x = .ref a ∧ DGet H a y (some v) ∧ Q v H) g_dget h
/-- d[k] = v: v first -/
def sDPut (fo fi fv : Lc → M D) : MS := fun env => M.andThen (fv env) fun v => M.andThen (fo env) fun x => M.andThen (fi env) fun y => match x with
  | .ref n => M.andThen (getO n) fun o => M.andThen (M.lift (getK o)) fun kds => M.andThen (M.lift (toKey y)) fun k => M.when (KeysOk kds && decide (kds.length < sizeLine)) (M.andThen (putO n (.dct (putD kds k v))) fun _ => M.ret (.nx, env))
  | _ => M.no
theorem s_dput {o i value : Expr} {pos' : Pos} {fo fi fv : Lc → M D} (rm : Rm X) (ho : PE X o (TD X.K EP fo)) (hi : PE X i (TD X.K EP fi)) (hv : PE X value (TD X.K EP fv)) (hs : swapsWith value (some (.Subscript o i pos')) pos.line X.env = pure false := by rfl) :
    PS X (.Assign [.Subscript o i pos'] value pos) (TF X.K EP (sDPut fo fi fv)) := by
  refine PS.by (ps_dput (by have := rm.un; omega) ho hi hv hs) fun σ H Dn ⟨S, env, e, ok, re, p⟩ => ?_
  subst e
  refine ⟨S, env, rfl, ok, re, (Post.split p).imp fun v S1 x1 o1 q1 vv rv => ⟨S1, env, rfl, o1, re.ext x1, (Post.split q1).imp fun x S2 x2 o2 q2 xv rx => ⟨S2, env, rfl, o2, (re.ext x1).ext x2, (Post.split q2).imp fun y S3 x3 o3 q3 yv ry => ?_⟩⟩⟩
  have rx := rx.ext x3
  have rv := (rv.ext x2).ext x3
  have re := ((re.ext x1).ext x2).ext x3
  split at q3
  · cases rx with
    | @ref n hi =>
      obtain ⟨kds, kvs, e1, e2, r, q3⟩ := Post.gotK q3 o3
      obtain ⟨k, k1, q3⟩ := Post.lifted (Post.split q3) o3
      obtain ⟨hc, q3⟩ := Post.whened q3
      have hc' := Bool.and_eq_true_iff.mp hc
      have hl := of_decide_eq_true hc'.2
      have r' := r.put (k := k) rv hc'.1
      have z := Post.putted (u := .dK (putK kvs k vv)) (Post.split q3) o3 e1 (.dct r')
      have x4 := Sit.put_ext o3 (u := .dK (putK kvs k vv)) (o := .dct (putD kds k v)) e1
      exact ⟨_, _, rfl, .inl ⟨kvs, k, e2, toKey_rv ry k1, by rw [← r.length]; exact hl, rfl⟩, (Sit.put_ok o3 e1 (.dct r')).ret (a := (Fl.nx, env)) z σ (re.ext x4)⟩
  · exact False.elim q3
/-! {k: v, ..} -/
def pN : Lc → M (List (D × D)) := fun _ => M.ret []
def pC (fk fv : Lc → M D) (r : Lc → M (List (D × D))) : Lc → M (List (D × D)) := fun env => M.andThen (fk env) fun k => M.andThen (fv env) fun v => M.andThen (r env) fun ps => M.ret ((k, v) :: ps)
def keysOf : List (D × D) → Option (List (Key × D))
  | [] => some []
  | (k, v) :: r => (toKey k).bind fun j => (keysOf r).map fun l => (j, v) :: l
def mergeD (l : List (Key × D)) : List (Key × D) → List (Key × D)
  | [] => l
  | (k, v) :: r => mergeD (putD l k v) r
inductive RPs (K : PySem.W.Frag) (S : Sit) : List (D × D) → List (V × V) → Prop
  | nil : RPs K S [] []
  | cons {d e : D} {v u : V} {ds : List (D × D)} {vs : List (V × V)} : RV K S d v → RV K S e u → RPs K S ds vs → RPs K S ((d, e) :: ds) ((v, u) :: vs)
theorem RPs.ext {S S' : Sit} (e : Ext S S') : ∀ {ds : List (D × D)} {vs : List (V × V)}, RPs K S ds vs → RPs K S' ds vs
  | _, _, .nil => .nil
  | _, _, .cons a b t => .cons (a.ext e) (b.ext e) (RPs.ext e t)
theorem RPs.keys {S : Sit} : ∀ {ds : List (D × D)} {vs : List (V × V)} {l : List (Key × D)}, RPs K S ds vs → keysOf ds = some l → ∃ kvs, vs = kvs.map (fun kv => (kV kv.1, kv.2)) ∧ RKs K S l kvs
  | _, _, _, .nil, h => by cases h; exact ⟨[], rfl, .nil⟩
  | _, _, _, .cons (v := v) (u := u) a b t, h => by
    obtain ⟨j, h1, h2⟩ := Option.bind_eq_some_iff.mp h
    obtain ⟨l', h3, h4⟩ := Option.map_eq_some_iff.mp h2
    obtain ⟨kvs, e, r⟩ := RPs.keys t h3
    subst h4
    exact ⟨(j, u) :: kvs, by rw [List.map_cons, ← e, toKey_rv a h1], .cons b r⟩
theorem keys_put : ∀ {l : List (Key × D)} {k : Key} {d : D}, KeysOk l = true → KeysOk (putD l k d) = true ∧ ∀ j, (putD l k d).any (fun p => decide (p.1 = j)) = (decide (k = j) || l.any fun p => decide (p.1 = j))
  | [], k, d, _ => ⟨rfl, fun j => rfl⟩
  | (j, x) :: r, k, d, h => by
    have h' := Bool.and_eq_true_iff.mp (show (!(r.any fun p => decide (p.1 = j)) && KeysOk r) = true from h)
    unfold putD
    by_cases e : j = k
    · rw [if_pos e]
      subst e
      refine ⟨h, fun i => ?_⟩
      rw [List.any_cons, List.any_cons]
      cases decide (j = i) <;> rfl
    · rw [if_neg e]
      obtain ⟨a, b⟩ := keys_put (k := k) (d := d) h'.2
      refine ⟨?_, fun i => ?_⟩
      · show (!((putD r k d).any fun p => decide (p.1 = j)) && KeysOk (putD r k d)) = true
        rw [a, b j, decide_eq_false (fun z => e z.symm), Bool.false_or, h'.1]
        rfl
      · rw [List.any_cons, List.any_cons, b i]
        cases decide (j = i) <;> cases decide (k = i) <;> rfl
theorem RKs.merge {S : Sit} : ∀ {more : List (Key × D)} {mv : List (Key × V)} {l : List (Key × D)} {lv : List (Key × V)}, RKs K S more mv → RKs K S l lv → KeysOk l = true → RKs K S (mergeD l more) (mergeK lv mv)
  | _, _, _, _, .nil, r, _ => r
  | (k, d) :: more, (_, v) :: mv, l, lv, .cons a t, r, h => by
    show RKs K S (mergeD (putD l k d) more) (mergeK (putK lv k v) mv)
    exact RKs.merge t (r.put a h) (keys_put h).1
def eDisp (f : Lc → M (List (D × D))) : Lc → M D := fun env => M.andThen (newO (.dct [])) fun r => M.andThen (f env) fun ps => match r with
  | .ref n => M.andThen (getO n) fun o => M.andThen (M.lift (getK o)) fun kds => M.andThen (M.lift (keysOf ps)) fun l => M.when (kds.isEmpty && decide (l.length ≤ 15)) (M.andThen (putO n (.dct (mergeD [] l))) fun _ => M.ret (.ref n))
  | _ => M.no
def TPs (K : PySem.W.Frag) (EP : EPT) (f : Lc → M (List (D × D))) (trs : List (TE × TE)) : Prop := ∀ σ H (Q : List (V × V) → Hp → Prop), (∃ S env, S.H = H ∧ Ok K S ∧ RE K S env σ ∧ Post K EP S (fun ps S' => ∀ vs, RPs K S' ps vs → Q vs S'.H) (f env S.ah)) → tPairs trs σ H Q
theorem tp_nil : TPs K EP pN [] := fun σ H Q ⟨S, env, e, ok, re, p⟩ => by
  subst e
  exact ok.ret (a := ([] : List (D × D))) p [] .nil
theorem tp_cons {fk fv : Lc → M D} {f : Lc → M (List (D × D))} {trs : List (TE × TE)} (h : TPs K EP f trs) : TPs K EP (pC fk fv f) ((TD K EP fk, TD K EP fv) :: trs) := fun σ H Q ⟨S, env, e, ok, re, p⟩ => by
  subst e
  refine ⟨S, env, rfl, ok, re, (Post.split p).imp fun k S1 x1 o1 q1 kv rk => ⟨S1, env, rfl, o1, re.ext x1, (Post.split q1).imp fun v S2 x2 o2 q2 vv rv => ?_⟩⟩
  refine h σ S2.H _ ⟨S2, env, rfl, o2, (re.ext x1).ext x2, (Post.split q2).imp fun ps S3 x3 o3 q3 vs rvs => ?_⟩
  exact o3.ret (a := (k, v) :: ps) q3 _ (.cons ((rk.ext x2).ext x3) (rv.ext x3) rvs)
theorem d_disp {keys : List (Option Expr)} {values : List Expr} {trs : List (TE × TE)} {f : Lc → M (List (D × D))} (h : PPs X pos keys values trs) (ht : TPs X.K EP f trs)
    (h1 : (keys.all fun x => x.isSome) = true := by rfl) (h2 : keys.length = values.length := by rfl) (h3 : keys ≠ [] := by exact fun z => nomatch z) (h4 : keys.length ≤ 15 := by decide) : PE X (.Dict keys values pos) (TD X.K EP (eDisp f)) := by
  refine PE.by (pe_disp h h1 h2 h3 h4) fun σ H Q ⟨S, env, e, ok, re, p⟩ q hq => ?_
  subst e
  have p1 := Post.new (Post.split p) ok (u := .dK []) hq (.dct .nil)
  have x1 := Sit.more_ext ok (u := .dK []) (o := .dct []) hq
  have o1 := Sit.more_ok ok (u := .dK []) hq (RO.dct (K := X.K) (S := S) .nil)
  refine ht σ _ _ ⟨S.more q (.dK []) (.dct []), env, rfl, o1, re.ext x1, (Post.split p1).imp fun ps S2 x2 o2 q2 vs rvs => ?_⟩
  obtain ⟨kds, kvs, e1, e2, r, q3⟩ := Post.gotK q2 o2
  obtain ⟨l, l1, q4⟩ := Post.lifted (Post.split q3) o2
  obtain ⟨hc, q5⟩ := Post.whened q4
  have hc' := Bool.and_eq_true_iff.mp hc
  have hk : kds = [] := List.isEmpty_iff.mp hc'.1
  subst hk
  cases r
  obtain ⟨mv, m1, m2⟩ := rvs.keys l1
  have hρ : S2.ρ S.ah.length = q := (x2.agree S.ah.length (by show S.ah.length < (S.ah ++ [some (AO.dct [])]).length; rw [List.length_append]; exact Nat.lt_succ_self _)).trans Sit.more_new
  rw [hρ] at e2
  refine ⟨e2, mv, m1, by rw [← m2.length]; exact of_decide_eq_true hc'.2, ?_⟩
  have rm' := m2.merge .nil rfl
  have z := Post.putted (u := .dK (mergeK [] mv)) (Post.split q5) o2 e1 (.dct rm')
  have z2 := (Sit.put_ok o2 (u := .dK (mergeK [] mv)) e1 (.dct rm')).ret (a := D.ref S.ah.length) z (.ref q) (by
    have hr : RV X.K (S2.put S.ah.length (.dK (mergeK [] mv)) (.dct (mergeD [] l))) (.ref S.ah.length) (.ref (S2.ρ S.ah.length)) := RV.ref (K := X.K) (S := S2.put S.ah.length (.dK (mergeK [] mv)) (.dct (mergeD [] l))) (by
      show S.ah.length < (S2.ah.set S.ah.length _).length
      rw [List.length_set]
      exact (List.getElem?_eq_some_iff.mp e1).1)
    rw [hρ] at hr
    exact hr)
  have e3 : (S2.put S.ah.length (.dK (mergeK [] mv)) (.dct (mergeD [] l))).H = upd S2.H q (.dK (mergeK [] mv)) := by
    show upd S2.H (S2.ρ S.ah.length) _ = _
    rw [hρ]
  rw [e3] at z2
  exact z2
theorem d_emp : PE X (.Dict [] [] pos) (TD X.K EP (eC .emp)) := by
  refine PE.by pe_dnewK fun σ H Q ⟨S, env, e, ok, re, p⟩ q hq => ?_
  subst e
  exact p (S.with q (.dK [])) (Sit.with_ext ok hq) (Sit.with_ok ok hq) rfl _ (.emp (Sit.with_still ok hq))
theorem d_dnew : PE X (.Dict [] [] pos) (TD X.K EP (fun _ => newO (.dct []))) := by
  refine PE.by pe_dnewK fun σ H Q ⟨S, env, e, ok, re, p⟩ q hq => ?_
  subst e
  have z := Post.new p ok (u := .dK []) hq (.dct .nil)
  have hr : RV X.K (S.more q (.dK []) (.dct [])) (.ref S.ah.length) (.ref ((S.more q (.dK []) (.dct [])).ρ S.ah.length)) := .ref (by show S.ah.length < (S.ah ++ [some (AO.dct [])]).length; rw [List.length_append]; exact Nat.lt_succ_self _)
  rw [Sit.more_new] at hr
  exact z _ hr
/-! ## methods of lists of the mirror's heap -/
def isL (x : D) : M Unit := match x with
  | .ref n => M.andThen (getO n) fun o => M.andThen (M.lift (getL o)) fun _ => M.ret ()
  | _ => M.no
def gApp (x y : D) : M D := match x with
  | .ref n => M.andThen (getO n) fun o => M.andThen (M.lift (getL o)) fun xs => M.when (decide (xs.length < sizeLine)) (M.andThen (putO n (.lst (xs ++ [y]))) fun _ => M.ret .non)
  | _ => M.no
def gPop (x : D) : M D := match x with
  | .ref n => M.andThen (getO n) fun o => M.andThen (M.lift (getL o)) fun xs => M.andThen (M.lift (xs[xs.length - 1]?)) fun y => M.andThen (putO n (.lst xs.dropLast)) fun _ => M.ret y
  | _ => M.no
def eApp (fo fe : Lc → M D) : Lc → M D := fun env => M.andThen (fo env) fun x => M.andThen (isL x) fun _ => M.andThen (fe env) fun y => gApp x y
theorem post_isL {S : Sit} {β : Type} {G : β → Sit → Prop} {x : D} {v : V} {f : Unit → M β} (ok : Ok K S) (rx : RV K S x v) (h : Post K EP S G (M.andThen (isL x) f S.ah)) : (∃ a vs, v = .ref a ∧ S.H a = some (.lst vs)) ∧ Post K EP S G (f () S.ah) := by
  have p := Post.split h
  unfold isL at p
  split at p
  · cases rx with
    | ref hi =>
      obtain ⟨ds, vs, e1, e2, r, p⟩ := Post.gotL p ok
      exact ⟨⟨_, vs, rfl, e2⟩, ok.ret p⟩
  · exact False.elim p
theorem andThen_es1 {β : Type} {fe : Lc → M D} {env : Lc} {k : List D → M β} : M.andThen (esC fe esN env) k = M.andThen (fe env) fun y => k [y] := by
  funext ah
  simp only [M.andThen, esC, esN, M.ret]
  cases fe env ah <;> rfl
theorem d_app {o e : Expr} {fo fe : Lc → M D} {apos cpos : Pos} (ho : PE X o (TD X.K EP fo)) (he : PE X e (TD X.K EP fe)) (hs : starEach [e] X.env = (false, eval e X.env) :: starEach [] X.env := by rfl)
    (hbase : attributeBase o "append" X.env (eval o X.env) = eval o X.env := by rfl)
    (hall : ((backTo cpos (starEach [e] X.env)).all (fun x => !x.1) && (backToKw cpos (keywordEach [] X.env)).all (fun x => x.1.isSome) && decide (([e] : List Expr).length + ([] : List Keyword).length + (if ([] : List Keyword).isEmpty = true then 0 else 1) < 30)) = true := by rfl)
    (hline : (apos.endLine == cpos.line) = true := by rfl) (hpl : (backTo cpos (starEach [] X.env)).any (·.1) = false := by rfl) :
    PE X (.Call (.Attribute o "append" apos) [e] [] cpos) (TD X.K EP (eApp fo fe)) := by
  refine PE.by (pe_bm PySem.F.plainAttrs_list PySem.F.slot_list_append PySem.F.type_list_append mt_append ho (as_cons (EP := EP) he as_nil hs) hbase hall hline hs hpl) fun σ H Q ⟨S, env, e, ok, re, p⟩ => ?_
  subst e
  refine ⟨S, env, rfl, ok, re, (Post.split p).imp fun x S1 x1 o1 q1 v rx => ?_⟩
  obtain ⟨⟨a, vs, rfl, ha⟩, q2⟩ := post_isL o1 rx q1
  refine ⟨.inl ⟨rfl, _, SqL.of ha⟩, S1, env, rfl, o1, re.ext x1, ?_⟩
  have q3 : Post X.K EP S1 (GV X.K Q) (M.andThen (esC fe esN env) (fun ys => match ys with
      | [y] => gApp x y
      | _ => M.no) S1.ah) := by
    rw [andThen_es1]
    exact q2
  refine (Post.split q3).imp fun ys S2 x2 o2 q4 ws rws => ?_
  split at q4
  · obtain ⟨w, rfl, rw1⟩ := rvs1 rws
    have rx := rx.ext x2
    unfold gApp at q4
    split at q4
    · cases rx with
      | @ref n hi =>
        obtain ⟨ds, vs2, e1, e2, r, q5⟩ := Post.gotL q4 o2
        obtain ⟨hc, q5⟩ := Post.whened q5
        have r' : RVs X.K S2 (ds ++ [_]) (vs2 ++ [w]) := r.append (.cons rw1 .nil)
        have z := Post.putted (u := .lst (vs2 ++ [w])) (Post.split q5) o2 e1 (.lst r')
        exact ⟨_, _, _, rfl, rfl, e2, by rw [← r.length]; exact of_decide_eq_true hc, (Sit.put_ok o2 e1 (.lst r')).ret (a := D.non) z _ .non⟩
    · exact False.elim q4
  · exact False.elim q4
theorem RVs.init {S : Sit} : ∀ {ds : List D} {vs : List V}, RVs K S ds vs → RVs K S ds.dropLast vs.dropLast
  | _, _, .nil => .nil
  | _, _, .cons _ .nil => .nil
  | _, _, .cons r (.cons r2 t) => .cons r (RVs.init (.cons r2 t))
theorem d_pop {o : Expr} {fo : Lc → M D} {apos cpos : Pos} (ho : PE X o (TD X.K EP fo))
    (hbase : attributeBase o "pop" X.env (eval o X.env) = eval o X.env := by rfl) (hline : (apos.endLine == cpos.line) = true := by rfl) : PE X (.Call (.Attribute o "pop" apos) [] [] cpos) (TD X.K EP (e1 gPop fo)) := by
  refine PE.by (pe_bm0 PySem.F.plainAttrs_list PySem.F.slot_list_pop PySem.F.type_list_pop mt_pop ho hbase hline) fun σ H Q ⟨S, env, e, ok, re, p⟩ => ?_
  subst e
  refine ⟨S, env, rfl, ok, re, (Post.split p).imp fun x S1 x1 o1 q v rx => ?_⟩
  unfold gPop at q
  split at q
  · cases rx with
    | @ref n hi =>
      obtain ⟨ds, vs, e1, e2, r, q5⟩ := Post.gotL q o1
      obtain ⟨y, y1, q5⟩ := Post.lifted (Post.split q5) o1
      obtain ⟨u, u1, ru⟩ := r.get y1
      rw [r.length] at u1
      have z := Post.putted (u := .lst vs.dropLast) (Post.split q5) o1 e1 (.lst r.init)
      exact ⟨.inl ⟨rfl, _, SqL.of e2⟩, _, _, u, rfl, rfl, e2, u1, (Sit.put_ok o1 e1 (.lst r.init)).ret (a := y) z u (ru.ext (Sit.put_ext o1 e1))⟩
  · exact False.elim q
end
end Mi
set_option Elab.async false
set_option linter.all false
set_option maxRecDepth 100000
set_option maxHeartbeats 4000000
namespace Mi
open PySem PySem.Spec PyProof.Rows L2
/-! ## defs -/
/-- as the layer's FnOk, where nothing is being shown around -/
structure FnG (P : Program) (w : World) (K : PySem.W.Frag) (mg : Str → Option Value) (base : Heap) (CX : CXT) (k : Nat) (f : Addr) (fd : FuncData) (ps : List Str) (sp : Sp) : Prop where
  len : ∀ vs H Q E, sp vs H Q E → vs.length = ps.length
  run : ∀ (A : Around) (outer : List PySem.Env) (s : Shared) (H : Hp) (args : Args) (us : List Value) (vs : List V) (Q : VK) (E : XK), Room k A → A.guards = some [] → Env0 P w K mg base A outer s H →
    BindsTo s fd args (ps.zip us) → Vals vs us → sp vs H Q E → codeAny (model P w) A (.call (.ref f) args) (CR CX outer P w H s Q E) s
section
variable {P : Program} {w : World} {K : PySem.W.Frag} {mg : Str → Option Value} {base : Heap}
theorem FnG.mono {CX : CXT} {j k : Nat} {f : Addr} {fd : FuncData} {ps : List Str} {sp : Sp} (F : FnG P w K mg base CX j f fd ps sp) (h : j ≤ k) : FnG P w K mg base CX k f fd ps sp :=
  ⟨F.len, fun A outer s H args us vs Q E hr => F.run A outer s H args us vs Q E (hr.mono h)⟩
theorem FnG.imp {CX : CXT} {k : Nat} {f : Addr} {fd : FuncData} {ps : List Str} {sp sp' : Sp} (F : FnG P w K mg base CX k f fd ps sp) (h : ∀ vs H Q E, sp' vs H Q E → sp vs H Q E) : FnG P w K mg base CX k f fd ps sp' :=
  ⟨fun vs H Q E q => F.len vs H Q E (h _ _ _ _ q), fun A outer s H args us vs Q E hr hg he hb hv hs => F.run A outer s H args us vs Q E hr hg he hb hv (h _ _ _ _ hs)⟩
/-- a def of the text, by its body -/
theorem Fun.okG {x qual : Str} {st : Stmt} {f : Addr} {fd : FuncData} {N ps : List Str} {k : Nat} {sp : Sp} (F : Fun K x qual st f fd) (S : FnScope N ps (defScope st)) (len : ∀ vs H Q E, sp vs H Q E → vs.length = ps.length)
    (hbody : ∀ (cdv : Value) (A : Around) (outer : List PySem.Env) (s : Shared) (H : Hp) (vs : List V) (Q : VK) (E : XK), Room k (A.deeper (envOfC qual (defScope st) s.heap.objs.size f cdv)) → A.guards = some [] → sp vs H Q E →
      ∃ t, PSs (cxOf (L2.CX P w) P w K mg base N qual (defScope st) f cdv A outer s H E) (defBody st) t ∧ t { nx := fun _ H' => Q .non H', rt := Q } (L2.start N vs) H) : FnG P w K mg base (L2.CX P w) (k + 1) f fd ps sp := by
  obtain ⟨oc, od, kV, doc, pm, an, cdv, ct, osl, rfl, lk, hcd⟩ := F.ex
  refine ⟨len, fun A outer s H args us vs Q E hr hgu e0 hb r hsp => ?_⟩
  have hlen := len _ _ _ _ hsp
  have KX : K.In s.heap := e0.mod.kin.keeps fun b o e => (e0.bs b o e).1
  have lim : s.heap.NoLimit := e0.mod.nolimit.keeps fun b o e => (e0.bs b o e).1
  have hkind : ∀ y ∈ ps.zip us, (defScope st).names.lookup y.1 = some .local ∨ ((defScope st).names.lookup y.1 = some .cell ∧ ((cellsFrom (s.heap.objs.size + 1) (defScope st).names []).lookup y.1).isSome = true) := by
    rintro ⟨nm, vl⟩ hy
    have q := S.par nm (List.of_mem_zip hy).1
    rcases q with q | q
    · exact Or.inl q
    · exact Or.inr ⟨q, PySem.W.cellsFrom_some _ _ _ (Or.inl q)⟩
  refine codeAny_call_function hr.depth (KX _ _ lk) rfl S.co S.gen rfl (PySem.W.codeRec_of KX hcd) (hb _ _ _ _ ?_)
  refine wpAny_newFunctionEnv_cells S.kind hkind fun env he s1 st1 => ?_
  subst he
  refine ⟨lim.keeps st1.toInCall.keep, codeAny_func ?_⟩
  obtain ⟨t, ht, hq⟩ := hbody cdv A outer s H vs Q E (hr.deeper _) hgu hsp
  have I := inv_start (CX := L2.CX P w) (E := E) S hr.hd e0 hlen r st1
  refine wpAny_mono (ht.run [] s1 (L2.start N vs) H _ I hq) (fun fl s' hs => ?_) fun e s' hs => hs
  cases fl with
  | ret u =>
    obtain ⟨v, σ', H', J, rv, q⟩ := hs
    exact (⟨v, H', J.os, J.bare, J.base, J.hok, rv, q⟩ : CE outer P w H s Q u s')
  | next =>
    obtain ⟨σ', H', J, q⟩ := hs
    exact (⟨V.non, H', J.os, J.bare, J.base, J.hok, rfl, q⟩ : CE outer P w H s Q Value.none s')
  | brk => exact hs.elim fun _ z => z.elim fun _ y => y.2.elim
  | cont => exact hs.elim fun _ z => z.elim fun _ y => y.2.elim
end
/-! exceptions: what they bear -/
inductive RFs (K : PySem.W.Frag) (S : Sit) : List (Str × D) → List (Str × V) → Prop
  | nil : RFs K S [] []
  | cons {x : Str} {d : D} {v : V} {ds : List (Str × D)} {vs : List (Str × V)} : RV K S d v → RFs K S ds vs → RFs K S ((x, d) :: ds) ((x, v) :: vs)
def XAt (K : PySem.W.Frag) (S : Sit) (args : List (Str × D)) (d : Option Addr) : Prop := (args = [] ∧ d = none) ∨ (args ≠ [] ∧ ∃ a fs, d = some a ∧ Still S a (.xd fs) ∧ RFs K S args fs)
def EPw (K : PySem.W.Frag) (mg : Str → Option Value) (W : WX) : EPT := fun σ e S => ∃ C, mg e.cls = some (.ref C) ∧ ∀ d, XAt K S e.args d → W (.ref C) d σ S.H
abbrev EPd (K : PySem.W.Frag) (mg : Str → Option Value) (E : XK) : EPT := EPw K mg fun c d _ H => E c d H
/-- a def keeps to its mirror -/
def spD (K : PySem.W.Frag) (mg : Str → Option Value) (n : Nat) (m : List D → M D) : Sp := fun vs H Q E => ∃ S ds, S.H = H ∧ Ok K S ∧ RVs K S ds vs ∧ ds.length = n ∧ Post K (EPd K mg E) S (GV K Q) (m ds S.ah)
def defM (tot : Nat) (g : MS) (ds : List D) : M D := fun ah =>
  match g (ds.map some ++ List.replicate (tot - ds.length) none) ah with
  | .no => .no
  | .ok x ah' => match x.1 with
    | .rt d => .ok d ah'
    | .nx => .ok .non ah'
    | _ => .no
  | .ex e _ ah' => .ex e [] ah'
theorem re_start {K : PySem.W.Frag} {S : Sit} {N : List Str} {ds : List D} {vs : List V} (r : RVs K S ds vs) : RE K S (ds.map some ++ List.replicate (N.length - ds.length) none) (L2.start N vs) := by
  unfold L2.start
  have hl := r.length
  refine ⟨by rw [List.length_append, List.length_append, List.length_map, List.length_map, List.length_replicate, List.length_replicate, hl], fun i d h => ?_⟩
  by_cases hi : i < ds.length
  · rw [List.getElem?_append_left (by rw [List.length_map]; exact hi), List.getElem?_map] at h
    obtain ⟨d', e1, e2⟩ := Option.map_eq_some_iff.mp h
    cases e2
    obtain ⟨v, e3, rv⟩ := r.get e1
    exact ⟨v, by rw [List.getElem?_append_left (by rw [List.length_map, ← hl]; exact hi), List.getElem?_map, e3]; rfl, rv⟩
  · rw [List.getElem?_append_right (by rw [List.length_map]; omega), List.getElem?_replicate] at h
    split at h <;> cases h
section
variable {P : Program} {w : World} {K : PySem.W.Frag} {mg : Str → Option Value} {base : Heap}
/-- a def that lets nothing out -/
def def0 (tot : Nat) (g : MS) (ds : List D) : M D := fun ah =>
  match g (ds.map some ++ List.replicate (tot - ds.length) none) ah with
  | .ok x ah' => match x.1 with
    | .rt d => .ok d ah'
    | .nx => .ok .non ah'
    | _ => .no
  | _ => .no
theorem okD {x qual : Str} {st : Stmt} {f : Addr} {fd : FuncData} {N ps : List Str} {k : Nat} {g : MS} (F : Fun K x qual st f fd) (S : FnScope N ps (defScope st))
    (hbody : ∀ (cdv : Value) (A : Around) (outer : List PySem.Env) (s : Shared) (H : Hp) (E : XK), Room k (A.deeper (envOfC qual (defScope st) s.heap.objs.size f cdv)) → Rm (cxOf (L2.CX P w) P w K mg base N qual (defScope st) f cdv A outer s H E).nox →
      PSs (cxOf (L2.CX P w) P w K mg base N qual (defScope st) f cdv A outer s H E).nox (defBody st) (TF K EP0 g)) : FnG P w K mg base (L2.CX P w) (k + 1) f fd ps (spD K mg ps.length (def0 N.length g)) := by
  refine Fun.okG F S (fun vs H Q E ⟨S, ds, _, _, r, hl, _⟩ => by rw [← r.length]; exact hl) fun cdv A outer s H vs Q E hr hgu ⟨S0, ds, e, ok, r, hl, p⟩ => ?_
  subst e
  refine ⟨_, (hbody cdv A outer s S0.H E hr ⟨hgu, hr.units, rfl, room66 hr⟩).nox, S0, _, rfl, ok, re_start r, ?_⟩
  unfold def0 at p
  revert p
  generalize g (ds.map some ++ List.replicate (N.length - ds.length) none) S0.ah = rr
  intro p
  cases rr with
  | no => exact False.elim p
  | ex e env ah' => exact False.elim p
  | ok y ah' =>
    obtain ⟨fl, env⟩ := y
    intro S' e' o' hq
    cases fl with
    | nx => exact fun σ _ => p S' e' o' hq _ .non
    | bk => exact False.elim p
    | ct => exact False.elim p
    | rt d => exact p S' e' o' hq
theorem okM {x qual : Str} {st : Stmt} {f : Addr} {fd : FuncData} {N ps : List Str} {k n : Nat} {g : MS} {m : List D → M D} (F : Fun K x qual st f fd) (S : FnScope N ps (defScope st)) (hn : n = ps.length) (hm : m = def0 N.length g)
    (hbody : ∀ (cdv : Value) (A : Around) (outer : List PySem.Env) (s : Shared) (H : Hp) (E : XK), Room k (A.deeper (envOfC qual (defScope st) s.heap.objs.size f cdv)) → Rm (cxOf (L2.CX P w) P w K mg base N qual (defScope st) f cdv A outer s H E).nox →
      PSs (cxOf (L2.CX P w) P w K mg base N qual (defScope st) f cdv A outer s H E).nox (defBody st) (TF K EP0 g)) : FnG P w K mg base (L2.CX P w) (k + 1) f fd ps (spD K mg n m) := by
  subst hn hm
  exact okD F S hbody
end
section
variable {X : Cx} {pos : Pos}
theorem run_g {k : Nat} {f : Addr} {fd : FuncData} {ps : List Str} {sp : Sp} {CX : CXT} {E : XK} {pins : List (Addr × Obj)} {σ : St} {H : Hp} {s : Shared} {Q : VK} {us : List Value} {vs : List V} (F : FnG X.prog X.w X.K X.mg X.base CX k f fd ps sp) (hr : Room k X.A) (rm : Rm X)
    (hb : Binds X.K fd ps []) (hx : PassesAt CX X σ E) (I : L2.Inv X pins σ H s) (r : Vals vs us) (h : sp vs H Q E) : wpAny (model X.prog X.w) X.A (call (.ref f) us) (L2.EP X pins σ Q) X.xe s := by
  have hl : us.length = ps.length := r.length.symm.trans (F.len _ _ _ _ h)
  have bd := hb s us I.kIn (by rw [List.append_nil]; exact hl)
  rw [List.append_nil] at bd
  refine wpAny_call (codeAny_mono (F.run X.A X.stack s H ⟨us, []⟩ us vs Q E hr rm.gu I.env0 bd r h) fun res s' hq => ?_)
  cases res with
  | error e => exact hx pins H s e s' I hq
  | ok fl =>
    cases fl with
    | ret u => exact I.after hq
    | next => exact hq.elim
    | brk => exact hq.elim
    | cont => exact hq.elim
def eCall (n : Nat) (m : List D → M D) (fs : Lc → M (List D)) : Lc → M D := fun env => M.andThen (fs env) fun ds => M.when (decide (ds.length = n)) fun ah => match m ds ah with
  | .no => .no
  | .ok d ah' => .ok d ah'
  | .ex e _ ah' => .ex e env ah'
theorem post_call0 {K : PySem.W.Frag} {mg : Str → Option Value} {S : Sit} {G : D → Sit → Prop} {E : XK} {r : R D} {env : Lc} (h : Post K EP0 S G (match r with
  | .no => .no
  | .ok d ah' => .ok d ah'
  | .ex e _ ah' => .ex e env ah')) (re : ∃ σ, RE K S env σ) (ok : Ok K S) : Post K (EPd K mg E) S G r := by
  cases r with
  | no => exact h
  | ok d ah' => exact h
  | ex e env' ah' =>
    intro S' x' o' hq
    obtain ⟨σ, re⟩ := re
    exact (h S' x' o' hq σ (re.ext x')).elim
theorem d_call0 {x : Str} {p : Pos} {k n : Nat} {f : Addr} {fd : FuncData} {ps : List Str} {m : List D → M D} {e : Expr} {es : List Expr} {fs : Lc → M (List D)} (F : FnG X.prog X.w X.K X.mg X.base (L2.CX X.prog X.w) k f fd ps (spD X.K X.mg n m)) (hr : Room k X.A) (rm : Rm X) (hg : Gl X x)
    (hm : X.mg x = some (.ref f)) (hk : PySem.W.keepIn X.K (.ref f) = true) (hb : Binds X.K fd ps []) (ha : PA X (e :: es) (TDs X.K EP0 fs)) (hdb : (x == ("__debug__" : Str)) = false := by decide)
    (he : starEach (e :: es) X.env = (false, eval e X.env) :: starEach es X.env := by rfl) (hpl : (backTo pos (starEach es X.env)).any (·.1) = false := by rfl) : PE X (.Call (.Name x p) (e :: es) [] pos) (TD X.K EP0 (eCall n m fs)) := by
  refine ⟨fun pins s σ H Q I ⟨S, env, e0, ok, re, pp⟩ => ?_⟩
  subst e0
  refine wpAny_Call_Name_kw (ld_glob I hg hm ?_ hdb)
  have hta : TDs X.K EP0 fs σ S.H fun vs H1 => spD X.K X.mg n m vs H1 Q fun _ _ _ => False := ⟨S, env, rfl, ok, re, (Post.split pp).imp fun ds S1 x1 o1 q vs rvs => ?_⟩
  · refine PySem.W.callWith_K (h₀ := X.base) I.ok.mod.kin hk (thn (ha.run pos pins s σ S.H _ I hta) fun us s1 ⟨vs, H1, I1, r, q⟩ => ⟨I1.kIn, ?_⟩) he hpl
    exact run_g F hr rm hb (passAt (takes_none5 (X := X)) σ) I1 r q
  · obtain ⟨hl, q⟩ := Post.whened q
    exact ⟨S1, ds, rfl, o1, rvs, of_decide_eq_true hl, post_call0 q ⟨σ, re.ext x1⟩ o1⟩
end
end Mi
set_option Elab.async false
set_option linter.all false
set_option maxRecDepth 100000
set_option maxHeartbeats 4000000
namespace Mi
open PySem PySem.Spec PyProof.Rows L2
/-! ## the end: the law's own call -/
theorem law_at {P : Program} {w : World} {K : PySem.W.Frag} {mg mb : Str → Option Value} {k : Nat} {fa a : Addr} {fd : FuncData} {x : Str} {sp : Sp} {s₁ : Shared} {vs : List Value} (H : Hp)
    (KX : K.In s₁.heap) (hns : s₁.heap.Ns mainGlobals mg) (hb : s₁.heap.Ns builtinsNs mb) (hbb : ∀ y : Str, y ≠ "__name__" → mb y = bootBuiltins y) (hlim : s₁.heap.NoLimit) (hg : s₁.gens = #[])
    (ha : s₁.heap.get? a = some { cls := .type "list", data := .seq vs.toArray }) (hr : Room k callerA)
    (F : ∀ base : Heap, K.In base → base.Ns mainGlobals mg → FnG P w K mg base (L2.CX P w) k fa fd [x] sp) (hbind : ∀ (s : Shared) (u : Value), BindsTo s fd ⟨[u], []⟩ [(x, u)])
    (hO : Only H) (hsp : sp [.ref a] H (fun v _ => v = .bl true) fun _ _ _ => False)
    (hok : HOk P w H s₁.heap) (hA : ∀ b, H b ≠ none → b = a) (hK : H a ≠ none → K.lookup a = none) :
    codeAny (model P w) callerA (.call (.ref fa) ⟨[.ref a], []⟩) (fun r s' => r = .ok (.ret (.bool true)) ∧ OldK s₁.heap s'.heap ∧ s'.os = s₁.os ∧ AllBare s'.gens) s₁ := by
  have tr : ∀ {b : Addr}, H b ≠ none → b = a := fun {b} q => hA b q
  have free : ∀ {b : Addr} {o : Obj}, s₁.heap.get? b = some o → (b = a → False) → H b = none := fun {b o} _ q => by
    cases z : H b with
    | none => rfl
    | some u => exact (q (tr (by rw [z]; exact fun y => nomatch y))).elim
  have dicts : ∀ {b : Addr} {o : Obj} {es : Array DictEntry} {ep : Nat}, s₁.heap.get? b = some o → o.data = .dict es ep → H b = none := fun {b o es ep} e d => free e fun z => by
    rw [z, ha] at e
    cases e
    exact nomatch d
  have names : ∀ {b : Addr} {m : Str → Option Value}, s₁.heap.Ns b m → (hidT s₁.heap H).Ns b m := fun {b m} ⟨o, es, ep, e, d, r⟩ => ⟨o, es, ep, hidT_get e (dicts e d), d, r⟩
  have hKb : K.In (hidT s₁.heap H) := fun b o e => hidT_get (KX b o e) (by
    cases z : H b with
    | none => rfl
    | some u =>
      have y : H b ≠ none := by rw [z]; exact fun y => nomatch y
      have ba := tr y
      rw [ba] at e y
      rw [hK y] at e
      cases e)
  have hM : Mod K mg (hidT s₁.heap H) := ⟨hKb, names hns, ⟨mb, names hb, hbb⟩, hlim.elim fun mc z => ⟨mc, names z.1, z.2⟩⟩
  have e0 : Env0 P w K mg (hidT s₁.heap H) callerA [] s₁ H := ⟨rfl, hM, fun b o e => of_hidT e, Nat.le_of_eq (hidT_size _ _), trivial, fun b hb => (nomatch (show b ∈ ([] : List Addr) from hb)), hok, .of_eq hg⟩
  have run := (F _ hKb (names hns)).run callerA [] s₁ H ⟨[.ref a], []⟩ [.ref a] [.ref a] _ _ hr rfl e0 (hbind s₁ (.ref a)) (.cons rfl .nil) hsp
  refine codeAny_mono run fun res s' h => ?_
  cases res with
  | error e =>
    obtain ⟨_, _, _, _, _, _, _, _, _, _, _, _, z⟩ := h
    exact z.elim
  | ok fl =>
    cases fl with
    | next => exact h.elim
    | brk => exact h.elim
    | cont => exact h.elim
    | ret u =>
      obtain ⟨v, H', os, bare, un, hok', r', q⟩ := h
      have q' : v = .bl true := q
      rw [q'] at r'
      obtain rfl : u = Value.bool true := r'
      refine ⟨rfl, OldK.of_keep fun b o e => ?_, os, bare⟩
      rcases hO b with z | ⟨ob, xs, z⟩
      · exact un.keep b o e z (fun y => (nomatch (show b ∈ ([] : List Addr) from y))) (fun y => (nomatch y))
      · have e1 := (hok b _ z).1
        rw [e] at e1
        cases e1
        exact (hok' b _ (un.frzs b _ _ z)).1

theorem law_g {P : Program} {w : World} {K : PySem.W.Frag} {mg mb : Str → Option Value} {k : Nat} {fa a : Addr} {fd : FuncData} {x : Str} {sp : Sp} {s₁ : Shared} {vs : List Value} {ns : List Int}
    (KX : K.In s₁.heap) (hns : s₁.heap.Ns mainGlobals mg) (hb : s₁.heap.Ns builtinsNs mb) (hbb : ∀ y : Str, y ≠ "__name__" → mb y = bootBuiltins y) (hlim : s₁.heap.NoLimit) (hg : s₁.gens = #[])
    (ha : s₁.heap.get? a = some { cls := .type "list", data := .seq vs.toArray }) (hi : IntsAre vs ns) (hl : ns.length ≤ sizeLine) (hr : Room k callerA)
    (F : ∀ base : Heap, K.In base → base.Ns mainGlobals mg → FnG P w K mg base (L2.CX P w) k fa fd [x] sp) (hbind : ∀ (s : Shared) (u : Value), BindsTo s fd ⟨[u], []⟩ [(x, u)])
    (hsp : ∀ H : Hp, Only H → SqL K H a (ns.map V.int) → sp [.ref a] H (fun v _ => v = .bl true) fun _ _ _ => False) :
    codeAny (model P w) callerA (.call (.ref fa) ⟨[.ref a], []⟩) (fun r s' => r = .ok (.ret (.bool true)) ∧ OldK s₁.heap s'.heap ∧ s'.os = s₁.os ∧ AllBare s'.gens) s₁ := by
  have rv := vals_ints hi
  have lenV := hi.length
  cases hk : K.lookup a with
  | some o =>
    have e := KX a o hk
    rw [ha] at e
    cases e
    refine law_at (fun _ => none) KX hns hb hbb hlim hg ha hr F hbind (fun _ => .inl rfl) (hsp _ (fun _ => .inl rfl) ?_) (fun b u z => ?_) (fun b z => absurd rfl z) fun z => absurd rfl z
    · exact .inr ⟨_, vs.toArray, _, hk, rfl, rfl, rfl, by rw [List.size_toArray, lenV]; exact hl, by simpa using rv⟩
    · have z' : (none : Option HO) = some u := z
      cases z'
  | none =>
    have hon : Only (fun b => if b = a then some (.frz { cls := .type "list", data := .seq vs.toArray } (.lst (ns.map V.int))) else none) := fun b => by
      by_cases q : b = a
      · exact Or.inr ⟨_, _, if_pos q⟩
      · exact Or.inl (if_neg q)
    refine law_at _ KX hns hb hbb hlim hg ha hr F hbind hon (hsp _ hon (.inl (.inr ⟨_, if_pos rfl⟩))) (fun b u z => ?_) (fun b z => ?_) fun _ => hk
    · by_cases q : b = a
      · have y := (if_pos q).symm.trans z
        cases y
        subst q
        exact ⟨ha, by rw [List.length_map]; exact hl, vs, _, rv, ha⟩
      · have y := (if_neg q).symm.trans z
        cases y
    · by_cases q : b = a
      · exact q
      · exact absurd (if_neg q) z
theorem walk_g {l : PySem.W.OpenLaw} {n k : Nat} {q : Program} {loose : List Str} {XP : (Str → Option Value) → Heap → Prop} {YP : World → Heap → Prop} {d : DefRec} {K : Params → PySem.W.Frag} {x : Str} {m : List D → M D}
    (hn : l.most = some n) (hn2 : n ≤ sizeLine) (hdf : d.params.defaults = []) (hr : Room k callerA)
    (hY : ∀ (w : World) (h : Heap), YP w h → (K w.params).In h)
    (F : ∀ (w : World) (mg : Str → Option Value) (fa : Addr) (h : Heap), (K w.params).In h → h.Ns mainGlobals mg → mg d.name = some (.ref fa) →
      ∃ fd : FuncData, (∀ (s : Shared) (u : Value), BindsTo s fd ⟨[u], []⟩ [(x, u)]) ∧
        ∀ base : Heap, (K w.params).In base → base.Ns mainGlobals mg → FnG l.prog w (K w.params) mg base (L2.CX l.prog w) k fa fd [x] (spD (K w.params) mg 1 m))
    (hm : ∀ ns : List Int, ns.length ≤ n → ∃ ah', m [.fro (ns.map D.int)] [] = .ok (.bl true) ah') :
    PySem.W.WalkO q loose XP YP l.row.toRowW d [] (fun f vs => PySem.call f vs) := by
  refine Att.attach_call hn hdf fun w s₀ s₁ mg mb fa o pm cd doc a vs ns G Y ho hd hcd hmg hobj hints hlen hg => ?_
  obtain ⟨fd, bd, hF⟩ := F w mg fa _ (hY w _ Y) G.T.g hmg
  refine law_g (hY w _ Y) G.T.g G.T.b G.T.builtins G.T.nolimit hg hobj hints (Nat.le_trans hlen hn2) hr hF bd fun H hO hS => ?_
  obtain ⟨ah', e⟩ := hm ns hlen
  let S : Sit := ⟨fun _ => 0, [], H, []⟩
  have nol : ∀ b, ¬ Liv S b := fun b z => by
    rcases z with ⟨i, o, h, _⟩ | z
    · have h' : ([] : AH)[i]? = some (some o) := h
      rw [List.getElem?_nil] at h'
      cases h'
    · exact nomatch (show b ∈ ([] : List Addr) from z)
  have rints : ∀ ns : List Int, RVs (K w.params) S (ns.map D.int) (ns.map V.int) := fun ns => by
    induction ns with
    | nil => exact .nil
    | cons i r ih => exact .cons (.int i) ih
  refine ⟨S, [.fro (ns.map D.int)], rfl, ⟨fun i o h => ?_, fun i j o o' h => ?_, fun b z => (nomatch (show b ∈ ([] : List Addr) from z)), fun i o h => ?_, fun P ps h => ?_⟩, .cons (.fro ?_ (rints ns)) .nil, rfl, ?_⟩
  · have h' : ([] : AH)[i]? = some (some o) := h
    rw [List.getElem?_nil] at h'
    cases h'
  · have h' : ([] : AH)[i]? = some (some o) := h
    rw [List.getElem?_nil] at h'
    cases h'
  · have h' : ([] : AH)[i]? = some (some o) := h
    rw [List.getElem?_nil] at h'
    cases h'
  · rcases hO P with z | ⟨_, _, z⟩
    · exact nomatch z.symm.trans h
    · exact nomatch z.symm.trans h
  · rcases hS with (h | ⟨o, h⟩) | h
    · rcases hO a with z | ⟨o, xs, z⟩
      · rw [h] at z; cases z
      · rw [h] at z; cases z
    · exact .inl ⟨o, h, nol a, by intro ps h; cases h⟩
    · exact .inr h
  · rw [show m [.fro (ns.map D.int)] S.ah = .ok (.bl true) ah' from e]
    exact fun S' _ _ _ v r => by cases r; rfl
end Mi
set_option Elab.async false
set_option linter.all false
set_option maxRecDepth 100000
set_option maxHeartbeats 4000000
namespace Mi
open PySem PySem.Spec PyProof.Rows L2
def FU : Nat := 2 ^ 20000
section
variable {X : Cx} {EP : EPT} {K : PySem.W.Frag} {pos : Pos}
theorem Rm.blk (r : Rm X) {s : Shared} {H : Hp} {scope : Scope} {ce : PySem.Env} {fp : List Addr} : Rm (X.blk s H scope ce fp) := ⟨r.gu, r.un, r.cm, r.u5⟩
def gRev : D → M D
  | .lst xs => M.ret (.lst xs.reverse)
  | .fro xs => M.ret (.lst xs.reverse)
  | _ => M.no
def gRevN : D → M D
  | .lst xs => newO (.lst xs.reverse)
  | .fro xs => newO (.lst xs.reverse)
  | _ => M.no
def rRevL (K : PySem.W.Frag) : V → Hp → VK → Prop := fun x H1 Q => ∃ a xs, x = .ref a ∧ SqL K H1 a xs ∧ ∀ p, H1 p = none → Q (.ref p) (upd H1 p (.lst xs.reverse))
theorem g_rev : Good1 K EP (rRevL K) gRev := by
  intro S x v Q ok rx p
  unfold gRev at p
  split at p
  · cases rx with
    | lst h r => exact ⟨_, _, rfl, SqL.of h.1, new_lst ok r.reverse p⟩
  · cases rx with
    | fro h r => exact ⟨_, _, rfl, h.seq, new_lst ok r.reverse p⟩
  · exact False.elim p
theorem g_revN : Good1 K EP (rRevL K) gRevN := by
  intro S x v Q ok rx p
  unfold gRevN at p
  split at p
  · cases rx with
    | lst h r => exact ⟨_, _, rfl, SqL.of h.1, new_lstN ok r.reverse p⟩
  · cases rx with
    | fro h r => exact ⟨_, _, rfl, h.seq, new_lstN ok r.reverse p⟩
  · exact False.elim p
theorem d_rev {e : Expr} {f : Lc → M D} {k : Nat} {p1 p2 p3 : Pos} (he : PE X e (TD X.K EP f)) : PE X (.Subscript e (.Slice none none (some (.UnaryOp .USub (.Constant (.int 1) k p1) p2)) p3) pos) (TD X.K EP (e1 gRev f)) :=
  PE.by (pe_revL he) fun _ _ _ h => run1 (r := rRevL X.K) g_rev h
theorem d_revN {e : Expr} {f : Lc → M D} {k : Nat} {p1 p2 p3 : Pos} (he : PE X e (TD X.K EP f)) : PE X (.Subscript e (.Slice none none (some (.UnaryOp .USub (.Constant (.int 1) k p1) p2)) p3) pos) (TD X.K EP (e1 gRevN f)) :=
  PE.by (pe_revL he) fun _ _ _ h => run1 (r := rRevL X.K) g_revN h
/-! a < b < c -/
def eCh (g g' : D → D → M D) (fa fb fc : Lc → M D) : Lc → M D := fun env => M.andThen (fa env) fun x => M.andThen (fb env) fun y => M.andThen (g x y) fun z => match z with
  | .bl k => if k = true then M.andThen (fc env) fun w => g' y w else M.ret (.bl false)
  | _ => M.no
theorem d_chain {op op' : CmpOp} {r r' : R2} {g g' : D → D → M D} {a b c : Expr} {fa fb fc : Lc → M D} (ho : OpR X (compareOp op) r) (hg : Good2 X.K EP r g) (ho' : OpR X (compareOp op') r') (hg' : Good2 X.K EP r' g') (ha : PE X a (TD X.K EP fa)) (hb : PE X b (TD X.K EP fb)) (hc : PE X c (TD X.K EP fc))
    (hm : lastMarks [op, op'] [b, c] = false := by with_unfolding_all rfl) : PE X (.Compare a [op, op'] [b, c] pos) (TD X.K EP (eCh g g' fa fb fc)) := by
  refine PE.by (pe_chain ho ho' ha hb hc hm) fun σ H Q ⟨S, env, e, ok, re, p⟩ => ?_
  subst e
  refine ⟨S, env, rfl, ok, re, (Post.split p).imp fun x S1 x1 o1 q1 v rv => ⟨S1, env, rfl, o1, re.ext x1, (Post.split q1).imp fun y S2 x2 o2 q2 w rw => ?_⟩⟩
  refine hg S2 x y v w _ o2 (rv.ext x2) rw ((Post.split q2).imp fun z S3 x3 o3 q3 u ru => ?_)
  split at q3
  · cases ru
    rename_i k
    refine ⟨k, rfl, ?_⟩
    cases k with
    | true => exact ⟨S3, env, rfl, o3, ((re.ext x1).ext x2).ext x3, (Post.split q3).imp fun t S4 x4 o4 q4 t' rt => hg' S4 y t w t' _ o4 ((rw.ext x3).ext x4) rt q4⟩
    | false => exact o3.ret (a := D.bl false) q3 _ (.bl false)
  · exact False.elim q3
/-! x in xs, of flat things -/
def D.atom : D → Bool
  | .non => true
  | .bl _ => true
  | .int _ => true
  | .str _ => true
  | _ => false
def D.toV : D → V
  | .non => .non
  | .bl b => .bl b
  | .int i => .int i
  | .str x => .str x
  | _ => .non
theorem RV.atom {S : Sit} {d : D} {v : V} (r : RV K S d v) (h : d.atom = true) : v = d.toV ∧ flatV v = true := by
  cases r with
  | non => exact ⟨rfl, rfl⟩
  | bl b => exact ⟨rfl, rfl⟩
  | int b => exact ⟨rfl, rfl⟩
  | str b => exact ⟨rfl, rfl⟩
  | tup _ _ => cases h
  | lst _ _ => cases h
  | fro _ _ => cases h
  | emp _ => cases h
  | ref _ => cases h
  | oth => cases h
theorem RVs.atoms {S : Sit} : ∀ {ds : List D} {vs : List V}, RVs K S ds vs → ds.all D.atom = true → vs = ds.map D.toV ∧ vs.all flatV = true
  | _, _, .nil, _ => ⟨rfl, rfl⟩
  | _, _, .cons r t, h => by
    rw [List.all_cons, Bool.and_eq_true_iff] at h
    obtain ⟨e1, f1⟩ := r.atom h.1
    obtain ⟨e2, f2⟩ := RVs.atoms t h.2
    exact ⟨by rw [List.map_cons, ← e1, ← e2], by rw [List.all_cons, f1, f2]; rfl⟩
def itemsOf : D → Option (List D)
  | .lst xs => some xs
  | .fro xs => some xs
  | .tup xs => some xs
  | _ => none
def gInB (neg : Bool) (x y : D) : M D := M.andThen (M.lift (itemsOf y)) fun ys => M.when (x.atom && ys.all D.atom) (M.ret (.bl (if neg = true then !inV x.toV (ys.map D.toV) else inV x.toV (ys.map D.toV))))
def gIn := gInB false
def gNotIn := gInB true
theorem g_inB (neg : Bool) : Good2 K EP (rIn K neg) (gInB neg) := by
  intro S x y v w Q ok rx ry p
  obtain ⟨ys, e, p⟩ := Post.lifted (Post.split p) ok
  obtain ⟨c, p⟩ := Post.whened p
  have c' := Bool.and_eq_true_iff.mp c
  obtain ⟨ex, fx⟩ := rx.atom c'.1
  have q := ok.ret p _ (.bl _)
  rw [← ex] at q
  cases ry with
  | lst h r => cases e; obtain ⟨e2, f2⟩ := r.atoms c'.2; rw [← e2] at q; exact ⟨_, _, rfl, .inl (SqL.of h.1), fx, f2, q⟩
  | fro h r => cases e; obtain ⟨e2, f2⟩ := r.atoms c'.2; rw [← e2] at q; exact ⟨_, _, rfl, .inl h.seq, fx, f2, q⟩
  | tup h r => cases e; obtain ⟨e2, f2⟩ := r.atoms c'.2; rw [← e2] at q; exact ⟨_, _, rfl, .inr h.seq, fx, f2, q⟩
  | non => cases e
  | bl _ => cases e
  | int _ => cases e
  | str _ => cases e
  | emp _ => cases e
  | ref _ => cases e
  | oth => cases e
theorem g_in : Good2 K EP (rIn K false) gIn := g_inB false
theorem g_notIn : Good2 K EP (rIn K true) gNotIn := g_inB true
/-! k in d -/
def g_din (y x : D) : M D := match x with
  | .ref n => M.andThen (getO n) fun o => M.andThen (M.lift (getK o)) fun kds => M.andThen (M.lift (toKey y)) fun k => M.ret (.bl (lookD kds k).isSome)
  | _ => M.no
def g_dnotin (y x : D) : M D := match x with
  | .ref n => M.andThen (getO n) fun o => M.andThen (M.lift (getK o)) fun kds => M.andThen (M.lift (toKey y)) fun k => M.ret (.bl (!(lookD kds k).isSome))
  | _ => M.no
theorem look_some {S : Sit} {kds : List (Key × D)} {kvs : List (Key × V)} {k : Key} (r : RKs K S kds kvs) : (valV kvs k).isSome = (lookD kds k).isSome := by
  cases h : lookD kds k with
  | none => rw [r.none_of h]; rfl
  | some d =>
    obtain ⟨v, e, _⟩ := r.look h
    rw [e]; rfl
theorem good_din : Good2 K EP (fun y x H Q => ∃ a o, x = V.ref a ∧ DGet H a y o ∧ Q (.bl o.isSome) H) g_din := by
  intro S y x w v Q ok ry rx p
  unfold g_din at p
  split at p
  · cases rx with
    | ref hi =>
      obtain ⟨kds, kvs, e1, e2, r, p⟩ := Post.gotK p ok
      obtain ⟨k, k1, g⟩ := Post.lifted (Post.split p) ok
      have q := ok.ret g _ (.bl _)
      rw [← look_some r] at q
      exact ⟨_, _, rfl, .inl ⟨kvs, k, .inl e2, toKey_rv ry k1, rfl⟩, q⟩
  · exact False.elim p
theorem good_dnotin : Good2 K EP (fun y x H Q => ∃ a o, x = V.ref a ∧ DGet H a y o ∧ Q (.bl (!o.isSome)) H) g_dnotin := by
  intro S y x w v Q ok ry rx p
  unfold g_dnotin at p
  split at p
  · cases rx with
    | ref hi =>
      obtain ⟨kds, kvs, e1, e2, r, p⟩ := Post.gotK p ok
      obtain ⟨k, k1, g⟩ := Post.lifted (Post.split p) ok
      have q := ok.ret g _ (.bl _)
      rw [← look_some r] at q
      exact ⟨_, _, rfl, .inl ⟨kvs, k, .inl e2, toKey_rv ry k1, rfl⟩, q⟩
  · exact False.elim p
theorem d_din {i o : Expr} {fi fo : Lc → M D} (rm : Rm X) (hi : PE X i (TD X.K EP fi)) (ho : PE X o (TD X.K EP fo)) (hm : behindInMarks .In o = false := by rfl) : PE X (.Compare i [.In] [o] pos) (TD X.K EP (e2 g_din fi fo)) :=
  PE.by (pe_cmp (pc_din (by have := rm.un; omega) hi ho) hm) fun _ _ _ h => run2 (r := fun y x H Q => ∃ a o, x = V.ref a ∧ DGet H a y o ∧ Q (.bl o.isSome) H) good_din h
theorem d_dnotin {i o : Expr} {fi fo : Lc → M D} (rm : Rm X) (hi : PE X i (TD X.K EP fi)) (ho : PE X o (TD X.K EP fo)) (hm : behindInMarks .NotIn o = false := by rfl) : PE X (.Compare i [.NotIn] [o] pos) (TD X.K EP (e2 g_dnotin fi fo)) :=
  PE.by (pe_cmp (pc_dnotin (by have := rm.un; omega) hi ho) hm) fun _ _ _ h => run2 (r := fun y x H Q => ∃ a o, x = V.ref a ∧ DGet H a y o ∧ Q (.bl (!o.isSome)) H) good_dnotin h
end
/-! ## what the top leaves -/
structure DefAt (K : PySem.W.Frag) (mg : Str → Option Value) (x : Str) (st : Stmt) (ps : List Str) : Type where
  f : Addr
  fd : FuncData
  fn : Fun K x x st f fd
  ix : mg x = some (.ref f)
  bd : Binds K fd ps []
def defAt {K : PySem.W.Frag} {h : Heap} {mg : Str → Option Value} (X : K.In h) (G : h.Ns mainGlobals mg) {x : Str} {st : Stmt} {f : Addr} {oc : Value} {od an : Option Addr} {osl : Array (Option Value)} {kV doc pm cdv ct : Value} (ps : List Str)
    (a : PySem.W.nsIn K mainGlobals x = some (some (.ref f))) (l : K.lookup f = some ⟨oc, od, .func (PySem.W.fnOf x x (defArgs st) (defBody st) (defScope st) .none kV doc pm an cdv ct), osl⟩)
    (c : PySem.W.codeIn K cdv x = true) (k : PySem.W.keepIn K (.ref f) = true)
    (hb : ∀ (kV doc pm : Value) (an : Option Addr) (cdv ct : Value) (us : List Value), us.length = ps.length → bindArgs (PySem.W.fnOf x x (defArgs st) (defBody st) (defScope st) .none kV doc pm an cdv ct) ⟨us, []⟩ = pure (ps.zip us)) : DefAt K mg x st ps :=
  ⟨f, _, fun_mk l c k, PySem.W.mg_of X G a, (fun_mk l c k).binds hb⟩
end Mi
set_option Elab.async false
set_option linter.all false
set_option maxRecDepth 100000
set_option maxHeartbeats 4000000
namespace Mi
open PySem PySem.Spec PyProof.Rows L2
/-! ## exceptions of own classes, without what they bear -/
section
variable {X : Cx} {pos : Pos}
theorem pmk_own0 {C : Addr} {bmB : List Value} {B newId initId : String} {x : Str} {p : Pos} (F : ExcBaseFacts B newId initId bmB) (q : PySem.W.excIn X.K C bmB newId = true) (gC : X.mg x = some (.ref C)) (kC : PySem.W.keepIn X.K (.ref C) = true) (r : Raises X (.ref C)) (hg : Gl X x)
    (hdb : (x == ("__debug__" : Str)) = false := by decide) : PMk X (.Call (.Name x p) [] [] pos) (fun _ H Q => Q (.ref C) none H) := by
  intro pins s σ H Q I h
  refine wpAny_Call_Name_kw (ld_glob I hg gC ?_ hdb)
  refine PySem.W.callWith_K0 I.kIn kC ?_
  show wpAny _ _ (call (.ref C) []) _ _ _
  obtain ⟨bm, N, nm, qn, bs, hdct, sn, sub, ab, col, dd, k0, k1, k2, k3, k5, mN, hC, hN, hni, T⟩ := exc_obj I.kIn q
  refine wpAny_call_exc_subT F T hC hN hni (fun h' e hm => ?_) (Nat.zero_le _)
  exact mk_of I hm r h (I.hok.gone hm.new)
/-- an own exception class of the module -/
structure ExAt (K : PySem.W.Frag) (mg : Str → Option Value) (x : Str) : Type where
  C : Addr
  B : String
  nw : String
  ini : String
  bm : List Value
  F : ExcBaseFacts B nw ini bm
  q : PySem.W.excIn K C bm nw = true
  ix : mg x = some (.ref C)
  kp : PySem.W.keepIn K (.ref C) = true
  sb : PySem.W.subIn K (.ref C) (.type "BaseException") = some true
  ty : PySem.W.typeIn K (.ref C) = some (.type "type")
theorem exm_mk {K : PySem.W.Frag} {D C : Addr} {b : Bool} (i : PySem.W.isClsIn K C = true) (hb : PySem.W.subIn K (.ref C) (.type "BaseException") = some true) (ht : PySem.W.typeIn K (.ref C) = some (.type "type")) (hs : PySem.W.subIn K (.ref D) (.ref C) = some b) : PySem.W.exmOne K (.ref D) (.ref C) = some b := by
  have i' : (PySem.W.clsIn K C).isSome = true := i
  unfold PySem.W.exmOne
  rw [hb, if_pos (by rfl)]
  show (if ((PySem.W.clsIn K C).isSome && PySem.W.typeIn K (.ref C) == some (.type "type")) = true then PySem.W.subIn K (.ref D) (.ref C) else none) = some b
  rw [i', ht, if_pos (by rfl)]
  exact hs
/-- a constant of the module -/
structure CoAt (K : PySem.W.Frag) (mg : Str → Option Value) (x : Str) (d : D) : Type where
  v : V
  u : Value
  ix : mg x = some u
  rel : RelV v u
  rv : ∀ S : Sit, RV K S d v
theorem d_const {EP : EPT} {x : Str} {p : Pos} {d : D} (hg : Gl X x) (T : CoAt X.K X.mg x d) (hdb : (x == ("__debug__" : Str)) = false := by decide) : PE X (.Name x p) (TD X.K EP (eC d)) := by
  refine PE.by (pe_glob hg T.ix T.rel hdb) fun σ H Q ⟨S, env, e, ok, re, q⟩ => ?_
  subst e
  exact ok.ret q _ (T.rv S)
def co_int {K : PySem.W.Frag} {mg : Str → Option Value} {x : Str} {i : Int} {t : Tok} (h : mg x = some (.int i t)) : CoAt K mg x (.int i) := ⟨.int i, _, h, ⟨t, rfl⟩, fun _ => .int i⟩
/-- ints as objects -/
inductive IntVs : List Int → List Value → Prop
  | nil : IntVs [] []
  | cons (i : Int) (t : Tok) {is : List Int} {us : List Value} : IntVs is us → IntVs (i :: is) (.int i t :: us)
theorem IntVs.vals : ∀ {is : List Int} {us : List Value}, IntVs is us → Vals (is.map V.int) us
  | _, _, .nil => .nil
  | _, _, .cons i t h => .cons ⟨t, rfl⟩ h.vals
theorem rvs_ints {K : PySem.W.Frag} {S : Sit} : ∀ is : List Int, RVs K S (is.map D.int) (is.map V.int)
  | [] => .nil
  | i :: is => .cons (.int i) (rvs_ints is)
def co_tup {K : PySem.W.Frag} {mg : Str → Option Value} {x : Str} {is : List Int} {a : Addr} {dd : Option Addr} {its : Array Value} {n : Nat} {sl : Array (Option Value)} (h : mg x = some (.ref a)) (l : K.lookup a = some ⟨.type "tuple", dd, .seq its n, sl⟩) (hz : its.size ≤ 1000) (hi : IntVs is its.toList) : CoAt K mg x (.tup (is.map D.int)) :=
  ⟨.ref a, _, h, rfl, fun S => .tup (.inr ⟨_, its, n, l, rfl, rfl, (by rw [sizeLine_eq]; omega), hi.vals⟩) (rvs_ints is)⟩
def sRaise (x : Str) : MS := fun env ah => .ex ⟨x, []⟩ env ah
theorem s_raise {W : WX} {x : Str} {p pos' : Pos} (rm : Rm X) (tk : Takes X W) (T : ExAt X.K X.mg x) (hg : Gl X x) (hdb : (x == ("__debug__" : Str)) = false := by decide) : PS X (.Raise (some (.Call (.Name x p) [] [] pos')) none pos) (TF X.K (EPw X.K X.mg W) (sRaise x)) := by
  refine PS.by (ps_raise rm.cm tk (pmk_own0 T.F T.q T.ix T.kp (raises_own T.sb T.ty) hg hdb)) fun σ H Dn ⟨S, env, e, ok, re, p⟩ => ?_
  subst e
  obtain ⟨C, e1, e2⟩ := p S (Ext.refl S) ok rfl σ re
  have e3 : some (Value.ref C) = some (.ref T.C) := e1.symm.trans T.ix
  cases e3
  exact e2 none (.inl ⟨rfl, rfl⟩)
/-- except x: suite -/
def sTry (sub : Str → Option Bool) (g gs : MS) : MS := fun env ah => match g env ah with
  | .no => .no
  | .ok a ah' => .ok a ah'
  | .ex e env' ah' => match sub e.cls with
    | none => .no
    | some true => hush (gs env') ah'
    | some false => .ex e env' ah'
theorem s_try {W : WX} {x : Str} {C : Addr} {np pos' : Pos} {body suite : List Stmt} {b₀ : Stmt} {sub : Str → Option Bool} {g gs : MS} (hs : X.stack = X.env :: X.outer) (hf : X.env.frame = some X.env.locals) (hc : Names X x (.ref C)) (tk : Takes X W)
    (hsub : ∀ y b, sub y = some b → ∃ D, X.mg y = some (.ref D) ∧ PySem.W.exmOne X.K (.ref D) (.ref C) = some b)
    (hb : ∀ (W' : WX) (pn : List (Addr × Obj)) (xe : Value → Shared → Prop), Takes (X.tr pn xe) W' → PassesOwn (model X.prog X.w) X.A X.env xe → PSs (X.tr pn xe) body (TF X.K (EPw X.K X.mg W') g))
    (hsu : ∀ (a : Addr) (pn : List (Addr × Obj)), PSs (X.suite a pn) (b₀ :: suite) (TF X.K EP0 gs)) :
    PS X (.Try body [.ExceptHandler (some (.Name x np)) none (b₀ :: suite) pos'] [] [] pos) (TF X.K (EPw X.K X.mg W) (sTry sub g gs)) := by
  refine PS.by (ps_try_only (tb := fun W' => TF X.K (EPw X.K X.mg W') g) (ts := fun _ _ _ => TF X.K EP0 gs) (Wout := W) hs hf hc tk hb (fun a oe cls d pn _ _ => hsu a _)) fun σ H Dn ⟨S, env, e, ok, re, p⟩ => ?_
  subst e
  refine ⟨S, env, rfl, ok, re, ?_⟩
  unfold sTry at p
  revert p
  generalize g env S.ah = r
  intro p
  cases r with
  | no => exact False.elim p
  | ok a ah' => exact p
  | ex e env' ah' =>
    intro S' x' o' hq σ' re'
    revert p
    show Post _ _ _ _ (match sub e.cls with
      | none => .no
      | some true => hush (gs env') ah'
      | some false => .ex e env' ah') → _
    cases hse : sub e.cls with
    | none => intro p; exact False.elim p
    | some b =>
      obtain ⟨D, hD, hex⟩ := hsub _ _ hse
      cases b with
      | true =>
        intro p
        refine ⟨D, hD, fun d _ => ⟨true, hex, fun _ a na => ⟨S', env', rfl, o', re', ?_⟩, fun z => nomatch z⟩⟩
        have p' := p.later x'
        rw [← hq] at p'
        exact Post.hushed p'
      | false =>
        intro p
        obtain ⟨D', hD', hw⟩ := p S' x' o' hq σ' re'
        exact ⟨D', hD', fun d hd => ⟨false, (by rw [hD] at hD'; cases hD'; exact hex), (fun z => nomatch z), fun _ => hw d hd⟩⟩
theorem Post.up {K : PySem.W.Frag} {EP : EPT} {S : Sit} {α : Type} {G : α → Sit → Prop} {r : R α} (h : Post K EP0 S G r) : Post K EP S G r := by
  cases r with
  | no => exact h
  | ok a ah' => exact h
  | ex e env' ah' => exact fun S' x' o' hq σ' re' => (h S' x' o' hq σ' re').elim
theorem s_try0 {x : Str} {C : Addr} {np pos' : Pos} {body suite : List Stmt} {b₀ : Stmt} {sub : Str → Option Bool} {g gs : MS} (hs : X.stack = X.env :: X.outer) (hf : X.env.frame = some X.env.locals) (hc : Names X x (.ref C))
    (hsub : ∀ y b, sub y = some b → ∃ D, X.mg y = some (.ref D) ∧ PySem.W.exmOne X.K (.ref D) (.ref C) = some b)
    (hb : ∀ (W' : WX) (pn : List (Addr × Obj)) (xe : Value → Shared → Prop), Takes (X.tr pn xe) W' → PassesOwn (model X.prog X.w) X.A X.env xe → PSs (X.tr pn xe) body (TF X.K (EPw X.K X.mg W') g))
    (hsu : ∀ (a : Addr) (pn : List (Addr × Obj)), PSs (X.suite a pn) (b₀ :: suite) (TF X.K EP0 gs)) :
    PS X (.Try body [.ExceptHandler (some (.Name x np)) none (b₀ :: suite) pos'] [] [] pos) (TF X.K EP0 (sTry sub g gs)) :=
  PS.by (s_try hs hf hc takes_none5 hsub hb hsu) fun _ _ _ ⟨S, env, e, ok, re, p⟩ => ⟨S, env, e, ok, re, p.up⟩
theorem Rm.tr (rm : Rm X) (pn : List (Addr × Obj)) (xe : Value → Shared → Prop) : Rm (X.tr pn xe) := ⟨rm.gu, rm.un, rm.cm, rm.u5⟩
/-- a call of what may let something out -/
theorem post_callX {K : PySem.W.Frag} {mg : Str → Option Value} {S : Sit} {G : D → Sit → Prop} {W : WX} {σ : St} {r : R D} {env : Lc} (h : Post K (EPw K mg W) S G (match r with
  | .no => .no
  | .ok d ah' => .ok d ah'
  | .ex e _ ah' => .ex e env ah')) (re : RE K S env σ) : Post K (EPd K mg (WE W σ)) S G r := by
  cases r with
  | no => exact h
  | ok d ah' => exact h
  | ex e env' ah' =>
    intro S' x' o' hq σ' _
    obtain ⟨C, e1, e2⟩ := h S' x' o' hq σ (re.ext x')
    exact ⟨C, e1, fun d hd => e2 d hd⟩
theorem d_callX {W : WX} {x : Str} {p : Pos} {k n : Nat} {f : Addr} {fd : FuncData} {ps : List Str} {m : List D → M D} {e : Expr} {es : List Expr} {fs : Lc → M (List D)} (tk : Takes X W) (F : FnG X.prog X.w X.K X.mg X.base (L2.CX X.prog X.w) k f fd ps (spD X.K X.mg n m)) (hr : Room k X.A) (rm : Rm X) (hg : Gl X x)
    (hm : X.mg x = some (.ref f)) (hk : PySem.W.keepIn X.K (.ref f) = true) (hb : Binds X.K fd ps []) (ha : PA X (e :: es) (TDs X.K (EPw X.K X.mg W) fs)) (hdb : (x == ("__debug__" : Str)) = false := by decide)
    (he : starEach (e :: es) X.env = (false, eval e X.env) :: starEach es X.env := by rfl) (hpl : (backTo pos (starEach es X.env)).any (·.1) = false := by rfl) : PE X (.Call (.Name x p) (e :: es) [] pos) (TD X.K (EPw X.K X.mg W) (eCall n m fs)) := by
  refine ⟨fun pins s σ H Q I ⟨S, env, e0, ok, re, pp⟩ => ?_⟩
  subst e0
  refine wpAny_Call_Name_kw (ld_glob I hg hm ?_ hdb)
  have hta : TDs X.K (EPw X.K X.mg W) fs σ S.H fun vs H1 => spD X.K X.mg n m vs H1 Q (WE W σ) := ⟨S, env, rfl, ok, re, (Post.split pp).imp fun ds S1 x1 o1 q vs rvs => ?_⟩
  · refine PySem.W.callWith_K (h₀ := X.base) I.ok.mod.kin hk (thn (ha.run pos pins s σ S.H _ I hta) fun us s1 ⟨vs, H1, I1, r, q⟩ => ⟨I1.kIn, ?_⟩) he hpl
    exact run_g F hr rm hb (passAt tk σ) I1 r q
  · obtain ⟨hl, q⟩ := Post.whened q
    exact ⟨S1, ds, rfl, o1, rvs, of_decide_eq_true hl, post_callX q (re.ext x1)⟩
end
section
variable {P : Program} {w : World} {K : PySem.W.Frag} {mg : Str → Option Value} {base : Heap}
/-- a def that may let something out -/
theorem okX {x qual : Str} {st : Stmt} {f : Addr} {fd : FuncData} {N ps : List Str} {k n : Nat} {g : MS} {m : List D → M D} (F : Fun K x qual st f fd) (S : FnScope N ps (defScope st)) (hn : n = ps.length) (hm : m = defM N.length g)
    (hbody : ∀ (cdv : Value) (A : Around) (outer : List PySem.Env) (s : Shared) (H : Hp) (E : XK), Room k (A.deeper (envOfC qual (defScope st) s.heap.objs.size f cdv)) → Rm (cxOf (L2.CX P w) P w K mg base N qual (defScope st) f cdv A outer s H E) →
      Takes (cxOf (L2.CX P w) P w K mg base N qual (defScope st) f cdv A outer s H E) (fun c d _ H => E c d H) →
      PassesOwn (model P w) (cxOf (L2.CX P w) P w K mg base N qual (defScope st) f cdv A outer s H E).A (cxOf (L2.CX P w) P w K mg base N qual (defScope st) f cdv A outer s H E).env (cxOf (L2.CX P w) P w K mg base N qual (defScope st) f cdv A outer s H E).xe →
      PSs (cxOf (L2.CX P w) P w K mg base N qual (defScope st) f cdv A outer s H E) (defBody st) (TF K (EPd K mg E) g)) : FnG P w K mg base (L2.CX P w) (k + 1) f fd ps (spD K mg n m) := by
  subst hn hm
  refine Fun.okG F S (fun vs H Q E ⟨S, ds, _, _, r, hl, _⟩ => by rw [← r.length]; exact hl) fun cdv A outer s H vs Q E hr hgu ⟨S0, ds, e, ok, r, hl, p⟩ => ?_
  subst e
  refine ⟨_, hbody cdv A outer s S0.H E hr ⟨hgu, hr.units, rfl, room66 hr⟩ (takes_of rfl rfl rfl rfl) (passes_of rfl), S0, _, rfl, ok, re_start r, ?_⟩
  unfold defM at p
  revert p
  generalize g (ds.map some ++ List.replicate (N.length - ds.length) none) S0.ah = rr
  intro p
  cases rr with
  | no => exact False.elim p
  | ex e env ah' =>
    intro S' e' o' hq σ re
    exact p S' e' o' hq [] ⟨rfl, fun i d h => by cases i <;> exact nomatch h⟩
  | ok y ah' =>
    obtain ⟨fl, env⟩ := y
    intro S' e' o' hq
    cases fl with
    | nx => exact fun σ _ => p S' e' o' hq _ .non
    | bk => exact False.elim p
    | ct => exact False.elim p
    | rt d => exact p S' e' o' hq
end
end Mi
set_option Elab.async false
set_option linter.all false
set_option maxRecDepth 100000
set_option maxHeartbeats 4000000
namespace Mi
open PySem PySem.Spec PyProof.Rows L2
section
variable {X : Cx} {EP : EPT} {pos : Pos} {a b : Expr} {fa fb : Lc → M D}
/-! ## walked from the end -/
/-- hi - 1, hi - 2, .. so many -/
def rngD (hi : Int) : Nat → List D
  | 0 => []
  | n + 1 => .int (hi - 1) :: rngD (hi - 1) n
theorem rngD_length : ∀ (n : Nat) (hi : Int), (rngD hi n).length = n
  | 0, _ => rfl
  | n + 1, hi => congrArg (· + 1) (rngD_length n (hi - 1))
theorem rngD_get : ∀ (n i : Nat) (hi : Int), i < n → (rngD hi n)[i]? = some (.int (hi - 1 + (i : Nat) * (-1)))
  | n + 1, 0, hi, _ => by
    show some (D.int (hi - 1)) = some (.int (hi - 1 + ((0 : Nat) : Int) * (-1)))
    rw [show hi - 1 + ((0 : Nat) : Int) * (-1) = hi - 1 by omega]
  | n + 1, i + 1, hi, h => by
    show (rngD (hi - 1) n)[i]? = _
    rw [rngD_get n i (hi - 1) (by omega), show hi - 1 - 1 + ((i : Nat) : Int) * (-1) = hi - 1 + ((i + 1 : Nat) : Int) * (-1) by omega]
theorem serves_rngD {K : PySem.W.Frag} {S : Sit} (hi : Int) (n : Nat) : Serves K (Itc (hi - 1) (-1) n) S (rngD hi n) := by
  refine ⟨fun S' i x h => ?_, fun S' x => ?_, fun S' i y H' x o hy d hd => ?_⟩
  · rw [rngD_length] at h; exact h
  · show n ≤ (rngD hi n).length
    rw [rngD_length]
    exact Nat.le_refl _
  · obtain ⟨e1, e2⟩ := hy
    have h := (List.getElem?_eq_some_iff.mp hd).1
    rw [rngD_length] at h
    rw [rngD_get n i hi h] at hd
    cases hd
    subst e2
    exact ⟨e1, .int _⟩
def itRR1 : D → M (List D)
  | .int j => M.when (okRng j) (M.ret (rngD j.toNat j.toNat))
  | _ => M.no
def iOf1 (h : D → M (List D)) (f : Lc → M D) : Lc → M (List D) := fun env => M.andThen (f env) h
theorem i_revR1 {tg : Expr} {p p2 pos2 : Pos} (hg : Gl X "reversed") (hm : X.mg "reversed" = none) (hg2 : Gl X "range") (hm2 : X.mg "range" = none) (ha : PE X a (TD X.K EP fa)) (na : starEach [a] X.env = (false, eval a X.env) :: starEach [] X.env := by rfl)
    (hs : starEach [.Call (.Name "range" p2) [a] [] pos2] X.env = (false, eval (.Call (.Name "range" p2) [a] [] pos2) X.env) :: starEach [] X.env := by rfl) :
    PI X tg (.Call (.Name "reversed" p) [.Call (.Name "range" p2) [a] [] pos2] [] pos) (TI' X.K EP (iOf1 itRR1 fa)) := by
  refine PI.by (pi_revR hg hm (prg_1 hg2 hm2 ha na) hs) fun σ H R ⟨S, env, e, ok, re, p⟩ => ?_
  subst e
  refine ⟨S, env, rfl, ok, re, (Post.split p).imp fun d S1 x1 o1 q v rv => ?_⟩
  unfold itRR1 at q
  split at q
  · cases rv
    rename_i j
    obtain ⟨c, q⟩ := Post.whened q
    have c' := Bool.and_eq_true_iff.mp c
    have h1 := of_decide_eq_true c'.1
    have h2 := of_decide_eq_true c'.2
    refine ⟨j, rfl, (by decide), (by decide), h1, h2, ?_⟩
    have r := o1.ret q _ (serves_rngD (K := X.K) ((j.toNat : Nat) : Int) j.toNat)
    rw [show (0 : Int) + (((j - 0).toNat : Nat) : Int) - 1 = ((j.toNat : Nat) : Int) - 1 by omega, show (j - 0).toNat = j.toNat by omega]
    exact r
  · exact False.elim q
/-! a < b < c, as a test -/
theorem chain_imp {K : PySem.W.Frag} {r r' : R2} {g g' : D → D → M D} {fa fb fc : Lc → M D} {σ : St} {H : Hp} {Q : VK} (hg : Good2 K EP r g) (hg' : Good2 K EP r' g') : TD K EP (eCh g g' fa fb fc) σ H Q → tChain r r' (TD K EP fa) (TD K EP fb) (TD K EP fc) σ H Q := by
  intro ⟨S, env, e, ok, re, p⟩
  subst e
  refine ⟨S, env, rfl, ok, re, (Post.split p).imp fun x S1 x1 o1 q1 v rv => ⟨S1, env, rfl, o1, re.ext x1, (Post.split q1).imp fun y S2 x2 o2 q2 w rw => ?_⟩⟩
  refine hg S2 x y v w _ o2 (rv.ext x2) rw ((Post.split q2).imp fun z S3 x3 o3 q3 u ru => ?_)
  split at q3
  · cases ru
    rename_i k
    refine ⟨k, rfl, ?_⟩
    cases k with
    | true => exact ⟨S3, env, rfl, o3, ((re.ext x1).ext x2).ext x3, (Post.split q3).imp fun t S4 x4 o4 q4 t' rt => hg' S4 y t w t' _ o4 ((rw.ext x3).ext x4) rt q4⟩
    | false => exact o3.ret (a := D.bl false) q3 _ (.bl false)
  · exact False.elim q3
theorem t_chain {op op' : CmpOp} {r r' : R2} {g g' : D → D → M D} {c : Expr} {fc : Lc → M D} (ho : OpR X (compareOp op) r) (hg : Good2 X.K EP r g) (ho' : OpR X (compareOp op') r') (hg' : Good2 X.K EP r' g') (ha : PE X a (TD X.K EP fa)) (hb : PE X b (TD X.K EP fb)) (hc : PE X c (TD X.K EP fc))
    (hm : lastMarks [op, op'] [b, c] = false := by with_unfolding_all rfl) : PT X (.Compare a [op, op'] [b, c] pos) (TB X.K EP (tV (eCh g g' fa fb fc))) :=
  PT.by (pt_chain ho ho' ha hb hc hm) fun _ _ _ q => chain_imp hg hg' (runB q)
/-! an int as a test -/
def tI (f : Lc → M D) : Lc → M Bool := fun env => M.andThen (f env) fun d => match d with
  | .int i => M.ret (i != 0)
  | _ => M.no
theorem t_int {e : Expr} {f : Lc → M D} (h : PE X e (TD X.K EP f)) (he : ∀ whole, isTrue e X.env whole = (do let v ← whole; standAt e.pos; holding [v] (truthy v)) := by intro _; rfl) : PT X e (TB X.K EP (tI f)) := by
  refine PT.by (pt_truth h he) fun σ H Q ⟨S, env, e0, ok, re, p⟩ => ?_
  subst e0
  refine ⟨S, env, rfl, ok, re, (Post.split p).imp fun d S1 x1 o1 q v rv => ?_⟩
  split at q
  · cases rv
    exact ⟨_, rfl, o1.ret q⟩
  · exact False.elim q
/-! ## all -/
def allBl : List D → Option Bool
  | [] => some true
  | .bl b :: ds => (allBl ds).map (b && ·)
  | _ => none
def gAll : List D → M D
  | [.lst xs] => M.andThen (M.lift (allBl xs)) fun b => M.ret (.bl b)
  | _ => M.no
theorem allBl_rv {K : PySem.W.Frag} {S : Sit} : ∀ {ds : List D} {vs : List V} {b : Bool}, RVs K S ds vs → allBl ds = some b → ∃ bs : List Bool, vs = bs.map V.bl ∧ bs.all id = b
  | [], _, b, r, h => by cases r; cases h; exact ⟨[], rfl, rfl⟩
  | d :: ds, _, b, r, h => by
    cases r with
    | cons r1 r2 =>
      unfold allBl at h
      split at h
      · rename_i heq; cases heq
      · rename_i c ds' heq
        cases heq
        obtain ⟨b', e1, e2⟩ := Option.map_eq_some_iff.mp h
        obtain ⟨bs, e3, e4⟩ := allBl_rv r2 e1
        cases r1
        subst e3
        exact ⟨c :: bs, rfl, by rw [List.all_cons, e4]; exact e2⟩
      · cases h
theorem g_all {K : PySem.W.Frag} : GoodL K EP (rAll K) gAll := by
  intro S ds vs Q ok r p
  unfold gAll at p
  split at p
  · obtain ⟨v, rfl, r1⟩ := rvs1 r
    cases r1 with
    | lst h r1 =>
      revert p
      rename_i xs a vs
      cases hb : allBl xs with
      | none => intro p; exact False.elim p
      | some b =>
        intro p
        obtain ⟨bs, e3, e4⟩ := allBl_rv r1 hb
        subst e3
        exact ⟨_, bs, rfl, SqL.of h.1, by rw [e4]; exact ok.ret (a := D.bl b) p _ (.bl b)⟩
  · exact False.elim p
end
end Mi
set_option Elab.async false
set_option linter.all false
set_option maxRecDepth 100000
set_option maxHeartbeats 4000000
namespace PySem.W
open PySem PySem.Calls
namespace MGF
theorem args_gcd4 (a b c d : Value) : argsOk "math.gcd" ⟨[a, b, c, d], []⟩ := by unfold argsOk; kernel_rfl
end MGF
theorem mg_run_gcd4 (a : Int) (t : Tok) (b : Int) (u : Tok) (c : Int) (v : Tok) (d : Int) (x : Tok) :
    Gives (Builtin.«math.gcd» ⟨[.int a t, .int b u, .int c v, .int d x], []⟩) (.int ((((((Nat.gcd 0 a.natAbs).gcd b.natAbs).gcd c.natAbs).gcd d.natAbs : Nat) : Int))) :=
  .of_wp fun M A E s Q h => by obtain ⟨hp, g, d, tk, os⟩ := s; wp_walk; exact ⟨_, rfl, h⟩
theorem mg_gcd4 {prog : Program} {w : World} {A : Around} {E : Value → Shared → Prop} {s : Shared} {Q : Value → Shared → Prop} {a b c d : Int} {t u v x : Tok}
    (h : Q (.int ((((a.natAbs.gcd b.natAbs).gcd c.natAbs).gcd d.natAbs : Nat) : Int) s.toks) { s with toks := s.toks + 1 }) :
    wpAny (model prog w) A (call (.builtin "math.gcd") [.int a t, .int b u, .int c v, .int d x]) Q E s := by
  have g := mg_run_gcd4 a t b u c v d x
  rw [Nat.gcd_zero_left] at g
  exact call_function_meets MGF.kind_gcd MGF.plain_gcd MGF.entry_gcd (MGF.args_gcd4 _ _ _ _) g.meets h
end PySem.W
namespace Mi
open PySem PySem.Spec PyProof.Rows L2
section
variable {X : Cx} {EP : EPT} {K : PySem.W.Frag}
def rGcd4 : List V → Hp → VK → Prop := fun vs H Q => ∃ a b c d : Int, vs = [.int a, .int b, .int c, .int d] ∧ Q (.int ((((a.natAbs.gcd b.natAbs).gcd c.natAbs).gcd d.natAbs : Nat) : Int)) H
theorem Vals.int4 {a b c d : Int} {us : List Value} (r : Vals [.int a, .int b, .int c, .int d] us) : ∃ t u v x, us = [.int a t, .int b u, .int c v, .int d x] := by
  cases r with
  | cons r1 r =>
    cases r with
    | cons r2 r =>
      obtain ⟨v, x, rfl⟩ := Vals.int2 r
      obtain ⟨t, rfl⟩ := r1
      obtain ⟨u, rfl⟩ := r2
      exact ⟨t, u, v, x, rfl⟩
theorem cr_gcd4 : CallR X (.builtin "math.gcd") rGcd4 := by
  intro pins s σ H vs us Q I r h
  obtain ⟨a, b, c, d, rfl, q⟩ := h
  obtain ⟨t, u, v, x, rfl⟩ := Vals.int4 r
  exact PySem.W.mg_gcd4 ⟨.int _, H, I.tok _, ⟨_, rfl⟩, q⟩
def gGcd4 : List D → M D
  | [.int a, .int b, .int c, .int d] => M.ret (.int ((((a.natAbs.gcd b.natAbs).gcd c.natAbs).gcd d.natAbs : Nat) : Int))
  | _ => M.no
theorem g_gcd4 : GoodL K EP rGcd4 gGcd4 := by
  intro S ds vs Q ok r p
  unfold gGcd4 at p
  split at p
  · cases r with
    | cons r1 r =>
      cases r with
      | cons r2 r =>
        obtain ⟨v, w, rfl, r3, r4⟩ := rvs2 r
        cases r1; cases r2; cases r3; cases r4
        exact ⟨_, _, _, _, rfl, ok.ret p _ (.int _)⟩
  · exact False.elim p
end
end Mi
namespace Mi
open PySem PySem.Spec PyProof.Rows L2
section
variable {X : Cx} {EP : EPT} {K : PySem.W.Frag}
/-- a list or a tuple -/
theorem pi_any {tg l : Expr} {tl tl2 : TE} (hl : PE X l tl2) {t : TI} (h : ∀ σ H R, t σ H R → tl2 σ H fun x H1 => iList X.K (fun _ H2 k => k x H2) σ H1 R ∨ iTup X.K (fun _ H2 k => k x H2) σ H1 R) : PI X tg l t := by
  refine ⟨fun pins s σ H R I hh => ?_⟩
  refine thn (hl.run pins s σ H _ I (h σ H R hh)) fun v s1 ⟨x, H1, I1, r1, q1⟩ => ?_
  rcases q1 with q1 | q1
  · obtain ⟨a, e, ⟨xs, hq⟩, q⟩ := q1
    subst e
    cases r1
    obtain ⟨its, rv, p, hz⟩ := I1.list hq
    refine wpAny_pyIter_list p.isList ?_
    refine ⟨s1.heap.objs.size, [s1.heap.objs.size], _, _, H1, rfl, I1.kept (t' := s1.toks) fun b o e => Heap.get?_push_of_some _ e, turn_list a _, ⟨_, Heap.get?_push_size _ rfl, rfl, rfl⟩, fun b hb => ?_, q⟩
    have e : b = s1.heap.objs.size := by simpa using hb
    subst e
    exact I1.fpOk (Nat.le_refl _) (I1.hok.fresh (Nat.le_refl _))
  · obtain ⟨a, e, ⟨xs, hq⟩, q⟩ := q1
    subst e
    cases r1
    obtain ⟨its, rv, p, hz⟩ := I1.tuple hq
    refine wpAny_pyIter_tuple (show s1.heap.IsTuple a its.toArray from p) ?_
    refine ⟨s1.heap.objs.size, [s1.heap.objs.size], _, _, H1, rfl, I1.kept (t' := s1.toks) fun b o e => Heap.get?_push_of_some _ e, turn_tuple a _, ⟨_, Heap.get?_push_size _ rfl, rfl, rfl⟩, fun b hb => ?_, q⟩
    have e : b = s1.heap.objs.size := by simpa using hb
    subst e
    exact I1.fpOk (Nat.le_refl _) (I1.hok.fresh (Nat.le_refl _))
def itA : D → M (List D)
  | .lst xs => M.ret xs
  | .fro xs => M.ret xs
  | .tup xs => M.ret xs
  | _ => M.no
theorem i_any {tg l : Expr} {f : Lc → M D} (hl : PE X l (TD X.K EP f)) : PI X tg l (TI' X.K EP (iOf itA f)) := by
  refine pi_any (tl := TD X.K EP f) hl fun σ H R ⟨S, env, e, ok, re, p⟩ => ?_
  subst e
  refine ⟨S, env, rfl, ok, re, (Post.split p).imp fun d S1 x1 o1 q v rv => ?_⟩
  unfold itA at q
  split at q
  · cases rv with
    | lst h r =>
      refine .inl ⟨_, rfl, ⟨_, SqL.of h.1⟩, o1.ret q _ ⟨fun S' i x hi => ?_, fun S' x => ?_, fun S' i y H' x o hy d hd => ?_⟩⟩
      · obtain ⟨w, e, _⟩ := r.get (List.getElem?_eq_getElem hi)
        exact ⟨_, w, SqL.of (x.pers _ _ h), e⟩
      · exact ⟨_, SqL.of (x.pers _ _ h), by rw [r.length]; exact Nat.le_refl _⟩
      · obtain ⟨e1, e2⟩ := hy
        obtain ⟨w, e, rw⟩ := r.get hd
        have e3 := e2 _ (SqL.of (x.pers _ _ h))
        rw [e] at e3
        cases e3
        exact ⟨e1, rw⟩
  · cases rv with
    | fro h r =>
      refine .inl ⟨_, rfl, ⟨_, h.seq⟩, o1.ret q _ ⟨fun S' i x hi => ?_, fun S' x => ?_, fun S' i y H' x o hy d hd => ?_⟩⟩
      · obtain ⟨w, e, _⟩ := r.get (List.getElem?_eq_getElem hi)
        exact ⟨_, w, (h.ext x).seq, e⟩
      · exact ⟨_, (h.ext x).seq, by rw [r.length]; exact Nat.le_refl _⟩
      · obtain ⟨e1, e2⟩ := hy
        obtain ⟨w, e, rw⟩ := r.get hd
        have e3 := e2 _ (h.ext x).seq
        rw [e] at e3
        cases e3
        exact ⟨e1, rw⟩
  · cases rv with
    | tup h r =>
      refine .inr ⟨_, rfl, ⟨_, h.seq⟩, o1.ret q _ ⟨fun S' i x hi => ?_, fun S' x => ?_, fun S' i y H' x o hy d hd => ?_⟩⟩
      · obtain ⟨w, e, _⟩ := r.get (List.getElem?_eq_getElem hi)
        exact ⟨_, w, (h.ext x).seq, e⟩
      · exact ⟨_, (h.ext x).seq, by rw [r.length]; exact Nat.le_refl _⟩
      · obtain ⟨e1, e2⟩ := hy
        obtain ⟨w, e, rw⟩ := r.get hd
        have e3 := e2 _ (h.ext x).seq
        rw [e] at e3
        cases e3
        exact ⟨e1, rw⟩
  · exact False.elim q
end
end Mi
namespace Mi
open PySem PySem.Spec PyProof.Rows L2
section
variable {X : Cx}
theorem d_call00 {x : Str} {p pos : Pos} {k n : Nat} {f : Addr} {fd : FuncData} {ps : List Str} {m : List D → M D} (F : FnG X.prog X.w X.K X.mg X.base (L2.CX X.prog X.w) k f fd ps (spD X.K X.mg n m)) (hr : Room k X.A) (rm : Rm X) (hg : Gl X x)
    (hm : X.mg x = some (.ref f)) (hk : PySem.W.keepIn X.K (.ref f) = true) (hb : Binds X.K fd ps []) (hdb : (x == ("__debug__" : Str)) = false := by decide) : PE X (.Call (.Name x p) [] [] pos) (TD X.K EP0 (eCall n m esN)) := by
  refine ⟨fun pins s σ H Q I ⟨S, env, e0, ok, re, pp⟩ => ?_⟩
  subst e0
  refine wpAny_Call_Name_kw (ld_glob I hg hm ?_ hdb)
  have q := (Post.split pp) S (Ext.refl S) ok rfl
  obtain ⟨hl, q⟩ := Post.whened q
  exact PySem.W.callWith_K0 I.kIn hk (run_g (us := []) F hr rm hb (passAt (takes_none5 (X := X)) σ) I .nil ⟨S, [], rfl, ok, .nil, of_decide_eq_true hl, post_call0 q ⟨σ, re⟩ ok⟩)
end
end Mi
set_option Elab.async false
set_option linter.all false
set_option maxRecDepth 100000
set_option maxHeartbeats 4000000
namespace Mi
open PySem PySem.Spec PyProof.Rows L2
/-! a sum of two lists, which is changed later -/
def gAddN (x y : D) : M D := match x, y with
  | .lst xs, .lst ys => M.when (okCat xs ys) (newO (.lst (xs ++ ys)))
  | _, _ => M.no
section
variable {X : Cx} {EP : EPT} {K : PySem.W.Frag}
theorem g_addN : Good2 K EP (rAddAll K) gAddN := by
  intro S x y v w Q ok rx ry p
  unfold gAddN at p
  split at p
  · cases rx with
    | lst h1 r1 =>
      cases ry with
      | lst h2 r2 =>
        obtain ⟨c, p⟩ := Post.whened p
        have c := of_decide_eq_true c
        exact .inr (.inr (.inr ⟨_, _, _, _, rfl, rfl, h1.1, h2.1, by rw [← r1.length, ← r2.length]; exact c, new_lstN ok (r1.append r2) p⟩))
  · exact False.elim p
end
/-! f(*x) of a tuple -/
def eCallS (n : Nat) (m : List D → M D) (f : Lc → M D) : Lc → M D := fun env => M.andThen (f env) fun d => match d with
  | .tup xs => M.when (decide (xs.length = n)) fun ah => match m xs ah with
    | .no => .no
    | .ok d ah' => .ok d ah'
    | .ex e _ ah' => .ex e env ah'
  | _ => M.no
section
variable {X : Cx}
theorem d_callS1 {x : Str} {p sp_ pos : Pos} {k n : Nat} {f : Addr} {fd : FuncData} {ps : List Str} {m : List D → M D} {e : Expr} {fa : Lc → M D} (F : FnG X.prog X.w X.K X.mg X.base (L2.CX X.prog X.w) k f fd ps (spD X.K X.mg n m)) (hr : Room k X.A) (rm : Rm X) (hg : Gl X x)
    (hm : X.mg x = some (.ref f)) (hk : PySem.W.keepIn X.K (.ref f) = true) (hb : Binds X.K fd ps []) (he : PE X e (TD X.K EP0 fa)) (hdb : (x == ("__debug__" : Str)) = false := by decide)
    (hst : starEach [.Starred e sp_] X.env = [(true, eval e X.env)] := by rfl) : PE X (.Call (.Name x p) [.Starred e sp_] [] pos) (TD X.K EP0 (eCallS n m fa)) := by
  refine ⟨fun pins s σ H Q I ⟨S, env, e0, ok, re, pp⟩ => ?_⟩
  subst e0
  refine wpAny_Call_Name_kw (ld_glob I hg hm ?_ hdb)
  have hte : TD X.K EP0 fa σ S.H (fun y H1 => ∃ a xs, y = V.ref a ∧ (SqT X.K H1 a xs ∨ SqL X.K H1 a xs) ∧ spD X.K X.mg n m xs H1 Q fun _ _ _ => False) := ⟨S, env, rfl, ok, re, (Post.split pp).imp fun d S1 x1 o1 q v rv => ?_⟩
  · refine PySem.W.callWith_S (h₀ := X.base) I.ok.mod.kin hk (thn (he.run pins s σ S.H _ I hte) fun v s1 ⟨y, H1, I1, ry, a, xs, ey, hxs, q⟩ => ?_) hst
    subst ey
    obtain rfl : v = Value.ref a := ry
    exact StX.star_any I1 hxs fun us s2 I2 rv => ⟨I2.kIn, run_g F hr rm hb (passAt (takes_none5 (X := X)) σ) I2 rv q⟩
  · split at q
    · cases rv with
      | tup h r =>
        obtain ⟨hl, q⟩ := Post.whened q
        exact ⟨_, _, rfl, .inl h.seq, S1, _, rfl, o1, r, of_decide_eq_true hl, post_call0 q ⟨σ, re.ext x1⟩ o1⟩
    · exact False.elim q
end
/-! how many bits -/
def gBits : D → M D
  | .int i => M.ret (.int (Builtin.Int.intBits i : Nat))
  | _ => M.no
section
variable {X : Cx} {EP : EPT}
theorem d_bits {o : Expr} {apos pos : Pos} {fo : Lc → M D} (ho : PE X o (TD X.K EP fo)) (hbase : attributeBase o "bit_length" X.env (eval o X.env) = eval o X.env := by rfl) (hline : (apos.endLine == pos.line) = true := by rfl) : PE X (.Call (.Attribute o "bit_length" apos) [] [] pos) (TD X.K EP (e1 gBits fo)) := by
  refine PE.by (L2.pe_bits ho hbase hline) fun σ H Q ⟨S, env, e, ok, re, p⟩ => ?_
  subst e
  refine ⟨S, env, rfl, ok, re, (Post.split p).imp fun d S1 x1 o1 q v rv => ?_⟩
  unfold gBits at q
  split at q
  · cases rv
    exact ⟨_, rfl, o1.ret q _ (.int _)⟩
  · exact False.elim q
end
/-! a list of the mirror's heap, in a name, stands still from here on -/
def sFixV (i : Nat) : MS := fun env => M.andThen (eV i env) fun d => M.andThen (fixD d) fun d' => M.ret (.nx, env.set i (some d'))
theorem RE.fixed {K : PySem.W.Frag} {S : Sit} {env : Lc} {σ : St} {i : Nat} {d : D} (h : RE K S env σ) (hd : ∃ v, σ[i]? = some (some v) ∧ RV K S d v) : RE K S (env.set i (some d)) σ := by
  refine ⟨by rw [List.length_set]; exact h.1, fun j c q => ?_⟩
  by_cases hj : i = j
  · subst hj
    by_cases hl : i < env.length
    · rw [List.getElem?_set_self hl] at q
      cases q
      exact hd
    · rw [List.getElem?_eq_none (by rw [List.length_set]; omega)] at q
      cases q
  · rw [List.getElem?_set_ne hj] at q
    exact h.2 j c q
section
variable {X : Cx} {EP : EPT}
theorem s_ghost (i : Nat) {st : Stmt} {g : MS} (h : PS X st (TF X.K EP g)) : PS X st (TF X.K EP (sPs (sFixV i) g)) := by
  refine PS.by h fun σ H Dn ⟨S, env, e, ok, re, p⟩ => ?_
  subst e
  have p := Post.split p
  unfold sFixV at p
  cases z : env[i]? with
  | none => simp only [M.andThen, eV, M.lift, z] at p; exact False.elim p
  | some o =>
    cases o with
    | none => simp only [M.andThen, eV, M.lift, z] at p; exact False.elim p
    | some d =>
      obtain ⟨v, hv, rv⟩ := re.2 i d z
      have e0 : ∀ ah, eV i env ah = .ok d ah := fun ah => by simp [eV, M.lift, z]
      have stay : ∀ d', RV X.K S d' v → fixD d S.ah = .ok d' S.ah → ∃ S env, S.H = _ ∧ Ok X.K S ∧ RE X.K S env σ ∧ Post X.K EP S (GF X.K Dn) (g env S.ah) := fun d' rd' e => by
        simp only [M.andThen, e0, e, M.ret] at p
        exact ⟨S, env.set i (some d'), rfl, ok, re.fixed ⟨v, hv, rd'⟩, p S (Ext.refl S) ok rfl⟩
      cases rv with
      | @ref n hi =>
        cases y : S.ah[n]? with
        | none => simp only [M.andThen, e0, fixD, y] at p; exact False.elim p
        | some y' =>
          cases y' with
          | none => simp only [M.andThen, e0, fixD, y] at p; exact False.elim p
          | some o =>
            cases o with
            | dct _ => simp only [M.andThen, e0, fixD, y] at p; exact False.elim p
            | lst ds =>
              simp only [M.andThen, e0, fixD, y, M.ret] at p
              exact ⟨S.fix n, env.set i (some (.lst ds)), rfl, Sit.fix_ok ok n, (re.ext (Sit.fix_ext n)).fixed ⟨_, hv, Sit.fix_lst ok y⟩, p _ (Sit.fix_ext n) (Sit.fix_ok ok n) rfl⟩
      | non => exact stay _ .non rfl
      | bl b => exact stay _ (.bl b) rfl
      | int b => exact stay _ (.int b) rfl
      | str b => exact stay _ (.str b) rfl
      | tup h1 h2 => exact stay _ (.tup h1 h2) rfl
      | lst h1 h2 => exact stay _ (.lst h1 h2) rfl
      | fro h1 h2 => exact stay _ (.fro h1 h2) rfl
      | emp h1 => exact stay _ (.emp h1) rfl
      | oth => exact stay _ (.oth _) rfl
end
end Mi
set_option Elab.async false
set_option linter.all false
set_option maxRecDepth 100000
set_option maxHeartbeats 4000000
namespace HT
open PySem PySem.Spec PyProof.Rows
section
variable {prog : Program} {w : World} {A : Around} {E : Value → Shared → Prop} {s : Shared}
theorem adjust_rev (n : Nat) : Builtin.Slice.sliceAdjust none none (-1) (n : Int) = ((n : Int) - 1, -1) := by
  unfold Builtin.Slice.sliceAdjust
  simp
theorem places_rev (n : Nat) : Builtin.Slice.slicePlaces ((n : Int) - 1) (-1) (-1) = n := by
  unfold Builtin.Slice.slicePlaces
  have h1 : ¬ ((-1 : Int) > 0) := by omega
  simp only [h1, if_false]
  split
  · have : (-(-1) : Int) = 1 := by omega
    rw [this, Int.ediv_one]; omega
  · omega
theorem sliceApplied_rev {sl : Addr} {vl vu vs : Value} {n : Nat} {Q : Int × Int × Nat → Shared → Prop} (hs : s.heap.IsSliceOf sl vl vu vs) (pl : IsPart vl none) (pu : IsPart vu none) (ps : IsPart vs (some (-1)))
    (h : Q ((n : Int) - 1, -1, n) s) : wpAny (model prog w) A (Builtin.Slice.sliceApplied (.ref sl) (pure (n : Int))) Q E s := by
  obtain ⟨os, hos, hcs, hds⟩ := id hs
  unfold Builtin.Slice.sliceApplied Builtin.Slice.sliceFields
  refine wpAny_bind (wpAny_bind (wpAny_field hos hds (x := vl) rfl (wpAny_bind (wpAny_field hos hds (x := vu) rfl (wpAny_bind (wpAny_field hos hds (x := vs) rfl (wpAny_pure ?_)))))))
  refine wpAny_bind (slicePart_ ps ?_)
  show wpAny _ _ (if ((-1 : Int) == 0) = true then _ else _) _ _ s
  rw [if_neg (by decide)]
  refine wpAny_bind (slicePart_ pl (wpAny_bind (slicePart_ pu (wpAny_bind (wpAny_pure ?_)))))
  show wpAny _ _ (match Builtin.Slice.sliceAdjust none none (-1) (n : Int) with | (lo, hi) => pure (lo, (-1 : Int), Builtin.Slice.slicePlaces lo hi (-1))) _ _ s
  rw [adjust_rev]
  show wpAny _ _ (pure ((n : Int) - 1, (-1 : Int), Builtin.Slice.slicePlaces ((n : Int) - 1) (-1) (-1))) _ _ s
  rw [places_rev]
  exact wpAny_pure h
theorem pick_rev (xs : Array Value) : ((List.range xs.size).filterMap fun (m : Nat) => xs[(((xs.size : Int) - 1) + (m : Int) * (-1)).toNat]?).toArray = xs.toList.reverse.toArray := by
  congr 1
  apply List.ext_getElem?
  intro i
  have fm : ∀ l : List Nat, (∀ m ∈ l, m < xs.size) → l.filterMap (fun (m : Nat) => xs[(((xs.size : Int) - 1) + (m : Int) * (-1)).toNat]?) = l.map fun m => xs[xs.size - 1 - m]?.getD .none := by
    intro l
    induction l with
    | nil => intro _; rfl
    | cons m l ih =>
      intro h
      have hm := h m (List.mem_cons_self ..)
      have e1 : (((xs.size : Int) - 1) + (m : Int) * (-1)).toNat = xs.size - 1 - m := by omega
      rw [List.filterMap_cons, e1, Array.getElem?_eq_getElem (show xs.size - 1 - m < xs.size by omega), List.map_cons, ih fun k hk => h k (List.mem_cons_of_mem _ hk), Array.getElem?_eq_getElem (show xs.size - 1 - m < xs.size by omega)]
      rfl
  rw [fm _ fun m hm => List.mem_range.mp hm, List.getElem?_map]
  by_cases hi : i < xs.size
  · rw [List.getElem?_range hi, List.getElem?_reverse (by rw [Array.length_toList]; exact hi), Array.length_toList, Array.getElem?_toList]
    rw [Array.getElem?_eq_getElem (show xs.size - 1 - i < xs.size by omega), Option.map_some, Array.getElem?_eq_getElem (show xs.size - 1 - i < xs.size by omega)]
    rfl
  · rw [List.getElem?_eq_none (by rw [List.length_range]; omega), List.getElem?_eq_none (by rw [List.length_reverse, Array.length_toList]; omega)]
    rfl
theorem getItem_tuple_rev {t sl : Addr} {items : Array Value} {vl vu vs : Value} {Q : Value → Shared → Prop} (ht : IsTup s.heap t items) (hs : s.heap.IsSliceOf sl vl vu vs) (pl : IsPart vl none) (pu : IsPart vu none) (ps : IsPart vs (some (-1)))
    (h : Q (.ref s.heap.objs.size) { s with heap := s.heap.push { cls := .type "tuple", data := .seq items.toList.reverse.toArray } })
    (hsz : items.size ≤ sizeLine) : wpAny (model prog w) A (getItem (.ref t) (.ref sl)) Q E s := by
  have htake : sizeOk (.seq items.toList.reverse.toArray) := by
    show items.toList.reverse.toArray.size ≤ sizeLine
    rw [List.size_toArray, List.length_reverse, Array.length_toList]
    exact hsz
  obtain ⟨os, hos, hcs, hds⟩ := id hs
  have hTs : s.TypeIs (.ref sl) "slice" := ⟨os, hos, hcs⟩
  unfold getItem
  try with_reducible refine wpAny_holding ?_
  first | refine wpAny_bind (wpAny_pure ?_) | skip
  refine wpAny_bind (wpAny_sequenceKey ht.typeIs (by decide) ?_)
  refine wpAny_bind (wpAny_callSpecial?_slot (name := Str.ofString "__getitem__") ht.typeIs PyProof.Rows.slot_tuple_getitem
    (wpAny_call_entry PyProof.Rows.slot_tuple_getitem ht.typeIs entry_tuple_getitem ?_ (args_tuple_getitem _ _)))
  show wpAny _ _ (Builtin.Tuple.tupleItemsOf (.ref t) >>= _) _ _ s
  refine wpAny_bind (tupleItemsOf_ ht ?_)
  refine wpAny_bind (wpAny_typeOf hTs ?_)
  rw [if_pos (by decide)]
  refine wpAny_bind (sliceApplied_rev hs pl pu ps ?_)
  have hno : ¬ ((((items.size : Int) - 1) == 0 && (-1 : Int) == 1 && items.size == items.size) = true) := by
    intro q
    rw [Bool.and_eq_true, Bool.and_eq_true] at q
    exact absurd q.1.2 (by decide)
  show wpAny _ _ (if ((((items.size : Int) - 1) == 0 && (-1 : Int) == 1 && items.size == items.size) = true) then _ else _) _ _ s
  rw [if_neg hno, pick_rev]
  first
    | exact wpAny_bind (m := Builtin.Tuple.tupleExact _) (wpAny_newObj_type (wpAny_pure ⟨_, rfl, wpAny_pure h⟩) htake)
    | exact wpAny_bind (m := Builtin.Tuple.tupleExact _) (wpAny_newObj_type (wpAny_bind (wpAny_pure (wpAny_pure ⟨_, rfl, wpAny_pure h⟩))) htake)
    | exact wpAny_bind (wpAny_bind (m := Builtin.Tuple.tupleExact _) (wpAny_newObj_type (wpAny_pure (wpAny_pure ⟨_, rfl, wpAny_pure h⟩)) htake))
    | exact wpAny_bind (wpAny_bind (m := Builtin.Tuple.tupleExact _) (wpAny_newObj_type (wpAny_pure ⟨_, rfl, wpAny_pure h⟩) htake))
end
end HT
namespace Mi
open PySem PySem.Spec PyProof.Rows L2
section
variable {X : Cx} {EP : EPT} {K : PySem.W.Frag}
/-! is True -/
theorem op_isB : OpR X (compareOp .Is) (fun x y H Q => ∃ c d, x = .bl c ∧ y = .bl d ∧ Q (.bl (c == d)) H) := by
  intro pins s σ H x y v u Q I rx ry h
  obtain ⟨c, d, rfl, rfl, q⟩ := h
  cases rx; cases ry
  exact PyProof.Rows.is_bool (fin_bl I q rfl)
theorem op_isnotB : OpR X (compareOp .IsNot) (fun x y H Q => ∃ c d, x = .bl c ∧ y = .bl d ∧ Q (.bl (c != d)) H) := by
  intro pins s σ H x y v u Q I rx ry h
  obtain ⟨c, d, rfl, rfl, q⟩ := h
  cases rx; cases ry
  exact PyProof.Rows.isnot_bool (fin_bl I q rfl)
def gIsB (x y : D) : M D := match x, y with
  | .bl c, .bl d => M.ret (.bl (c == d))
  | _, _ => M.no
def gNotB (x y : D) : M D := match x, y with
  | .bl c, .bl d => M.ret (.bl (c != d))
  | _, _ => M.no
theorem g_isB : Good2 K EP (fun x y H Q => ∃ c d, x = .bl c ∧ y = .bl d ∧ Q (.bl (c == d)) H) gIsB := by
  intro S x y v w Q ok rx ry p
  unfold gIsB at p
  split at p
  · cases rx; cases ry
    exact ⟨_, _, rfl, rfl, ok.ret p _ (.bl _)⟩
  · exact False.elim p
theorem g_notB : Good2 K EP (fun x y H Q => ∃ c d, x = .bl c ∧ y = .bl d ∧ Q (.bl (c != d)) H) gNotB := by
  intro S x y v w Q ok rx ry p
  unfold gNotB at p
  split at p
  · cases rx; cases ry
    exact ⟨_, _, rfl, rfl, ok.ret p _ (.bl _)⟩
  · exact False.elim p
/-! t[::-1] of a tuple -/
def tRevT (K : PySem.W.Frag) (te : TE) : TE := fun σ H Q => te σ H fun x H1 => ∃ a xs, x = .ref a ∧ SqT K H1 a xs ∧ ∀ p, H1 p = none → Q (.ref p) (upd H1 p (.tup xs.reverse))
theorem pe_revT {e : Expr} {te : TE} {k : Nat} {p1 p2 p3 pos : Pos} (he : PE X e te) : PE X (.Subscript e (.Slice none none (some (.UnaryOp .USub (.Constant (.int 1) k p1) p2)) p3) pos) (tRevT X.K te) := by
  refine ⟨fun pins s σ H Q I h => ?_⟩
  refine Subscript_ (thn (he.run pins s σ H _ I h) fun v s1 ⟨x, H1, I1, r1, q1⟩ => ?_)
  obtain ⟨a, xs, ex, hx, q⟩ := q1
  subst ex
  cases r1
  have hst : PO X (some (.UnaryOp .USub (.Constant (.int 1) k p1) p2)) (tPart (tUn (rU fun i => .int (-i)) (tC (.int 1)))) := po_some (pe_un un_neg pe_int)
  refine wpAny_Slice (thn (po_none.run pins s1 σ H1 (fun o H2 => o = none ∧ H2 = H1) I1 ⟨rfl, rfl⟩) fun vl s2 ⟨l, H2, I2, pl, el, e2⟩ => ?_)
  subst el e2
  refine thn (po_none.run pins s2 σ H2 (fun o H3 => o = none ∧ H3 = H2) I2 ⟨rfl, rfl⟩) fun vu s3 ⟨u, H3, I3, pu, eu, e3⟩ => ?_
  subst eu e3
  refine thn (hst.run pins s3 σ H3 (fun o H4 => o = some (-1) ∧ H4 = H3) I3 ⟨1, rfl, -1, rfl, rfl, rfl⟩) fun vs s4 ⟨o, H4, I4, ps, eo, e4⟩ => ?_
  subst eo e4
  have I5 : Inv X pins σ H4 { s4 with heap := s4.heap.push { cls := .type "slice", data := .fields #[vl, vu, vs] } } := I4.kept (t' := s4.toks) fun b ob q => Heap.get?_push_of_some _ q
  obtain ⟨its, r, ht, hz⟩ := I5.tuple hx
  have hlen := r.length
  show wpAny (model X.prog X.w) X.A (subscriptTail e (.Slice none none (some (.UnaryOp .USub (.Constant (.int 1) k p1) p2)) p3) (.ref a) (.ref s4.heap.objs.size)) (L2.EP X pins σ Q) X.xe { s4 with heap := s4.heap.push { cls := .type "slice", data := .fields #[vl, vu, vs] } }
  refine tail_any (ops := [.ref a, .ref s4.heap.objs.size]) ht.typeIs (PyProof.Rows.slot_tuple_getitem.lookup) ?_ (by with_unfolding_all rfl)
  refine HT.getItem_tuple_rev ht (Heap.IsSliceOf.new _ vl vu vs) pl pu ps ?_ (by rw [List.size_toArray]; omega)
  refine ⟨.ref _, _, I5.laid (t' := s4.toks) (o := .tup xs.reverse) (fun b ob q => Heap.get?_push_of_some _ q) (Nat.le_refl _) ?_, rfl, q _ (I5.hok.fresh (Nat.le_refl _))⟩
  exact ⟨by rw [List.length_reverse]; exact hz, _, r.reverse, IsTup.new _ _⟩
def rRevT (K : PySem.W.Frag) : V → Hp → VK → Prop := fun x H1 Q => ∃ a xs, x = .ref a ∧ SqT K H1 a xs ∧ ∀ p, H1 p = none → Q (.ref p) (upd H1 p (.tup xs.reverse))
def gRevT : D → M D
  | .tup xs => M.ret (.tup xs.reverse)
  | _ => M.no
theorem g_revT : Good1 K EP (rRevT K) gRevT := by
  intro S x v Q ok rx p
  unfold gRevT at p
  split at p
  · cases rx with
    | tup h r => exact ⟨_, _, rfl, h.seq, new_tup ok r.reverse p⟩
  · exact False.elim p
theorem d_revT {e : Expr} {f : Lc → M D} {k : Nat} {p1 p2 p3 pos : Pos} (he : PE X e (TD X.K EP f)) : PE X (.Subscript e (.Slice none none (some (.UnaryOp .USub (.Constant (.int 1) k p1) p2)) p3) pos) (TD X.K EP (e1 gRevT f)) :=
  PE.by (pe_revT he) fun _ _ _ h => run1 (r := rRevT X.K) g_revT h
end
end Mi
set_option Elab.async false
set_option linter.all false
set_option maxRecDepth 100000
set_option maxHeartbeats 4000000
namespace Mi
open PySem PySem.Spec PyProof.Rows L2
section
variable {X : Cx} {EP : EPT} {K : PySem.W.Frag}
/-! min and max of three integers -/
def minI3 (i j k : Int) : Int := if j < i then (if k < j then k else j) else (if k < i then k else i)
def maxI3 (i j k : Int) : Int := if j > i then (if k > j then k else j) else (if k > i then k else i)
theorem call_min3I (hc : X.calm = true) : CallR X (.builtin "min") (fun xs H Q => ∃ i j k, xs = [.int i, .int j, .int k] ∧ Q (.int (minI3 i j k)) H) := by
  intro pins s σ H xs us Q I r h
  obtain ⟨i, j, l, rfl, q⟩ := h
  obtain ⟨u1, u2, u3, rfl, ⟨t1, rfl⟩, ⟨t2, rfl⟩, ⟨t3, rfl⟩⟩ := vals3 r
  refine min_three_ints (I.ok.hd hc) fun h' tk k => ⟨_, H, I.kept k, ?_, q⟩
  unfold minI3
  by_cases h1 : j < i
  · rw [if_pos h1, if_pos h1]
    by_cases h2 : l < j
    · rw [if_pos h2, if_pos h2]; exact ⟨_, rfl⟩
    · rw [if_neg h2, if_neg h2]; exact ⟨_, rfl⟩
  · rw [if_neg h1, if_neg h1]
    by_cases h2 : l < i
    · rw [if_pos h2, if_pos h2]; exact ⟨_, rfl⟩
    · rw [if_neg h2, if_neg h2]; exact ⟨_, rfl⟩
theorem call_max3I (hc : X.calm = true) : CallR X (.builtin "max") (fun xs H Q => ∃ i j k, xs = [.int i, .int j, .int k] ∧ Q (.int (maxI3 i j k)) H) := by
  intro pins s σ H xs us Q I r h
  obtain ⟨i, j, l, rfl, q⟩ := h
  obtain ⟨u1, u2, u3, rfl, ⟨t1, rfl⟩, ⟨t2, rfl⟩, ⟨t3, rfl⟩⟩ := vals3 r
  refine max_three_ints (I.ok.hd hc) fun h' tk k => ⟨_, H, I.kept k, ?_, q⟩
  unfold maxI3
  by_cases h1 : j > i
  · rw [if_pos h1, if_pos h1]
    by_cases h2 : l > j
    · rw [if_pos h2, if_pos h2]; exact ⟨_, rfl⟩
    · rw [if_neg h2, if_neg h2]; exact ⟨_, rfl⟩
  · rw [if_neg h1, if_neg h1]
    by_cases h2 : l > i
    · rw [if_pos h2, if_pos h2]; exact ⟨_, rfl⟩
    · rw [if_neg h2, if_neg h2]; exact ⟨_, rfl⟩
def gMin3 : List D → M D
  | [.int i, .int j, .int k] => M.ret (.int (minI3 i j k))
  | _ => M.no
def gMax3 : List D → M D
  | [.int i, .int j, .int k] => M.ret (.int (maxI3 i j k))
  | _ => M.no
theorem g_min3 : GoodL K EP (fun xs H Q => ∃ i j k, xs = [.int i, .int j, .int k] ∧ Q (.int (minI3 i j k)) H) gMin3 := by
  intro S ds vs Q ok r p
  unfold gMin3 at p
  split at p
  · cases r with
    | cons r1 r =>
      obtain ⟨v, w, rfl, r2, r3⟩ := rvs2 r
      cases r1; cases r2; cases r3
      exact ⟨_, _, _, rfl, ok.ret p _ (.int _)⟩
  · exact False.elim p
theorem g_max3 : GoodL K EP (fun xs H Q => ∃ i j k, xs = [.int i, .int j, .int k] ∧ Q (.int (maxI3 i j k)) H) gMax3 := by
  intro S ds vs Q ok r p
  unfold gMax3 at p
  split at p
  · cases r with
    | cons r1 r =>
      obtain ⟨v, w, rfl, r2, r3⟩ := rvs2 r
      cases r1; cases r2; cases r3
      exact ⟨_, _, _, rfl, ok.ret p _ (.int _)⟩
  · exact False.elim p
/-! any of a list of truths -/
def anyBl : List D → Option Bool
  | [] => some false
  | .bl b :: ds => (anyBl ds).map (b || ·)
  | _ => none
def gAny : List D → M D
  | [.lst xs] => M.andThen (M.lift (anyBl xs)) fun b => M.ret (.bl b)
  | _ => M.no
theorem anyBl_rv {S : Sit} : ∀ {ds : List D} {vs : List V} {b : Bool}, RVs K S ds vs → anyBl ds = some b → ∃ bs : List Bool, vs = bs.map V.bl ∧ bs.any id = b
  | [], _, b, r, h => by cases r; cases h; exact ⟨[], rfl, rfl⟩
  | d :: ds, _, b, r, h => by
    cases r with
    | cons r1 r2 =>
      unfold anyBl at h
      split at h
      · rename_i heq; cases heq
      · rename_i c ds' heq
        cases heq
        obtain ⟨b', e1, e2⟩ := Option.map_eq_some_iff.mp h
        obtain ⟨bs, e3, e4⟩ := anyBl_rv r2 e1
        cases r1
        subst e3
        exact ⟨c :: bs, rfl, by rw [List.any_cons, e4]; exact e2⟩
      · cases h
theorem g_any : GoodL K EP (rAny K) gAny := by
  intro S ds vs Q ok r p
  unfold gAny at p
  split at p
  · obtain ⟨v, rfl, r1⟩ := rvs1 r
    cases r1 with
    | lst h r1 =>
      revert p
      rename_i xs a vs
      cases hb : anyBl xs with
      | none => intro p; exact False.elim p
      | some b =>
        intro p
        obtain ⟨bs, e3, e4⟩ := anyBl_rv r1 hb
        subst e3
        exact ⟨_, bs, rfl, SqL.of h.1, by rw [e4]; exact ok.ret (a := D.bl b) p _ (.bl b)⟩
  · exact False.elim p
/-! min and max of a list of integers -/
def intsD : List D → Option (List Int)
  | [] => some []
  | .int i :: ds => (intsD ds).map (i :: ·)
  | _ => none
theorem intsD_map : ∀ is : List Int, intsD (is.map D.int) = some is
  | [] => rfl
  | i :: is => by show (intsD (is.map D.int)).map (i :: ·) = _; rw [intsD_map is]; rfl
theorem intsD_rv {S : Sit} : ∀ {ds : List D} {vs : List V} {is : List Int}, RVs K S ds vs → intsD ds = some is → vs = is.map V.int
  | [], _, _, r, h => by cases r; cases h; rfl
  | d :: ds, _, is, r, h => by
    cases r with
    | cons r1 r2 =>
      unfold intsD at h
      split at h
      · rename_i heq; cases heq
      · rename_i c ds' heq
        cases heq
        obtain ⟨b', e1, rfl⟩ := Option.map_eq_some_iff.mp h
        cases r1
        rw [intsD_rv r2 e1]
        rfl
      · cases h
def leastI : List Int → Option Int
  | [] => none
  | i :: is => match leastI is with
    | none => some i
    | some m => some (if i ≤ m then i else m)
def mostI : List Int → Option Int
  | [] => none
  | i :: is => match mostI is with
    | none => some i
    | some m => some (if m ≤ i then i else m)
theorem leastI_ok : ∀ {is : List Int} {m : Int}, leastI is = some m → m ∈ is ∧ ∀ y ∈ is, m ≤ y
  | [], m, h => nomatch h
  | i :: is, m, h => by
    unfold leastI at h
    cases e : leastI is with
    | none =>
      rw [e] at h
      cases h
      cases is with
      | nil => exact ⟨List.mem_cons_self, fun y hy => by rw [List.mem_singleton.mp hy]; exact Int.le_refl _⟩
      | cons j js => unfold leastI at e; split at e <;> cases e
    | some k =>
      rw [e] at h
      obtain ⟨a, b⟩ := leastI_ok e
      cases h
      by_cases c : i ≤ k
      · rw [if_pos c]
        exact ⟨List.mem_cons_self, fun y hy => by
          rcases List.mem_cons.mp hy with rfl | hy
          · exact Int.le_refl _
          · exact Int.le_trans c (b y hy)⟩
      · rw [if_neg c]
        exact ⟨List.mem_cons_of_mem _ a, fun y hy => by
          rcases List.mem_cons.mp hy with rfl | hy
          · omega
          · exact b y hy⟩
theorem mostI_ok : ∀ {is : List Int} {m : Int}, mostI is = some m → m ∈ is ∧ ∀ y ∈ is, y ≤ m
  | [], m, h => nomatch h
  | i :: is, m, h => by
    unfold mostI at h
    cases e : mostI is with
    | none =>
      rw [e] at h
      cases h
      cases is with
      | nil => exact ⟨List.mem_cons_self, fun y hy => by rw [List.mem_singleton.mp hy]; exact Int.le_refl _⟩
      | cons j js => unfold mostI at e; split at e <;> cases e
    | some k =>
      rw [e] at h
      obtain ⟨a, b⟩ := mostI_ok e
      cases h
      by_cases c : k ≤ i
      · rw [if_pos c]
        exact ⟨List.mem_cons_self, fun y hy => by
          rcases List.mem_cons.mp hy with rfl | hy
          · exact Int.le_refl _
          · exact Int.le_trans (b y hy) c⟩
      · rw [if_neg c]
        exact ⟨List.mem_cons_of_mem _ a, fun y hy => by
          rcases List.mem_cons.mp hy with rfl | hy
          · omega
          · exact b y hy⟩
def gMinL : List D → M D
  | [.lst xs] => M.andThen (M.lift ((intsD xs).bind leastI)) fun m => M.ret (.int m)
  | _ => M.no
def gMaxL : List D → M D
  | [.lst xs] => M.andThen (M.lift ((intsD xs).bind mostI)) fun m => M.ret (.int m)
  | _ => M.no
theorem g_minL : GoodL K EP (rMin K) gMinL := by
  intro S ds vs Q ok r p
  unfold gMinL at p
  split at p
  · obtain ⟨v, rfl, r1⟩ := rvs1 r
    cases r1 with
    | lst h r1 =>
      revert p
      rename_i xs a vs
      cases hb : (intsD xs).bind leastI with
      | none => intro p; exact False.elim p
      | some b =>
        intro p
        obtain ⟨is, e1, e2⟩ := Option.bind_eq_some_iff.mp hb
        have e3 := intsD_rv r1 e1
        subst e3
        obtain ⟨m1, m2⟩ := leastI_ok e2
        refine ⟨_, is, rfl, SqL.of h.1, List.length_pos_iff.mpr (fun z => by rw [z] at m1; cases m1), fun m hm hl => ?_⟩
        have : m = b := Int.le_antisymm (hl b m1) (m2 m hm)
        subst this
        exact ok.ret p _ (.int _)
  · exact False.elim p
theorem g_maxL : GoodL K EP (rMax K) gMaxL := by
  intro S ds vs Q ok r p
  unfold gMaxL at p
  split at p
  · obtain ⟨v, rfl, r1⟩ := rvs1 r
    cases r1 with
    | lst h r1 =>
      revert p
      rename_i xs a vs
      cases hb : (intsD xs).bind mostI with
      | none => intro p; exact False.elim p
      | some b =>
        intro p
        obtain ⟨is, e1, e2⟩ := Option.bind_eq_some_iff.mp hb
        have e3 := intsD_rv r1 e1
        subst e3
        obtain ⟨m1, m2⟩ := mostI_ok e2
        refine ⟨_, is, rfl, SqL.of h.1, List.length_pos_iff.mpr (fun z => by rw [z] at m1; cases m1), fun m hm hl => ?_⟩
        have : m = b := Int.le_antisymm (m2 m hm) (hl b m1)
        subst this
        exact ok.ret p _ (.int _)
  · exact False.elim p
end
end Mi
set_option Elab.async false
set_option linter.all false
set_option maxRecDepth 100000
set_option maxHeartbeats 4000000
set_option exponentiation.threshold 30000
namespace PySem.W
open PySem PySem.Calls
theorem args_lcm4 (a b c d : Value) : argsOk "math.lcm" ⟨[a, b, c, d], []⟩ := by unfold argsOk; kernel_rfl
theorem mg_run_lcm4 (a : Int) (t : Tok) (b : Int) (u : Tok) (c : Int) (v : Tok) (d : Int) (x : Tok) (hc0 : ¬(max 1 a.natAbs).log2 / 30 + 1 > 450) (hc1 : ¬(max (Nat.lcm 1 a.natAbs) b.natAbs).log2 / 30 + 1 > 450) 
    (hc2 : ¬(max ((Nat.lcm 1 a.natAbs).lcm b.natAbs) c.natAbs).log2 / 30 + 1 > 450) (hc3 : ¬(max (((Nat.lcm 1 a.natAbs).lcm b.natAbs).lcm c.natAbs) d.natAbs).log2 / 30 + 1 > 450)
    (hsz : ((((((Nat.lcm 1 a.natAbs).lcm b.natAbs).lcm c.natAbs).lcm d.natAbs : Nat) : Int)).natAbs.log2 < bitsLine) :
    Gives (Builtin.«math.lcm» ⟨[.int a t, .int b u, .int c v, .int d x], []⟩) (.int ((((((Nat.lcm 1 a.natAbs).lcm b.natAbs).lcm c.natAbs).lcm d.natAbs : Nat) : Int))) :=
  .of_wp fun M A E s Q h => by
    obtain ⟨hp, g, dd, tk, os⟩ := s
    wp_walk
    (try (refine wpAny_ite_false (decide_eq_false hc1) ?_; wp_walk))
    (try (refine wpAny_ite_false (decide_eq_false hc2) ?_; wp_walk))
    (try (refine wpAny_ite_false (decide_eq_false hc3) ?_; wp_walk))
    (try (refine wpAny_ite_false (decide_eq_false (Nat.not_le.mpr hsz)) ?_; wp_walk))
    exact ⟨_, rfl, h⟩
theorem lcm_lt {m n p q : Nat} (h : m < 2 ^ p) (g : n < 2 ^ q) : m.lcm n < 2 ^ (p + q) := by
  rw [Nat.pow_add]
  exact Nat.lt_of_le_of_lt (mc_lcm_le m n) (Nat.mul_lt_mul'' h g)
theorem log_room {m n k : Nat} (h : m < 2 ^ (k + 1)) (g : n < 2 ^ (k + 1)) (hk : k ≤ 13000) : ¬(max m n).log2 / 30 + 1 > 450 := by
  have : (max m n).log2 ≤ k := mg_log (Nat.max_lt.mpr ⟨h, g⟩)
  omega
theorem up {m j k : Nat} (h : m < 2 ^ j) (l : j ≤ k) : m < 2 ^ k := Nat.lt_of_lt_of_le h (Nat.pow_le_pow_right (by decide) l)
theorem mg_lcm4 {prog : Program} {w : World} {A : Around} {E : Value → Shared → Prop} {s : Shared} {Q : Value → Shared → Prop} {a b c d : Int} {t u v x : Tok}
    (ha : a.natAbs < 2 ^ 2000) (hb : b.natAbs < 2 ^ 2000) (hc : c.natAbs < 2 ^ 2000) (hd : d.natAbs < 2 ^ 2000)
    (h : Q (.int ((((a.natAbs.lcm b.natAbs).lcm c.natAbs).lcm d.natAbs : Nat) : Int) s.toks) { s with toks := s.toks + 1 }) :
    wpAny (model prog w) A (call (.builtin "math.lcm") [.int a t, .int b u, .int c v, .int d x]) Q E s := by
  have h2 := lcm_lt ha hb
  have h3 := lcm_lt h2 hc
  have h4 := lcm_lt h3 hd
  have g := mg_run_lcm4 a t b u c v d x
    (log_room (k := 1999) (by exact Nat.one_lt_two_pow (by decide)) ha (by decide))
    (by rw [mc_lcm_one]; exact log_room (k := 1999) ha hb (by decide))
    (by rw [mc_lcm_one]; exact log_room (k := 3999) h2 (up hc (by decide)) (by decide))
    (by rw [mc_lcm_one]; exact log_room (k := 5999) h3 (up hd (by decide)) (by decide))
    (by rw [mc_lcm_one]; exact mc_size (k := 125) (Nat.le_of_lt h4) (by decide))
  rw [mc_lcm_one] at g
  exact call_function_meets MGF.kind_lcm MGF.plain_lcm MGF.entry_lcm (args_lcm4 _ _ _ _) g.meets h
end PySem.W
namespace Mi
open PySem PySem.Spec PyProof.Rows L2
section
variable {X : Cx} {EP : EPT} {K : PySem.W.Frag}
def okLcm (i : Int) : Bool := decide (i.natAbs < 2 ^ 2000)
def rLcm4 : List V → Hp → VK → Prop := fun vs H Q => ∃ a b c d : Int, vs = [.int a, .int b, .int c, .int d] ∧ (okLcm a && (okLcm b && (okLcm c && okLcm d))) = true ∧ Q (.int ((((a.natAbs.lcm b.natAbs).lcm c.natAbs).lcm d.natAbs : Nat) : Int)) H
theorem cr_lcm4 : CallR X (.builtin "math.lcm") rLcm4 := by
  intro pins s σ H vs us Q I r h
  obtain ⟨a, b, c, d, rfl, k, q⟩ := h
  obtain ⟨t, u, v, x, rfl⟩ := Vals.int4 r
  have k1 := Bool.and_eq_true_iff.mp k
  have k2 := Bool.and_eq_true_iff.mp k1.2
  have k3 := Bool.and_eq_true_iff.mp k2.2
  unfold okLcm at k1 k2 k3
  exact PySem.W.mg_lcm4 (of_decide_eq_true k1.1) (of_decide_eq_true k2.1) (of_decide_eq_true k3.1) (of_decide_eq_true k3.2) ⟨.int _, H, I.tok _, ⟨_, rfl⟩, q⟩
def gLcm4 : List D → M D
  | [.int a, .int b, .int c, .int d] => M.when (okLcm a && (okLcm b && (okLcm c && okLcm d))) (M.ret (.int ((((a.natAbs.lcm b.natAbs).lcm c.natAbs).lcm d.natAbs : Nat) : Int)))
  | _ => M.no
theorem g_lcm4 : GoodL K EP rLcm4 gLcm4 := by
  intro S ds vs Q ok r p
  unfold gLcm4 at p
  split at p
  · cases r with
    | cons r1 r =>
      cases r with
      | cons r2 r =>
        obtain ⟨v, w, rfl, r3, r4⟩ := rvs2 r
        cases r1; cases r2; cases r3; cases r4
        rename_i a b c d
        cases hk : (okLcm a && (okLcm b && (okLcm c && okLcm d))) with
        | false => rw [hk] at p; exact False.elim p
        | true => rw [hk] at p; exact ⟨_, _, _, _, rfl, hk, ok.ret p _ (.int _)⟩
  · exact False.elim p
end
end Mi
set_option Elab.async false
set_option linter.all false
set_option maxRecDepth 100000
set_option maxHeartbeats 4000000
namespace Mi
open PySem PySem.Spec PyProof.Rows L2
/-! constants of the module: tuples in tuples -/
structure CoV (K : PySem.W.Frag) (d : D) (u : Value) : Type where
  v : V
  rel : RelV v u
  rv : ∀ S : Sit, RV K S d v
structure CoVs (K : PySem.W.Frag) (ds : List D) (us : List Value) : Type where
  vs : List V
  rel : Vals vs us
  rv : ∀ S : Sit, RVs K S ds vs
section
variable {K : PySem.W.Frag}
def cv_i {i : Int} {t : Tok} : CoV K (.int i) (.int i t) := ⟨.int i, ⟨t, rfl⟩, fun _ => .int i⟩
def cvs_nil : CoVs K [] [] := ⟨[], .nil, fun _ => .nil⟩
def cvs_cons {d : D} {ds : List D} {u : Value} {us : List Value} (c : CoV K d u) (cs : CoVs K ds us) : CoVs K (d :: ds) (u :: us) := ⟨c.v :: cs.vs, .cons c.rel cs.rel, fun S => .cons (c.rv S) (cs.rv S)⟩
def cv_t {ds : List D} {a : Addr} {dd : Option Addr} {its : Array Value} {n : Nat} {sl : Array (Option Value)} (l : K.lookup a = some ⟨.type "tuple", dd, .seq its n, sl⟩) (hz : its.size ≤ 1000) (c : CoVs K ds its.toList) : CoV K (.tup ds) (.ref a) :=
  ⟨.ref a, rfl, fun S => .tup (.inr ⟨_, its, n, l, rfl, rfl, (by rw [sizeLine_eq]; omega), c.rel⟩) (c.rv S)⟩
def co_v {mg : Str → Option Value} {x : Str} {d : D} {u : Value} (h : mg x = some u) (c : CoV K d u) : CoAt K mg x d := ⟨c.v, u, h, c.rel, c.rv⟩
end
section
variable {X : Cx} {EP : EPT} {pos : Pos}
theorem t_din {i o : Expr} {fi fo : Lc → M D} (rm : Rm X) (hi : PE X i (TD X.K EP fi)) (ho : PE X o (TD X.K EP fo)) (hm : behindInMarks .In o = false := by rfl) : PT X (.Compare i [.In] [o] pos) (TB X.K EP (tV (e2 g_din fi fo))) :=
  PT.by (pt_cmp (pc_din (by have := rm.un; omega) hi ho) hm) fun _ _ _ q => run2 (Q := fun x H' => ∃ k, x = .bl k ∧ _) (r := fun y x H Q => ∃ a o, x = V.ref a ∧ DGet H a y o ∧ Q (.bl o.isSome) H) good_din (runB q)
theorem t_dnotin {i o : Expr} {fi fo : Lc → M D} (rm : Rm X) (hi : PE X i (TD X.K EP fi)) (ho : PE X o (TD X.K EP fo)) (hm : behindInMarks .NotIn o = false := by rfl) : PT X (.Compare i [.NotIn] [o] pos) (TB X.K EP (tV (e2 g_dnotin fi fo))) :=
  PT.by (pt_cmp (pc_dnotin (by have := rm.un; omega) hi ho) hm) fun _ _ _ q => run2 (Q := fun x H' => ∃ k, x = .bl k ∧ _) (r := fun y x H Q => ∃ a o, x = V.ref a ∧ DGet H a y o ∧ Q (.bl (!o.isSome)) H) good_dnotin (runB q)
end
end Mi
set_option Elab.async false
set_option linter.all false
set_option maxRecDepth 100000
set_option maxHeartbeats 4000000
namespace Mi
open PySem PySem.Spec PyProof.Rows L2
section
variable {X : Cx} {EP : EPT}
/-! reversed(tuple), walked -/
def itRT : D → M (List D)
  | .tup xs => M.ret xs.reverse
  | _ => M.no
theorem rev_at {α : Type} {xs : List α} {i : Nat} (h : i < xs.length) : xs.reverse[i]? = xs[xs.length - 1 - i]? := List.getElem?_reverse h
theorem i_revT {tg e : Expr} {f : Lc → M D} {p pos : Pos} (hg : Gl X "reversed") (hm : X.mg "reversed" = none) (he : PE X e (TD X.K EP f)) (hs : starEach [e] X.env = (false, eval e X.env) :: starEach [] X.env := by rfl) :
    PI X tg (.Call (.Name "reversed" p) [e] [] pos) (TI' X.K EP (iOf itRT f)) := by
  refine PI.by (RT.pi_revA hg hm he hs) fun σ H R ⟨S, env, e0, ok, re, q0⟩ => ?_
  subst e0
  refine ⟨S, env, rfl, ok, re, (Post.split q0).imp fun d S1 x1 o1 q v rv => ?_⟩
  unfold itRT at q
  split at q
  · cases rv with
    | tup h r =>
      rename_i xs a vs
      refine ⟨_, _, rfl, .inr ⟨h.seq, o1.ret q _ ⟨fun S' i x hi => ?_, fun S' x => ?_, fun S' i y H' x o hy d hd => ?_⟩⟩⟩
      · rw [List.length_reverse] at hi
        have hl := r.length
        obtain ⟨w, e, _⟩ := r.get (List.getElem?_eq_getElem (show xs.length - 1 - i < xs.length by omega))
        exact ⟨by omega, _, w, (h.ext x).seq, by rw [← hl]; exact e⟩
      · show _ ≤ _
        rw [List.length_reverse, r.length]
        exact Nat.le_refl _
      · obtain ⟨e1, e2⟩ := hy
        have hi : i < _ := (List.getElem?_eq_some_iff.mp hd).1
        rw [List.length_reverse] at hi
        rw [rev_at hi] at hd
        obtain ⟨w, e, rw⟩ := r.get hd
        have e3 := e2 _ (h.ext x).seq
        rw [← r.length, e] at e3
        cases e3
        exact ⟨e1, rw⟩
  · exact False.elim q
end
end Mi
set_option Elab.async false
set_option linter.all false
set_option maxRecDepth 100000
set_option maxHeartbeats 4000000
namespace Mi
open PySem PySem.Spec PyProof.Rows L2
section
variable {X : Cx} {EP : EPT} {K : PySem.W.Frag} {pos : Pos}
/-! ## a list of the mirror's heap, held against data; a place of it set -/
def gNeH (x y : D) : M D := match x with
  | .ref n => M.andThen (getO n) fun o => M.andThen (M.lift (getL o)) fun xs => M.when (okEq (.lst xs) y) (M.ret (.bl (!PyData.eqv (D.p (.lst xs)) y.p)))
  | _ => gNe x y
theorem g_neH : Good2 K EP (rNeAll K) gNeH := by
  intro S x y v w Q ok rx ry p
  unfold gNeH at p
  split at p
  · cases rx with
    | ref hi =>
      obtain ⟨ds, vs, e1, e2, r, p⟩ := Post.gotL p ok
      obtain ⟨c, p⟩ := Post.whened p
      obtain ⟨c1, c2, c3, c4⟩ := okEq_ok c
      exact .inr ⟨_, _, .lst (SqL.of e2) (r.dp c1), ry.dp c2, c3, c4, ok.ret p _ (.bl _)⟩
  · exact g_ne S _ _ _ _ _ ok rx ry p
def gEqH (x y : D) : M D := match x with
  | .ref n => M.andThen (getO n) fun o => M.andThen (M.lift (getL o)) fun xs => M.when (okEq (.lst xs) y) (M.ret (.bl (PyData.eqv (D.p (.lst xs)) y.p)))
  | _ => gEq x y
theorem g_eqH : Good2 K EP (rEqAll K) gEqH := by
  intro S x y v w Q ok rx ry p
  unfold gEqH at p
  split at p
  · cases rx with
    | ref hi =>
      obtain ⟨ds, vs, e1, e2, r, p⟩ := Post.gotL p ok
      obtain ⟨c, p⟩ := Post.whened p
      obtain ⟨c1, c2, c3, c4⟩ := okEq_ok c
      exact .inr (.inl ⟨_, _, .lst (SqL.of e2) (r.dp c1), ry.dp c2, c3, c4, ok.ret p _ (.bl _)⟩)
  · exact g_eq S _ _ _ _ _ ok rx ry p
theorem RVs.set {S : Sit} {d : D} {v : V} (rv : RV K S d v) : ∀ {ds : List D} {vs : List V} (n : Nat), RVs K S ds vs → RVs K S (ds.set n d) (vs.set n v)
  | _, _, _, .nil => .nil
  | _, _, 0, .cons _ t => .cons rv t
  | _, _, n + 1, .cons r t => .cons r (RVs.set rv n t)
/-- o[i] = .., o a list of the mirror's heap -/
def gSt (fo fi : Lc → M D) : D → Lc → M Lc := fun d env => M.andThen (fo env) fun x => M.andThen (fi env) fun y => match x, y with
  | .ref n, .int i => M.andThen (getO n) fun o => M.andThen (M.lift (getL o)) fun xs => M.andThen (M.lift (ixN xs.length i)) fun j => M.andThen (putO n (.lst (xs.set j d))) fun _ => M.ret env
  | _, _ => M.no
theorem g_st {o i : Expr} {fo fi : Lc → M D} (ho : PE X o (TD X.K EP fo)) (hi : PE X i (TD X.K EP fi))
    (ha : ∀ v, assign (.Subscript o i pos) X.env v = (do
      let ov ← holding [v] (eval o X.env)
      let iv ← holding [v, ov] (eval i X.env)
      standAt pos
      holding [v, ov, iv] (setItem ov iv v)
      release [v, ov, iv] []) := by intro _; rfl) : PG X (.Subscript o i pos) (TGo X.K EP (gSt fo fi)) := by
  refine PG.by (pg_sub ho hi set_list ha) fun v σ H Q ⟨S, env, d, e, ok, re, rv, p⟩ => ?_
  subst e
  refine ⟨S, env, rfl, ok, re, (Post.split p).imp fun x S1 x1 o1 q1 xv rx => ⟨S1, env, rfl, o1, re.ext x1, (Post.split q1).imp fun y S2 x2 o2 q2 yv ry => ?_⟩⟩
  have rx := rx.ext x2
  have rv := (rv.ext x1).ext x2
  have re := (re.ext x1).ext x2
  split at q2
  · cases ry
    cases rx with
    | @ref n hi =>
      obtain ⟨ds, vs, e1, e2, r, q2⟩ := Post.gotL q2 o2
      obtain ⟨j, k1, q2⟩ := Post.lifted (Post.split q2) o2
      have r' := r.set rv j
      have z := Post.putted (u := .lst (vs.set j v)) (Post.split q2) o2 e1 (.lst r')
      have x4 := Sit.put_ext o2 (u := .lst (vs.set j v)) (o := .lst (ds.set j d)) e1
      exact ⟨_, _, _, j, rfl, rfl, e2, by rw [← r.length]; exact k1, (Sit.put_ok o2 e1 (.lst r')).ret (a := env) z σ (re.ext x4)⟩
  · exact False.elim q2
end
end Mi
set_option Elab.async false
set_option linter.all false
set_option maxRecDepth 100000
set_option maxHeartbeats 4000000
namespace Mi
open PySem PySem.Spec PyProof.Rows L2
section
variable {X : Cx} {EP : EPT} {K : PySem.W.Frag} {pos : Pos}
/-! ## x in a list of data of any depth -/
def gInD (x y : D) : M D := match y with
  | .lst ys => M.when (okEq x (.lst ys)) (M.ret (.bl ((D.ps ys).any fun z => PyData.eqv z x.p)))
  | _ => M.no
def gNotInD (x y : D) : M D := match y with
  | .lst ys => M.when (okEq x (.lst ys)) (M.ret (.bl (!(D.ps ys).any fun z => PyData.eqv z x.p)))
  | _ => M.no
theorem g_inD : Good2 K EP (rInD K) gInD := by
  intro S x y v w Q ok rx ry p
  unfold gInD at p
  split at p
  · obtain ⟨c, p⟩ := Post.whened p
    obtain ⟨c1, c2, c3, c4⟩ := okEq_ok c
    exact ⟨_, _, rx.dp c1, ry.dp c2, c3, c4, ok.ret p _ (.bl _)⟩
  · exact False.elim p
theorem g_notInD : Good2 K EP (rNotInD K) gNotInD := by
  intro S x y v w Q ok rx ry p
  unfold gNotInD at p
  split at p
  · obtain ⟨c, p⟩ := Post.whened p
    obtain ⟨c1, c2, c3, c4⟩ := okEq_ok c
    exact ⟨_, _, rx.dp c1, ry.dp c2, c3, c4, ok.ret p _ (.bl _)⟩
  · exact False.elim p
/-! a, b = .., of a tuple or a list -/
def gTL (n : Nat) (r : List D → Lc → M Lc) : D → Lc → M Lc := fun d env => match d with
  | .tup ds => M.when (decide (ds.length = n)) (r ds env)
  | .lst ds => M.when (decide (ds.length = n)) (r ds env)
  | _ => M.no
theorem pg_or {e : Expr} {t1 t2 : TG} (h1 : PG X e t1) (h2 : PG X e t2) : PG X e (fun v σ H Q => t1 v σ H Q ∨ t2 v σ H Q) :=
  ⟨fun pins s σ H v u Q I r q => q.elim (fun q => h1.run pins s σ H v u Q I r q) fun q => h2.run pins s σ H v u Q I r q⟩
theorem g_seqT {es : List Expr} {k n : Nat} {r : List D → Lc → M Lc} (rm : Rm X) (h : PGs X es (TGs' X.K EP r)) (hn : (assignEach es X.env).length = n := by rfl) (hst : (assignEach es X.env).findIdx? (·.1) = none := by rfl) :
    PG X (.Tuple es k pos) (TGo X.K EP (gTL n r)) := by
  refine PG.by (pg_or (pg_tup rm.cm h hn hst) (pg_lst rm.cm h hn hst)) fun v σ H Q ⟨S, env, d, e, ok, re, rv, p⟩ => ?_
  subst e
  unfold gTL at p
  split at p
  · cases rv with
    | tup h1 r1 =>
      obtain ⟨c, p⟩ := Post.whened p
      exact .inl ⟨_, _, rfl, h1.seq, by rw [← r1.length]; exact of_decide_eq_true c, S, env, _, rfl, ok, re, r1, p⟩
  · cases rv with
    | lst h1 r1 =>
      obtain ⟨c, p⟩ := Post.whened p
      exact .inr ⟨_, _, rfl, SqL.of h1.1, by rw [← r1.length]; exact of_decide_eq_true c, S, env, _, rfl, ok, re, r1, p⟩
  · exact False.elim p
end
end Mi
set_option Elab.async false
set_option linter.all false
set_option maxRecDepth 100000
set_option maxHeartbeats 4000000
namespace Mi
open PySem PySem.Spec PyProof.Rows L2
/-! comprehensions whose list is changed later on -/
def eLcN (it : Lc → M (List D)) (go : D → Lc → Option Lc) (tt : Lc → M Bool) (el : Lc → M D) (vs : List Nat) : Lc → M D := fun env => M.andThen (it env) fun ds => M.when (decide (ds.length ≤ sizeLine)) (M.andThen (hush (lc go tt el vs env ds)) fun ys => newO (.lst ys))
section
variable {X : Cx} {EP : EPT} {pos : Pos} {K : PySem.W.Frag}
theorem lc_runN {g : TG} {go : D → Lc → Option Lc} {tt : Lc → M Bool} {el : Lc → M D} {vs : List Nat} (raw : Raw K g go vs) {it : Lc → M (List D)} {σ : St} {H : Hp} {Q : VK} (h : TD K EP (eLcN it go tt el vs) σ H Q) :
    tLc (TI' K EP it) g (TB K EP0 tt) (TD K EP0 el) vs σ H Q := by
  obtain ⟨S, env, rfl, ok, re, p⟩ := h
  refine ⟨S, env, rfl, ok, re, (Post.split p).imp fun ds S1 x1 o1 q J sv D hD => ?_⟩
  obtain ⟨hlen, q⟩ := Post.whened q
  have hlen := of_decide_eq_true hlen
  have q := Post.hushed (Post.split q)
  have re := re.ext x1
  obtain ⟨ok0, e0, op0⟩ := Sit.open_ok o1 (u := .lst []) hD
  have str0 := strip_open (u := .lst []) hD
  have hide0 : ∀ (σ : St) (e : Ex) (S' : Sit), Opn S' D S1.busy → EP0 σ e (S'.strip D S1.busy) → EP0 σ e S' := fun _ _ _ _ z => z
  refine ⟨fun i' m H' => ∃ S2 accD accV, S2.H = H' ∧ Ok K S2 ∧ Opn S2 D S1.busy ∧ Ext S1 (S2.strip D S1.busy) ∧ RE K S2 env σ ∧ (∀ d v, RV K S1 d v → RV K S2 d v) ∧ S2.H D = some (.lst accV) ∧ RVs K S2 accD accV ∧ accD.length ≤ i' ∧ i' + m = ds.length ∧
      Post K EP0 (S2.strip D S1.busy) (fun ys S' => Post K EP S' (GV K Q) (newO (.lst (accD ++ ys)) S'.ah)) (lc go tt el vs env (ds.drop i') S2.ah),
    ⟨ds.length, S1.open D (.lst []), [], [], rfl, ok0, op0, by rw [str0]; exact Ext.refl _, re.ext0 e0, fun d v r => r.ext0 e0, upd_same, .nil, Nat.zero_le _, by omega, by rw [str0, List.drop_zero]; exact q⟩, fun i' m H' hW => ?_⟩
  obtain ⟨S2, accD, accV, rfl, ok2, op2, x2, re2, rv2, hd2, acc2, hle, hm, p2⟩ := hW
  obtain ⟨ok3, x3, e3, st3⟩ := Sit.shut_ok op2 ok2
  by_cases hl : i' < ds.length
  · obtain ⟨d, g1, g2⟩ := drop_get hl
    rw [g2] at p2
    refine .inr ⟨sv.go (S2.shut S1.busy) i' (x2.trans x3) hl, fun H' => ∃ S3 accD accV, S3.H = H' ∧ Ok K S3 ∧ Opn S3 D S1.busy ∧ Ext S1 (S3.strip D S1.busy) ∧ RE K S3 env σ ∧ (∀ d v, RV K S1 d v → RV K S3 d v) ∧ S3.H D = some (.lst accV) ∧ RVs K S3 accD accV ∧ accD.length ≤ i' + 1 ∧
        Post K EP0 (S3.strip D S1.busy) (fun ys S' => Post K EP S' (GV K Q) (newO (.lst (accD ++ ys)) S'.ah)) (lc go tt el vs env (ds.drop (i' + 1)) S3.ah),
      fun H' ⟨S3, aD, aV, b1, b2, b3, b4, b5, b6, b7, b8, b9, b10⟩ => ⟨m - 1, by omega, S3, aD, aV, b1, b2, b3, b4, b5, b6, b7, b8, b9, by omega, b10⟩, fun x H' hy => ?_⟩
    obtain ⟨rfl, rv⟩ := sv.yld (S2.shut S1.busy) i' x H' (x2.trans x3) ok3 hy d g1
    have rv := rv2 _ _ rv
    obtain ⟨env1, he1, p2⟩ := Post.lifted (Post.split p2) (Sit.strip_ok op2 ok2)
    refine raw S2 env env1 σ d x _ ok2 re2 rv he1 fun σ2 reσ hw => ⟨hw, S2, env1, rfl, ok2, reσ, (Post.hide op2 ok2 hide0 (Post.split p2)).imp fun b S3 y3 o3 q3 => ?_⟩
    have op3 := op2.ext y3
    have hd3 : S3.H D = some (.lst accV) := (y3.keep D (by rw [op2.b]; exact List.mem_cons_self)).trans hd2
    cases b with
    | false =>
      exact ⟨S3, accD, accV, rfl, o3, op3, x2.trans (Sit.strip_ext op2 ok2 y3), re2.ext y3, fun d v r => (rv2 d v r).ext y3, hd3, acc2.ext y3, by omega, q3⟩
    | true =>
      refine ⟨S3, env1, rfl, o3, reσ.ext y3, (Post.hide op3 o3 hide0 (Post.split q3)).imp fun y S4 y4 o4 q4 w rw4 => ?_⟩
      have op4 := op3.ext y4
      have hd4 : S4.H D = some (.lst accV) := (y4.keep D (by rw [op3.b]; exact List.mem_cons_self)).trans hd3
      have acc4 := (acc2.ext y3).ext y4
      obtain ⟨o5, e5, op5⟩ := Sit.poke_ok (u := .lst (accV ++ [w])) op4 o4
      refine ⟨accV, hd4, by rw [← acc4.length]; omega, S4.poke D (.lst (accV ++ [w])), accD ++ [y], accV ++ [w], rfl, o5, op5, by rw [strip_poke]; exact (x2.trans (Sit.strip_ext op2 ok2 y3)).trans (Sit.strip_ext op3 o3 y4), ((re2.ext y3).ext y4).ext0 e5,
        fun d v r => (((rv2 d v r).ext y3).ext y4).ext0 e5, upd_same, (acc4.append (.cons rw4 .nil)).ext0 e5, by rw [List.length_append]; simp only [List.length_singleton]; omega, ?_⟩
      rw [strip_poke]
      refine (Post.split q4).imp fun ys S6 y6 o6 q6 => ?_
      have z := Post.ret (G := fun ys S' => Post K EP S' (GV K Q) (newO (.lst (accD ++ ys)) S'.ah)) q6 o6
      rw [List.append_assoc]
      exact z
  · have e : i' = ds.length := by omega
    subst e
    rw [List.drop_length] at p2
    refine .inl ⟨sv.stop (S2.shut S1.busy) (x2.trans x3), ?_⟩
    have ok4 := Sit.strip_ok op2 ok2
    have z : Post K EP (S2.strip D S1.busy) (GV K Q) (newO (.lst (accD ++ [])) (S2.strip D S1.busy).ah) := p2 (S2.strip D S1.busy) (Ext.refl _) ok4 rfl
    rw [List.append_nil] at z
    have h := new_lstN (vs := accV) ok4 (acc2.ext0 (strip_e0 op2)) z D (by show (if D = D then none else S2.H D) = none; rw [if_pos rfl])
    have eH : upd (S2.strip D S1.busy).H D (.lst accV) = S2.H := by
      funext a
      by_cases z : a = D
      · rw [z, hd2]; exact upd_same
      · rw [upd_ne z]; exact strip_H z
    rw [eH] at h
    exact h
/-- [elt for tg in iter if ..] -/
theorem d_lcN {elt tg iter : Expr} {ifs : List Expr} {scope : Scope} {own : List (Str × Nat)} {g : TG} {go : D → Lc → Option Lc} {it : Lc → M (List D)} {tt : Lc → M Bool} {el : Lc → M D} (rm : Rm X) (hN : X.N.Nodup) (hi : PI X tg iter (TI' X.K EP it)) (ok : BlkOk X.N X.env.scope scope own)
    (raw : Raw X.K g go (own.map (·.2)))
    (hg : ∀ (s : Shared) (H : Hp) (C : Addr) (cl : List (Str × Addr)) (fp : List Addr), PG (X.blk s H scope (compEnvC scope cl C X.env) fp) tg g)
    (ht : ∀ (s : Shared) (H : Hp) (C : Addr) (cl : List (Str × Addr)) (fp : List Addr), PTs (X.blk s H scope (compEnvC scope cl C X.env) fp) ifs (TB X.K EP0 tt))
    (he : ∀ (s : Shared) (H : Hp) (C : Addr) (cl : List (Str × Addr)) (fp : List Addr), PE (X.blk s H scope (compEnvC scope cl C X.env) fp) elt (TD X.K EP0 el)) (hs : ∀ x, foldedSetIterable iter X.env x = pure x := by intro _; rfl) :
    PE X (.ListComp elt [{ target := tg, iter := iter, ifs := ifs, is_async := 0 }] scope pos) (TD X.K EP (eLcN it go tt el (own.map (·.2)))) :=
  PE.by (pe_lc rm.cm hN hi ok hg ht he hs) fun _ _ _ h => lc_runN raw h
theorem s_setLcN (i : Nat) {y : Str} {py : Pos} {elt tg iter : Expr} {ifs : List Expr} {scope : Scope} {own : List (Str × Nat)} {spos : Pos} {g : TG} {go : D → Lc → Option Lc} {it : Lc → M (List D)} {tt : Lc → M Bool} {el : Lc → M D} (rm : Rm X) (hN : X.N.Nodup)
    (hi : PI X tg iter (TI' X.K EP it)) (ok : BlkOk X.N X.env.scope scope own)
    (raw : Raw X.K g go (own.map (·.2)))
    (hg : ∀ (s : Shared) (H : Hp) (C : Addr) (cl : List (Str × Addr)) (fp : List Addr), PG (X.blk s H scope (compEnvC scope cl C X.env) fp) tg g)
    (ht : ∀ (s : Shared) (H : Hp) (C : Addr) (cl : List (Str × Addr)) (fp : List Addr), PTs (X.blk s H scope (compEnvC scope cl C X.env) fp) ifs (TB X.K EP0 tt))
    (he : ∀ (s : Shared) (H : Hp) (C : Addr) (cl : List (Str × Addr)) (fp : List Addr), PE (X.blk s H scope (compEnvC scope cl C X.env) fp) elt (TD X.K EP0 el))
    (hy : X.N[i]? = some y := by rfl) (hyl : X.env.scope.names.lookup y = some .local := by rfl)
    (hsw : swapsWith (.ListComp elt [{ target := tg, iter := iter, ifs := ifs, is_async := 0 }] scope pos) (some (.Name y py)) spos.line X.env = pure true := by exact sw_true rfl rfl rfl (by decide +kernel))
    (hs : ∀ x, foldedSetIterable iter X.env x = pure x := by intro _; rfl) :
    PS X (.Assign [.Name y py] (.ListComp elt [{ target := tg, iter := iter, ifs := ifs, is_async := 0 }] scope pos) spos) (TF X.K EP (sSet i (eLcN it go tt el (own.map (·.2))))) := by
  refine PS.by (ps_setLc (i := i) rm.cm hN hy hyl hsw hi ok hg ht he hs) fun σ H Dn ⟨S, env, e, o, re, p⟩ => ?_
  subst e
  refine lc_runN (EP := EP) raw ⟨S, env, rfl, o, re, (Post.split p).imp fun d S1 x1 o1 q v rv => o1.ret (a := (Fl.nx, env.set i (some d))) q _ ((re.ext x1).set i rv)⟩
end
end Mi
set_option Elab.async false
set_option linter.all false
set_option maxRecDepth 100000
set_option maxHeartbeats 4000000
namespace Mi
open PySem PySem.Spec PyProof.Rows L2
section
variable {X : Cx} {EP : EPT} {K : PySem.W.Frag} {pos : Pos}
/-! ## x.pop(i) of a list of the mirror's heap -/
def idxOf (y : D) (n : Nat) : Option Nat := match y with
  | .int i => if -(2 ^ 63) ≤ i then (if i < 2 ^ 63 then seqIndex? i n else none) else none
  | _ => none
def gPopAt (x y : D) : M D := match x with
  | .ref n => M.andThen (getO n) fun o => M.andThen (M.lift (getL o)) fun xs => M.andThen (M.lift (idxOf y xs.length)) fun k => M.andThen (M.lift (xs[k]?)) fun d => M.andThen (putO n (.lst (xs.eraseIdx k))) fun _ => M.ret d
  | _ => M.no
def ePopAt (fo fe : Lc → M D) : Lc → M D := fun env => M.andThen (fo env) fun x => M.andThen (isL x) fun _ => M.andThen (fe env) fun y => gPopAt x y
theorem RVs.erase {S : Sit} : ∀ {ds : List D} {vs : List V} (k : Nat), RVs K S ds vs → RVs K S (ds.eraseIdx k) (vs.eraseIdx k)
  | _, _, _, .nil => .nil
  | _, _, 0, .cons _ t => t
  | _, _, k + 1, .cons r t => .cons r (RVs.erase k t)
theorem idxOf_rv {S : Sit} {y : D} {v : V} {n k : Nat} (r : RV K S y v) (h : idxOf y n = some k) : ∃ i, v = .int i ∧ -(2 ^ 63) ≤ i ∧ i < 2 ^ 63 ∧ seqIndex? i n = some k := by
  cases r with
  | int i =>
    unfold idxOf at h
    simp only at h
    split at h
    · rename_i h1
      split at h
      · rename_i h2; exact ⟨i, rfl, h1, h2, h⟩
      · cases h
    · cases h
  | _ => cases h
theorem d_popAt {o e : Expr} {fo fe : Lc → M D} {apos cpos : Pos} (ho : PE X o (TD X.K EP fo)) (he : PE X e (TD X.K EP fe)) (hs : starEach [e] X.env = (false, eval e X.env) :: starEach [] X.env := by rfl)
    (hbase : attributeBase o "pop" X.env (eval o X.env) = eval o X.env := by rfl)
    (hall : ((backTo cpos (starEach [e] X.env)).all (fun x => !x.1) && (backToKw cpos (keywordEach [] X.env)).all (fun x => x.1.isSome) && decide (([e] : List Expr).length + ([] : List Keyword).length + (if ([] : List Keyword).isEmpty = true then 0 else 1) < 30)) = true := by rfl)
    (hline : (apos.endLine == cpos.line) = true := by rfl) (hpl : (backTo cpos (starEach [] X.env)).any (·.1) = false := by rfl) :
    PE X (.Call (.Attribute o "pop" apos) [e] [] cpos) (TD X.K EP (ePopAt fo fe)) := by
  refine PE.by (pe_bm PySem.F.plainAttrs_list PySem.F.slot_list_pop PySem.F.type_list_pop mt_popAt ho (as_cons (EP := EP) he as_nil hs) hbase hall hline hs hpl) fun σ H Q ⟨S, env, e, ok, re, p⟩ => ?_
  subst e
  refine ⟨S, env, rfl, ok, re, (Post.split p).imp fun x S1 x1 o1 q1 v rx => ?_⟩
  obtain ⟨⟨a, vs, rfl, ha⟩, q2⟩ := post_isL o1 rx q1
  refine ⟨.inl ⟨rfl, _, SqL.of ha⟩, S1, env, rfl, o1, re.ext x1, ?_⟩
  have q3 : Post X.K EP S1 (GV X.K Q) (M.andThen (esC fe esN env) (fun ys => match ys with
      | [y] => gPopAt x y
      | _ => M.no) S1.ah) := by
    rw [andThen_es1]
    exact q2
  refine (Post.split q3).imp fun ys S2 x2 o2 q4 ws rws => ?_
  split at q4
  · rename_i y
    obtain ⟨w, rfl, rw1⟩ := rvs1 rws
    have rx := rx.ext x2
    unfold gPopAt at q4
    split at q4
    · cases rx with
      | @ref n hi =>
        obtain ⟨ds, vs2, e1, e2, r, q5⟩ := Post.gotL q4 o2
        obtain ⟨k, k1, q5⟩ := Post.lifted (Post.split q5) o2
        obtain ⟨d, d1, q5⟩ := Post.lifted (Post.split q5) o2
        obtain ⟨u, u1, ru⟩ := r.get d1
        obtain ⟨i, rfl, i1, i2, i3⟩ := idxOf_rv rw1 k1
        have r' : RVs X.K S2 (ds.eraseIdx k) (vs2.eraseIdx k) := r.erase k
        have z := Post.putted (u := .lst (vs2.eraseIdx k)) (Post.split q5) o2 e1 (.lst r')
        exact ⟨_, _, i, k, u, rfl, rfl, e2, i1, i2, by rw [← r.length]; exact i3, u1, (Sit.put_ok o2 e1 (.lst r')).ret (a := d) z u (ru.ext (Sit.put_ext o2 e1))⟩
    · exact False.elim q4
  · exact False.elim q4
/-! ## d.get(k, x) -/
def gGet2 (x y z : D) : M D := match x with
  | .ref n => M.andThen (getO n) fun o => M.andThen (M.lift (getK o)) fun kds => M.andThen (M.lift (toKey y)) fun k => M.ret ((lookD kds k).getD z)
  | _ => M.no
def isK (x : D) : M Unit := match x with
  | .ref n => M.andThen (getO n) fun o => M.andThen (M.lift (getK o)) fun _ => M.ret ()
  | _ => M.no
def eGet2 (fo fe ff : Lc → M D) : Lc → M D := fun env => M.andThen (fo env) fun x => M.andThen (isK x) fun _ => M.andThen (fe env) fun y => M.andThen (ff env) fun z => gGet2 x y z
theorem post_isK {S : Sit} {β : Type} {G : β → Sit → Prop} {x : D} {v : V} {f : Unit → M β} (ok : Ok K S) (rx : RV K S x v) (h : Post K EP S G (M.andThen (isK x) f S.ah)) : (∃ a, v = .ref a ∧ ∃ kvs, S.H a = some (.dK kvs)) ∧ Post K EP S G (f () S.ah) := by
  have p := Post.split h
  unfold isK at p
  split at p
  · cases rx with
    | ref hi =>
      obtain ⟨ds, vs, e1, e2, r, p⟩ := Post.gotK p ok
      exact ⟨⟨_, rfl, vs, e2⟩, ok.ret p⟩
  · exact False.elim p
theorem d_get2' {o e f : Expr} {fo fe ff : Lc → M D} {apos cpos : Pos} (rm : Rm X) (ho : PE X o (TD X.K EP fo)) (he : PE X e (TD X.K EP fe)) (hf : PE X f (TD X.K EP ff)) (m : M2 X o "get" apos e f cpos := by exact ⟨rfl, rfl, rfl, rfl⟩) :
    PE X (.Call (.Attribute o "get" apos) [e, f] [] cpos) (TD X.K EP (eGet2 fo fe ff)) := by
  refine PE.by (pe_dget2 (by have := rm.un; omega) ho he hf m) fun σ H Q ⟨S, env, e, ok, re, p⟩ => ?_
  subst e
  refine ⟨S, env, rfl, ok, re, (Post.split p).imp fun x S1 x1 o1 q1 v rx => ?_⟩
  obtain ⟨⟨a, rfl, kvs, ha⟩, q2⟩ := post_isK o1 rx q1
  refine ⟨a, rfl, .inl ⟨kvs, .inl ha⟩, S1, env, rfl, o1, re.ext x1, (Post.split q2).imp fun y S2 x2 o2 q3 yv ry => ⟨S2, env, rfl, o2, (re.ext x1).ext x2, (Post.split q3).imp fun z S3 x3 o3 q4 zv rz => ?_⟩⟩
  have rx := (rx.ext x2).ext x3
  have ry := ry.ext x3
  unfold gGet2 at q4
  split at q4
  · cases rx with
    | @ref n hi =>
      obtain ⟨kds, kvs2, e1, e2, r, q5⟩ := Post.gotK q4 o3
      obtain ⟨k, k1, q5⟩ := Post.lifted (Post.split q5) o3
      cases hl : lookD kds k with
      | some d =>
        rw [hl] at q5
        obtain ⟨u, u1, ru⟩ := r.look hl
        exact ⟨some u, .inl ⟨kvs2, k, .inl e2, toKey_rv ry k1, u1.symm⟩, o3.ret (a := d) q5 u ru⟩
      | none =>
        rw [hl] at q5
        exact ⟨none, .inl ⟨kvs2, k, .inl e2, toKey_rv ry k1, (r.none_of hl).symm⟩, o3.ret (a := z) q5 zv rz⟩
  · exact False.elim q4
end
end Mi
set_option Elab.async false
set_option linter.all false
set_option maxRecDepth 100000
set_option maxHeartbeats 4000000
namespace Mi
open PySem PySem.Spec PyProof.Rows L2
/-! ## what is never come to -/
def eNo : Lc → M D := fun _ => M.no
def tNo : Lc → M Bool := fun _ => M.no
def sNo : MS := fun _ => M.no
def iNo : Lc → M (List D) := fun _ => M.no
section
variable {X : Cx} {EP : EPT} {K : PySem.W.Frag}
theorem d_no {e : Expr} : PE X e (TD X.K EP eNo) := ⟨fun _ _ _ _ _ _ ⟨_, _, _, _, _, p⟩ => False.elim p⟩
theorem t_no {e : Expr} : PT X e (TB X.K EP tNo) := ⟨fun _ _ _ _ _ _ ⟨_, _, _, _, _, p⟩ => False.elim p⟩
theorem s_no {st : Stmt} : PS X st (TF X.K EP sNo) := ⟨fun _ _ _ _ _ _ ⟨_, _, _, _, _, p⟩ => False.elim p⟩
theorem i_no {tg l : Expr} : PI X tg l (TI' X.K EP iNo) := ⟨fun _ _ _ _ _ _ ⟨_, _, _, _, _, p⟩ => False.elim p⟩
/-! ## list(x) that is changed later -/
def gListN : List D → M D
  | [.tup xs] => newO (.lst xs)
  | [.lst xs] => newO (.lst xs)
  | [.fro xs] => newO (.lst xs)
  | [.ref n] => M.andThen (getO n) fun o => match o with
    | .lst xs => newO (.lst xs)
    | .dct _ => M.no
  | _ => M.no
theorem g_listN : GoodL K EP (rListOf K) gListN := by
  intro S ds vs Q ok r p
  unfold gListN at p
  split at p
  · obtain ⟨v, rfl, r1⟩ := rvs1 r
    cases r1 with
    | tup h rr => exact ⟨_, _, rfl, .inr h.seq, new_lstN ok rr p⟩
  · obtain ⟨v, rfl, r1⟩ := rvs1 r
    cases r1 with
    | lst h rr => exact ⟨_, _, rfl, .inl (SqL.of h.1), new_lstN ok rr p⟩
  · obtain ⟨v, rfl, r1⟩ := rvs1 r
    cases r1 with
    | fro h rr => exact ⟨_, _, rfl, .inl h.seq, new_lstN ok rr p⟩
  · obtain ⟨v, rfl, r1⟩ := rvs1 r
    cases r1 with
    | ref hi =>
      obtain ⟨o, u, e1, _, e2, ro, p⟩ := Post.got (Post.split p) ok
      cases ro with
      | dct _ => exact False.elim p
      | lst rr => exact ⟨_, _, rfl, .inl (SqL.of e2), new_lstN ok rr p⟩
  · exact False.elim p
end
end Mi
set_option Elab.async false
set_option linter.all false
set_option maxRecDepth 100000
set_option maxHeartbeats 4000000
namespace Mi
open PySem PySem.Spec PyProof.Rows L2
/-! ## walks whose things are new pairs -/
section
variable {K : PySem.W.Frag} {S S' : Sit} {EP : EPT}
/-- a walk gives these things, or new tuples of things -/
structure Serves2 (K : PySem.W.Frag) (J : It) (S : Sit) (ds : List D) : Prop where
  go : ∀ S' i, Ext S S' → i < ds.length → J.go i S'.H
  stop : ∀ S', Ext S S' → J.stop ds.length S'.H
  yld : ∀ S' i x H', Ext S S' → Ok K S' → J.yld i S'.H x H' → ∀ d, ds[i]? = some d → (H' = S'.H ∧ RV K S d x) ∨ ∃ q ds' vs', d = .tup ds' ∧ x = .ref q ∧ S'.H q = none ∧ H' = upd S'.H q (.tup vs') ∧ RVs K S ds' vs'
theorem Serves2.now {J : It} {ds : List D} (sv : Serves2 K J S ds) {i : Nat} {x : V} {H' : Hp} (e : Ext S S') (ok : Ok K S') (h : J.yld i S'.H x H') {d : D} (hd : ds[i]? = some d) : ∃ S2, S2.H = H' ∧ Ext S' S2 ∧ Ok K S2 ∧ S2.ah = S'.ah ∧ RV K S2 d x := by
  rcases sv.yld S' i x H' e ok h d hd with ⟨rfl, rv⟩ | ⟨q0, ds', vs', rfl, rfl, hq, rfl, rvs⟩
  · exact ⟨S', rfl, Ext.refl _, ok, rfl, rv.ext e⟩
  · have xw := Sit.with_ext ok (u := .tup vs') hq
    exact ⟨S'.with q0 (.tup vs'), rfl, xw, Sit.with_ok ok hq, rfl, .tup (.inl ⟨_, Sit.with_still ok hq, .inl rfl⟩) (rvs.ext (e.trans xw))⟩
theorem RVs.by2 (f : ∀ d v, RV K S d v → RV K S' d v) : ∀ {ds : List D} {vs : List V}, RVs K S ds vs → RVs K S' ds vs
  | _, _, .nil => .nil
  | _, _, .cons r t => .cons (f _ _ r) (RVs.by2 f t)
def TI2 (K : PySem.W.Frag) (EP : EPT) (f : Lc → M (List D)) : TI := fun σ H R => ∃ S env, S.H = H ∧ Ok K S ∧ RE K S env σ ∧ Post K EP S (fun ds S' => ∀ J, Serves2 K J S' ds → R J S'.H) (f env S.ah)
end
section
variable {X : Cx} {EP : EPT} {pos : Pos}
theorem s_for2 {tg iter : Expr} {body : List Stmt} {it : Lc → M (List D)} {gt : D → Lc → M Lc} {g : MS} (rm : Rm X) (hp : PassesOwn (model X.prog X.w) X.A X.env X.xe) (hi : PI X tg iter (TI2 X.K EP it)) (hg : PG X tg (TGo X.K EP gt)) (hb : PSs X body (TF X.K EP g))
    (hf : ∀ x, foldedSetIterable iter X.env x = pure x := by intro _; rfl) : PS X (.For tg iter body [] pos) (TF X.K EP (sFo it gt g)) := by
  refine PS.by (ps_for hp rm.cm hi hg hb hf) fun σ H Dn ⟨S, env, e, ok, re, p⟩ => ?_
  subst e
  refine ⟨S, env, rfl, ok, re, (Post.split p).imp fun ds S1 x1 o1 q J sv => ?_⟩
  refine ⟨fun i m σ H => ∃ S2 env, S2.H = H ∧ Ext S1 S2 ∧ Ok X.K S2 ∧ RE X.K S2 env σ ∧ i + m = ds.length ∧ Post X.K EP S2 (GF X.K Dn) (fo gt g (ds.drop i) env S2.ah),
    ⟨ds.length, S1, env, rfl, Ext.refl _, o1, re.ext x1, by omega, by rw [List.drop_zero]; exact q⟩, fun i m σ H ⟨S2, env, e, x2, o2, re, hm, p⟩ => ?_⟩
  subst e
  by_cases hl : i < ds.length
  · obtain ⟨d, e1, e2⟩ := drop_get hl
    rw [e2] at p
    refine .inr ⟨sv.go S2 i x2 hl, fun σ' H' => ∃ S3 env, S3.H = H' ∧ Ext S1 S3 ∧ Ok X.K S3 ∧ RE X.K S3 env σ' ∧ Post X.K EP S3 (GF X.K Dn) (fo gt g (ds.drop (i + 1)) env S3.ah),
      fun σ' H' ⟨S3, env, a, b, c, d, f⟩ => ⟨m - 1, by omega, S3, env, a, b, c, d, by omega, f⟩, fun x H' hy => ?_⟩
    obtain ⟨S2', e3, x2', o2', ah2, rv⟩ := sv.now x2 o2 hy e1
    subst e3
    rw [← ah2] at p
    have p := p.later x2'
    have re := re.ext x2'
    have x2 := x2.trans x2'
    refine ⟨S2', env, d, rfl, o2', re, rv, (Post.split p).imp fun env1 S3 x3 o3 q3 σ3 re3 => ⟨S3, env1, rfl, o3, re3, (Post.split q3).imp fun y S4 x4 o4 q4 => ?_⟩⟩
    obtain ⟨fl, env4⟩ := y
    cases fl with
    | nx => exact fun σ4 re4 => ⟨S4, env4, rfl, (x2.trans x3).trans x4, o4, re4, q4⟩
    | ct => exact fun σ4 re4 => ⟨S4, env4, rfl, (x2.trans x3).trans x4, o4, re4, q4⟩
    | bk => exact o4.ret (EP := EP) (G := GF X.K Dn) (a := (Fl.nx, env4)) q4
    | rt d => exact o4.ret (EP := EP) (G := GF X.K Dn) (a := (Fl.rt d, env4)) q4
  · have e : i = ds.length := by omega
    subst e
    rw [List.drop_length] at p
    exact .inl ⟨sv.stop S2 x2, o2.ret (a := (Fl.nx, env)) p σ re⟩
end
section
variable {X : Cx} {EP : EPT} {K : PySem.W.Frag} {pos : Pos}
theorem lc_run2 {g : TG} {go : D → Lc → Option Lc} {tt : Lc → M Bool} {el : Lc → M D} {vs : List Nat} (raw : Raw K g go vs) {it : Lc → M (List D)} {σ : St} {H : Hp} {Q : VK} (h : TD K EP (eLc it go tt el vs) σ H Q) :
    tLc (TI2 K EP it) g (TB K EP0 tt) (TD K EP0 el) vs σ H Q := by
  obtain ⟨S, env, rfl, ok, re, p⟩ := h
  refine ⟨S, env, rfl, ok, re, (Post.split p).imp fun ds S1 x1 o1 q J sv D hD => ?_⟩
  obtain ⟨hlen, q⟩ := Post.whened q
  have hlen := of_decide_eq_true hlen
  have q := Post.hushed (Post.split q)
  have re := re.ext x1
  obtain ⟨ok0, e0, op0⟩ := Sit.open_ok o1 (u := .lst []) hD
  have str0 := strip_open (u := .lst []) hD
  have hide0 : ∀ (σ : St) (e : Ex) (S' : Sit), Opn S' D S1.busy → EP0 σ e (S'.strip D S1.busy) → EP0 σ e S' := fun _ _ _ _ z => z
  refine ⟨fun i' m H' => ∃ S2 accD accV, S2.H = H' ∧ Ok K S2 ∧ Opn S2 D S1.busy ∧ Ext S1 (S2.strip D S1.busy) ∧ RE K S2 env σ ∧ (∀ d v, RV K S1 d v → RV K S2 d v) ∧ S2.H D = some (.lst accV) ∧ RVs K S2 accD accV ∧ accD.length ≤ i' ∧ i' + m = ds.length ∧
      Post K EP0 (S2.strip D S1.busy) (fun ys S' => Post K EP S' (GV K Q) (M.ret (.lst (accD ++ ys)) S'.ah)) (lc go tt el vs env (ds.drop i') S2.ah),
    ⟨ds.length, S1.open D (.lst []), [], [], rfl, ok0, op0, by rw [str0]; exact Ext.refl _, re.ext0 e0, fun d v r => r.ext0 e0, upd_same, .nil, Nat.zero_le _, by omega, by rw [str0, List.drop_zero]; exact q⟩, fun i' m H' hW => ?_⟩
  obtain ⟨S2, accD, accV, rfl, ok2, op2, x2, re2, rv2, hd2, acc2, hle, hm, p2⟩ := hW
  obtain ⟨ok3, x3, e3, st3⟩ := Sit.shut_ok op2 ok2
  by_cases hl : i' < ds.length
  · obtain ⟨d, g1, g2⟩ := drop_get hl
    rw [g2] at p2
    refine .inr ⟨sv.go (S2.shut S1.busy) i' (x2.trans x3) hl, fun H' => ∃ S3 accD accV, S3.H = H' ∧ Ok K S3 ∧ Opn S3 D S1.busy ∧ Ext S1 (S3.strip D S1.busy) ∧ RE K S3 env σ ∧ (∀ d v, RV K S1 d v → RV K S3 d v) ∧ S3.H D = some (.lst accV) ∧ RVs K S3 accD accV ∧ accD.length ≤ i' + 1 ∧
        Post K EP0 (S3.strip D S1.busy) (fun ys S' => Post K EP S' (GV K Q) (M.ret (.lst (accD ++ ys)) S'.ah)) (lc go tt el vs env (ds.drop (i' + 1)) S3.ah),
      fun H' ⟨S3, aD, aV, b1, b2, b3, b4, b5, b6, b7, b8, b9, b10⟩ => ⟨m - 1, by omega, S3, aD, aV, b1, b2, b3, b4, b5, b6, b7, b8, b9, by omega, b10⟩, fun x H' hy => ?_⟩
    obtain ⟨S2', e3, x2', ok2', ah2, rv⟩ : ∃ S2', S2'.H = H' ∧ Ext S2 S2' ∧ Ok K S2' ∧ S2'.ah = S2.ah ∧ RV K S2' d x := by
      rcases sv.yld (S2.shut S1.busy) i' x H' (x2.trans x3) ok3 hy d g1 with ⟨rfl, rv⟩ | ⟨q0, ds', vs', rfl, rfl, hq, rfl, rvs⟩
      · exact ⟨S2, rfl, Ext.refl _, ok2, rfl, rv2 _ _ rv⟩
      · have hq : S2.H q0 = none := hq
        have xw := Sit.with_ext ok2 (u := .tup vs') hq
        exact ⟨S2.with q0 (.tup vs'), rfl, xw, Sit.with_ok ok2 hq, rfl, .tup (.inl ⟨_, Sit.with_still ok2 hq, .inl rfl⟩) ((RVs.by2 rv2 rvs).ext xw)⟩
    subst e3
    have op2' := op2.ext x2'
    have p2 : Post K EP0 (S2'.strip D S1.busy) (fun ys S' => Post K EP S' (GV K Q) (M.ret (.lst (accD ++ ys)) S'.ah)) (lc go tt el vs env (d :: List.drop (i' + 1) ds) S2'.ah) := by
      rw [ah2]
      exact p2.later (Sit.strip_ext op2 ok2 x2')
    have x2 := x2.trans (Sit.strip_ext op2 ok2 x2')
    have re2 := re2.ext x2'
    have rv2 : ∀ d v, RV K S1 d v → RV K S2' d v := fun d v r => (rv2 d v r).ext x2'
    have hd2 : S2'.H D = some (.lst accV) := (x2'.keep D (by rw [op2.b]; exact List.mem_cons_self)).trans hd2
    have acc2 := acc2.ext x2'
    have op2 := op2'
    have ok2 := ok2'
    clear op2' ok2'
    generalize S2' = S2 at *
    obtain ⟨env1, he1, p2⟩ := Post.lifted (Post.split p2) (Sit.strip_ok op2 ok2)
    refine raw S2 env env1 σ d x _ ok2 re2 rv he1 fun σ2 reσ hw => ⟨hw, S2, env1, rfl, ok2, reσ, (Post.hide op2 ok2 hide0 (Post.split p2)).imp fun b S3 y3 o3 q3 => ?_⟩
    have op3 := op2.ext y3
    have hd3 : S3.H D = some (.lst accV) := (y3.keep D (by rw [op2.b]; exact List.mem_cons_self)).trans hd2
    cases b with
    | false =>
      exact ⟨S3, accD, accV, rfl, o3, op3, x2.trans (Sit.strip_ext op2 ok2 y3), re2.ext y3, fun d v r => (rv2 d v r).ext y3, hd3, acc2.ext y3, by omega, q3⟩
    | true =>
      refine ⟨S3, env1, rfl, o3, reσ.ext y3, (Post.hide op3 o3 hide0 (Post.split q3)).imp fun y S4 y4 o4 q4 w rw4 => ?_⟩
      have op4 := op3.ext y4
      have hd4 : S4.H D = some (.lst accV) := (y4.keep D (by rw [op3.b]; exact List.mem_cons_self)).trans hd3
      have acc4 := (acc2.ext y3).ext y4
      obtain ⟨o5, e5, op5⟩ := Sit.poke_ok (u := .lst (accV ++ [w])) op4 o4
      refine ⟨accV, hd4, by rw [← acc4.length]; omega, S4.poke D (.lst (accV ++ [w])), accD ++ [y], accV ++ [w], rfl, o5, op5, by rw [strip_poke]; exact (x2.trans (Sit.strip_ext op2 ok2 y3)).trans (Sit.strip_ext op3 o3 y4), ((re2.ext y3).ext y4).ext0 e5,
        fun d v r => (((rv2 d v r).ext y3).ext y4).ext0 e5, upd_same, (acc4.append (.cons rw4 .nil)).ext0 e5, by rw [List.length_append]; simp only [List.length_singleton]; omega, ?_⟩
      rw [strip_poke]
      refine (Post.split q4).imp fun ys S6 y6 o6 q6 => ?_
      have z := Post.ret (G := fun ys S' => Post K EP S' (GV K Q) (M.ret (.lst (accD ++ ys)) S'.ah)) q6 o6
      rw [List.append_assoc]
      exact z
  · have e : i' = ds.length := by omega
    subst e
    rw [List.drop_length] at p2
    refine .inl ⟨sv.stop (S2.shut S1.busy) (x2.trans x3), ?_⟩
    have z : Post K EP (S2.shut S1.busy) (GV K Q) (M.ret (.lst (accD ++ [])) (S2.shut S1.busy).ah) := p2 (S2.shut S1.busy) x3 ok3 rfl
    rw [List.append_nil] at z
    exact ok3.ret (EP := EP) (a := Mi.D.lst accD) z _ (.lst (st3 _ hd2 (by intro ps h; cases h)) (acc2.ext0 e3))
/-- [elt for tg in iter if ..] -/
theorem d_lc2 {elt tg iter : Expr} {ifs : List Expr} {scope : Scope} {own : List (Str × Nat)} {g : TG} {go : D → Lc → Option Lc} {it : Lc → M (List D)} {tt : Lc → M Bool} {el : Lc → M D} (rm : Rm X) (hN : X.N.Nodup) (hi : PI X tg iter (TI2 X.K EP it)) (ok : BlkOk X.N X.env.scope scope own)
    (raw : Raw X.K g go (own.map (·.2)))
    (hg : ∀ (s : Shared) (H : Hp) (C : Addr) (cl : List (Str × Addr)) (fp : List Addr), PG (X.blk s H scope (compEnvC scope cl C X.env) fp) tg g)
    (ht : ∀ (s : Shared) (H : Hp) (C : Addr) (cl : List (Str × Addr)) (fp : List Addr), PTs (X.blk s H scope (compEnvC scope cl C X.env) fp) ifs (TB X.K EP0 tt))
    (he : ∀ (s : Shared) (H : Hp) (C : Addr) (cl : List (Str × Addr)) (fp : List Addr), PE (X.blk s H scope (compEnvC scope cl C X.env) fp) elt (TD X.K EP0 el)) (hs : ∀ x, foldedSetIterable iter X.env x = pure x := by intro _; rfl) :
    PE X (.ListComp elt [{ target := tg, iter := iter, ifs := ifs, is_async := 0 }] scope pos) (TD X.K EP (eLc it go tt el (own.map (·.2)))) :=
  PE.by (pe_lc rm.cm hN hi ok hg ht he hs) fun _ _ _ h => lc_run2 raw h
theorem s_setLc2 (i : Nat) {y : Str} {py : Pos} {elt tg iter : Expr} {ifs : List Expr} {scope : Scope} {own : List (Str × Nat)} {spos : Pos} {g : TG} {go : D → Lc → Option Lc} {it : Lc → M (List D)} {tt : Lc → M Bool} {el : Lc → M D} (rm : Rm X) (hN : X.N.Nodup)
    (hi : PI X tg iter (TI2 X.K EP it)) (ok : BlkOk X.N X.env.scope scope own)
    (raw : Raw X.K g go (own.map (·.2)))
    (hg : ∀ (s : Shared) (H : Hp) (C : Addr) (cl : List (Str × Addr)) (fp : List Addr), PG (X.blk s H scope (compEnvC scope cl C X.env) fp) tg g)
    (ht : ∀ (s : Shared) (H : Hp) (C : Addr) (cl : List (Str × Addr)) (fp : List Addr), PTs (X.blk s H scope (compEnvC scope cl C X.env) fp) ifs (TB X.K EP0 tt))
    (he : ∀ (s : Shared) (H : Hp) (C : Addr) (cl : List (Str × Addr)) (fp : List Addr), PE (X.blk s H scope (compEnvC scope cl C X.env) fp) elt (TD X.K EP0 el))
    (hy : X.N[i]? = some y := by rfl) (hyl : X.env.scope.names.lookup y = some .local := by rfl)
    (hsw : swapsWith (.ListComp elt [{ target := tg, iter := iter, ifs := ifs, is_async := 0 }] scope pos) (some (.Name y py)) spos.line X.env = pure true := by exact sw_true rfl rfl rfl (by decide +kernel))
    (hs : ∀ x, foldedSetIterable iter X.env x = pure x := by intro _; rfl) :
    PS X (.Assign [.Name y py] (.ListComp elt [{ target := tg, iter := iter, ifs := ifs, is_async := 0 }] scope pos) spos) (TF X.K EP (sSet i (eLc it go tt el (own.map (·.2))))) := by
  refine PS.by (ps_setLc (i := i) rm.cm hN hy hyl hsw hi ok hg ht he hs) fun σ H Dn ⟨S, env, e, o, re, p⟩ => ?_
  subst e
  refine lc_run2 (EP := EP) raw ⟨S, env, rfl, o, re, (Post.split p).imp fun d S1 x1 o1 q v rv => o1.ret (a := (Fl.nx, env.set i (some d))) q _ ((re.ext x1).set i rv)⟩

/-! ## zip, enumerate -/
def zipD (xs ys : List D) : List D := (xs.zip ys).map fun t => .tup [t.1, t.2]
def itZip : List D → M (List D)
  | [.lst xs, .lst ys] => M.ret (zipD xs ys)
  | [.tup xs, .tup ys] => M.ret (zipD xs ys)
  | _ => M.no
def enumD (k : Nat) : List D → List D
  | [] => []
  | x :: xs => .tup [.int (k : Nat), x] :: enumD (k + 1) xs
def itEnum : List D → M (List D)
  | [.lst xs] => M.ret (enumD 0 xs)
  | _ => M.no
theorem zip_get {xs ys : List D} {i : Nat} {d : D} (h : (zipD xs ys)[i]? = some d) : ∃ x y, d = .tup [x, y] ∧ xs[i]? = some x ∧ ys[i]? = some y := by
  unfold zipD at h
  rw [List.getElem?_map] at h
  obtain ⟨⟨x, y⟩, h1, rfl⟩ := Option.map_eq_some_iff.mp h
  obtain ⟨h2, h3⟩ := List.getElem?_zip_eq_some.mp h1
  exact ⟨x, y, rfl, h2, h3⟩
theorem enum_len : ∀ (xs : List D) (k : Nat), (enumD k xs).length = xs.length
  | [], _ => rfl
  | _ :: xs, k => congrArg (· + 1) (enum_len xs (k + 1))
theorem enum_get : ∀ {xs : List D} {k i : Nat} {d : D}, (enumD k xs)[i]? = some d → ∃ x, d = .tup [.int ((k + i : Nat) : Int), x] ∧ xs[i]? = some x
  | [], _, _, _, h => by simp [enumD] at h
  | x :: xs, k, 0, d, h => by
    cases h
    exact ⟨x, rfl, rfl⟩
  | x :: xs, k, i + 1, d, h => by
    obtain ⟨y, e, g⟩ := enum_get (xs := xs) (k := k + 1) (i := i) h
    exact ⟨y, by rw [e, show k + 1 + i = k + (i + 1) by omega], g⟩
theorem i_zip {e e2 : Expr} {fs : Lc → M (List D)} {p tpos : Pos} {elts : List Expr} {kk : Nat} (hg : Gl X "zip") (hm : X.mg "zip" = none) (ha : PA X [e, e2] (TDs X.K EP fs))
    (hs : starEach [e, e2] X.env = (false, eval e X.env) :: starEach [e2] X.env := by rfl) (hpl : (backTo pos (starEach [e2] X.env)).any (·.1) = false := by rfl) :
    PI X (.Tuple elts kk tpos) (.Call (.Name "zip" p) [e, e2] [] pos) (TI2 X.K EP (iOfs itZip fs)) := by
  refine PI.by (RZ.pi_zipA hg hm ha hs hpl) fun σ H R ⟨S, env, e0, ok, re, p⟩ => ?_
  subst e0
  refine ⟨S, env, rfl, ok, re, (Post.split p).imp fun ds S1 x1 o1 q vs rvs => ?_⟩
  unfold itZip at q
  split at q
  · rename_i xs ys
    obtain ⟨v, w, rfl, r1, r2⟩ := rvs2 rvs
    cases r1 with
    | lst h1 t1 =>
      cases r2 with
      | lst h2 t2 =>
        refine ⟨_, _, _, _, rfl, .inl ⟨SqL.of h1.1, SqL.of h2.1, o1.ret q _ ⟨fun S' i x hi => ?_, fun S' x => ?_, fun S' i y H' x o hy d hd => ?_⟩⟩⟩
        · have hi' : i < xs.length ∧ i < ys.length := by
            unfold zipD at hi
            rw [List.length_map, List.length_zip] at hi
            omega
          obtain ⟨a, ea, _⟩ := t1.get (List.getElem?_eq_getElem hi'.1)
          obtain ⟨b, eb, _⟩ := t2.get (List.getElem?_eq_getElem hi'.2)
          exact ⟨_, _, a, b, SqL.of (x.pers _ _ h1), SqL.of (x.pers _ _ h2), ea, eb⟩
        · refine ⟨_, _, SqL.of (x.pers _ _ h1), SqL.of (x.pers _ _ h2), ?_⟩
          unfold zipD
          rw [List.length_map, List.length_zip, ← t1.length, ← t2.length]
          omega
        · obtain ⟨T, a, b, rfl, hT, rfl, ha, hb⟩ := hy
          obtain ⟨dx, dy, rfl, gx, gy⟩ := zip_get hd
          obtain ⟨a', ea, ra⟩ := t1.get gx
          obtain ⟨b', eb, rb⟩ := t2.get gy
          have e1 := ha _ (SqL.of (x.pers _ _ h1))
          have e2 := hb _ (SqL.of (x.pers _ _ h2))
          rw [ea] at e1
          rw [eb] at e2
          cases e1
          cases e2
          exact .inr ⟨T, _, _, rfl, rfl, hT, rfl, .cons ra (.cons rb .nil)⟩
  · rename_i xs ys
    obtain ⟨v, w, rfl, r1, r2⟩ := rvs2 rvs
    cases r1 with
    | tup h1 t1 =>
      cases r2 with
      | tup h2 t2 =>
        refine ⟨_, _, _, _, rfl, .inr ⟨h1.seq, h2.seq, o1.ret q _ ⟨fun S' i x hi => ?_, fun S' x => ?_, fun S' i y H' x o hy d hd => ?_⟩⟩⟩
        · have hi' : i < xs.length ∧ i < ys.length := by
            unfold zipD at hi
            rw [List.length_map, List.length_zip] at hi
            omega
          obtain ⟨a, ea, _⟩ := t1.get (List.getElem?_eq_getElem hi'.1)
          obtain ⟨b, eb, _⟩ := t2.get (List.getElem?_eq_getElem hi'.2)
          exact ⟨_, _, a, b, (h1.ext x).seq, (h2.ext x).seq, ea, eb⟩
        · refine ⟨_, _, (h1.ext x).seq, (h2.ext x).seq, ?_⟩
          unfold zipD
          rw [List.length_map, List.length_zip, ← t1.length, ← t2.length]
          omega
        · obtain ⟨T, a, b, rfl, hT, rfl, ha, hb⟩ := hy
          obtain ⟨dx, dy, rfl, gx, gy⟩ := zip_get hd
          obtain ⟨a', ea, ra⟩ := t1.get gx
          obtain ⟨b', eb, rb⟩ := t2.get gy
          have e1 := ha _ (h1.ext x).seq
          have e2 := hb _ (h2.ext x).seq
          rw [ea] at e1
          rw [eb] at e2
          cases e1
          cases e2
          exact .inr ⟨T, _, _, rfl, rfl, hT, rfl, .cons ra (.cons rb .nil)⟩
  · exact False.elim q
theorem i_enum {e : Expr} {fs : Lc → M (List D)} {p tpos : Pos} {elts : List Expr} {kk : Nat} (hg : Gl X "enumerate") (hm : X.mg "enumerate" = none) (ha : PA X [e] (TDs X.K EP fs)) (hs : starEach [e] X.env = [(false, eval e X.env)] := by rfl) :
    PI X (.Tuple elts kk tpos) (.Call (.Name "enumerate" p) [e] [] pos) (TI2 X.K EP (iOfs itEnum fs)) := by
  refine PI.by (pi_enum hg hm ha hs) fun σ H R ⟨S, env, e0, ok, re, p⟩ => ?_
  subst e0
  refine ⟨S, env, rfl, ok, re, (Post.split p).imp fun ds S1 x1 o1 q vs rvs => ?_⟩
  unfold itEnum at q
  split at q
  · rename_i xs
    obtain ⟨v, rfl, r1⟩ := rvs1 rvs
    cases r1 with
    | lst h1 t1 =>
      refine ⟨_, _, rfl, SqL.of h1.1, o1.ret q _ ⟨fun S' i x hi => ?_, fun S' x => ?_, fun S' i y H' x o hy d hd => ?_⟩⟩
      · rw [enum_len] at hi
        obtain ⟨a, ea, _⟩ := t1.get (List.getElem?_eq_getElem hi)
        exact ⟨_, a, SqL.of (x.pers _ _ h1), ea⟩
      · refine ⟨_, SqL.of (x.pers _ _ h1), ?_⟩
        rw [enum_len, ← t1.length]
        exact Nat.le_refl _
      · obtain ⟨T, a, rfl, hT, rfl, ha⟩ := hy
        obtain ⟨dx, rfl, gx⟩ := enum_get hd
        obtain ⟨a', ea, ra⟩ := t1.get gx
        have e1 := ha _ (SqL.of (x.pers _ _ h1))
        rw [ea] at e1
        cases e1
        refine .inr ⟨T, _, _, rfl, rfl, hT, rfl, .cons ?_ (.cons ra .nil)⟩
        rw [Nat.zero_add]
        exact .int _
  · exact False.elim q
end
end Mi
set_option Elab.async false
set_option linter.all false
set_option maxRecDepth 100000
set_option maxHeartbeats 4000000
namespace Mi
open PySem PySem.Spec PyProof.Rows L2
section
variable {K : PySem.W.Frag} {EP : EPT}
/-! ## str(i) -/
def gStr : List D → M D
  | [.int i] => M.when (decide (i.natAbs.log2 < 1920)) (M.ret (.str (toString i : String)))
  | _ => M.no
def rStr : List V → Hp → VK → Prop := fun xs H Q => ∃ i, xs = [.int i] ∧ i.natAbs.log2 < 1920 ∧ Q (.str (toString i : String)) H
theorem g_str : GoodL K EP rStr gStr := by
  intro S ds vs Q ok r p
  unfold gStr at p
  split at p
  · obtain ⟨v, rfl, r1⟩ := rvs1 r
    cases r1
    obtain ⟨c, p⟩ := Post.whened p
    exact ⟨_, rfl, of_decide_eq_true c, ok.ret p _ (.str _)⟩
  · exact False.elim p
theorem c_str {X : Cx} : CallR X (.type "str") rStr := fun pins s σ H xs us Q I r h => by
  obtain ⟨i, rfl, hz, q⟩ := h
  exact call_str_int pins s σ H _ us Q I r ⟨i, rfl, hz, q⟩
end
end Mi
set_option Elab.async false
set_option linter.all false
set_option maxRecDepth 100000
set_option maxHeartbeats 4000000
namespace Mi
open PySem PySem.Spec PyProof.Rows L2
section
variable {K : PySem.W.Frag} {EP : EPT}
/-! a sum of a heap list and a list, which is changed later -/
def gAddH (x y : D) : M D := match x, y with
  | .ref n, .lst ys => M.andThen (getO n) fun o => M.andThen (M.lift (getL o)) fun xs => M.when (okCat xs ys) (newO (.lst (xs ++ ys)))
  | x, y => gAddN x y
theorem g_addH : Good2 K EP (rAddAll K) gAddH := by
  intro S x y v w Q ok rx ry p
  unfold gAddH at p
  split at p
  · cases rx with
    | ref hi =>
      obtain ⟨ds, vs, e1, e2, r, p⟩ := Post.gotL p ok
      cases ry with
      | lst h2 r2 =>
        obtain ⟨c, p⟩ := Post.whened p
        have c := of_decide_eq_true c
        exact .inr (.inr (.inr ⟨_, _, _, _, rfl, rfl, e2, h2.1, by rw [← r.length, ← r2.length]; exact c, new_lstN ok (r.append r2) p⟩))
  · exact g_addN S _ _ _ _ _ ok rx ry p
end
end Mi
set_option Elab.async false
set_option linter.all false
set_option maxRecDepth 100000
set_option maxHeartbeats 4000000
namespace Mi
open PySem PySem.Spec PyProof.Rows L2
section
variable {X : Cx} {EP : EPT} {K : PySem.W.Frag} {pos : Pos}
/-! ## x.clear() of a list of the mirror's heap -/
def gClr (x : D) : M D := match x with
  | .ref n => M.andThen (getO n) fun o => M.andThen (M.lift (getL o)) fun _ => M.andThen (putO n (.lst [])) fun _ => M.ret .non
  | _ => M.no
theorem d_clr {o : Expr} {fo : Lc → M D} {apos cpos : Pos} (ho : PE X o (TD X.K EP fo))
    (hbase : attributeBase o "clear" X.env (eval o X.env) = eval o X.env := by rfl) (hline : (apos.endLine == cpos.line) = true := by rfl) : PE X (.Call (.Attribute o "clear" apos) [] [] cpos) (TD X.K EP (e1 gClr fo)) := by
  refine PE.by (pe_bm0 PySem.F.plainAttrs_list PySem.F.slot_list_clear PySem.F.type_list_clear mt_clear ho hbase hline) fun σ H Q ⟨S, env, e, ok, re, p⟩ => ?_
  subst e
  refine ⟨S, env, rfl, ok, re, (Post.split p).imp fun x S1 x1 o1 q v rx => ?_⟩
  unfold gClr at q
  split at q
  · cases rx with
    | @ref n hi =>
      obtain ⟨ds, vs, e1, e2, r, q5⟩ := Post.gotL q o1
      have z := Post.putted (u := .lst []) (Post.split q5) o1 e1 (.lst .nil)
      exact ⟨.inl ⟨rfl, _, SqL.of e2⟩, _, _, rfl, rfl, e2, (Sit.put_ok o1 e1 (.lst .nil)).ret (a := D.non) z _ .non⟩
  · exact False.elim q
end
end Mi
set_option Elab.async false
set_option linter.all false
set_option maxRecDepth 100000
set_option maxHeartbeats 4000000
namespace Mi
open PySem PySem.Spec PyProof.Rows L2
section
variable {X : Cx} {EP : EPT} {K : PySem.W.Frag} {pos : Pos}
/-! ## a tuple, many times -/
def okRepT (xs : List D) (k : Int) : Bool := !xs.isEmpty && (decide (2 ≤ k) && (decide (k ≤ 1000) && decide (xs.length ≤ 1000)))
def gMulT (x y : D) : M D := match x, y with
  | .tup xs, .int k => M.when (okRepT xs k) (M.ret (.tup (List.replicate k.toNat xs).flatten))
  | _, _ => M.no
theorem g_mulT : Good2 K EP (rRepT K) gMulT := by
  intro S x y v w Q ok rx ry p
  unfold gMulT at p
  split at p
  · cases ry
    cases rx with
    | tup h1 r1 =>
      obtain ⟨c, p⟩ := Post.whened p
      have c1 := Bool.and_eq_true_iff.mp c
      have c2 := Bool.and_eq_true_iff.mp c1.2
      have c3 := Bool.and_eq_true_iff.mp c2.2
      refine ⟨_, _, _, rfl, rfl, h1.seq, fun z => ?_, of_decide_eq_true c2.1, of_decide_eq_true c3.1, by rw [← r1.length]; exact of_decide_eq_true c3.2, new_tup ok (r1.rep _) p⟩
      have := r1.nil_iff.mp z
      subst this
      exact absurd c1.1 (by decide)
  · exact False.elim p
end
end Mi
set_option Elab.async false
set_option linter.all false
set_option maxRecDepth 100000
set_option maxHeartbeats 4000000
namespace Mi
open PySem PySem.Spec PyProof.Rows L2
section
variable {X : Cx}
/-! ## what is shown where a handler runs -/
theorem repr_anyU (gu : X.A.guards = some []) (un : X.A.units + 64 < cLine) {pins : List (Addr × Obj)} {σ : St} {H : Hp} {s : Shared} {Q : VK} (I : L2.Inv X pins σ H s) {dp : PyData} {u : Value} {as : List Addr} (hr : Reads s.heap u dp as) (hsh : dp.showable = true)
    (hsm : dp.hasDict = true → sysModules ∉ as) (hd : dp.depth ≤ 60) (hl : dp.shown.length ≤ sizeLine) (q : Q (.str dp.shown) H) : wpAny (model X.prog X.w) X.A (call (.builtin "repr") [u]) (L2.EP X pins σ Q) X.xe s := by
  have fin : ∀ t, L2.EP X pins σ Q (.str dp.shown t) { s with toks := s.toks + 1 } := fun t => ⟨.str dp.shown, H, I.tok _, ⟨t, rfl⟩, q⟩
  cases hr with
  | none => exact PySem.P.repr_of_none (fin _)
  | bool b => exact PySem.P.repr_of_bool (fin _)
  | int i t => exact PySem.P.repr_of_int (of_decide_eq_true hsh) (fin _)
  | str x t => exact PySem.P.repr_of_str (fin _) hl
  | list h1 h2 h3 h4 => exact repr_of_reads' (.list h1 h2 h3 h4) hsh hsm gu (by omega) (fun _ _ e => e) (fun h' u tk hk => ⟨.str _, H, I.kept hk, ⟨u, rfl⟩, q⟩) hl
  | tuple h1 h2 h3 h4 => exact repr_of_reads' (.tuple h1 h2 h3 h4) hsh hsm gu (by omega) (fun _ _ e => e) (fun h' u tk hk => ⟨.str _, H, I.kept hk, ⟨u, rfl⟩, q⟩) hl
  | dict h1 h2 h3 h4 h5 => exact repr_of_reads' (.dict h1 h2 h3 h4 h5) hsh hsm gu (by omega) (fun _ _ e => e) (fun h' u tk hk => ⟨.str _, H, I.kept hk, ⟨u, rfl⟩, q⟩) hl
theorem c_reprU (gu : X.A.guards = some []) (un : X.A.units + 64 < cLine) : CallR X (.builtin "repr") (rRepr X.K) := by
  intro pins s σ H xs us Q I r h
  obtain ⟨S, d, v, rfl, rfl, rv, hok, q⟩ := h
  obtain ⟨u, rfl, ru⟩ := vals1 r
  have h1 := Bool.and_eq_true_iff.mp hok
  have h2 := Bool.and_eq_true_iff.mp h1.1
  have h3 := Bool.and_eq_true_iff.mp h2.1
  have hd := of_decide_eq_true h1.2
  have hl := of_decide_eq_true h2.2
  have rd : ∃ as, Reads s.heap u d.p as ∧ (d.p.hasDict = true → sysModules ∉ as) := by
    rcases Bool.or_eq_true_iff.mp h3.1 with f | f
    · obtain ⟨as, hr⟩ := Dp.reads I _ _ _ (RV.dp rv f) ru
      exact ⟨as, hr, PyData.noDict_hsm (flat_noDict d f)⟩
    · obtain ⟨as, hr, z⟩ := RV.reads I rv f ru
      exact ⟨as, hr, fun _ => z⟩
  obtain ⟨as, hr, hsm⟩ := rd
  exact repr_anyU gu un I hr h3.2 hsm hd hl q
end
end Mi
set_option Elab.async false
set_option linter.all false
set_option maxRecDepth 100000
set_option maxHeartbeats 4000000
namespace Mi
open PySem PySem.Spec PyProof.Rows L2
section
variable {X : Cx} {EP : EPT} {K : PySem.W.Frag} {pos : Pos}
/-! ## sum of a list of ints -/
def gSum : List D → M D
  | [.lst xs] => M.andThen (M.lift (intsD xs)) fun is => M.ret (.int is.sum)
  | _ => M.no
theorem g_sum : GoodL K EP (rSum K) gSum := by
  intro S ds vs Q ok r p
  unfold gSum at p
  split at p
  · obtain ⟨v, rfl, r1⟩ := rvs1 r
    cases r1 with
    | lst h r1 =>
      revert p
      rename_i xs a vs
      cases hb : intsD xs with
      | none => intro p; exact False.elim p
      | some is =>
        intro p
        have e3 := intsD_rv r1 hb
        subst e3
        exact ⟨_, is, rfl, SqL.of h.1, ok.ret p _ (.int _)⟩
  · exact False.elim p
/-! ## sorted, of a list of ints -/
def ordI (is : List Int) : List Int := is.mergeSort fun a b => decide (a ≤ b)
theorem sort_uniq : ∀ {xs ys : List Int}, xs.Perm ys → xs.Pairwise (· ≤ ·) → ys.Pairwise (· ≤ ·) → xs = ys
  | [], ys, h, _, _ => (List.Perm.nil_eq h)
  | x :: xs, [], h, _, _ => by have := h.length_eq; simp at this
  | x :: xs, y :: ys, h, hx, hy => by
    have a := List.pairwise_cons.mp hx
    have b := List.pairwise_cons.mp hy
    have xy : x = y := by
      have h1 : x ∈ y :: ys := h.mem_iff.mp List.mem_cons_self
      have h2 : y ∈ x :: xs := h.mem_iff.mpr List.mem_cons_self
      rcases List.mem_cons.mp h1 with e | e
      · exact e
      · rcases List.mem_cons.mp h2 with f | f
        · exact f.symm
        · have := a.1 y f
          have := b.1 x e
          omega
    subst xy
    rw [sort_uniq (List.Perm.cons_inv h) a.2 b.2]
theorem ordI_perm (is : List Int) : (ordI is).Perm is := List.mergeSort_perm _ _
theorem ordI_sorted (is : List Int) : (ordI is).Pairwise (· ≤ ·) := by
  have := List.pairwise_mergeSort (le := fun a b : Int => decide (a ≤ b)) (fun a b c h g => decide_eq_true (Int.le_trans (of_decide_eq_true h) (of_decide_eq_true g))) (fun a b => by
    rcases Int.le_total a b with h | h
    · rw [decide_eq_true h]; rfl
    · rw [decide_eq_true h, Bool.or_true]) is
  exact this.imp fun h => of_decide_eq_true h
theorem rvs_int {S : Sit} : ∀ is : List Int, RVs K S (is.map D.int) (is.map V.int)
  | [] => .nil
  | i :: is => .cons (.int i) (rvs_int is)
def gSorted : List D → M D
  | [.lst xs] => M.andThen (M.lift (intsD xs)) fun is => M.ret (.lst ((ordI is).map D.int))
  | _ => M.no
theorem g_sorted : GoodL K EP (rSortedI K) gSorted := by
  intro S ds vs Q ok r p
  unfold gSorted at p
  split at p
  · obtain ⟨v, rfl, r1⟩ := rvs1 r
    cases r1 with
    | lst h r1 =>
      revert p
      rename_i xs a vs
      cases hb : intsD xs with
      | none => intro p; exact False.elim p
      | some is =>
        intro p
        have e3 := intsD_rv r1 hb
        subst e3
        refine ⟨_, is, rfl, SqL.of h.1, fun ns' q hp hs hq => ?_⟩
        have e : ns' = ordI is := sort_uniq (hp.trans (ordI_perm is).symm) hs (ordI_sorted is)
        subst e
        exact new_lst ok (rvs_int _) p q hq
  · exact False.elim p
end
end Mi
set_option Elab.async false
set_option linter.all false
set_option maxRecDepth 100000
set_option maxHeartbeats 4000000
namespace Mi
open PySem PySem.Spec PyProof.Rows L2
section
variable {X : Cx} {EP : EPT} {K : PySem.W.Frag} {pos : Pos}
/-! ## x.index(y) of a list of the mirror's values -/
def okIdx (xs : List D) (y : D) : Bool := D.flats xs && (y.flat && (SeqAt.shaped (.list (D.ps xs)) && SeqAt.shaped y.p))
def fstIdx (xs : List D) (y : D) : Option Nat := (D.ps xs).findIdx? fun z => PyData.eqv z y.p
def gIdx (x y : D) : M D := match x with
  | .lst xs => M.when (okIdx xs y) (M.andThen (M.lift (fstIdx xs y)) fun j => M.ret (.int (j : Nat)))
  | _ => M.no
def isLst (x : D) : M Unit := match x with
  | .lst _ => M.ret ()
  | _ => M.no
def eIdx (fo fe : Lc → M D) : Lc → M D := fun env => M.andThen (fo env) fun x => M.andThen (isLst x) fun _ => M.andThen (fe env) fun y => gIdx x y
theorem post_isLst {S : Sit} {β : Type} {G : β → Sit → Prop} {x : D} {v : V} {f : Unit → M β} (rx : RV K S x v) (h : Post K EP S G (M.andThen (isLst x) f S.ah)) : (∃ a vs, v = .ref a ∧ SqL K S.H a vs) ∧ Post K EP S G (f () S.ah) := by
  unfold isLst at h
  split at h
  · cases rx with
    | lst h2 r => exact ⟨⟨_, _, rfl, SqL.of h2.1⟩, h⟩
  · exact False.elim h
theorem fst_ok {xs : List D} {y : D} {j : Nat} (h : fstIdx xs y = some j) : ∃ z, (D.ps xs)[j]? = some z ∧ PyData.eqv z y.p = true ∧ ∀ (m : Nat) (z' : PyData), m < j → (D.ps xs)[m]? = some z' → PyData.eqv z' y.p = false := by
  obtain ⟨hj, h1, h2⟩ := List.findIdx?_eq_some_iff_getElem.mp h
  refine ⟨_, List.getElem?_eq_getElem hj, h1, fun m z' hm hz => ?_⟩
  have := h2 m hm
  have e : (D.ps xs)[m] = z' := by
    have := List.getElem?_eq_getElem (l := D.ps xs) (i := m) (by omega)
    rw [this] at hz
    exact Option.some.inj hz
  rw [e] at this
  simpa using this
theorem d_idx {o e : Expr} {fo fe : Lc → M D} {apos cpos : Pos} (rm : Rm X) (ho : PE X o (TD X.K EP fo)) (he : PE X e (TD X.K EP fe)) (hs : starEach [e] X.env = (false, eval e X.env) :: starEach [] X.env := by rfl)
    (hbase : attributeBase o "index" X.env (eval o X.env) = eval o X.env := by rfl)
    (hall : ((backTo cpos (starEach [e] X.env)).all (fun x => !x.1) && (backToKw cpos (keywordEach [] X.env)).all (fun x => x.1.isSome) && decide (([e] : List Expr).length + ([] : List Keyword).length + (if ([] : List Keyword).isEmpty = true then 0 else 1) < 30)) = true := by rfl)
    (hline : (apos.endLine == cpos.line) = true := by rfl) (hpl : (backTo cpos (starEach [] X.env)).any (·.1) = false := by rfl) :
    PE X (.Call (.Attribute o "index" apos) [e] [] cpos) (TD X.K EP (eIdx fo fe)) := by
  refine PE.by (pe_bm PySem.F.plainAttrs_list PySem.F.slot_list_index PySem.F.type_list_index (mt_indexD (by have := rm.u5; omega)) ho (as_cons (EP := EP) he as_nil hs) hbase hall hline hs hpl) fun σ H Q ⟨S, env, e, ok, re, p⟩ => ?_
  subst e
  refine ⟨S, env, rfl, ok, re, (Post.split p).imp fun x S1 x1 o1 q1 v rx => ?_⟩
  obtain ⟨⟨a, vs, rfl, ha⟩, q2⟩ := post_isLst rx q1
  refine ⟨.inl ⟨rfl, _, ha⟩, S1, env, rfl, o1, re.ext x1, ?_⟩
  have q3 : Post X.K EP S1 (GV X.K Q) (M.andThen (esC fe esN env) (fun ys => match ys with
      | [y] => gIdx x y
      | _ => M.no) S1.ah) := by
    rw [andThen_es1]
    exact q2
  refine (Post.split q3).imp fun ys S2 x2 o2 q4 ws rws => ?_
  split at q4
  · rename_i y
    obtain ⟨w, rfl, rw1⟩ := rvs1 rws
    have rx := rx.ext x2
    unfold gIdx at q4
    split at q4
    · obtain ⟨c, q5⟩ := Post.whened q4
      have c1 := Bool.and_eq_true_iff.mp c
      have c2 := Bool.and_eq_true_iff.mp c1.2
      have c3 := Bool.and_eq_true_iff.mp c2.2
      obtain ⟨j, j1, q5⟩ := Post.lifted (Post.split q5) o2
      obtain ⟨z, z1, z2, z3⟩ := fst_ok j1
      exact ⟨_, w, _, _, j, z, rfl, rfl, RV.dp rx c1.1, RV.dp rw1 c2.1, c3.1, c3.2, z1, z2, z3, o2.ret (a := D.int (j : Nat)) q5 _ (.int _)⟩
    · exact False.elim q4
  · exact False.elim q4
end
end Mi
set_option Elab.async false
set_option linter.all false
set_option maxRecDepth 100000
set_option maxHeartbeats 4000000
namespace Mi
open PySem PySem.Spec PyProof.Rows L2
section
variable {X : Cx} {EP : EPT} {K : PySem.W.Frag} {pos : Pos}
/-! ## divmod by a small number -/
def rDm (K : PySem.W.Frag) : List V → Hp → VK → Prop := fun xs H Q => ∃ i j, xs = [.int i, .int j] ∧ CDiv i j ∧ ∀ p, H p = none → Q (.ref p) (upd H p (.tup [.int (i / j), .int (i % j)]))
def gDm : List D → M D
  | [.int i, .int j] => M.when (decide (0 < j) && decide (j < 1073741824)) (M.ret (.tup [.int (i / j), .int (i % j)]))
  | _ => M.no
theorem g_dm : GoodL K EP (rDm K) gDm := by
  intro S ds vs Q ok r p
  unfold gDm at p
  split at p
  · cases r with
    | cons r1 r =>
      cases r with
      | cons r2 r =>
        cases r
        cases r1
        cases r2
        obtain ⟨c, p⟩ := Post.whened p
        have c1 := Bool.and_eq_true_iff.mp c
        exact ⟨_, _, rfl, ⟨of_decide_eq_true c1.1, of_decide_eq_true c1.2⟩, fun q hq => new_tup ok (.cons (.int _) (.cons (.int _) .nil)) p q hq⟩
  · exact False.elim p
theorem c_dm : CallR X (.builtin "divmod") (rDm X.K) := call_divmod
/-! ## an int less a bool -/
def rSubB : R2 := fun x y H Q => ∃ (i : Int) (b : Bool), x = .int i ∧ y = .bl b ∧ Q (.int (i - if b = true then (1 : Int) else 0)) H
def gSubB (x y : D) : M D := match x, y with
  | .int i, .bl b => M.ret (.int (i - if b = true then (1 : Int) else 0))
  | _, _ => M.no
theorem op_subB : OpR X (binaryOp .Sub) rSubB := by
  intro pins s σ H x y v u Q I rx ry h
  obtain ⟨i, b, rfl, rfl, q⟩ := h
  obtain ⟨t, rfl⟩ := rx
  cases ry
  exact _root_.PySem.IntBool.sub_int_bool ⟨.int _, H, I.tok _, ⟨_, rfl⟩, q⟩
theorem g_subB : Good2 K EP rSubB gSubB := by
  intro S x y v u Q ok rx ry p
  unfold gSubB at p
  split at p
  · cases rx
    cases ry
    exact ⟨_, _, rfl, rfl, ok.ret p _ (.int _)⟩
  · exact False.elim p
/-! ## x.count(k) of a list of ints -/
def gCnt (x y : D) : M D := match x, y with
  | .lst xs, .int k => M.andThen (M.lift (intsD xs)) fun is => M.ret (.int (is.count k : Nat))
  | _, _ => M.no
def eCnt (fo fe : Lc → M D) : Lc → M D := fun env => M.andThen (fo env) fun x => M.andThen (isLst x) fun _ => M.andThen (fe env) fun y => gCnt x y
theorem d_cnt {o e : Expr} {fo fe : Lc → M D} {apos cpos : Pos} (ho : PE X o (TD X.K EP fo)) (he : PE X e (TD X.K EP fe)) (hs : starEach [e] X.env = (false, eval e X.env) :: starEach [] X.env := by rfl)
    (hbase : attributeBase o "count" X.env (eval o X.env) = eval o X.env := by rfl)
    (hall : ((backTo cpos (starEach [e] X.env)).all (fun x => !x.1) && (backToKw cpos (keywordEach [] X.env)).all (fun x => x.1.isSome) && decide (([e] : List Expr).length + ([] : List Keyword).length + (if ([] : List Keyword).isEmpty = true then 0 else 1) < 30)) = true := by rfl)
    (hline : (apos.endLine == cpos.line) = true := by rfl) (hpl : (backTo cpos (starEach [] X.env)).any (·.1) = false := by rfl) :
    PE X (.Call (.Attribute o "count" apos) [e] [] cpos) (TD X.K EP (eCnt fo fe)) := by
  refine PE.by (pe_bm PySem.F.plainAttrs_list PySem.F.slot_list_count PySem.F.type_list_count mt_lcount ho (as_cons (EP := EP) he as_nil hs) hbase hall hline hs hpl) fun σ H Q ⟨S, env, e, ok, re, p⟩ => ?_
  subst e
  refine ⟨S, env, rfl, ok, re, (Post.split p).imp fun x S1 x1 o1 q1 v rx => ?_⟩
  obtain ⟨⟨a, vs, rfl, ha⟩, q2⟩ := post_isLst rx q1
  refine ⟨.inl ⟨rfl, _, ha⟩, S1, env, rfl, o1, re.ext x1, ?_⟩
  have q3 : Post X.K EP S1 (GV X.K Q) (M.andThen (esC fe esN env) (fun ys => match ys with
      | [y] => gCnt x y
      | _ => M.no) S1.ah) := by
    rw [andThen_es1]
    exact q2
  refine (Post.split q3).imp fun ys S2 x2 o2 q4 ws rws => ?_
  split at q4
  · rename_i y
    obtain ⟨w, rfl, rw1⟩ := rvs1 rws
    have rx := rx.ext x2
    unfold gCnt at q4
    split at q4
    · cases rw1
      cases rx with
      | lst h r1 =>
        obtain ⟨is, i1, q5⟩ := Post.lifted (Post.split q4) o2
        have e3 := intsD_rv r1 i1
        subst e3
        exact ⟨_, is, _, rfl, rfl, SqL.of h.1, o2.ret (a := D.int (is.count _ : Nat)) q5 _ (.int _)⟩
    · exact False.elim q4
  · exact False.elim q4
end
end Mi
set_option Elab.async false
set_option linter.all false
set_option maxRecDepth 100000
set_option maxHeartbeats 4000000
namespace Mi
open PySem PySem.Spec PyProof.Rows L2
/-! ## try .. except x as n: return isinstance(n, y) -/
section
variable {X : Cx} {pos : Pos}
theorem kit_of_exm {K : PySem.W.Frag} {t c : Value} (h : PySem.W.exmOne K t c = some true) : PySem.W.kitOne K t c = some true := by
  unfold PySem.W.exmOne at h
  unfold PySem.W.kitOne
  split at h
  · split
    · rfl
    · exact h
  · cases h
/-- one class alone may come; it is caught, and looked at -/
def sTryI (i : Nat) (y : Str) (b : Bool) (g : MS) : MS := fun env ah => match g env ah with
  | .no => .no
  | .ok a ah' => .ok a ah'
  | .ex e env' ah' => if e.cls = y ∧ e.args = [] ∧ i < env'.length then .ok (.rt (.bl b), env') ah' else .no
theorem s_tryI {x n c2 : Str} {C D C2 : Addr} {i : Nat} {np p1 p2 p3 p4 p5 pos' : Pos} {body : List Stmt} {y : Str} {b : Bool} {g : MS} (hs : X.stack = X.env :: X.outer) (hf : X.env.frame = some X.env.locals) (hN : X.N.Nodup) (hi : X.N[i]? = some n) (hln : X.env.kindOf n = some .local) (hc : Names X x (.ref C))
    (hy : X.mg y = some (.ref D)) (hex : PySem.W.exmOne X.K (.ref D) (.ref C) = some true) (ec : ExcC X.K D) (hc2 : X.mg c2 = some (.ref C2)) (hk : PySem.W.kitOne X.K (.ref D) (.ref C2) = some b)
    (hb : ∀ (W' : WX) (pn : List (Addr × Obj)) (xe : Value → Shared → Prop), Takes (X.tr pn xe) W' → PassesOwn (model X.prog X.w) X.A X.env xe → PSs (X.tr pn xe) body (TF X.K (EPw X.K X.mg W') g))
    (gl : Gl X "isinstance") (mi : X.mg "isinstance" = none) (gl2 : Gl X c2) (hv : Vis X.env.scope n)
    (hd1 : (n == ("__debug__" : Str)) = false := by decide) (hd2 : (n == ("__classdict__" : Str)) = false := by decide) (hd3 : (c2 == ("__debug__" : Str)) = false := by decide) (hn1 : n ≠ c2 := by decide) :
    PS X (.Try body [.ExceptHandler (some (.Name x np)) (some n) [.Return (some (.Call (.Name "isinstance" p1) [.Name n p2, .Name c2 p3] [] p4)) p5] pos'] [] [] pos) (TF X.K EP0 (sTryI i y b g)) := by
  refine PS.by (ps_try_as (i := i) (tb := fun W' => TF X.K (EPw X.K X.mg W') g) (ts := fun a cls d => fun Dn σ H => cls = .ref D ∧ d = none ∧ tRet (tCB (rIsE X.K D a) (tCons (tVar i) (tCons (tC (.ref C2)) tNil))) Dn σ H) (Wout := fun _ _ _ _ => False) hs hf hN hi hln hc takes_none5 hb (fun a oe cls d pn hz hfl => ?_)) fun σ H Dn ⟨S, env, e, ok, re, p⟩ => ?_
  · by_cases hcd : cls = .ref D ∧ d = none
    · obtain ⟨rfl, rfl⟩ := hcd
      have gl' : Gl (X.suite a ((a, oe) :: pn)) "isinstance" := gl
      have gl2' : Gl (X.suite a ((a, oe) :: pn)) c2 := gl2
      have mi' : (X.suite a ((a, oe) :: pn)).mg "isinstance" = none := mi
      have h := pss_one (ps_ret (pos := p5) (pe_callB (p := p1) (pos := p4) (call_isE (X := X) (a := a) (pn := pn) ec hz hfl) gl' mi' (by rfl) (pa_cons (pe_var (X := X.suite a ((a, oe) :: pn)) (i := i) (pos := p2) hi hv hd1 hd2) (pa_cons (pe_glob (X := X.suite a ((a, oe) :: pn)) (v := .ref C2) (pos := p3) gl2' hc2 rfl hd3) pa_nil))))
      exact PSs.by h fun σ H Dn q => q.2.2
    · exact ⟨fun pins s σ H Dn I q => absurd ⟨q.1, q.2.1⟩ hcd⟩
  · subst e
    refine ⟨S, env, rfl, ok, re, ?_⟩
    unfold sTryI at p
    revert p
    generalize g env S.ah = r
    intro p
    cases r with
    | no => exact False.elim p
    | ok a ah' => exact p
    | ex e env' ah' =>
      intro S' x' o' hq σ' re'
      by_cases hh : e.cls = y ∧ e.args = [] ∧ i < env'.length
      · simp only [hh, and_self, if_true] at p
        refine ⟨D, by rw [hh.1]; exact hy, fun d hd => ⟨true, hex, fun _ a na => ?_, fun z => nomatch z⟩⟩
        have hd0 : d = none := by
          rcases hd with ⟨_, h⟩ | ⟨h, _⟩
          · exact h
          · exact absurd hh.2.1 h
        refine ⟨rfl, hd0, ?_⟩
        have p' := p S' x' o' hq
        have hlen : i < σ'.length := by rw [← re'.1]; exact hh.2.2
        refine ⟨.ref a, List.getElem?_set_self hlen, ?_⟩
        refine ⟨_, .ref C2, b, rfl, fun u hu => hu, hk, ?_⟩
        exact p' (.bl b) (.bl b)
      · simp only [hh, if_false] at p
        exact False.elim p
end
end Mi
set_option Elab.async false
set_option linter.all false
set_option maxRecDepth 100000
set_option maxHeartbeats 4000000
namespace Mi
open PySem PySem.Spec PyProof.Rows L2
/-! ## comprehensions with two for -/
def lcd (c : Nat) (go : D → Lc → Option Lc) (tt : Lc → M Bool) (it1 : Lc → M (List D)) (go1 : D → Lc → Option Lc) (tt1 : Lc → M Bool) (el : Lc → M D) (vs vs1 : List Nat) (env : Lc) : List D → M (List D)
  | [] => M.ret []
  | d :: ds => M.andThen (M.lift (go d (wipeE env vs))) fun env1 => M.andThen (tt env1) fun b => if b = true then M.andThen (it1 env1) fun ds1 => M.when (decide (ds1.length ≤ c)) (M.andThen (lc go1 tt1 el vs1 env1 ds1) fun ys => M.andThen (lcd c go tt it1 go1 tt1 el vs vs1 env ds) fun zs => M.ret (ys ++ zs)) else lcd c go tt it1 go1 tt1 el vs vs1 env ds
def eLd (c : Nat) (it : Lc → M (List D)) (go : D → Lc → Option Lc) (tt : Lc → M Bool) (it1 : Lc → M (List D)) (go1 : D → Lc → Option Lc) (tt1 : Lc → M Bool) (el : Lc → M D) (vs vs1 : List Nat) : Lc → M D := fun env => M.andThen (it env) fun ds => M.when (decide (ds.length * c ≤ sizeLine)) (M.andThen (hush (lcd c go tt it1 go1 tt1 el vs vs1 env ds)) fun ys => M.ret (.lst ys))
structure Serves0 (K : PySem.W.Frag) (J : It) (S : Sit) (ds : List D) : Prop where
  go : ∀ S' i, Ext0 S S' → i < ds.length → J.go i S'.H
  stop : ∀ S', Ext0 S S' → J.stop ds.length S'.H
  yld : ∀ S' i x H', Ext0 S S' → Ok K S' → J.yld i S'.H x H' → ∀ d, ds[i]? = some d → H' = S'.H ∧ RV K S d x
def TI0 (K : PySem.W.Frag) (EP : EPT) (f : Lc → M (List D)) : TI := fun σ H R => ∃ S env, S.H = H ∧ Ok K S ∧ RE K S env σ ∧ Post K EP S (fun ds S' => ∀ J, Serves0 K J S' ds → R J S'.H) (f env S.ah)
theorem Ext0.refl (S : Sit) : Ext0 S S := (Ext.refl S).e0
theorem Ext0.trans {S S' S'' : Sit} (a : Ext0 S S') (b : Ext0 S' S'') : Ext0 S S'' := ⟨Nat.le_trans a.len b.len, fun i h => (b.agree i (Nat.lt_of_lt_of_le h a.len)).trans (a.agree i h), fun x u h => b.still x u (a.still x u h)⟩
section
variable {X : Cx} {EP : EPT} {pos : Pos} {K : PySem.W.Frag}
theorem i_list0 {tg l : Expr} {f : Lc → M D} (hl : PE X l (TD X.K EP f)) : PI X tg l (TI0 X.K EP (iOf itD f)) := by
  refine PI.by (pi_list hl) fun σ H R ⟨S, env, e, ok, re, p⟩ => ?_
  subst e
  refine ⟨S, env, rfl, ok, re, (Post.split p).imp fun d S1 x1 o1 q v rv => ?_⟩
  unfold itD at q
  split at q
  · cases rv with
    | lst h r =>
      refine ⟨_, rfl, ⟨_, SqL.of h.1⟩, o1.ret q _ ⟨fun S' i x hi => ?_, fun S' x => ?_, fun S' i y H' x o hy d hd => ?_⟩⟩
      · obtain ⟨w, e, _⟩ := r.get (List.getElem?_eq_getElem hi)
        exact ⟨_, w, SqL.of (x.still _ _ h).1, e⟩
      · exact ⟨_, SqL.of (x.still _ _ h).1, by rw [r.length]; exact Nat.le_refl _⟩
      · obtain ⟨e1, e2⟩ := hy
        obtain ⟨w, e, rw⟩ := r.get hd
        have e3 := e2 _ (SqL.of (x.still _ _ h).1)
        rw [e] at e3
        cases e3
        exact ⟨e1, rw⟩
  · cases rv with
    | fro h r =>
      refine ⟨_, rfl, ⟨_, h.seq⟩, o1.ret q _ ⟨fun S' i x hi => ?_, fun S' x => ?_, fun S' i y H' x o hy d hd => ?_⟩⟩
      · obtain ⟨w, e, _⟩ := r.get (List.getElem?_eq_getElem hi)
        exact ⟨_, w, (h.ext0 x).seq, e⟩
      · exact ⟨_, (h.ext0 x).seq, by rw [r.length]; exact Nat.le_refl _⟩
      · obtain ⟨e1, e2⟩ := hy
        obtain ⟨w, e, rw⟩ := r.get hd
        have e3 := e2 _ (h.ext0 x).seq
        rw [e] at e3
        cases e3
        exact ⟨e1, rw⟩
  · exact False.elim q
theorem i_tup0 {tg l : Expr} {f : Lc → M D} (hl : PE X l (TD X.K EP f)) : PI X tg l (TI0 X.K EP (iOf itT f)) := by
  refine PI.by (pi_tup hl) fun σ H R ⟨S, env, e, ok, re, p⟩ => ?_
  subst e
  refine ⟨S, env, rfl, ok, re, (Post.split p).imp fun d S1 x1 o1 q v rv => ?_⟩
  unfold itT at q
  split at q
  · cases rv with
    | tup h r =>
      refine ⟨_, rfl, ⟨_, h.seq⟩, o1.ret q _ ⟨fun S' i x hi => ?_, fun S' x => ?_, fun S' i y H' x o hy d hd => ?_⟩⟩
      · obtain ⟨w, e, _⟩ := r.get (List.getElem?_eq_getElem hi)
        exact ⟨_, w, (h.ext0 x).seq, e⟩
      · exact ⟨_, (h.ext0 x).seq, by rw [r.length]; exact Nat.le_refl _⟩
      · obtain ⟨e1, e2⟩ := hy
        obtain ⟨w, e, rw⟩ := r.get hd
        have e3 := e2 _ (h.ext0 x).seq
        rw [e] at e3
        cases e3
        exact ⟨e1, rw⟩
  · exact False.elim q
theorem lcd_run {c : Nat} {g g1 : TG} {go go1 : D → Lc → Option Lc} {tt tt1 : Lc → M Bool} {el : Lc → M D} {vs vs1 : List Nat} (raw : Raw K g go vs) (raw1 : Raw K g1 go1 vs1) {it it1 : Lc → M (List D)} {σ : St} {H : Hp} {Q : VK} (h : TD K EP (eLd c it go tt it1 go1 tt1 el vs vs1) σ H Q) :
    tLc2 (TI' K EP it) g (TB K EP0 tt) (TI0 K EP0 it1) g1 (TB K EP0 tt1) (TD K EP0 el) vs vs1 σ H Q := by
  obtain ⟨S, env, rfl, ok, re, p⟩ := h
  refine ⟨S, env, rfl, ok, re, (Post.split p).imp fun ds S1 x1 o1 q J sv D hD => ?_⟩
  obtain ⟨hlen, q⟩ := Post.whened q
  have hlen := of_decide_eq_true hlen
  have q := Post.hushed (Post.split q)
  have re := re.ext x1
  obtain ⟨ok0, e0, op0⟩ := Sit.open_ok o1 (u := .lst []) hD
  have str0 := strip_open (u := .lst []) hD
  have hide0 : ∀ (σ : St) (e : Ex) (S' : Sit), Opn S' D S1.busy → EP0 σ e (S'.strip D S1.busy) → EP0 σ e S' := fun _ _ _ _ z => z
  refine ⟨fun i' m H' => ∃ S2 accD accV, S2.H = H' ∧ Ok K S2 ∧ Opn S2 D S1.busy ∧ Ext S1 (S2.strip D S1.busy) ∧ RE K S2 env σ ∧ (∀ d v, RV K S1 d v → RV K S2 d v) ∧ S2.H D = some (.lst accV) ∧ RVs K S2 accD accV ∧ accD.length ≤ i' * c ∧ i' + m = ds.length ∧
      Post K EP0 (S2.strip D S1.busy) (fun ys S' => Post K EP S' (GV K Q) (M.ret (.lst (accD ++ ys)) S'.ah)) (lcd c go tt it1 go1 tt1 el vs vs1 env (ds.drop i') S2.ah),
    ⟨ds.length, S1.open D (.lst []), [], [], rfl, ok0, op0, by rw [str0]; exact Ext.refl _, re.ext0 e0, fun d v r => r.ext0 e0, upd_same, .nil, Nat.zero_le _, by omega, by rw [str0, List.drop_zero]; exact q⟩, fun i' m H' hW => ?_⟩
  obtain ⟨S2, accD, accV, rfl, ok2, op2, x2, re2, rv2, hd2, acc2, hle, hm, p2⟩ := hW
  obtain ⟨ok3, x3, e3, st3⟩ := Sit.shut_ok op2 ok2
  by_cases hl : i' < ds.length
  · obtain ⟨d, g1', g2⟩ := drop_get hl
    rw [g2] at p2
    have hmul : (i' + 1) * c ≤ sizeLine := Nat.le_trans (Nat.mul_le_mul_right c hl) hlen
    have hmul2 : (i' + 1) * c = i' * c + c := Nat.succ_mul i' c
    refine .inr ⟨sv.go (S2.shut S1.busy) i' (x2.trans x3) hl, fun H' => ∃ S3 accD accV, S3.H = H' ∧ Ok K S3 ∧ Opn S3 D S1.busy ∧ Ext S1 (S3.strip D S1.busy) ∧ RE K S3 env σ ∧ (∀ d v, RV K S1 d v → RV K S3 d v) ∧ S3.H D = some (.lst accV) ∧ RVs K S3 accD accV ∧ accD.length ≤ (i' + 1) * c ∧
        Post K EP0 (S3.strip D S1.busy) (fun ys S' => Post K EP S' (GV K Q) (M.ret (.lst (accD ++ ys)) S'.ah)) (lcd c go tt it1 go1 tt1 el vs vs1 env (ds.drop (i' + 1)) S3.ah),
      fun H' ⟨S3, aD, aV, b1, b2, b3, b4, b5, b6, b7, b8, b9, b10⟩ => ⟨m - 1, by omega, S3, aD, aV, b1, b2, b3, b4, b5, b6, b7, b8, b9, by omega, b10⟩, fun x H' hy => ?_⟩
    obtain ⟨rfl, rv⟩ := sv.yld (S2.shut S1.busy) i' x H' (x2.trans x3) ok3 hy d g1'
    have rv := rv2 _ _ rv
    obtain ⟨env1, he1, p2⟩ := Post.lifted (Post.split p2) (Sit.strip_ok op2 ok2)
    refine raw S2 env env1 σ d x _ ok2 re2 rv he1 fun σ2 reσ hw => ⟨hw, S2, env1, rfl, ok2, reσ, (Post.hide op2 ok2 hide0 (Post.split p2)).imp fun b S3 y3 o3 q3 => ?_⟩
    have op3 := op2.ext y3
    have hd3 : S3.H D = some (.lst accV) := (y3.keep D (by rw [op2.b]; exact List.mem_cons_self)).trans hd2
    cases b with
    | false =>
      exact ⟨S3, accD, accV, rfl, o3, op3, x2.trans (Sit.strip_ext op2 ok2 y3), re2.ext y3, fun d v r => (rv2 d v r).ext y3, hd3, acc2.ext y3, by omega, q3⟩
    | true =>
      refine ⟨S3, env1, rfl, o3, reσ.ext y3, (Post.hide op3 o3 hide0 (Post.split q3)).imp fun ds1 S4 y4 o4 q4 J1 sv1 => ?_⟩
      have op4 := op3.ext y4
      have hd4 : S4.H D = some (.lst accV) := (y4.keep D (by rw [op3.b]; exact List.mem_cons_self)).trans hd3
      have acc4 := (acc2.ext y3).ext y4
      obtain ⟨hc, q4⟩ := Post.whened q4
      have hc := of_decide_eq_true hc
      have q5 : Post K EP0 (S4.strip D S1.busy) (fun ys S' => Post K EP0 S' (fun zs S'' => Post K EP S'' (GV K Q) (M.ret (.lst (accD ++ (ys ++ zs))) S''.ah)) (lcd c go tt it1 go1 tt1 el vs vs1 env (ds.drop (i' + 1)) S'.ah)) (lc go1 tt1 el vs1 env1 ds1 S4.ah) :=
        (Post.split q4).imp fun ys S' x' o' q' => (Post.split q').imp fun zs S'' x'' o'' q'' => Post.ret (G := fun ys S' => Post K EP S' (GV K Q) (M.ret (.lst (accD ++ ys)) S'.ah)) q'' o''
      refine ⟨fun j k H' => ∃ S5 accD accV, S5.H = H' ∧ Ok K S5 ∧ Opn S5 D S1.busy ∧ Ext S1 (S5.strip D S1.busy) ∧ RE K S5 env σ ∧ RE K S5 env1 σ2 ∧ (∀ d v, RV K S1 d v → RV K S5 d v) ∧ Ext0 S4 S5 ∧ S5.H D = some (.lst accV) ∧ RVs K S5 accD accV ∧ accD.length ≤ i' * c + j ∧ j + k = ds1.length ∧
          Post K EP0 (S5.strip D S1.busy) (fun ys S' => Post K EP0 S' (fun zs S'' => Post K EP S'' (GV K Q) (M.ret (.lst (accD ++ (ys ++ zs))) S''.ah)) (lcd c go tt it1 go1 tt1 el vs vs1 env (ds.drop (i' + 1)) S'.ah)) (lc go1 tt1 el vs1 env1 (ds1.drop j) S5.ah),
        ⟨ds1.length, S4, accD, accV, rfl, o4, op4, (x2.trans (Sit.strip_ext op2 ok2 y3)).trans (Sit.strip_ext op3 o3 y4), (re2.ext y3).ext y4, (reσ.ext y3).ext y4, fun d v r => ((rv2 d v r).ext y3).ext y4, Ext0.refl _, hd4, acc4, by omega, by omega, by rw [List.drop_zero]; exact q5⟩, fun j k H' hW => ?_⟩
      obtain ⟨S5, accD, accV, rfl, o5, op5, x5, re5, rf5, rv5, z5, hd5, acc5, hle5, hk, p5⟩ := hW
      by_cases hj : j < ds1.length
      · obtain ⟨d1, h1', h2⟩ := drop_get hj
        rw [h2] at p5
        refine .inr ⟨sv1.go S5 j z5 hj, fun H' => ∃ S6 accD accV, S6.H = H' ∧ Ok K S6 ∧ Opn S6 D S1.busy ∧ Ext S1 (S6.strip D S1.busy) ∧ RE K S6 env σ ∧ RE K S6 env1 σ2 ∧ (∀ d v, RV K S1 d v → RV K S6 d v) ∧ Ext0 S4 S6 ∧ S6.H D = some (.lst accV) ∧ RVs K S6 accD accV ∧ accD.length ≤ i' * c + (j + 1) ∧
            Post K EP0 (S6.strip D S1.busy) (fun ys S' => Post K EP0 S' (fun zs S'' => Post K EP S'' (GV K Q) (M.ret (.lst (accD ++ (ys ++ zs))) S''.ah)) (lcd c go tt it1 go1 tt1 el vs vs1 env (ds.drop (i' + 1)) S'.ah)) (lc go1 tt1 el vs1 env1 (ds1.drop (j + 1)) S6.ah),
          fun H' ⟨S6, aD, aV, b1, b2, b3, b4, b5, b6, b7, b8, b9, b10, b11, b12⟩ => ⟨k - 1, by omega, S6, aD, aV, b1, b2, b3, b4, b5, b6, b7, b8, b9, b10, b11, by omega, b12⟩, fun x1' H' hy1 => ?_⟩
        obtain ⟨rfl, rvd⟩ := sv1.yld S5 j x1' H' z5 o5 hy1 d1 h1'
        have rvd := rvd.ext0 z5
        obtain ⟨env2, he2, p5⟩ := Post.lifted (Post.split p5) (Sit.strip_ok op5 o5)
        refine raw1 S5 env1 env2 σ2 d1 x1' _ o5 rf5 rvd he2 fun σ3 re3 hw3 => ⟨hw3, S5, env2, rfl, o5, re3, (Post.hide op5 o5 hide0 (Post.split p5)).imp fun b S6 y6 o6 q6 => ?_⟩
        have op6 := op5.ext y6
        have hd6 : S6.H D = some (.lst accV) := (y6.keep D (by rw [op5.b]; exact List.mem_cons_self)).trans hd5
        cases b with
        | false =>
          exact ⟨S6, accD, accV, rfl, o6, op6, x5.trans (Sit.strip_ext op5 o5 y6), re5.ext y6, rf5.ext y6, fun d v r => (rv5 d v r).ext y6, z5.trans y6.e0, hd6, acc5.ext y6, by omega, q6⟩
        | true =>
          refine ⟨S6, env2, rfl, o6, re3.ext y6, (Post.hide op6 o6 hide0 (Post.split q6)).imp fun y S7 y7 o7 q7 w rw7 => ?_⟩
          have op7 := op6.ext y7
          have hd7 : S7.H D = some (.lst accV) := (y7.keep D (by rw [op6.b]; exact List.mem_cons_self)).trans hd6
          have acc7 := (acc5.ext y6).ext y7
          obtain ⟨o8, e8, op8⟩ := Sit.poke_ok (u := .lst (accV ++ [w])) op7 o7
          refine ⟨accV, hd7, by rw [← acc7.length]; omega, S7.poke D (.lst (accV ++ [w])), accD ++ [y], accV ++ [w], rfl, o8, op8, by rw [strip_poke]; exact (x5.trans (Sit.strip_ext op5 o5 y6)).trans (Sit.strip_ext op6 o6 y7), ((re5.ext y6).ext y7).ext0 e8, ((rf5.ext y6).ext y7).ext0 e8,
            fun d v r => (((rv5 d v r).ext y6).ext y7).ext0 e8, ((z5.trans y6.e0).trans y7.e0).trans e8, upd_same, (acc7.append (.cons rw7 .nil)).ext0 e8, by rw [List.length_append]; simp only [List.length_singleton]; omega, ?_⟩
          rw [strip_poke]
          refine (Post.split q7).imp fun ys S9 y9 o9 q9 => ?_
          have z := Post.ret (G := fun ys S' => Post K EP0 S' (fun zs S'' => Post K EP S'' (GV K Q) (M.ret (.lst (accD ++ (ys ++ zs))) S''.ah)) (lcd c go tt it1 go1 tt1 el vs vs1 env (ds.drop (i' + 1)) S'.ah)) q9 o9
          refine z.imp fun zs S10 _ _ q10 => ?_
          rw [List.append_assoc]
          exact q10
      · have e : j = ds1.length := by omega
        subst e
        rw [List.drop_length] at p5
        refine .inl ⟨sv1.stop S5 z5, S5, accD, accV, rfl, o5, op5, x5, re5, rv5, hd5, acc5, by omega, ?_⟩
        exact Post.ret (G := fun ys S' => Post K EP0 S' (fun zs S'' => Post K EP S'' (GV K Q) (M.ret (.lst (accD ++ (ys ++ zs))) S''.ah)) (lcd c go tt it1 go1 tt1 el vs vs1 env (ds.drop (i' + 1)) S'.ah)) p5 (Sit.strip_ok op5 o5)
  · have e : i' = ds.length := by omega
    subst e
    rw [List.drop_length] at p2
    refine .inl ⟨sv.stop (S2.shut S1.busy) (x2.trans x3), ?_⟩
    have z : Post K EP (S2.shut S1.busy) (GV K Q) (M.ret (.lst (accD ++ [])) (S2.shut S1.busy).ah) := p2 (S2.shut S1.busy) x3 ok3 rfl
    rw [List.append_nil] at z
    exact ok3.ret (EP := EP) (a := Mi.D.lst accD) z _ (.lst (st3 _ hd2 (by intro ps h; cases h)) (acc2.ext0 e3))
theorem d_ld {c : Nat} {elt tg iter tg1 iter1 : Expr} {ifs ifs1 : List Expr} {scope : Scope} {own : List (Str × Nat)} {vs1 : List Nat} {g g1 : TG} {go go1 : D → Lc → Option Lc} {it it1 : Lc → M (List D)} {tt tt1 : Lc → M Bool} {el : Lc → M D} (rm : Rm X) (hN : X.N.Nodup) (hi : PI X tg iter (TI' X.K EP it)) (ok : BlkOk X.N X.env.scope scope own) (hv : ∀ i ∈ vs1, i ∈ own.map (·.2))
    (raw : Raw X.K g go (own.map (·.2))) (raw1 : Raw X.K g1 go1 vs1)
    (hg : ∀ (s : Shared) (H : Hp) (C : Addr) (cl : List (Str × Addr)) (fp : List Addr), PG (X.blk s H scope (compEnvC scope cl C X.env) fp) tg g)
    (ht : ∀ (s : Shared) (H : Hp) (C : Addr) (cl : List (Str × Addr)) (fp : List Addr), PTs (X.blk s H scope (compEnvC scope cl C X.env) fp) ifs (TB X.K EP0 tt))
    (hi1 : ∀ (s : Shared) (H : Hp) (C : Addr) (cl : List (Str × Addr)) (fp : List Addr), PI (X.blk s H scope (compEnvC scope cl C X.env) fp) tg1 iter1 (TI0 X.K EP0 it1))
    (hg1 : ∀ (s : Shared) (H : Hp) (C : Addr) (cl : List (Str × Addr)) (fp : List Addr), PG (X.blk s H scope (compEnvC scope cl C X.env) fp) tg1 g1)
    (ht1 : ∀ (s : Shared) (H : Hp) (C : Addr) (cl : List (Str × Addr)) (fp : List Addr), PTs (X.blk s H scope (compEnvC scope cl C X.env) fp) ifs1 (TB X.K EP0 tt1))
    (he : ∀ (s : Shared) (H : Hp) (C : Addr) (cl : List (Str × Addr)) (fp : List Addr), PE (X.blk s H scope (compEnvC scope cl C X.env) fp) elt (TD X.K EP0 el)) (hs : ∀ x, foldedSetIterable iter X.env x = pure x := by intro _; rfl) (hs1 : ∀ (env : PySem.Env) x, foldedSetIterable iter1 env x = pure x := by intro _ _; rfl) :
    PE X (.ListComp elt [{ target := tg, iter := iter, ifs := ifs, is_async := 0 }, { target := tg1, iter := iter1, ifs := ifs1, is_async := 0 }] scope pos) (TD X.K EP (eLd c it go tt it1 go1 tt1 el (own.map (·.2)) vs1)) :=
  PE.by (pe_lc2 rm.cm hN hi ok hv hg ht hi1 hg1 ht1 he hs hs1) fun _ _ _ h => lcd_run raw raw1 h
theorem s_setLd (i : Nat) {y : Str} {py : Pos} {c : Nat} {elt tg iter tg1 iter1 : Expr} {ifs ifs1 : List Expr} {scope : Scope} {own : List (Str × Nat)} {spos : Pos} {vs1 : List Nat} {g g1 : TG} {go go1 : D → Lc → Option Lc} {it it1 : Lc → M (List D)} {tt tt1 : Lc → M Bool} {el : Lc → M D} (rm : Rm X) (hN : X.N.Nodup) (hi : PI X tg iter (TI' X.K EP it)) (ok : BlkOk X.N X.env.scope scope own) (hv : ∀ i ∈ vs1, i ∈ own.map (·.2))
    (raw : Raw X.K g go (own.map (·.2))) (raw1 : Raw X.K g1 go1 vs1)
    (hg : ∀ (s : Shared) (H : Hp) (C : Addr) (cl : List (Str × Addr)) (fp : List Addr), PG (X.blk s H scope (compEnvC scope cl C X.env) fp) tg g)
    (ht : ∀ (s : Shared) (H : Hp) (C : Addr) (cl : List (Str × Addr)) (fp : List Addr), PTs (X.blk s H scope (compEnvC scope cl C X.env) fp) ifs (TB X.K EP0 tt))
    (hi1 : ∀ (s : Shared) (H : Hp) (C : Addr) (cl : List (Str × Addr)) (fp : List Addr), PI (X.blk s H scope (compEnvC scope cl C X.env) fp) tg1 iter1 (TI0 X.K EP0 it1))
    (hg1 : ∀ (s : Shared) (H : Hp) (C : Addr) (cl : List (Str × Addr)) (fp : List Addr), PG (X.blk s H scope (compEnvC scope cl C X.env) fp) tg1 g1)
    (ht1 : ∀ (s : Shared) (H : Hp) (C : Addr) (cl : List (Str × Addr)) (fp : List Addr), PTs (X.blk s H scope (compEnvC scope cl C X.env) fp) ifs1 (TB X.K EP0 tt1))
    (he : ∀ (s : Shared) (H : Hp) (C : Addr) (cl : List (Str × Addr)) (fp : List Addr), PE (X.blk s H scope (compEnvC scope cl C X.env) fp) elt (TD X.K EP0 el))
    (hy : X.N[i]? = some y := by rfl) (hyl : X.env.scope.names.lookup y = some .local := by rfl)
    (hsw : swapsWith (.ListComp elt [{ target := tg, iter := iter, ifs := ifs, is_async := 0 }, { target := tg1, iter := iter1, ifs := ifs1, is_async := 0 }] scope pos) (some (.Name y py)) spos.line X.env = pure true := by exact sw_true rfl rfl rfl (by decide +kernel))
    (hs : ∀ x, foldedSetIterable iter X.env x = pure x := by intro _; rfl) (hs1 : ∀ (env : PySem.Env) x, foldedSetIterable iter1 env x = pure x := by intro _ _; rfl) :
    PS X (.Assign [.Name y py] (.ListComp elt [{ target := tg, iter := iter, ifs := ifs, is_async := 0 }, { target := tg1, iter := iter1, ifs := ifs1, is_async := 0 }] scope pos) spos) (TF X.K EP (sSet i (eLd c it go tt it1 go1 tt1 el (own.map (·.2)) vs1))) := by
  refine PS.by (ps_setLc2 (i := i) rm.cm hN hy hyl hsw hi ok hv hg ht hi1 hg1 ht1 he hs hs1) fun σ H Dn ⟨S, env, e, o, re, p⟩ => ?_
  subst e
  refine lcd_run (EP := EP) raw raw1 ⟨S, env, rfl, o, re, (Post.split p).imp fun d S1 x1 o1 q v rv => o1.ret (a := (Fl.nx, env.set i (some d))) q _ ((re.ext x1).set i rv)⟩
end
end Mi
set_option Elab.async false
set_option linter.all false
set_option maxRecDepth 100000
set_option maxHeartbeats 4000000
namespace HT
open PySem PySem.Spec PyProof.Rows
section
variable {prog : Program} {w : World} {A : Around} {E : Value → Shared → Prop} {s : Shared}
theorem adjust_rev0 (n : Nat) (hn : 1 ≤ n) : Builtin.Slice.sliceAdjust none (some 0) (-1) (n : Int) = ((n : Int) - 1, 0) := by
  unfold Builtin.Slice.sliceAdjust
  simp
  omega
theorem places_rev0 (n : Nat) (hn : 1 ≤ n) : Builtin.Slice.slicePlaces ((n : Int) - 1) 0 (-1) = n - 1 := by
  unfold Builtin.Slice.slicePlaces
  have h1 : ¬ ((-1 : Int) > 0) := by omega
  simp only [h1, if_false]
  split
  · have : (-(-1) : Int) = 1 := by omega
    rw [this, Int.ediv_one]; omega
  · omega
theorem sliceApplied_rev0 {sl : Addr} {vl vu vs : Value} {n : Nat} (hn : 1 ≤ n) {Q : Int × Int × Nat → Shared → Prop} (hs : s.heap.IsSliceOf sl vl vu vs) (pl : IsPart vl none) (pu : IsPart vu (some 0)) (ps : IsPart vs (some (-1)))
    (h : Q ((n : Int) - 1, -1, n - 1) s) : wpAny (model prog w) A (Builtin.Slice.sliceApplied (.ref sl) (pure (n : Int))) Q E s := by
  obtain ⟨os, hos, hcs, hds⟩ := id hs
  unfold Builtin.Slice.sliceApplied Builtin.Slice.sliceFields
  refine wpAny_bind (wpAny_bind (wpAny_field hos hds (x := vl) rfl (wpAny_bind (wpAny_field hos hds (x := vu) rfl (wpAny_bind (wpAny_field hos hds (x := vs) rfl (wpAny_pure ?_)))))))
  refine wpAny_bind (slicePart_ ps ?_)
  show wpAny _ _ (if ((-1 : Int) == 0) = true then _ else _) _ _ s
  rw [if_neg (by decide)]
  refine wpAny_bind (slicePart_ pl (wpAny_bind (slicePart_ pu (wpAny_bind (wpAny_pure ?_)))))
  show wpAny _ _ (match Builtin.Slice.sliceAdjust none (some 0) (-1) (n : Int) with | (lo, hi) => pure (lo, (-1 : Int), Builtin.Slice.slicePlaces lo hi (-1))) _ _ s
  rw [adjust_rev0 n hn]
  show wpAny _ _ (pure ((n : Int) - 1, (-1 : Int), Builtin.Slice.slicePlaces ((n : Int) - 1) 0 (-1))) _ _ s
  rw [places_rev0 n hn]
  exact wpAny_pure h
theorem pick_rev0 (xs : Array Value) : ((List.range (xs.size - 1)).filterMap fun (m : Nat) => xs[(((xs.size : Int) - 1) + (m : Int) * (-1)).toNat]?).toArray = (xs.toList.drop 1).reverse.toArray := by
  congr 1
  apply List.ext_getElem?
  intro i
  have fm : ∀ l : List Nat, (∀ m ∈ l, m < xs.size) → l.filterMap (fun (m : Nat) => xs[(((xs.size : Int) - 1) + (m : Int) * (-1)).toNat]?) = l.map fun m => xs[xs.size - 1 - m]?.getD .none := by
    intro l
    induction l with
    | nil => intro _; rfl
    | cons m l ih =>
      intro h
      have hm := h m (List.mem_cons_self ..)
      have e1 : (((xs.size : Int) - 1) + (m : Int) * (-1)).toNat = xs.size - 1 - m := by omega
      rw [List.filterMap_cons, e1, Array.getElem?_eq_getElem (show xs.size - 1 - m < xs.size by omega), List.map_cons, ih fun k hk => h k (List.mem_cons_of_mem _ hk), Array.getElem?_eq_getElem (show xs.size - 1 - m < xs.size by omega)]
      rfl
  rw [fm _ fun m hm => by have := List.mem_range.mp hm; omega, List.getElem?_map]
  by_cases hi : i < xs.size - 1
  · rw [List.getElem?_range hi, List.getElem?_reverse (by rw [List.length_drop, Array.length_toList]; exact hi), List.length_drop, Array.length_toList, List.getElem?_drop, Array.getElem?_toList]
    rw [show 1 + (xs.size - 1 - 1 - i) = xs.size - 1 - i by omega, Array.getElem?_eq_getElem (show xs.size - 1 - i < xs.size by omega), Option.map_some, Array.getElem?_eq_getElem (show xs.size - 1 - i < xs.size by omega)]
    rfl
  · rw [List.getElem?_eq_none (by rw [List.length_range]; omega), List.getElem?_eq_none (by rw [List.length_reverse, List.length_drop, Array.length_toList]; omega)]
    rfl
theorem getItem_tuple_rev0 {t sl : Addr} {items : Array Value} {vl vu vs : Value} {Q : Value → Shared → Prop} (hn : 1 ≤ items.size) (ht : IsTup s.heap t items) (hs : s.heap.IsSliceOf sl vl vu vs) (pl : IsPart vl none) (pu : IsPart vu (some 0)) (ps : IsPart vs (some (-1)))
    (h : Q (.ref s.heap.objs.size) { s with heap := s.heap.push { cls := .type "tuple", data := .seq (items.toList.drop 1).reverse.toArray } })
    (hsz : items.size ≤ sizeLine) : wpAny (model prog w) A (getItem (.ref t) (.ref sl)) Q E s := by
  have htake : sizeOk (.seq (items.toList.drop 1).reverse.toArray) := by
    show (items.toList.drop 1).reverse.toArray.size ≤ sizeLine
    rw [List.size_toArray, List.length_reverse, List.length_drop, Array.length_toList]
    omega
  obtain ⟨os, hos, hcs, hds⟩ := id hs
  have hTs : s.TypeIs (.ref sl) "slice" := ⟨os, hos, hcs⟩
  unfold getItem
  try with_reducible refine wpAny_holding ?_
  first | refine wpAny_bind (wpAny_pure ?_) | skip
  refine wpAny_bind (wpAny_sequenceKey ht.typeIs (by decide) ?_)
  refine wpAny_bind (wpAny_callSpecial?_slot (name := Str.ofString "__getitem__") ht.typeIs PyProof.Rows.slot_tuple_getitem
    (wpAny_call_entry PyProof.Rows.slot_tuple_getitem ht.typeIs entry_tuple_getitem ?_ (args_tuple_getitem _ _)))
  show wpAny _ _ (Builtin.Tuple.tupleItemsOf (.ref t) >>= _) _ _ s
  refine wpAny_bind (tupleItemsOf_ ht ?_)
  refine wpAny_bind (wpAny_typeOf hTs ?_)
  rw [if_pos (by decide)]
  refine wpAny_bind (sliceApplied_rev0 hn hs pl pu ps ?_)
  have hno : ¬ ((((items.size : Int) - 1) == 0 && (-1 : Int) == 1 && items.size - 1 == items.size) = true) := by
    intro q
    rw [Bool.and_eq_true, Bool.and_eq_true] at q
    exact absurd q.1.2 (by decide)
  show wpAny _ _ (if ((((items.size : Int) - 1) == 0 && (-1 : Int) == 1 && items.size - 1 == items.size) = true) then _ else _) _ _ s
  rw [if_neg hno, pick_rev0]
  first
    | exact wpAny_bind (m := Builtin.Tuple.tupleExact _) (wpAny_newObj_type (wpAny_pure ⟨_, rfl, wpAny_pure h⟩) htake)
    | exact wpAny_bind (m := Builtin.Tuple.tupleExact _) (wpAny_newObj_type (wpAny_bind (wpAny_pure (wpAny_pure ⟨_, rfl, wpAny_pure h⟩))) htake)
    | exact wpAny_bind (wpAny_bind (m := Builtin.Tuple.tupleExact _) (wpAny_newObj_type (wpAny_pure (wpAny_pure ⟨_, rfl, wpAny_pure h⟩)) htake))
    | exact wpAny_bind (wpAny_bind (m := Builtin.Tuple.tupleExact _) (wpAny_newObj_type (wpAny_pure ⟨_, rfl, wpAny_pure h⟩) htake))
end
end HT
namespace Mi
open PySem PySem.Spec PyProof.Rows L2
section
variable {X : Cx} {EP : EPT} {K : PySem.W.Frag}
def tRevT0 (K : PySem.W.Frag) (te : TE) : TE := fun σ H Q => te σ H fun x H1 => ∃ a xs, x = .ref a ∧ 1 ≤ xs.length ∧ SqT K H1 a xs ∧ ∀ p, H1 p = none → Q (.ref p) (upd H1 p (.tup (xs.drop 1).reverse))
theorem Rvs_drop : ∀ {xs : List V} {us : List Value}, Vals xs us → Vals (xs.drop 1) (us.drop 1)
  | _, _, .nil => .nil
  | _, _, .cons _ t => t
theorem pe_revT0 {e : Expr} {te : TE} {k k0 : Nat} {p0 p1 p2 p3 pos : Pos} (he : PE X e te) : PE X (.Subscript e (.Slice none (some (.Constant (.int 0) k0 p0)) (some (.UnaryOp .USub (.Constant (.int 1) k p1) p2)) p3) pos) (tRevT0 X.K te) := by
  refine ⟨fun pins s σ H Q I h => ?_⟩
  refine Subscript_ (thn (he.run pins s σ H _ I h) fun v s1 ⟨x, H1, I1, r1, q1⟩ => ?_)
  obtain ⟨a, xs, ex, hn, hx, q⟩ := q1
  subst ex
  cases r1
  have hst : PO X (some (.UnaryOp .USub (.Constant (.int 1) k p1) p2)) (tPart (tUn (rU fun i => .int (-i)) (tC (.int 1)))) := po_some (pe_un un_neg pe_int)
  have hs0 : PO X (some (.Constant (.int 0) k0 p0)) (tPart (tC (.int 0))) := po_some pe_int
  refine wpAny_Slice (thn (po_none.run pins s1 σ H1 (fun o H2 => o = none ∧ H2 = H1) I1 ⟨rfl, rfl⟩) fun vl s2 ⟨l, H2, I2, pl, el, e2⟩ => ?_)
  subst el e2
  refine thn (hs0.run pins s2 σ H2 (fun o H3 => o = some 0 ∧ H3 = H2) I2 ⟨0, rfl, rfl, rfl⟩) fun vu s3 ⟨u, H3, I3, pu, eu, e3⟩ => ?_
  subst eu e3
  refine thn (hst.run pins s3 σ H3 (fun o H4 => o = some (-1) ∧ H4 = H3) I3 ⟨1, rfl, -1, rfl, rfl, rfl⟩) fun vs s4 ⟨o, H4, I4, ps, eo, e4⟩ => ?_
  subst eo e4
  have I5 : Inv X pins σ H4 { s4 with heap := s4.heap.push { cls := .type "slice", data := .fields #[vl, vu, vs] } } := I4.kept (t' := s4.toks) fun b ob q => Heap.get?_push_of_some _ q
  obtain ⟨its, r, ht, hz⟩ := I5.tuple hx
  have hlen := r.length
  show wpAny (model X.prog X.w) X.A (subscriptTail e (.Slice none (some (.Constant (.int 0) k0 p0)) (some (.UnaryOp .USub (.Constant (.int 1) k p1) p2)) p3) (.ref a) (.ref s4.heap.objs.size)) (L2.EP X pins σ Q) X.xe { s4 with heap := s4.heap.push { cls := .type "slice", data := .fields #[vl, vu, vs] } }
  refine tail_any (ops := [.ref a, .ref s4.heap.objs.size]) ht.typeIs (PyProof.Rows.slot_tuple_getitem.lookup) ?_ (by with_unfolding_all rfl)
  refine HT.getItem_tuple_rev0 (by rw [List.size_toArray]; omega) ht (Heap.IsSliceOf.new _ vl vu vs) pl pu ps ?_ (by rw [List.size_toArray]; omega)
  refine ⟨.ref _, _, I5.laid (t' := s4.toks) (o := .tup (xs.drop 1).reverse) (fun b ob q => Heap.get?_push_of_some _ q) (Nat.le_refl _) ?_, rfl, q _ (I5.hok.fresh (Nat.le_refl _))⟩
  exact ⟨by rw [List.length_reverse, List.length_drop]; omega, _, (Rvs_drop r).reverse, IsTup.new _ _⟩
def rRevT0 (K : PySem.W.Frag) : V → Hp → VK → Prop := fun x H1 Q => ∃ a xs, x = .ref a ∧ 1 ≤ xs.length ∧ SqT K H1 a xs ∧ ∀ p, H1 p = none → Q (.ref p) (upd H1 p (.tup (xs.drop 1).reverse))
def gRevT0 : D → M D
  | .tup (x :: xs) => M.ret (.tup xs.reverse)
  | _ => M.no
theorem g_revT0 : Good1 K EP (rRevT0 K) gRevT0 := by
  intro S x v Q ok rx p
  unfold gRevT0 at p
  split at p
  · cases rx with
    | tup h r =>
      cases r with
      | cons r1 r2 => exact ⟨_, _, rfl, by rw [List.length_cons]; omega, h.seq, new_tup ok r2.reverse p⟩
  · exact False.elim p
theorem d_revT0 {e : Expr} {f : Lc → M D} {k k0 : Nat} {p0 p1 p2 p3 pos : Pos} (he : PE X e (TD X.K EP f)) : PE X (.Subscript e (.Slice none (some (.Constant (.int 0) k0 p0)) (some (.UnaryOp .USub (.Constant (.int 1) k p1) p2)) p3) pos) (TD X.K EP (e1 gRevT0 f)) :=
  PE.by (pe_revT0 he) fun _ _ _ h => run1 (r := rRevT0 X.K) g_revT0 h
end
end Mi
set_option Elab.async false
set_option linter.all false
set_option maxRecDepth 100000
set_option maxHeartbeats 4000000
namespace PySem
namespace SeqAt
theorem dict_eq_declines_str (l : Addr) (es : Array DictEntry) (ep : Nat) (o : Obj) (b : Str) (u : Tok) :
    Meets (Builtin.«dict.__eq__» ⟨[.ref l, .str b u], []⟩) (fun _ R s => s.heap.get? l = some o ∧ o.cls = .type "dict" ∧ o.data = .dict es ep ∧ R (.ok (.ret .notImplemented)) s) :=
  .of_wp fun prog w A R s h => by obtain ⟨hp, g, d, tk, os⟩ := s; obtain ⟨hl, hc, _, h⟩ := h; have f1 := F.sub_str_dict; wp_walk using wpAny_loadPart' hl; exact ⟨_, rfl, h⟩
theorem str_eq_declines_dict (b : Str) (u : Tok) (l : Addr) (es : Array DictEntry) (ep : Nat) (c : Value) (dd : Option Addr) (sl : Array (Option Value)) :
    Meets (Builtin.«str.__eq__» ⟨[.str b u, .ref l], []⟩) (fun _ R s => s.heap.get? l = some { cls := c, dict := dd, data := .dict es ep, slots := sl } ∧ R (.ok (.ret .notImplemented)) s) :=
  .of_wp fun prog w A R s h => by obtain ⟨hp, g, d, tk, os⟩ := s; obtain ⟨hl, h⟩ := h; wp_walk using wpAny_loadPart' hl, wpAny_load hl; exact ⟨_, rfl, h⟩
theorem dict_str {A : Around} {s : Shared} {l : Addr} {es : Array DictEntry} {ep : Nat} {o : Obj} (b : Str) (u : Tok) (ho : s.heap.get? l = some o) (hc : o.cls = .type "dict") (hd : o.data = .dict es ep) (hu : A.units < cLine) : RcAt A s (.ref l) (.str b u) false := fun prog w E Q h => by
  obtain ⟨cls, dd, data, sl⟩ := o
  simp only at hc hd
  subst hc hd
  exact rc_eq_decline_or (k := false) ⟨_, ho, rfl⟩ (typeIs_str s b u) (by decide) F.sub_str_dict F.slot_dict_eq F.slot_str_eq_refl
    (fun _ hq => call_meets F.slot_dict_eq ⟨_, ho, rfl⟩ F.entry_dict_eq (F.args_dict_eq_2 _ _) (dict_eq_declines_str l es ep _ b u) ⟨ho, rfl, rfl, hq⟩)
    (fun _ hq => call_meets F.slot_str_eq_refl (typeIs_str s b u) F.entry_str_eq (F.args_str_eq_2 _ _) (str_eq_declines_dict b u l es ep (.type "dict") dd sl) ⟨ho, hq⟩)
    (fun _ hq => wpAny_of_eq (rfl : isSame (.ref l) (.str b u) = pure false) hq) (.inr hu) h
end SeqAt
end PySem
namespace Mi
open PySem PySem.Spec PyProof.Rows L2
section
variable {X : Cx} {EP : EPT} {K : PySem.W.Frag}
/-- an empty dict and a text -/
def rEqDS : R2 := fun x y H Q => ∃ a t, x = .ref a ∧ y = .str t ∧ H a = some (.dK []) ∧ Q (.bl false) H
theorem op_eqDS (hu : X.A.units + 64 < cLine) : OpR X (compareOp .Eq) rEqDS := by
  intro pins s σ H x y v u Q I rx ry h
  obtain ⟨a, t, rfl, rfl, ea, q⟩ := h
  obtain rfl : v = Value.ref a := rx
  obtain ⟨tk, rfl⟩ : ∃ tk, u = Value.str t tk := ry
  obtain ⟨_, ya, va, ra, da⟩ := (show ObjOk X.prog X.w H s.heap a (.dK []) from I.hok a _ ea)
  obtain ⟨o, es, ep, ho, ex, hd, _⟩ := da
  exact SeqAt.dict_str t tk ho ex.1 hd (by omega) X.prog X.w _ _ ⟨.bl false, H, I, rfl, q⟩
def rEqE (K : PySem.W.Frag) : R2 := fun x y H Q => rEqAll K x y H Q ∨ rEqDS x y H Q
theorem o_eqE (hu : X.A.units + 64 < cLine) : OpR X (compareOp .Eq) (rEqE X.K) := opR_or (o_eq hu) (op_eqDS hu)
def gEqE (x y : D) : M D := match x, y with
  | .emp, .str _ => M.ret (.bl false)
  | x, y => gEq x y
theorem g_eqE : Good2 K EP (rEqE K) gEqE := by
  intro S x y v w Q ok rx ry p
  unfold gEqE at p
  split at p
  · cases rx with
    | emp h =>
      cases ry with
      | str t => exact .inr ⟨_, _, rfl, rfl, h.1, ok.ret p _ (.bl _)⟩
  · exact .inl (g_eq S _ _ _ _ _ ok rx ry p)
end
end Mi
set_option Elab.async false
set_option linter.all false
set_option maxRecDepth 100000
set_option maxHeartbeats 4000000
namespace Mi
open PySem PySem.Spec PyProof.Rows L2
section
variable {X : Cx} {EP : EPT} {K : PySem.W.Frag}
/-- != of two lists of unlike length -/
def rNeLn : R2 := fun x y H Q => ∃ l b xs ys, x = .ref l ∧ y = .ref b ∧ H l = some (.lst xs) ∧ H b = some (.lst ys) ∧ xs.length ≠ ys.length ∧ Q (.bl true) H
theorem op_neLn (hu : X.A.units + 64 < cLine) : OpR X (compareOp .NotEq) rNeLn := by
  intro pins s σ H x y v u Q I rx ry h
  obtain ⟨l, b, xs, ys, rfl, rfl, hH, hB, hz, q⟩ := h
  cases rx
  cases ry
  obtain ⟨z, its, n, r, hl, e⟩ := I.lstM hH
  obtain ⟨z2, its2, n2, r2, hl2, e2⟩ := I.lstM hB
  refine PySem.SeqAt.RcNeAt.lists_lengths (A := X.A) ⟨_, e, rfl, n, rfl⟩ ⟨_, e2, rfl, n2, rfl⟩ (by rw [List.size_toArray, List.size_toArray, ← hl, ← hl2]; exact bne_iff_ne.mpr hz) (by omega) _ _ _ _ ?_
  exact ⟨.bl true, H, I, rfl, q⟩
def rNeL (K : PySem.W.Frag) : R2 := fun x y H Q => rNeLn x y H Q ∨ rNeAll K x y H Q
theorem o_neLn (hu : X.A.units + 64 < cLine) : OpR X (compareOp .NotEq) (rNeL X.K) := opR_or (op_neLn hu) (o_ne hu)
def gNeLn (x y : D) : M D := match x, y with
  | .lst xs, .lst ys => if xs.length ≠ ys.length then M.ret (.bl true) else gNe (.lst xs) (.lst ys)
  | _, _ => M.no
theorem g_neLn : Good2 K EP (rNeL K) gNeLn := by
  intro S x y v w Q ok rx ry p
  unfold gNeLn at p
  split at p
  · split at p
    · rename_i hne
      cases rx with
      | lst h1 r1 =>
        cases ry with
        | lst h2 r2 => exact .inl ⟨_, _, _, _, rfl, rfl, h1.1, h2.1, by rw [← r1.length, ← r2.length]; exact hne, ok.ret p _ (.bl _)⟩
    · exact .inr (g_ne S _ _ v w Q ok rx ry p)
  · exact False.elim p
end
end Mi
set_option Elab.async false
set_option linter.all false
set_option maxRecDepth 100000
set_option maxHeartbeats 4000000
namespace PySem
open Sem (wp)
open AutoSeq1 (wpAny_loadPart')
theorem meets_enumerate_newT (l : Addr) (items : Array Value) (n : Nat) (dct : Option Addr) (sl : Array (Option Value)) :
    Meets (Builtin.«enumerate.__new__» ⟨[.type "enumerate", .ref l], []⟩) (fun _ R s => s.heap.get? l = some { cls := .type "tuple", dict := dct, data := .seq items n, slots := sl } ∧
      R (.ok (.ret (.ref (s.heap.push { cls := .type "tuple_iterator", data := .fields #[.ref l, .int 0 0] }).objs.size)))
        { s with heap := (s.heap.push { cls := .type "tuple_iterator", data := .fields #[.ref l, .int 0 0] }).push { cls := .type "enumerate", data := .fields #[.none, .bool false, .ref s.heap.objs.size, rawInt 0, .none, .none] } }) :=
  .of_wp fun prog w A R s h => by
    obtain ⟨hp, g, d, tk, os⟩ := s; obtain ⟨hl, h⟩ := h
    have hsub := sub_enumerate
    have hL : Heap.IsTuple (Shared.heap ⟨hp, g, d, tk, os⟩) l items := ⟨_, hl, rfl, n, rfl⟩
    wp_walk using wpAny_loadPart' hl
    refine wpAny_stack_any fun st => wpAny_pure ?_
    split
    · rename_i c _ _ _ _ _
      cases (c == Value.type "enumerate")
      · wp_walk using wpAny_loadPart' hl, wpAny_pyIter_tuple hL
        exact ⟨_, rfl, h⟩
      · wp_walk using wpAny_loadPart' hl, wpAny_pyIter_tuple hL
        exact ⟨_, rfl, h⟩
    · wp_walk using wpAny_loadPart' hl, wpAny_pyIter_tuple hL
      exact ⟨_, rfl, h⟩
section
variable {prog : Program} {w : World} {A : Around} {E : Value → Shared → Prop} {s : Shared}
theorem call_enumerate_tuple {l : Addr} {items : Array Value} {Q : Value → Shared → Prop} (hL : s.heap.IsTuple l items)
    (h : ∀ h', IsEnum h' (s.heap.objs.size + 1) s.heap.objs.size 0 .none → h'.IsTupleIter s.heap.objs.size l 0 → h'.objs.size = s.heap.objs.size + 2 →
      (∀ b o, s.heap.get? b = some o → h'.get? b = some o) → Q (.ref (s.heap.objs.size + 1)) { s with heap := h' }) :
    wpAny (model prog w) A (call (.type "enumerate") [.ref l]) Q E s := by
  obtain ⟨⟨c, dct, dt, sl⟩, hl, hc, n, hd⟩ := hL
  replace hc : c = .type "tuple" := hc
  replace hd : dt = .seq items n := hd
  subst hc hd
  refine callType_new F.called_enumerate (by decide) (F.typeCall_enumerate_1 _) (F.newCall_enumerate_1 _) (fun obj => F.args_object_init_2 obj _) F.entry_enumerate_new
    (meets_enumerate_newT l items n dct sl) ⟨hl, ?_⟩
  have hz : (s.heap.push { cls := .type "tuple_iterator", data := .fields #[.ref l, .int 0 0] }).objs.size = s.heap.objs.size + 1 := Heap.size_push ..
  show _ ∧ _
  rw [hz]
  have he : IsEnum ((s.heap.push { cls := .type "tuple_iterator", data := .fields #[.ref l, .int 0 0] }).push
      { cls := .type "enumerate", data := .fields #[.none, .bool false, .ref s.heap.objs.size, rawInt 0, .none, .none] }) (s.heap.objs.size + 1) s.heap.objs.size 0 .none := by
    have := Heap.get?_push_size (s.heap.push { cls := .type "tuple_iterator", data := .fields #[.ref l, .int 0 0] })
      (o := { cls := .type "enumerate", data := .fields #[.none, .bool false, .ref s.heap.objs.size, rawInt 0, .none, .none] }) rfl
    rw [hz] at this; exact this
  refine ⟨⟨_, he, rfl⟩, h _ he ⟨_, Heap.get?_push_of_some _ (Heap.get?_push_size _ rfl), rfl, rfl⟩ (by rw [Heap.size_push, hz]) fun b o x => Heap.get?_push_of_some _ (Heap.get?_push_of_some _ x)⟩
theorem wpAny_pyNext_enum_endT {e it t : Addr} {i : Nat} {k : Int} {items : Array Value} {old : Value} {Q : Option Value → Shared → Prop} (hh : A.handled = none)
    (he : IsEnum s.heap e it k old) (hit : s.heap.IsTupleIter it t i) (ht : s.heap.IsTuple t items) (hx : items[i]? = none)
    (hQ : ∀ h', Heap.ExtBut it s.heap h' → Q none { s with heap := h' }) : wpAny (model prog w) A (pyNext (.ref e)) Q E s := by
  have hT : s.TypeIs (.ref e) "enumerate" := ⟨_, he, rfl⟩
  unfold pyNext
  refine wpAny_bind (wpAny_attempt (wpAny_callSpecial?_slot (name := Str.ofString "__next__") hT F.slot_enumerate_next
    (wpAny_call_entry F.slot_enumerate_next hT F.entry_enumerate_next ?_ (F.args_enumerate_next_1 _))))
  show wpAny _ _ (field (.ref e) 2 >>= _) _ _ _
  refine wpAny_bind (wpAny_field he rfl (x := .ref it) rfl ?_)
  refine wpAny_bind (wpAny_nextOf_tuple_end (A := A.in1) hh hit ht hx fun h' x he' hx' => ?_)
  obtain ⟨o, ho, hc⟩ := hx'
  refine wpAny_bind (wpAny_isInstance (T := "StopIteration") (b := true) ⟨o, ho, hc⟩ isSubtype_stop ?_)
  exact wpAny_pure (hQ _ he')
end
end PySem
namespace Mi
open PySem PySem.Spec PyProof.Rows L2
/-- the tuple at a, each item in a new pair with its number -/
def IteT (K : PySem.W.Frag) (a : Addr) : It :=
  ⟨fun i H => ∃ (xs : List V) (x : V), SqT K H a xs ∧ xs[i]? = some x, fun i H v H' => ∃ T x, v = .ref T ∧ H T = none ∧ H' = upd H T (.tup [.int (i : Nat), x]) ∧ ∀ xs, SqT K H a xs → xs[i]? = some x, fun i H => ∃ xs : List V, SqT K H a xs ∧ xs.length ≤ i⟩
theorem turn_enumT {P : Program} {w : World} {K : PySem.W.Frag} {elts : List Expr} {kk : Nat} {tpos : Pos} (a e it : Addr) :
    Turn P w K (.Tuple elts kk tpos) (IteT K a) [e, it] e (fun i h => (∃ old, IsEnum h e it ((i : Nat) : Int) old) ∧ h.IsTupleIter it a i ∧ e ≠ it ∧ a ≠ it ∧ e ≠ a) where
  mem := by simp
  obj := fun i h st b hb => by
    obtain ⟨⟨old, he⟩, ⟨o, ho, hc, hd⟩, _⟩ := st
    have e' : b = e ∨ b = it := by simpa using hb
    rcases e' with z | z
    · rw [z]; exact ⟨_, he, fun v q => nomatch q⟩
    · rw [z]; exact ⟨o, ho, fun v q => by rw [hd] at q; cases q⟩
  keep := fun i h h' st k => let ⟨⟨old, he⟩, hi, hne⟩ := st; ⟨⟨old, k e (by simp) _ he⟩, hi.at fun o q => k it (by simp) o q, hne⟩
  item := by
    intro X hP hw hK hc i pins s σ H E I hf st hg
    subst hP hw hK
    obtain ⟨⟨old, he⟩, hit, hne, hai, hea⟩ := st
    obtain ⟨xs, x, hq, hx⟩ := hg
    obtain ⟨its, rv, p, hz⟩ := I.tuple hq
    obtain ⟨u, hu, ru⟩ := rv.get hx
    have hel : e < s.heap.objs.size := Heap.lt_size he
    have hil : it < s.heap.objs.size := by obtain ⟨_, q, _⟩ := hit; exact Heap.lt_size q
    have D := Draws.tuple (prog := X.prog) (w := X.w) (A := X.A.in1) (I.ok.hd hc) it a hai its.toArray
    have hlt : i < its.toArray.size := by
      have := (List.getElem?_eq_some_iff.mp hx).1
      have := rv.length
      simp; omega
    refine wpAny_pyNext_enum_itemD D he ⟨hit, p⟩ hlt hne (by simp [hne, hea]) fun u' h' tk hu' ho hit' hT hsz hk => ?_
    have eu : u' = u := by
      have h1 : its.toArray[i]? = some u' := hu'
      have h2 : its.toArray[i]? = some u := by simpa using hu
      rw [h2] at h1; cases h1; rfl
    subst eu
    refine ⟨_, rfl, wpAny_letOwnedTupleGo_enum (s := { s with heap := h', toks := tk + 1 }) ho fun h'' he' sb => ?_⟩
    have hT2 : h''.get? s.heap.objs.size = some { cls := .type "tuple", data := .seq #[.int i tk, u'] } := (sb.2 _ (Nat.ne_of_gt hel)).trans hT
    have new : ObjOk X.prog X.w (upd H s.heap.objs.size (.tup [.int (i : Nat), x])) h'' s.heap.objs.size (.tup [.int (i : Nat), x]) :=
      ⟨by show 2 ≤ sizeLine; decide, [.int i tk, u'], .cons ⟨_, rfl⟩ (.cons ru .nil), ⟨_, hT2, rfl, _, rfl⟩⟩
    have I1 : Inv X pins σ (upd H s.heap.objs.size (.tup [.int (i : Nat), x])) { s with heap := h'', toks := tk + 1 } :=
      I.turnedNew (ch := [e, it]) (fun b ob hb q => (sb.2 b (fun z => hb (by simp [z]))).trans (hk b ob (fun z => hb (by simp [z])) (fun z => hb (by simp [z])) q)) hf (Nat.le_refl _) new
    refine ⟨.ref s.heap.objs.size, _, I1, rfl, ⟨_, x, rfl, I.hok.fresh (Nat.le_refl _), rfl, fun ys hy => by rw [I.tuple_inj hy hq]; exact hx⟩, ⟨⟨u', ?_⟩, hit'.1.at fun o q => (sb.2 it (Ne.symm hne)).trans q, hne, hai, hea⟩, fun b hb => ?_⟩
    · have e1 : ((i + 1 : Nat) : Int) = (i : Int) + 1 := by omega
      rw [e1]; exact he'
    · have hb' : b < s.heap.objs.size := by
        have e' : b = e ∨ b = it := by simpa using hb
        rcases e' with z | z
        · rw [z]; exact hel
        · rw [z]; exact hil
      rw [upd_ne (Nat.ne_of_lt hb')]
      exact (hf b hb).1
  done := by
    intro X hP hw hK hc i pins s σ H E I hf st hg
    subst hP hw hK
    obtain ⟨⟨old, he⟩, hit, hne, hai, hea⟩ := st
    obtain ⟨xs, hq, hx⟩ := hg
    obtain ⟨its, rv, p, hz⟩ := I.tuple hq
    obtain ⟨f0, f1, f2, f3, f4, f5⟩ := hf it (by simp)
    have hl := rv.length
    exact wpAny_pyNext_enum_endT (I.ok.hd hc) he hit p (by simp; omega) fun h' eb => ⟨rfl, I.turned (t' := s.toks) (fun b o hb q => eb b o hb q) f0 f1 f3 f4 f5⟩
  self := fun A i s Q E st h => let ⟨⟨_, he⟩, _⟩ := st; wpAny_pyIter_enum he h
def iEnumT (K : PySem.W.Frag) (ta : TA) : TI := fun σ H R => ta σ H fun vs H1 => ∃ a xs, vs = [.ref a] ∧ SqT K H1 a xs ∧ R (IteT K a) H1
theorem pi_enumT {X : Cx} {e : Expr} {ta : TA} {p pos tpos : Pos} {elts : List Expr} {kk : Nat} (hg : Gl X "enumerate") (hm : X.mg "enumerate" = none) (ha : PA X [e] ta) (hs : starEach [e] X.env = [(false, eval e X.env)] := by rfl) :
    PI X (.Tuple elts kk tpos) (.Call (.Name "enumerate" p) [e] [] pos) (iEnumT X.K ta) := by
  refine ⟨fun pins s σ H R I h => ?_⟩
  refine Call_ (ld_blt I hg hm boot_enumerate (PyProof.Rows.callWith_type1 (thn (ha.run pos pins s σ H _ I h) fun us s1 ⟨vs, H1, I1, r1, q1⟩ => ?_) hs rfl))
  obtain ⟨a, xs, ex, hq, q⟩ := q1
  subst ex
  cases r1 with
  | cons r rr =>
    cases rr
    cases r
    obtain ⟨its, rv, p', hz⟩ := I1.tuple hq
    have hal : a < s1.heap.objs.size := by obtain ⟨_, z, _⟩ := p'; exact Heap.lt_size z
    refine call_enumerate_tuple p' fun h' he hit hsz hk => wpAny_pyIter_enum he ?_
    have I2 : Inv X pins σ H1 { s1 with heap := h' } := I1.kept (t' := s1.toks) hk
    refine ⟨s1.heap.objs.size + 1, [s1.heap.objs.size + 1, s1.heap.objs.size], _, _, H1, rfl, I2, turn_enumT a (s1.heap.objs.size + 1) s1.heap.objs.size, ⟨⟨.none, he⟩, hit, Nat.succ_ne_self _, Nat.ne_of_lt hal, Nat.ne_of_gt (Nat.lt_succ_of_lt hal)⟩, fun b hb => ?_, q⟩
    have e' : b = s1.heap.objs.size + 1 ∨ b = s1.heap.objs.size := by simpa using hb
    have hle : s1.heap.objs.size ≤ b := by
      rcases e' with z | z
      · rw [z]; exact Nat.le_add_right _ _
      · rw [z]; exact Nat.le_refl _
    exact I1.fpOk hle (I1.hok.fresh hle)
def itEnumT : List D → M (List D)
  | [.tup xs] => M.ret (enumD 0 xs)
  | _ => M.no
section
variable {X : Cx} {EP : EPT} {pos : Pos}
theorem i_enumT {e : Expr} {fs : Lc → M (List D)} {p tpos : Pos} {elts : List Expr} {kk : Nat} (hg : Gl X "enumerate") (hm : X.mg "enumerate" = none) (ha : PA X [e] (TDs X.K EP fs)) (hs : starEach [e] X.env = [(false, eval e X.env)] := by rfl) :
    PI X (.Tuple elts kk tpos) (.Call (.Name "enumerate" p) [e] [] pos) (TI2 X.K EP (iOfs itEnumT fs)) := by
  refine PI.by (pi_enumT hg hm ha hs) fun σ H R ⟨S, env, e0, ok, re, p⟩ => ?_
  subst e0
  refine ⟨S, env, rfl, ok, re, (Post.split p).imp fun ds S1 x1 o1 q vs rvs => ?_⟩
  unfold itEnumT at q
  split at q
  · rename_i xs
    obtain ⟨v, rfl, r1⟩ := rvs1 rvs
    cases r1 with
    | tup h1 t1 =>
      refine ⟨_, _, rfl, h1.seq, o1.ret q _ ⟨fun S' i x hi => ?_, fun S' x => ?_, fun S' i y H' x o hy d hd => ?_⟩⟩
      · rw [enum_len] at hi
        obtain ⟨a, ea, _⟩ := t1.get (List.getElem?_eq_getElem hi)
        exact ⟨_, a, (h1.ext x).seq, ea⟩
      · refine ⟨_, (h1.ext x).seq, ?_⟩
        rw [enum_len, ← t1.length]
        exact Nat.le_refl _
      · obtain ⟨T, a, rfl, hT, rfl, ha⟩ := hy
        obtain ⟨dx, rfl, gx⟩ := enum_get hd
        obtain ⟨a', ea, ra⟩ := t1.get gx
        have e1 := ha _ (h1.ext x).seq
        rw [ea] at e1
        cases e1
        refine .inr ⟨T, _, _, rfl, rfl, hT, rfl, .cons ?_ (.cons ra .nil)⟩
        rw [Nat.zero_add]
        exact .int _
  · exact False.elim q
end
end Mi
set_option Elab.async false
set_option linter.all false
set_option maxRecDepth 100000
set_option maxHeartbeats 4000000
namespace Mi
open PySem PySem.Spec PyProof.Rows L2
/-! ## keys: values that hang on nothing that changes, the heap as a key's lambda sees it -/
mutual
def D.hard : D → Bool
  | .non => true
  | .bl _ => true
  | .int _ => true
  | .str _ => true
  | .tup xs => D.hards xs
  | _ => false
def D.hards : List D → Bool
  | [] => true
  | d :: ds => d.hard && D.hards ds
end
def fz (H : Hp) (h : Heap) : Hp := fun b => match H b with
  | some (.tup xs) => (h.get? b).map fun o => .frz o (.tup xs)
  | some (.frz o (.tup xs)) => some (.frz o (.tup xs))
  | _ => none
theorem fz_none {H : Hp} {h : Heap} {b : Addr} (e : H b = none) : fz H h b = none := by
  unfold fz
  rw [e]
theorem fz_some {H : Hp} {h : Heap} {b : Addr} {u : HO} (e : fz H h b = some u) : ∃ o xs, u = .frz o (.tup xs) ∧ ((H b = some (.tup xs) ∧ h.get? b = some o) ∨ H b = some (.frz o (.tup xs))) := by
  unfold fz at e
  split at e
  · rename_i xs q
    obtain ⟨o, e1, e2⟩ := Option.map_eq_some_iff.mp e
    exact ⟨o, xs, e2.symm, .inl ⟨q, e1⟩⟩
  · rename_i o xs q
    exact ⟨o, xs, (Option.some.inj e).symm, .inr q⟩
  · cases e
/-- from s to s': frames but for their slots, all else as it was -/
structure Kpt (fs : List Addr) (s s' : Shared) : Prop where
  os : s'.os = s.os
  bare : AllBare s'.gens
  keep : ∀ b o, s.heap.get? b = some o → b ∉ fs → s'.heap.get? b = some o
  slot : ∀ b o, s.heap.get? b = some o → b ∈ fs → ∃ sl, s'.heap.get? b = some { o with slots := sl }
theorem Kpt.any {fs : List Addr} {s s' : Shared} (k : Kpt fs s s') {b : Addr} {o : Obj} (e : s.heap.get? b = some o) : ∃ sl, s'.heap.get? b = some { o with slots := sl } := by
  by_cases hb : b ∈ fs
  · exact k.slot b o e hb
  · exact ⟨o.slots, k.keep b o e hb⟩
theorem Kpt.trans {fs : List Addr} {s s' s'' : Shared} (a : Kpt fs s s') (b : Kpt fs s' s'') : Kpt fs s s'' where
  os := b.os.trans a.os
  bare := b.bare
  keep := fun x o e h => b.keep x o (a.keep x o e h) h
  slot := fun x o e h => by
    obtain ⟨sl, e1⟩ := a.slot x o e h
    obtain ⟨sl', e2⟩ := b.slot x _ e1 h
    exact ⟨sl', e2⟩
theorem Kpt.same {fs : List Addr} {s s' : Shared} (o : s'.os = s.os) (b : AllBare s'.gens) (k : ∀ b o, s.heap.get? b = some o → s'.heap.get? b = some o) : Kpt fs s s' :=
  ⟨o, b, fun b o e _ => k b o e, fun b o e _ => ⟨o.slots, k b o e⟩⟩
theorem Kpt.un {fs ex : List Addr} {s s' : Shared} {H : Hp} (k : Kpt fs s s') : Un fs ex H H s.heap s'.heap where
  keep := fun b o e _ hb _ => k.keep b o e hb
  slot := fun b o e _ hb _ => k.slot b o e hb
  free := fun _ _ _ n _ => n
  there := fun b o e _ => let ⟨_, q⟩ := k.any e; ⟨_, q⟩
  tups := fun _ _ q => q
  frzs := fun _ _ _ q => q
  tbls := fun _ ps q => ⟨#[], by rw [q]; simp⟩
section
variable {X : Cx} {pins : List (Addr × Obj)} {σ : St} {H : Hp} {s s1 : Shared}
theorem Kpt.hok (I : Inv X pins σ H s) (k : Kpt (frs X.stack) s s1) : HOk X.prog X.w H s1.heap := fun a u e =>
  (I.hok a u e).stay (fun b o hb q => k.keep b o q fun m => by
    have n := I.stkFree b m
    rcases hb with z | z
    · rw [z, e] at n
      cases n
    · rw [z] at n
      cases n) (fun _ q => q) fun _ _ q => q
theorem Kpt.inv (I : Inv X pins σ H s) (k : Kpt (frs X.stack) s s1) : Inv X pins σ H s1 :=
  I.call' (ch := []) k.os k.un (k.hok I) k.bare fun b hb => absurd hb (by simp)
theorem hok_fz (I : Inv X pins σ H s) (k : Kpt (frs X.stack) s s1) : HOk X.prog X.w (fz H s.heap) s1.heap := fun a u e => by
  obtain ⟨o, xs, rfl, c⟩ := fz_some e
  have nf : ∀ {w : HO}, H a = some w → a ∉ frs X.stack := fun {w} q m => by
    rw [I.stkFree a m] at q
    cases q
  rcases c with ⟨q, ho⟩ | q
  · obtain ⟨z, its, r, o2, e2, c2⟩ := I.hok a _ q
    have h1 := k.keep a o ho (nf q)
    have ee : o2 = o := Option.some.inj (e2.symm.trans ho)
    rw [ee] at c2
    exact ⟨h1, z, its, r, o, h1, c2⟩
  · obtain ⟨ho, z, its, r, o2, e2, c2⟩ := I.hok a _ q
    have h1 := k.keep a o ho (nf q)
    have ee : o2 = o := Option.some.inj (e2.symm.trans ho)
    rw [ee] at c2
    exact ⟨h1, z, its, r, o, h1, c2⟩
/-- the situation of a key's lambda -/
def Sfz (H : Hp) (h : Heap) : Sit := ⟨fun _ => 0, [], fz H h, []⟩
theorem noLiv (H : Hp) (h : Heap) (a : Addr) : ¬ Liv (Sfz H h) a := fun l => by
  rcases l with ⟨i, o, e, _⟩ | l
  · have e' : ([] : AH)[i]? = some (some o) := e
    rw [List.getElem?_nil] at e'
    cases e'
  · exact nomatch (show a ∈ ([] : List Addr) from l)
theorem ok_fz (K : PySem.W.Frag) (H : Hp) (h : Heap) : Ok K (Sfz H h) where
  obj := fun i o e => by
    have e' : ([] : AH)[i]? = some (some o) := e
    rw [List.getElem?_nil] at e'
    cases e'
  inj := fun i j o o' e => by
    have e' : ([] : AH)[i]? = some (some o) := e
    rw [List.getElem?_nil] at e'
    cases e'
  bus := fun a l => nomatch (show a ∈ ([] : List Addr) from l)
  dis := fun i o e => by
    have e' : ([] : AH)[i]? = some (some o) := e
    rw [List.getElem?_nil] at e'
    cases e'
  tab := fun P ps e => by
    obtain ⟨o, xs, z, _⟩ := fz_some e
    cases z
mutual
theorem RV.fz {K : PySem.W.Frag} {S : Sit} (hk : HOk X.prog X.w S.H s.heap) : ∀ {d : D} {v : V}, d.hard = true → RV K S d v → RV K (Sfz S.H s.heap) d v
  | _, _, _, .non => .non
  | _, _, _, .bl b => .bl b
  | _, _, _, .int i => .int i
  | _, _, _, .str x => .str x
  | .tup ds, _, h, @RV.tup _ _ _ a vs q r => by
    have h' : D.hards ds = true := by
      have h2 := h
      unfold D.hard at h2
      exact h2
    refine .tup ?_ (RVs.fz hk h' r)
    rcases q with ⟨u, st, rfl | ⟨o, rfl⟩⟩ | q
    · obtain ⟨z, its, rr, o, e, c⟩ := hk a _ st.1
      refine .inl ⟨.frz o (.tup vs), ⟨?_, noLiv _ _ _, by intro ps h; cases h⟩, .inr ⟨o, rfl⟩⟩
      show Mi.fz S.H s.heap a = _
      unfold Mi.fz
      rw [st.1, e]
      rfl
    · refine .inl ⟨.frz o (.tup vs), ⟨?_, noLiv _ _ _, by intro ps h; cases h⟩, .inr ⟨o, rfl⟩⟩
      show Mi.fz S.H s.heap a = _
      unfold Mi.fz
      rw [st.1]
    · exact .inr q
  | _, _, h, .lst _ _ => by unfold D.hard at h; cases h
  | _, _, h, .fro _ _ => by unfold D.hard at h; cases h
  | _, _, h, .emp _ => by unfold D.hard at h; cases h
  | _, _, h, .ref _ => by unfold D.hard at h; cases h
  | _, _, h, .oth _ => by unfold D.hard at h; cases h
theorem RVs.fz {K : PySem.W.Frag} {S : Sit} (hk : HOk X.prog X.w S.H s.heap) : ∀ {ds : List D} {vs : List V}, D.hards ds = true → RVs K S ds vs → RVs K (Sfz S.H s.heap) ds vs
  | _, _, _, .nil => .nil
  | _, _, h, .cons r t => by
    unfold D.hards at h
    have h' := Bool.and_eq_true_iff.mp h
    exact .cons (RV.fz hk h'.1 r) (RVs.fz hk h'.2 t)
end
/-- the names of a lambda of one parameter: it, captured ones, globals -/
structure LamP (sc scope : Scope) (N : List Str) (i : Nat) (x : Str) : Prop where
  kind : scope.kind = .function
  co : scope.isCoroutine = false
  gen : scope.isGenerator = false
  par : scope.names.lookup x = some .local
  ix : N[i]? = some x
  own : ∀ y ∈ scope.names, y.2 = .local → y.1 = x
  cel : ∀ y ∈ scope.names, y.2 ≠ .cell
  free : ∀ y ∈ scope.names, y.2 = .free → sc.names.lookup y.1 = some .cell ∨ sc.names.lookup y.1 = some .free
def lamPB (sc scope : Scope) (N : List Str) (i : Nat) (x : Str) : Bool :=
  (match scope.kind with | .function => true | _ => false) && !scope.isCoroutine && !scope.isGenerator && decide (scope.names.lookup x = some .local) && decide (N[i]? = some x) &&
    scope.names.all fun y => (!decide (y.2 = .local) || decide (y.1 = x)) && !decide (y.2 = .cell) && (!decide (y.2 = .free) || decide (sc.names.lookup y.1 = some .cell) || decide (sc.names.lookup y.1 = some .free))
theorem lamP_by {sc scope : Scope} {N : List Str} {i : Nat} {x : Str} (h : lamPB sc scope N i x = true) : LamP sc scope N i x := by
  unfold lamPB at h
  simp only [Bool.and_eq_true, Bool.or_eq_true, Bool.not_eq_true', decide_eq_true_eq, decide_eq_false_iff_not, List.all_eq_true] at h
  obtain ⟨⟨⟨⟨⟨h1, h2⟩, h3⟩, h4⟩, h5⟩, h6⟩ := h
  refine ⟨?_, h2, h3, h4, h5, fun y hy e => ?_, fun y hy => (h6 y hy).1.2, fun y hy e => ?_⟩
  · split at h1
    · assumption
    · cases h1
  · rcases (h6 y hy).1.1 with z | z
    · exact absurd e z
    · exact z
  · rcases (h6 y hy).2 with (z | z) | z
    · exact absurd e z
    · exact .inl z
    · exact .inr z
theorem LamP.has {scope : Scope} {i : Nat} {x : Str} (L : LamP X.env.scope scope X.N i x) (ok : X.Ok) : ∀ y ∈ scope.names, y.2 = .free → ∃ c, X.env.cells.lookup y.1 = some c := fun y hy e =>
  (L.free y hy e).elim (fun k => ok.has _ (.inl k)) fun k => ok.has _ (.inr k)
/-- the slots that a lambda's body reads: its own, captured ones as they are -/
def SlK (N : List Str) (scope : Scope) (i : Nat) (σ σ2 : St) (u : V) : Prop :=
  σ2.length = N.length ∧ ∀ (j : Nat) (y : Str) (v : V), N[j]? = some y → σ2[j]? = some (some v) → Vis scope y → (j = i ∧ v = u) ∨ (j ≠ i ∧ σ[j]? = some (some v))
theorem key_start {A : Around} {E : XK} {scope : Scope} {f c' : Addr} {h₁ : Heap} {tk i : Nat} {x : Str} {u : V} {v : Value} {σ2 : St} {Hz : Hp} (I : Inv X pins σ H s) (hN : X.N.Nodup) (L : LamP X.env.scope scope X.N i x) (kz : ∀ b, H b = none → Hz b = none)
    (e0 : Env0 X.prog X.w X.K X.mg X.base A X.stack s1 Hz) (hd : A.handled = none) (k : Kpt (frs X.stack) s s1) (hns : h₁.Ns s1.heap.objs.size fun y => [(x, v)].reverse.lookup y) (kp : ∀ b o, s1.heap.get? b = some o → h₁.get? b = some o)
    (hσ : SlK X.N scope i σ σ2 u) (ru : RelV u v) : Inv (LamX.lamCx X A X.stack s1 Hz E scope f c') [] σ2 Hz { s1 with heap := h₁, toks := tk } := by
  have hfree := L.has I.ok
  have cm : ∀ {y c}, (cloFrom X.env.cells scope.names []).lookup y = some c → X.env.cells.lookup y = some c := fun {y c} e => by
    rcases cloFrom_mem (PySem.mem_of_lookup e) with z | ⟨z1, z2⟩
    · cases z
    · obtain ⟨c1, q⟩ := hfree _ z1 rfl
      have q : X.env.cells.lookup y = some c1 := q
      rw [q] at z2
      rw [z2]
      exact q
  have look : ∀ {y}, scope.names.lookup y = some .free → ∃ c, (cloFrom X.env.cells scope.names []).lookup y = some c := fun {y} hl =>
    mem_lookup (cloFrom_has (cells := X.env.cells) (acc := []) (show (y, NameKind.free) ∈ scope.names from PySem.mem_of_lookup hl))
  have cellK : ∀ {c : Addr} {w : Option Value}, s.heap.IsCell c w → h₁.IsCell c w := fun {c w} ⟨o, ho, hdd⟩ => by
    obtain ⟨sl, q⟩ := k.any ho
    exact ⟨_, kp _ _ q, hdd⟩
  have noA : ∀ b : Addr, b ∉ (LamX.lamCx X A X.stack s1 Hz E scope f c').ex := fun b z => nomatch (show b ∈ ([] : List Addr) from z)
  refine ⟨⟨e0.mod, L.kind, rfl, rfl, Nat.le_refl _, fun y z c q1 q2 => I.ok.inj y z c (cm q1) (cm q2), fun y hy => ?_, fun y c z _ => ?_, fun _ => hd, Around.frames_deeper e0.frames, .inr ⟨rfl, rfl⟩, fun b z => absurd z (noA b), e0.bs, e0.bsz, fun b _ _ => noA b,
      fun b z => absurd z (noA b), e0.funs, e0.frf⟩,
    rfl, e0.bare, Un.kept kp, ⟨_, hns, fun j y w q1 q2 q3 => ?_⟩, fun y c e => ?_, e0.hok.fresh (Nat.le_refl _), fun y c e => kz _ (I.freeC y c (cm e)), fun q hq => (nomatch (show q ∈ ([] : List (Addr × Obj)) ++ [] from hq)), e0.hok.kept kp, hσ.1⟩
  · have hy : scope.names.lookup y = some .cell ∨ scope.names.lookup y = some .free := hy
    rcases hy with hy | hy
    · exact absurd rfl (L.cel _ (PySem.mem_of_lookup hy))
    · exact look hy
  · have z : false = true := z
    cases z
  · have q3 : Vis scope y := q3
    have q1 : X.N[j]? = some y := q1
    rcases hσ.2 j y w q1 q2 q3 with ⟨rfl, rfl⟩ | ⟨hj, q4⟩
    · have ey : y = x := Option.some.inj (q1.symm.trans L.ix)
      rw [ey]
      exact ⟨v, ru, .inl ⟨L.par, by simp [List.lookup]⟩⟩
    · have hx : y ≠ x := fun z => hj (nodup_ix hN (z ▸ q1) L.ix)
      have k : scope.names.lookup y = some .free := by
        rcases q3 with z | z | z
        · exact absurd (L.own _ (PySem.mem_of_lookup z) rfl) hx
        · exact absurd rfl (L.cel _ (PySem.mem_of_lookup z))
        · exact z
      obtain ⟨m, hn, hl⟩ := I.loc
      have fr := L.free _ (PySem.mem_of_lookup k) rfl
      obtain ⟨w', r, q⟩ := hl j y w q1 q4 (fr.elim (fun k => .inr (.inl k)) fun k => .inr (.inr k))
      obtain ⟨c2, h2⟩ := look k
      refine ⟨w', r, .inr ⟨.inr k, c2, h2, ?_⟩⟩
      have c1 := cm h2
      rcases q with ⟨k', _⟩ | ⟨_, c3, e', z⟩
      · have k' : X.env.scope.names.lookup y = some .local := k'
        rcases fr with k2 | k2 <;> rw [show X.env.scope.names.lookup y = _ from k2] at k' <;> cases k'
      · rw [c1] at e'
        cases e'
        exact cellK z
  · obtain ⟨w', z⟩ := I.cell y c (cm e)
    exact ⟨w', cellK z⟩
end
end Mi
set_option Elab.async false
set_option linter.all false
set_option maxRecDepth 100000
set_option maxHeartbeats 4000000
namespace Mi
open PySem PySem.Spec PyProof.Rows L2
/-! ## a lambda is made: its maker's table of code objects -/
theorem codeO_nt {c : Addr} {q : Str} : ∀ ps, LamX.CodeO c q ≠ .tbl ps := fun ps => LamX.codeO_ne ps
theorem Sit.made {K : PySem.W.Frag} {S : Sit} (ok : Ok K S) {P c' : Addr} {ps : Array Value} {q : Str} {pos : Pos} (hP : S.H P = some (.tbl ps)) (hn : S.H c' = none) (tq : TabQ K P q) :
    Ok K { S with H := upd (upd S.H P (.tbl (ps ++ #[rawInt pos.line, rawInt pos.col, .ref c']))) c' (LamX.CodeO c' q) } ∧ Ext S { S with H := upd (upd S.H P (.tbl (ps ++ #[rawInt pos.line, rawInt pos.col, .ref c']))) c' (LamX.CodeO c' q) } := by
  have T := ok.tab P ps hP
  have nPc : P ≠ c' := ne_of_none hP hn
  have at_ : ∀ b, b ≠ P → b ≠ c' → upd (upd S.H P (.tbl (ps ++ #[rawInt pos.line, rawInt pos.col, .ref c']))) c' (LamX.CodeO c' q) b = S.H b := fun b h1 h2 => by rw [upd_ne h2, upd_ne h1]
  have e : Ext S { S with H := upd (upd S.H P (.tbl (ps ++ #[rawInt pos.line, rawInt pos.col, .ref c']))) c' (LamX.CodeO c' q) } :=
    { len := Nat.le_refl _
      agree := fun _ _ => rfl
      pers := fun a u h => by
        show upd (upd S.H P _) c' _ a = some u
        rw [at_ a (fun z => h.3 ps (Option.some.inj (h.1.symm.trans (z ▸ hP)))) (ne_of_none h.1 hn)]
        exact h.1
      liv := fun a l => .inl l
      bsy := rfl
      keep := fun a h => by
        obtain ⟨w, q1⟩ := ok.bus a h
        show upd (upd S.H P _) c' _ a = S.H a
        exact at_ a (fun z => T.nb (z ▸ h)) (ne_of_none q1 hn)
      tbl := fun P' ps' h => by
        by_cases z : P' = P
        · rw [z]
          exact ⟨_, by show upd (upd S.H P _) c' _ P = _; rw [upd_ne nPc, upd_same]⟩
        · exact ⟨ps', by show upd (upd S.H P _) c' _ P' = _; rw [at_ P' z (ne_of_none h hn)]; exact h⟩ }
  refine ⟨⟨fun i o h => ?_, ok.inj, fun a h => ?_, ok.dis, fun P' ps' h => ?_⟩, e⟩
  · obtain ⟨u, q1, r⟩ := ok.obj i o h
    refine ⟨u, ?_, r.ext e⟩
    show upd (upd S.H P _) c' _ (S.ρ i) = some u
    rw [at_ _ (fun z => ok.noTbl h hP z.symm) (ne_of_none q1 hn)]
    exact q1
  · obtain ⟨u, q1⟩ := ok.bus a h
    exact ⟨u, (e.keep a h).trans q1⟩
  · have h : upd (upd S.H P (.tbl (ps ++ #[rawInt pos.line, rawInt pos.col, .ref c']))) c' (LamX.CodeO c' q) P' = some (.tbl ps') := h
    by_cases z2 : P' = c'
    · rw [z2, upd_same] at h
      exact (codeO_nt ps' (Option.some.inj h)).elim
    · by_cases z : P' = P
      · rw [z, upd_ne nPc, upd_same] at h
        have ep : ps' = ps ++ #[rawInt pos.line, rawInt pos.col, .ref c'] := by
          have := Option.some.inj h
          injection this with this
          exact this.symm
        rw [z, ep]
        have eL : (ps ++ #[rawInt pos.line, rawInt pos.col, .ref c']).toList = ps.toList ++ [rawInt pos.line, rawInt pos.col, .ref c'] := by simp
        refine ⟨by rw [eL]; exact PySem.TriplesOk_snoc _ _ _ _ T.ok, fun p' cv hcv => ?_, T.nb⟩
        rw [eL] at hcv
        rcases LamX.among_app _ T.ok hcv with z3 | z3
        · obtain ⟨c, q', a, b, d⟩ := T.has p' cv z3
          exact ⟨c, q', a, b, e.still d⟩
        · exact ⟨c', q, z3, tq, upd_same, fun l => ok.notLiv hn l, codeO_nt⟩
      · rw [at_ P' z z2] at h
        exact Ext.codes (fun _ _ s => e.still s) (ok.tab P' ps' h) (ok.tab P' ps' h).nb
/-- a def that makes lambdas: its code object, its table -/
structure LamAt (K : PySem.W.Frag) (f c P : Addr) (x : Str) : Prop where
  code : ∀ (oc : Value) (od : Option Addr) (fd : FuncData) (osl : Array (Option Value)), K.lookup f = some ⟨oc, od, .func fd, osl⟩ → fd.code = .ref c
  uniq : TabQ K P (x ++ ".<locals>." ++ "<lambda>")
  own : ∃ (o : Obj) (vs : Array Value) (t : Tok), K.lookup c = some o ∧ o.data = .fields vs ∧ vs[11]? = some (.ref P) ∧ vs[1]? = some (.str x t)
def tabqB (K : PySem.W.Frag) (P : Addr) (x : Str) : Bool := K.all fun e => match e.2.data with
  | .fields vs => (match (vs[11]? : Option Value) with
    | some (.ref P') => (P' != P) || (match (vs[1]? : Option Value) with | some (.str g _) => g == x | _ => true)
    | _ => true)
  | _ => true
def lamIn (K : PySem.W.Frag) (f c P : Addr) (x : Str) : Bool :=
  (match K.lookup f with | some ⟨_, _, .func fd, _⟩ => (match fd.code with | .ref c' => c' == c | _ => false) | _ => false) &&
  (match K.lookup c with | some ⟨_, _, .fields vs, _⟩ => (match (vs[11]? : Option Value) with | some (.ref P') => P' == P | _ => false) && (match (vs[1]? : Option Value) with | some (.str g _) => g == x | _ => false) | _ => false) && tabqB K P x
theorem frag_mem {K : PySem.W.Frag} {a : Addr} {o : Obj} (h : K.lookup a = some o) : ∃ b, (b, o) ∈ K := by
  induction K with
  | nil => cases h
  | cons e r ih =>
    obtain ⟨b, ob⟩ := e
    rw [List.lookup_cons] at h
    split at h
    · cases h
      exact ⟨b, List.mem_cons_self⟩
    · obtain ⟨b', m⟩ := ih h
      exact ⟨b', List.mem_cons_of_mem _ m⟩
theorem lamAt_by {K : PySem.W.Frag} {f c P : Addr} {x : Str} (h : lamIn K f c P x = true) : LamAt K f c P x := by
  unfold lamIn at h
  simp only [Bool.and_eq_true] at h
  obtain ⟨⟨h1, h2⟩, h3⟩ := h
  refine ⟨fun oc od fd osl e => ?_, fun c0 o vs fq t e1 e2 e3 e4 => ?_, ?_⟩
  · rw [e] at h1
    dsimp only at h1
    split at h1
    · rename_i c' q
      rw [q, beq_iff_eq.mp h1]
    · cases h1
  · obtain ⟨_, m⟩ := frag_mem e1
    unfold tabqB at h3
    have q := List.all_eq_true.mp h3 _ m
    dsimp only at q
    rw [e2] at q
    dsimp only at q
    rw [e3] at q
    dsimp only at q
    rw [e4] at q
    dsimp only at q
    rcases Bool.or_eq_true_iff.mp q with z | z
    · simp at z
    · rw [beq_iff_eq.mp z]
  · split at h2
    · rename_i vs _ hk
      simp only [Bool.and_eq_true] at h2
      obtain ⟨a, b⟩ := h2
      split at a
      · rename_i P' hp
        split at b
        · rename_i g t hg
          rw [beq_iff_eq.mp a] at hp
          rw [beq_iff_eq.mp b] at hg
          exact ⟨_, vs, t, hk, rfl, hp, hg⟩
        · cases b
      · cases a
    · cases h2
section
variable {X : Cx} {pins : List (Addr × Obj)} {σ : St} {H : Hp} {s s1 : Shared}
theorem lam_made {c P : Addr} {ps : Array Value} {q : Str} {params : Arguments} {body : Expr} {scope : Scope} {pos : Pos} {E : Value → Shared → Prop} {Q : Value → Shared → Prop} (I : Inv X pins σ H s) (TB : LamX.TabB X.base X.mg c P) (hcode : X.env.code = .ref c)
    (hP : H P = some (.tbl ps)) (ht : TriplesOk ps.toList) (ha : ∀ (p' : Pos) (cv : Value), codeAmong p' ps.toList = some cv → ∃ c', cv = .ref c' ∧ H c' = some (LamX.CodeO c' q)) (hq : X.env.qual ++ "<lambda>" = q) (hdef : defaultsOf params X.env = ([], []))
    (hfree : ∀ y ∈ scope.names, y.2 = .free → ∃ c, X.env.cells.lookup y.1 = some c)
    (h : ∀ (f c' : Addr) (pm ctv : Value) (H1 : Hp) (s' : Shared), Inv X pins σ H1 s' → (H1 = H ∨ (H c' = none ∧ H1 = upd (upd H P (.tbl (ps ++ #[rawInt pos.line, rawInt pos.col, .ref c']))) c' (LamX.CodeO c' q))) →
      s'.heap.get? f = some (PySem.W.kla_obj "<lambda>" q params body scope (cloFrom X.env.cells scope.names []) pm c' ctv) → f ∉ frs X.stack → H1 c' = some (LamX.CodeO c' q) → Q (.ref f) s') :
    wpAny (model X.prog X.w) X.A (eval (.Lambda params body scope pos) X.env) Q E s := by
  subst hq
  have bP : s.heap.BuiltinsAt X.mg P := TB.bm.keeps I.bk
  have hob : s.heap.get? P = some { cls := .none, data := .fields ps } := I.hok P _ hP
  have nofr : ∀ f, s.heap.objs.size ≤ f → f ∉ frs X.stack := fun f hf z => by
    obtain ⟨_, o, ho, _⟩ := I.stack.mem z
    exact Nat.lt_irrefl _ (Nat.lt_of_lt_of_le (Heap.lt_size ho) hf)
  refine PySem.W.kla_eval hdef ?_
  cases hc : codeAmong pos ps.toList with
  | none =>
    refine PySem.W.kla_makeFunction (mg := X.mg) (c := c) (P := P) (ps := ps) (closure_ok hfree) I.ok.glob (I.mod.glob.keeps I.bk) hcode (TB.code.keeps I.bk) hob ht hc TB.gP bP fun c' ctv h' tk hx hge hlt hrec htb => ?_
    obtain ⟨c2, oc, vs, t, e2, hoc, hd, hv⟩ := hrec
    cases e2
    have nC : H c' = none := I.hok.fresh hge
    have hsz : s.heap.objs.size ≤ h'.objs.size := Nat.le_trans hge (Nat.le_of_lt hlt)
    have J := LamX.inv_table (q := X.env.qual ++ "<lambda>") (t' := tk) (more := #[rawInt pos.line, rawInt pos.col, .ref c']) (h' := h'.push (PySem.W.kla_obj "<lambda>" (X.env.qual ++ "<lambda>") params body scope (cloFrom X.env.cells scope.names []) ((X.mg "__name__").getD .none) c' ctv)) I hP
      (fun b o hb e => Heap.get?_push_of_some _ (hx b o hb e)) (Heap.get?_push_of_some _ htb) hge ⟨oc, vs, t, Heap.get?_push_of_some _ hoc, hd, hv⟩
    exact h h'.objs.size c' _ ctv _ _ J (.inr ⟨nC, rfl⟩) (Heap.get?_push_size _ rfl) (nofr _ hsz) upd_same
  | some cv =>
    obtain ⟨c', e, hco⟩ := ha pos cv hc
    subst e
    refine PySem.W.kla_makeFunctionHit (mg := X.mg) (c := c) (P := P) (ps := ps) (closure_ok hfree) I.ok.glob (I.mod.glob.keeps I.bk) hcode (TB.code.keeps I.bk) hob ht hc bP fun ctv h' tk hx hsz => ?_
    have J : Inv X pins σ H { s with heap := h'.push (PySem.W.kla_obj "<lambda>" (X.env.qual ++ "<lambda>") params body scope (cloFrom X.env.cells scope.names []) ((X.mg "__name__").getD .none) c' ctv), toks := tk } := I.kept fun b o e => Heap.get?_push_of_some _ (hx b o e)
    exact h h'.objs.size c' _ ctv H _ J (.inl rfl) (Heap.get?_push_size _ rfl) (nofr _ hsz) hco
/-- .. in the mirror's words -/
theorem lam_mir {S : Sit} {f0 c P : Addr} {x : Str} {params : Arguments} {body : Expr} {scope : Scope} {pos : Pos} {E : Value → Shared → Prop} {Q : Value → Shared → Prop} (I : Inv X pins σ S.H s) (ok : Ok X.K S) (lm : LamAt X.K f0 c P x) (TB : LamX.TabB X.base X.mg c P) (hcode : X.env.code = .ref c)
    (hx : X.env.qual = x ++ ".<locals>.") (hT : ∃ ps, S.H P = some (.tbl ps)) (hdef : defaultsOf params X.env = ([], []))
    (hfree : ∀ y ∈ scope.names, y.2 = .free → ∃ c, X.env.cells.lookup y.1 = some c)
    (h : ∀ (f c' : Addr) (pm ctv : Value) (S1 : Sit) (s' : Shared), Inv X pins σ S1.H s' → Ok X.K S1 → Ext S S1 → S1.ah = S.ah →
      s'.heap.get? f = some (PySem.W.kla_obj "<lambda>" (X.env.qual ++ "<lambda>") params body scope (cloFrom X.env.cells scope.names []) pm c' ctv) → f ∉ frs X.stack → S1.H c' = some (LamX.CodeO c' (X.env.qual ++ "<lambda>")) → Q (.ref f) s') :
    wpAny (model X.prog X.w) X.A (eval (.Lambda params body scope pos) X.env) Q E s := by
  obtain ⟨ps, hP⟩ := hT
  have T := ok.tab P ps hP
  have hq : X.env.qual ++ "<lambda>" = x ++ ".<locals>." ++ "<lambda>" := by rw [hx]
  have tq : TabQ X.K P (X.env.qual ++ "<lambda>") := by rw [hq]; exact lm.uniq
  refine lam_made I TB hcode hP T.ok (fun p' cv hcv => ?_) rfl hdef hfree fun f c' pm ctv H1 s' I1 hH hf hfr hco => ?_
  · obtain ⟨c1, q1, a, b, d⟩ := T.has p' cv hcv
    obtain ⟨o, vs, t, k1, k2, k3, k4⟩ := lm.own
    have e := b c o vs x t k1 k2 k3 k4
    refine ⟨c1, a, ?_⟩
    rw [hq, ← e]
    exact d.1
  · rcases hH with e | ⟨hn, e⟩
    · subst e
      exact h f c' pm ctv S s' I1 ok (Ext.refl S) rfl hf hfr hco
    · subst e
      obtain ⟨o1, e1⟩ := Sit.made (pos := pos) ok hP hn tq
      exact h f c' pm ctv _ s' I1 o1 e1 rfl hf hfr hco
end
end Mi
set_option Elab.async false
set_option linter.all false
set_option maxRecDepth 100000
set_option maxHeartbeats 4000000
namespace Mi
open PySem PySem.Spec PyProof.Rows L2
/-! ## max(xs, key=lambda v: ..), min -/
/-- the names as the lambda sees them -/
def envK (i : Nat) (fr : List Nat) (env : Lc) (d : D) : Lc := (List.range env.length).map fun j => if j = i then some d else if fr.contains j then (env[j]?).join else none
def keyOf (i : Nat) (fr : List Nat) (fk : Lc → M D) (env : Lc) (d : D) : Option Int :=
  if (d.hard && decide (i < env.length) && fr.all fun j => match env[j]? with | some (some x) => x.hard | _ => false) = true then
    match fk (envK i fr env d) [] with
    | .ok (.int k) _ => some k
    | _ => none
  else none
def kysOf (i : Nat) (fr : List Nat) (fk : Lc → M D) (env : Lc) : List D → Option (List Int)
  | [] => some []
  | d :: ds => match keyOf i fr fk env d, kysOf i fr fk env ds with
    | some k, some ks => some (k :: ks)
    | _, _ => none
def btK (gt : Bool) (val : Nat → Int) : Nat → Nat → Bool := fun i j => if gt = true then decide (val i > val j) else decide (val i < val j)
def bestOf (gt : Bool) (ks : List Int) (ds : List D) : Option D := if ks = [] then none else ds[argBest (btK gt fun j => ks.getD j 0) (ks.length - 1)]?
def eBest (gt : Bool) (i : Nat) (fr : List Nat) (fs : Lc → M (List D)) (fk : Lc → M D) : Lc → M D := fun env => M.andThen (fs env) fun xs => match xs with
  | [.lst ds] => M.andThen (M.lift (kysOf i fr fk env ds)) fun ks => M.lift (bestOf gt ks ds)
  | _ => M.no
theorem kysOf_len {i : Nat} {fr : List Nat} {fk : Lc → M D} {env : Lc} : ∀ {ds : List D} {ks : List Int}, kysOf i fr fk env ds = some ks → ks.length = ds.length
  | [], ks, h => by
    cases h
    rfl
  | d :: ds, ks, h => by
    unfold kysOf at h
    split at h
    · rename_i k ks' h1 h2
      cases h
      simp only [List.length_cons, kysOf_len h2]
    · cases h
theorem kysOf_at {i : Nat} {fr : List Nat} {fk : Lc → M D} {env : Lc} : ∀ {ds : List D} {ks : List Int} {j : Nat} {d : D}, kysOf i fr fk env ds = some ks → ds[j]? = some d → keyOf i fr fk env d = some (ks.getD j 0)
  | [], _, _, _, _, h => by simp at h
  | d :: ds, ks, j, x, h, hj => by
    unfold kysOf at h
    split at h
    · rename_i k ks' h1 h2
      cases h
      cases j with
      | zero =>
        simp only [List.getElem?_cons_zero, Option.some.injEq] at hj
        rw [← hj, h1]
        rfl
      | succ j =>
        rw [List.getElem?_cons_succ] at hj
        rw [kysOf_at h2 hj]
        rfl
    · cases h
theorem argBest_le (bt : Nat → Nat → Bool) : ∀ k, argBest bt k ≤ k
  | 0 => Nat.le_refl _
  | k + 1 => by
    unfold argBest
    split
    · exact Nat.le_refl _
    · exact Nat.le_succ_of_le (argBest_le bt k)
section
variable {X : Cx} {pins : List (Addr × Obj)} {σ : St} {s s1 : Shared}
theorem Kpt.ran {fs : List Addr} {P : Program} {w : World} {Hz H' : Hp} {s s' : Shared} (os : s'.os = s.os) (bare : AllBare s'.gens) (un : Un fs [] Hz H' s.heap s'.heap) (h1 : HOk P w Hz s.heap) (h2 : HOk P w H' s'.heap) (hz : ∀ b u, Hz b = some u → ∃ o w, u = .frz o w) : Kpt fs s s' := by
  have key : ∀ b o u, s.heap.get? b = some o → Hz b = some u → s'.heap.get? b = some o := fun b o u e q => by
    obtain ⟨o', w', rfl⟩ := hz b u q
    have e1 := (h1 b _ q).1
    rw [e] at e1
    cases e1
    exact (h2 b _ (un.frzs b _ _ q)).1
  refine ⟨os, bare, fun b o e hb => ?_, fun b o e hb => ?_⟩
  · cases q : Hz b with
    | none => exact un.keep b o e q hb (fun z => nomatch z)
    | some u => exact key b o u e q
  · cases q : Hz b with
    | none => exact un.slot b o e q hb (fun z => nomatch z)
    | some u => exact ⟨o.slots, key b o u e q⟩
/-- a key is told -/
theorem key_call {S : Sit} {A : Around} {kk i : Nat} {fr : List Nat} {x : Str} {f c' : Addr} {pm ctv : Value} {params : Arguments} {body : Expr} {scope : Scope} {fk : Lc → M D} {env : Lc} {d : D} {u : V} {v : Value} {k : Int} {Q E : Value → Shared → Prop}
    (I : Inv X pins σ S.H s) (hN : X.N.Nodup) (hA : A.frames = some X.stack) (hgu : A.guards = some []) (hr : Room (kk + 1) A) (L : LamP X.env.scope scope X.N i x) (kp : Kpt (frs X.stack) s s1)
    (hfr : ∀ y ∈ scope.names, y.2 = .free → ∀ j, X.N[j]? = some y.1 → fr.contains j = true)
    (hf : s.heap.get? f = some (PySem.W.kla_obj "<lambda>" (X.env.qual ++ "<lambda>") params body scope (cloFrom X.env.cells scope.names []) pm c' ctv)) (hff : f ∉ frs X.stack) (hco : S.H c' = some (LamX.CodeO c' (X.env.qual ++ "<lambda>")))
    (hbind : ∀ (u : Value) (q : Str) (cl : List (Str × Addr)) (pm cv ctv : Value), bindArgs (PySem.W.kla_fn "<lambda>" q params body scope cl pm cv ctv) ⟨[u], []⟩ = pure [(x, u)])
    (hbody : ∀ (A : Around) (outer : List Env) (s : Shared) (H : Hp) (E : XK) (f c' : Addr), Room kk (A.deeper (LamX.lamEnv X scope s.heap.objs.size f c')) → Rm (LamX.lamCx X A outer s H E scope f c') → PE (LamX.lamCx X A outer s H E scope f c') body (TD X.K EP0 fk))
    (re : RE X.K S env σ) (rd : RV X.K S d u) (ru : RelV u v) (hk : keyOf i fr fk env d = some k) (h : ∀ t s2, Kpt (frs X.stack) s1 s2 → Q (.int k t) s2) : wpAny (model X.prog X.w) A (call (.ref f) [v]) Q E s1 := by
  unfold keyOf at hk
  split at hk
  case isFalse => cases hk
  rename_i hard
  simp only [Bool.and_eq_true, List.all_eq_true, decide_eq_true_eq] at hard
  obtain ⟨⟨hd, hi⟩, hfree⟩ := hard
  have I1 := kp.inv I
  have e1 := I1.env0
  have hz1 := hok_fz I kp
  have e0 : Env0 X.prog X.w X.K X.mg X.base A X.stack s1 (fz S.H s.heap) := ⟨hA, e1.mod, fun b o q => ⟨(e1.bs b o q).1, fz_none (e1.bs b o q).2⟩, e1.bsz, e1.funs, fun b hb => fz_none (e1.frf b hb), hz1, e1.bare⟩
  have of1 := kp.keep f _ hf hff
  obtain ⟨⟨oc, vs, t, hoc, hdc, hvc⟩, _, _⟩ := I.hok c' _ hco
  have ncf : c' ∉ frs X.stack := fun m => by
    have n := I.stkFree c' m
    rw [hco] at n
    cases n
  have hoc1 := kp.keep c' _ hoc ncf
  have rc : codeAny (model X.prog X.w) A (.call (.ref f) ⟨[v], []⟩) (CR (L2.CX X.prog X.w) X.stack X.prog X.w (fz S.H s.heap) s1 (fun r _ => r = .int k) fun _ _ _ => False) s1 := by
    refine PySem.W.kla_callFunE hr.depth of1 rfl L.co L.gen rfl ⟨c', oc, vs, t, rfl, hoc1, hdc, hvc⟩ ?_
    rw [hbind]
    refine wpAny_pure (wpAny_newFunctionEnv L.cel (fun y hy => ?_) (fun h₁ hns hsb => ⟨I1.nolimit.fresh _ hsb, ?_⟩) L.kind)
    · rw [List.mem_singleton.mp hy]
      exact L.par
    show codeAny _ _ (.expr body (LamX.lamEnv X scope s1.heap.objs.size f c')) _ _
    have kp1 : ∀ b o, s1.heap.get? b = some o → h₁.get? b = some o := fun b o e => hsb.extBut b o (Nat.ne_of_lt (Heap.lt_size e)) (Heap.get?_push_of_some _ e)
    let σ2 : St := (List.range σ.length).map fun j => if j = i then some u else if fr.contains j then (σ[j]?).join else none
    have hl2 : σ2.length = σ.length := by simp [σ2]
    have at2 : ∀ {j : Nat} {w : V}, σ2[j]? = some (some w) → (j = i ∧ w = u) ∨ (j ≠ i ∧ fr.contains j = true ∧ σ[j]? = some (some w)) := fun {j w} e => by
      simp only [σ2, List.getElem?_map, Option.map_eq_some_iff] at e
      obtain ⟨j', e1, e2⟩ := e
      obtain ⟨hj, e1⟩ := List.getElem?_eq_some_iff.mp e1
      rw [List.getElem_range] at e1
      subst e1
      by_cases z : j = i
      · rw [if_pos z] at e2
        exact .inl ⟨z, (Option.some.inj e2).symm⟩
      · rw [if_neg z] at e2
        by_cases z2 : fr.contains j = true
        · rw [if_pos z2] at e2
          exact .inr ⟨z, z2, Option.join_eq_some_iff.mp e2⟩
        · rw [if_neg z2] at e2
          cases e2
    have sl : SlK X.N scope i σ σ2 u := ⟨hl2.trans I.len, fun j y w q1 q2 q3 => (at2 q2).imp id fun z => ⟨z.1, z.2.2⟩⟩
    have J : Inv (LamX.lamCx X A X.stack s1 (fz S.H s.heap) (fun _ _ _ => False) scope f c') [] σ2 (fz S.H s.heap) { s1 with heap := h₁, toks := s1.toks + [(x, v)].length } :=
      key_start I hN L (fun b => fz_none) e0 hr.hd kp hns kp1 sl ru
    have re2 : RE X.K (Sfz S.H s.heap) (envK i fr env d) σ2 := by
      refine ⟨by rw [hl2, ← re.1]; simp [envK], fun j w e => ?_⟩
      unfold envK at e
      simp only [List.getElem?_map, Option.map_eq_some_iff] at e
      obtain ⟨j', e1, e2⟩ := e
      obtain ⟨hj, e1⟩ := List.getElem?_eq_some_iff.mp e1
      rw [List.getElem_range] at e1
      subst e1
      rw [List.length_range] at hj
      have hjs : j < σ.length := by rw [← re.1]; exact hj
      by_cases z : j = i
      · rw [if_pos z] at e2
        cases e2
        refine ⟨u, ?_, rd.fz I.hok hd⟩
        subst z
        simp [σ2, hjs]
      · rw [if_neg z] at e2
        by_cases z2 : fr.contains j = true
        · rw [if_pos z2] at e2
          have e3 := Option.join_eq_some_iff.mp e2
          obtain ⟨w', e4, r⟩ := re.2 j w e3
          have hw : w.hard = true := by
            have := hfree j (List.contains_iff_mem.mp z2)
            rw [e3] at this
            exact this
          refine ⟨w', ?_, r.fz I.hok hw⟩
          have z3 : j ∈ fr := List.contains_iff_mem.mp z2
          show σ2[j]? = some (some w')
          simp only [σ2, List.getElem?_map, List.getElem?_range hjs, Option.map_some, if_neg z, if_pos z2, e4, Option.join_some]
        · rw [if_neg z2] at e2
          cases e2
    refine PySem.W.kla_codeExpr (wpAny_mono ((hbody A X.stack s1 (fz S.H s.heap) (fun _ _ _ => False) f c' (hr.deeper _) ⟨hgu, (hr.deeper _).units, rfl, room66 (hr.deeper _)⟩).run [] _ σ2 (fz S.H s.heap) (fun r _ => r = .int k) J ⟨Sfz S.H s.heap, _, rfl, ok_fz X.K S.H s.heap, re2, ?_⟩) (fun r s' hq => ?_) fun e s' hq => hq)
    · show Post X.K EP0 (Sfz S.H s.heap) _ (fk (envK i fr env d) [])
      revert hk
      generalize fk (envK i fr env d) [] = rr
      intro hk
      cases rr with
      | no => cases hk
      | ex e en ah' => cases hk
      | ok y ah' =>
        cases y <;> first | cases hk | skip
        intro S' x o q w' rw'
        cases rw'
        rfl
    · obtain ⟨w', H', J', rv, q⟩ := hq
      exact ⟨w', H', J'.os, J'.bare, J'.base, J'.hok, rv, q⟩
  refine wpAny_call (codeAny_mono rc fun r s' hq => ?_)
  cases r with
  | error e =>
    obtain ⟨_, _, _, _, _, _, _, _, _, _, _, _, z⟩ := hq
    exact z.elim
  | ok fl =>
    cases fl with
    | next => exact hq.elim
    | brk => exact hq.elim
    | cont => exact hq.elim
    | ret r =>
      obtain ⟨w', H', os, bare, un, hok', rv, q⟩ := hq
      have q : w' = V.int k := q
      rw [q] at rv
      obtain ⟨t2, rfl⟩ : ∃ t, r = Value.int k t := rv
      exact h t2 s' (Kpt.ran os bare un hz1 hok' fun b u e => let ⟨o, xs, z, _⟩ := fz_some e; ⟨o, _, z⟩)
end
end Mi
set_option Elab.async false
set_option linter.all false
set_option maxRecDepth 100000
set_option maxHeartbeats 4000000
namespace Mi
open PySem PySem.Spec PyProof.Rows L2
theorem roomIn {k : Nat} {A : Around} (r : Room (k + 2) A) : Room (k + 1) A.in1 := ⟨r.hd, by have := r.dp; show A.depth + 3 * (k + 1) + 5 < _; omega, by have := r.un; show A.units + 1 + 16 * (k + 1) + 200 < _; omega⟩
section
variable {X : Cx} {EP : EPT}
/-- what a built-in that tells the best by a key asks -/
def BestW (X : Cx) (id : String) (op : CmpOp) : Prop := ∀ (s : Shared) (xv : Value) (q : Addr) (Q E : Value → Shared → Prop),
  wpAny (model X.prog X.w) X.A.in1 (pyIter xv) (fun it s₂ => ∃ I fp wr G n P St J V bt, it = .ref I ∧ WalksS X.prog X.w X.A.in1 I fp wr G n P St ∧ St 0 s₂ ∧ (∀ b ∈ fp, b < s₂.heap.objs.size) ∧ 0 < n ∧
      KeyRun X.prog X.w X.A.in1 (.ref q) op s₂.heap.objs.size wr G n P St J V bt ∧ J s₂ ∧ ∀ v s', P (argBest bt (n - 1)) v → J s' → Q v s') E s →
  wpAny (model X.prog X.w) X.A (call (.builtin id) [xv] [(Str.ofString "key", .ref q)]) Q E s
theorem best_max : BestW X "max" .Gt := fun s xv q Q E h => call_max_walkK h
theorem best_min : BestW X "min" .Lt := fun s xv q Q E h => call_min_walkK h
def OpGt (gt : Bool) (op : CmpOp) : Prop := ∀ (prog : Program) (w : World) (A : Around) (P : Nat → Value → Prop) (val : Nat → Int), (∀ i v, P i v → ∃ t, v = .int (val i) t) → CmpOf prog w A op P (btK gt val)
theorem op_gt : OpGt true .Gt := fun prog w A P val h => by
  have := CmpOf.ints_gt (prog := prog) (w := w) (A := A) val h
  exact this
theorem op_lt : OpGt false .Lt := fun prog w A P val h => by
  have := CmpOf.ints_lt (prog := prog) (w := w) (A := A) val h
  exact this
def frB (N : List Str) (scope : Scope) (fr : List Nat) : Bool := scope.names.all fun z => !decide (z.2 = .free) || (List.range N.length).all fun j => !decide (N[j]? = some z.1) || fr.contains j
theorem frB_by {N : List Str} {scope : Scope} {fr : List Nat} (h : frB N scope fr = true) : ∀ z ∈ scope.names, z.2 = .free → ∀ j, N[j]? = some z.1 → fr.contains j = true := fun z hz e j hj => by
  have h1 := List.all_eq_true.mp h z hz
  rcases Bool.or_eq_true_iff.mp h1 with q | q
  · simp [e] at q
  · have h2 := List.all_eq_true.mp q j (List.mem_range.mpr (List.getElem?_eq_some_iff.mp hj).1)
    rcases Bool.or_eq_true_iff.mp h2 with q | q
    · simp [hj] at q
    · exact q
/-- id(e, key=lambda x: body) -/
theorem d_best {gt : Bool} {op : CmpOp} {id : String} {x y nm : Str} {p pos lpos kp : Pos} {i kk : Nat} {fr : List Nat} {f0 c P : Addr} {params : Arguments} {body e : Expr} {scope : Scope} {fs : Lc → M (List D)} {fk : Lc → M D}
    (hw : BestW X id op) (hop : OpGt gt op) (rm : Rm X) (hgl : Gl X nm) (hm : X.mg nm = none) (hv : bootBuiltins nm = some (.builtin id)) (ha : PA X [e] (TDs X.K EP fs)) (hN : X.N.Nodup) (hroom : Room (kk + 2) X.A)
    (lm : LamAt X.K f0 c P x) (TB : LamX.TabB X.base X.mg c P) (hcode : X.env.code = .ref c) (hx : X.env.qual = x ++ ".<locals>.") (hT : ∃ ps, X.H_0 P = some (.tbl ps)) (hdef : defaultsOf params X.env = ([], [])) (L : LamP X.env.scope scope X.N i y)
    (hfr : ∀ z ∈ scope.names, z.2 = .free → ∀ j, X.N[j]? = some z.1 → fr.contains j = true)
    (hbind : ∀ (u : Value) (q : Str) (cl : List (Str × Addr)) (pm cv ctv : Value), bindArgs (PySem.W.kla_fn "<lambda>" q params body scope cl pm cv ctv) ⟨[u], []⟩ = pure [(y, u)])
    (hbody : ∀ (A : Around) (outer : List Env) (s : Shared) (H : Hp) (E : XK) (f c' : Addr), Room kk (A.deeper (LamX.lamEnv X scope s.heap.objs.size f c')) → Rm (LamX.lamCx X A outer s H E scope f c') → PE (LamX.lamCx X A outer s H E scope f c') body (TD X.K EP0 fk))
    (hn : nm ≠ "__name__" := by decide) (hdb : (nm == ("__debug__" : Str)) = false := by decide)
    (he : backTo pos (starEach [e] X.env) = (false, eval e X.env) :: backTo pos (starEach [] X.env) := by rfl) (hpl : (backTo pos (starEach [e] X.env)).any (·.1) = false := by rfl)
    (hall : (backToKw pos (keywordEach [⟨some "key", .Lambda params body scope lpos, kp⟩] X.env)).all (·.1.isSome) = true := by rfl) (hnone : (backToKw pos (keywordEach [⟨some "key", .Lambda params body scope lpos, kp⟩] X.env)).any (·.1.isNone) = false := by rfl)
    (hks : (backToKw pos (keywordEach [⟨some "key", .Lambda params body scope lpos, kp⟩] X.env)).filterMap (·.1) = [Str.ofString "key"] := by rfl) :
    PE X (.Call (.Name nm p) [e] [⟨some "key", .Lambda params body scope lpos, kp⟩] pos) (TD X.K EP (eBest gt i fr fs fk)) := by
  refine ⟨fun pins s σ H Q I ⟨S, env, e0, ok, re, pp⟩ => ?_⟩
  subst e0
  refine wpAny_Call_Name_kw (ld_blt I hgl hm hv ?_ hn hdb)
  have hta : TDs X.K EP fs σ S.H fun vs H1 => ∃ S1 ds, S1.H = H1 ∧ Ext S S1 ∧ Ok X.K S1 ∧ RVs X.K S1 ds vs ∧ Post X.K EP S1 (GV X.K Q) ((match ds with
      | [.lst ds] => M.andThen (M.lift (kysOf i fr fk env ds)) fun ks => M.lift (bestOf gt ks ds)
      | _ => M.no : M D) S1.ah) := ⟨S, env, rfl, ok, re, (Post.split pp).imp fun ds S1 x1 o1 q vs rvs => ⟨S1, ds, rfl, x1, o1, rvs, q⟩⟩
  refine PyProof.Rows.callWith_kw (thn (ha.run pos pins s σ S.H _ I hta) fun us s1 ⟨vs, H1, I1, r1, S1, ds, eH, x1, o1, rvs, q1⟩ => ?_) he hpl hall hnone
  subst eH
  rw [hks]
  have hT1 : ∃ ps, S1.H P = some (.tbl ps) := by
    obtain ⟨ps, h0⟩ := hT
    obtain ⟨more, h1⟩ := I1.base.tbls P ps h0
    exact ⟨_, h1⟩
  refine PyProof.Rows.kws_cons (lam_mir I1 o1 lm TB hcode hx hT1 hdef (L.has I.ok) fun f c' pm ctv S2 s2 I2 o2 x2 hah hf hff hco => PyProof.Rows.kws_nil ?_)
  show wpAny _ _ (call (.builtin id) us [(Str.ofString "key", .ref f)]) _ _ s2
  revert q1
  split
  case h_2 => exact fun z => False.elim z
  rename_i items
  intro q1
  obtain ⟨ks, hks', q1⟩ := Post.lifted (Post.split q1) o1
  have q2 : ∃ d, bestOf gt ks items = some d ∧ ∀ S', Ext S1 S' → Ok X.K S' → S'.ah = S1.ah → GV X.K Q d S' := by
    unfold M.lift at q1
    cases hb : bestOf gt ks items with
    | none => rw [hb] at q1; exact False.elim q1
    | some d => rw [hb] at q1; exact ⟨d, rfl, q1⟩
  obtain ⟨d, hd, q2⟩ := q2
  cases rvs with
  | cons rv1 t1 =>
    cases t1
    cases rv1 with
    | lst st ri =>
      rename_i a vs'
      cases r1 with
      | cons rr tt =>
        cases tt
        obtain rfl := (show _ = Value.ref a from rr)
        have st2 := x2.still st
        have ri2 := ri.ext x2
        have re2 := (re.ext x1).ext x2
        obtain ⟨hz, its, n, rel, hla⟩ := I2.hok a _ st2.1
        have hnf : ∀ {b : Addr} {w : HO}, S2.H b = some w → b ∉ frs X.stack := fun {b w} q m => by
          rw [I2.stkFree b m] at q
          cases q
        have frlt : ∀ b, b ∈ frs X.stack → b < s2.heap.objs.size := fun b m => by
          obtain ⟨_, o, ho, _⟩ := I2.stack.mem m
          exact Heap.lt_size ho
        have lenD : items.length = vs'.length := ri.length
        have lenV : vs'.length = its.length := rel.length
        have lenK := kysOf_len hks'
        have kne : ks ≠ [] := fun z => by
          unfold bestOf at hd
          rw [if_pos z] at hd
          cases hd
        have kpos : 0 < ks.length := List.length_pos_iff.mpr kne
        have hIs : s2.heap.IsList a its.toArray := ⟨_, hla, rfl, n, rfl⟩
        have haS : a < s2.heap.objs.size := Heap.lt_size hla
        refine hw s2 (.ref a) f _ _ (wpAny_pyIter_list hIs ?_)
        have push : ∀ b o, s2.heap.get? b = some o → (s2.heap.push { cls := .type "list_iterator", data := .fields #[.ref a, .int 0 0] }).get? b = some o := fun b o e => Heap.get?_push_of_some _ e
        have sz3 : (s2.heap.push { cls := .type "list_iterator", data := .fields #[.ref a, .int 0 0] }).objs.size = s2.heap.objs.size + 1 := Heap.size_push ..
        refine ⟨s2.heap.objs.size, [s2.heap.objs.size, a], [s2.heap.objs.size], fun a b => b = a, its.length, fun j v => its.toArray[j]? = some v, fun j s => s.heap.IsListIter s2.heap.objs.size a j ∧ s.heap.IsList a its.toArray,
          Kpt (frs X.stack) s2, fun j v _ => ∃ t, v = .int (ks.getD j 0) t, btK gt fun j => ks.getD j 0, rfl, (Walks.list (prog := X.prog) (w := X.w) (A := X.A.in1) hroom.hd s2.heap.objs.size a (Nat.ne_of_lt haS) its.toArray).toS,
          ⟨⟨_, Heap.get?_push_size _ rfl, rfl, rfl⟩, _, push _ _ hla, rfl, n, rfl⟩, fun b hb => ?_, by omega, ⟨fun s3 s4 j3 mv => ?_, fun _ _ _ _ h _ => h, fun j v s3 o Q' E' hj hPv j3 st3 hS hQ => ?_, fun j1 j2 k1 k2 s3 Q' E' _ v1 v2 hQ => ?_⟩, Kpt.same rfl I2.bare push, fun v s3 hv j3 => ?_⟩
        · rw [sz3]
          rcases List.mem_cons.mp hb with z | z
          · rw [z]; exact Nat.lt_succ_self _
          · rw [List.mem_singleton.mp z]; exact Nat.lt_succ_of_lt haS
        · have lt : ∀ b o, s2.heap.get? b = some o → b ∉ [(s2.heap.push { cls := .type "list_iterator", data := .fields #[.ref a, .int 0 0] }).objs.size, s2.heap.objs.size] := fun b o e m => by
            have hb := Heap.lt_size e
            rw [sz3] at m
            rcases List.mem_cons.mp m with z | z
            · rw [z] at hb
              exact Nat.lt_irrefl _ (Nat.lt_of_succ_lt hb)
            · rw [List.mem_singleton.mp z] at hb
              exact Nat.lt_irrefl _ hb
          have lt3 : ∀ b o sl, s2.heap.get? b = some o → s3.heap.get? b = some { o with slots := sl } → s4.heap.get? b = some { o with slots := sl } := fun b o sl e e3 => mv.heap b _ (lt b o e) e3
          exact ⟨mv.os.trans j3.os, by rw [show s4.gens = s3.gens from mv.gens]; exact j3.bare, fun b o e hb => lt3 b o o.slots e (j3.keep b o e hb), fun b o e hb => let ⟨sl, e3⟩ := j3.slot b o e hb; ⟨sl, lt3 b o sl e e3⟩⟩
        · have hj' : j < items.length := by omega
          obtain ⟨dj, hdj⟩ : ∃ dj, items[j]? = some dj := ⟨_, List.getElem?_eq_getElem hj'⟩
          obtain ⟨u, hu, ru⟩ := ri2.get hdj
          obtain ⟨v', hv', rv'⟩ := rel.get hu
          have hPv : its.toArray[j]? = some v := hPv
          have ev : v = v' := by
            have h1 : its[j]? = some v := by simpa using hPv
            rw [h1] at hv'
            exact Option.some.inj hv'
          subst ev
          have hk := kysOf_at hks' hdj
          refine key_call (kk := kk) (A := X.A.in1) I2 hN I.ok.frames rm.gu (roomIn hroom) L j3 hfr hf hff hco hbind hbody re2 ru rv' hk fun t s4 k4 => ?_
          · have nI : s2.heap.objs.size ∉ frs X.stack := fun m => Nat.lt_irrefl _ (frlt _ m)
            have nS : (s2.heap.push { cls := .type "list_iterator", data := .fields #[.ref a, .int 0 0] }).objs.size ∉ frs X.stack := fun m => by
              have := frlt _ m
              rw [sz3] at this
              exact Nat.lt_irrefl _ (Nat.lt_of_succ_lt this)
            obtain ⟨⟨oi, hoi, hr⟩, ⟨ol, hol, hr2⟩⟩ := st3
            exact hQ _ _ (j3.trans k4) ⟨⟨oi, k4.keep _ _ hoi nI, hr⟩, ⟨ol, k4.keep _ _ hol (hnf st2.1), hr2⟩⟩ (k4.keep _ _ hS nS) ⟨t, rfl⟩ fun _ _ z => z
        · exact hop X.prog X.w X.A.in1 (fun j v => ∃ t, v = .int (ks.getD j 0) t) (fun j => ks.getD j 0) (fun _ _ z => z) j1 j2 k1 k2 s3 _ _ v1 v2 hQ
        · have hlen : its.length = ks.length := by omega
          rw [hlen] at hv
          unfold bestOf at hd
          rw [if_neg kne] at hd
          obtain ⟨u, hu, ru⟩ := ri2.get hd
          obtain ⟨v', hv', rv'⟩ := rel.get hu
          have h1 : its[argBest (btK gt fun j => ks.getD j 0) (ks.length - 1)]? = some v := by simpa using hv
          rw [h1] at hv'
          rw [Option.some.inj hv']
          refine ⟨u, S2.H, j3.inv I2, rv', ?_⟩
          exact q2 S2 x2 o2 hah u ru
end
end Mi
set_option Elab.async false
set_option linter.all false
set_option maxRecDepth 100000
set_option maxHeartbeats 4000000
namespace Mi
open PySem PySem.Spec PyProof.Rows L2
/-! ## defs that make lambdas, or call what does -/
def TbH (Ts : List Addr) (H : Hp) : Prop := ∀ P ∈ Ts, ∃ ps, H P = some (.tbl ps)
theorem tbH_of {X : Cx} {pins : List (Addr × Obj)} {σ : St} {H : Hp} {s : Shared} {Ts : List Addr} (I : Inv X pins σ H s) (h : TbH Ts X.H_0) : TbH Ts H := fun P m => by
  obtain ⟨ps, h0⟩ := h P m
  obtain ⟨more, h1⟩ := I.base.tbls P ps h0
  exact ⟨_, h1⟩
def spT (Ts : List Addr) (K : PySem.W.Frag) (mg : Str → Option Value) (n : Nat) (m : List D → M D) : Sp := fun vs H Q E => TbH Ts H ∧ spD K mg n m vs H Q E
/-- what is known of the code object of the def that runs -/
def CdOf (K : PySem.W.Frag) (f : Addr) (cdv : Value) : Prop := ∃ (oc : Value) (od : Option Addr) (fd : FuncData) (osl : Array (Option Value)), K.lookup f = some ⟨oc, od, .func fd, osl⟩ ∧ fd.code = cdv
theorem LamAt.cd {K : PySem.W.Frag} {f c P : Addr} {x : Str} {cdv : Value} (l : LamAt K f c P x) (h : CdOf K f cdv) : cdv = .ref c := by
  obtain ⟨oc, od, fd, osl, e, e2⟩ := h
  rw [← e2]
  exact l.code oc od fd osl e
theorem lamAt_mk {K : PySem.W.Frag} {f c P : Addr} {x : Str} {oc ec : Value} {od ed : Option Addr} {fd : FuncData} {osl esl : Array (Option Value)} {vs : Array Value} {t : Tok} (l : K.lookup f = some ⟨oc, od, .func fd, osl⟩) (hc : fd.code = .ref c) (ho : K.lookup c = some ⟨ec, ed, .fields vs, esl⟩)
    (hp : vs[11]? = some (.ref P)) (hn : vs[1]? = some (.str x t)) (hq : tabqB K P x = true) : LamAt K f c P x := by
  refine ⟨fun oc' od' fd' osl' e => ?_, fun c0 o vs' fq t' e1 e2 e3 e4 => ?_, ⟨_, vs, t, ho, rfl, hp, hn⟩⟩
  · rw [l] at e
    cases e
    exact hc
  · obtain ⟨_, m⟩ := frag_mem e1
    unfold tabqB at hq
    have q := List.all_eq_true.mp hq _ m
    dsimp only at q
    rw [e2] at q
    dsimp only at q
    rw [e3] at q
    dsimp only at q
    rw [e4] at q
    dsimp only at q
    rcases Bool.or_eq_true_iff.mp q with z | z
    · simp at z
    · rw [beq_iff_eq.mp z]
section
variable {P : Program} {w : World} {K : PySem.W.Frag} {mg : Str → Option Value} {base : Heap}
theorem Fun.okGT {x qual : Str} {st : Stmt} {f : Addr} {fd : FuncData} {N ps : List Str} {k : Nat} {sp : Sp} (F : Fun K x qual st f fd) (S : FnScope N ps (defScope st)) (len : ∀ vs H Q E, sp vs H Q E → vs.length = ps.length)
    (hbody : ∀ (cdv : Value) (A : Around) (outer : List PySem.Env) (s : Shared) (H : Hp) (vs : List V) (Q : VK) (E : XK), CdOf K f cdv → Room k (A.deeper (envOfC qual (defScope st) s.heap.objs.size f cdv)) → A.guards = some [] → sp vs H Q E →
      ∃ t, PSs (cxOf (L2.CX P w) P w K mg base N qual (defScope st) f cdv A outer s H E) (defBody st) t ∧ t { nx := fun _ H' => Q .non H', rt := Q } (L2.start N vs) H) : FnG P w K mg base (L2.CX P w) (k + 1) f fd ps sp := by
  have hF := F.ex
  obtain ⟨oc, od, kV, doc, pm, an, cdv, ct, osl, hfd, lk, hcd⟩ := hF
  subst hfd
  have hc : CdOf K f cdv := ⟨oc, od, _, osl, lk, rfl⟩
  refine ⟨len, fun A outer s H args us vs Q E hr hgu e0 hb r hsp => ?_⟩
  have hlen := len _ _ _ _ hsp
  have KX : K.In s.heap := e0.mod.kin.keeps fun b o e => (e0.bs b o e).1
  have lim : s.heap.NoLimit := e0.mod.nolimit.keeps fun b o e => (e0.bs b o e).1
  have hkind : ∀ y ∈ ps.zip us, (defScope st).names.lookup y.1 = some .local ∨ ((defScope st).names.lookup y.1 = some .cell ∧ ((cellsFrom (s.heap.objs.size + 1) (defScope st).names []).lookup y.1).isSome = true) := by
    rintro ⟨nm, vl⟩ hy
    have q := S.par nm (List.of_mem_zip hy).1
    rcases q with q | q
    · exact Or.inl q
    · exact Or.inr ⟨q, PySem.W.cellsFrom_some _ _ _ (Or.inl q)⟩
  refine codeAny_call_function hr.depth (KX _ _ lk) rfl S.co S.gen rfl (PySem.W.codeRec_of KX hcd) (hb _ _ _ _ ?_)
  refine wpAny_newFunctionEnv_cells S.kind hkind fun env he s1 st1 => ?_
  subst he
  refine ⟨lim.keeps st1.toInCall.keep, codeAny_func ?_⟩
  obtain ⟨t, ht, hq⟩ := hbody cdv A outer s H vs Q E hc (hr.deeper _) hgu hsp
  have I := inv_start (CX := L2.CX P w) (E := E) S hr.hd e0 hlen r st1
  refine wpAny_mono (ht.run [] s1 (L2.start N vs) H _ I hq) (fun fl s' hs => ?_) fun e s' hs => hs
  cases fl with
  | ret u =>
    obtain ⟨v, σ', H', J, rv, q⟩ := hs
    exact (⟨v, H', J.os, J.bare, J.base, J.hok, rv, q⟩ : CE outer P w H s Q u s')
  | next =>
    obtain ⟨σ', H', J, q⟩ := hs
    exact (⟨V.non, H', J.os, J.bare, J.base, J.hok, rfl, q⟩ : CE outer P w H s Q Value.none s')
  | brk => exact hs.elim fun _ z => z.elim fun _ y => y.2.elim
  | cont => exact hs.elim fun _ z => z.elim fun _ y => y.2.elim
theorem spT_len {Ts : List Addr} {n : Nat} {m : List D → M D} : ∀ vs H Q E, spT Ts K mg n m vs H Q E → vs.length = n := fun vs H Q E ⟨_, S, ds, _, _, r, hl, _⟩ => by rw [← r.length]; exact hl
theorem okMT {x qual : Str} {st : Stmt} {f : Addr} {fd : FuncData} {N ps : List Str} {k n : Nat} {g : MS} {m : List D → M D} {Ts : List Addr} (F : Fun K x qual st f fd) (S : FnScope N ps (defScope st)) (hn : n = ps.length) (hm : m = def0 N.length g)
    (hbody : ∀ (cdv : Value) (A : Around) (outer : List PySem.Env) (s : Shared) (H : Hp) (E : XK), CdOf K f cdv → TbH Ts H → Room k (A.deeper (envOfC qual (defScope st) s.heap.objs.size f cdv)) → Rm (cxOf (L2.CX P w) P w K mg base N qual (defScope st) f cdv A outer s H E).nox →
      PSs (cxOf (L2.CX P w) P w K mg base N qual (defScope st) f cdv A outer s H E).nox (defBody st) (TF K EP0 g)) : FnG P w K mg base (L2.CX P w) (k + 1) f fd ps (spT Ts K mg n m) := by
  subst hn hm
  refine Fun.okGT F S spT_len fun cdv A outer s H vs Q E hcd hr hgu ⟨hT, S0, ds, e, ok, r, hl, p⟩ => ?_
  subst e
  refine ⟨_, (hbody cdv A outer s S0.H E hcd hT hr ⟨hgu, hr.units, rfl, room66 hr⟩).nox, S0, _, rfl, ok, re_start r, ?_⟩
  unfold def0 at p
  revert p
  generalize g (ds.map some ++ List.replicate (N.length - ds.length) none) S0.ah = rr
  intro p
  cases rr with
  | no => exact False.elim p
  | ex e env ah' => exact False.elim p
  | ok y ah' =>
    obtain ⟨fl, env⟩ := y
    intro S' e' o' hq
    cases fl with
    | nx => exact fun σ _ => p S' e' o' hq _ .non
    | bk => exact False.elim p
    | ct => exact False.elim p
    | rt d => exact p S' e' o' hq
theorem okXT {x qual : Str} {st : Stmt} {f : Addr} {fd : FuncData} {N ps : List Str} {k n : Nat} {g : MS} {m : List D → M D} {Ts : List Addr} (F : Fun K x qual st f fd) (S : FnScope N ps (defScope st)) (hn : n = ps.length) (hm : m = defM N.length g)
    (hbody : ∀ (cdv : Value) (A : Around) (outer : List PySem.Env) (s : Shared) (H : Hp) (E : XK), CdOf K f cdv → TbH Ts H → Room k (A.deeper (envOfC qual (defScope st) s.heap.objs.size f cdv)) → Rm (cxOf (L2.CX P w) P w K mg base N qual (defScope st) f cdv A outer s H E) →
      Takes (cxOf (L2.CX P w) P w K mg base N qual (defScope st) f cdv A outer s H E) (fun c d _ H => E c d H) →
      PassesOwn (model P w) (cxOf (L2.CX P w) P w K mg base N qual (defScope st) f cdv A outer s H E).A (cxOf (L2.CX P w) P w K mg base N qual (defScope st) f cdv A outer s H E).env (cxOf (L2.CX P w) P w K mg base N qual (defScope st) f cdv A outer s H E).xe →
      PSs (cxOf (L2.CX P w) P w K mg base N qual (defScope st) f cdv A outer s H E) (defBody st) (TF K (EPd K mg E) g)) : FnG P w K mg base (L2.CX P w) (k + 1) f fd ps (spT Ts K mg n m) := by
  subst hn hm
  refine Fun.okGT F S spT_len fun cdv A outer s H vs Q E hcd hr hgu ⟨hT, S0, ds, e, ok, r, hl, p⟩ => ?_
  subst e
  refine ⟨_, hbody cdv A outer s S0.H E hcd hT hr ⟨hgu, hr.units, rfl, room66 hr⟩ (takes_of rfl rfl rfl rfl) (passes_of rfl), S0, _, rfl, ok, re_start r, ?_⟩
  unfold defM at p
  revert p
  generalize g (ds.map some ++ List.replicate (N.length - ds.length) none) S0.ah = rr
  intro p
  cases rr with
  | no => exact False.elim p
  | ex e env ah' =>
    intro S' e' o' hq σ re
    exact p S' e' o' hq [] ⟨rfl, fun i d h => by cases i <;> exact nomatch h⟩
  | ok y ah' =>
    obtain ⟨fl, env⟩ := y
    intro S' e' o' hq
    cases fl with
    | nx => exact fun σ _ => p S' e' o' hq _ .non
    | bk => exact False.elim p
    | ct => exact False.elim p
    | rt d => exact p S' e' o' hq
end
section
variable {X : Cx} {pos : Pos}
theorem d_callT {Ts : List Addr} {x : Str} {p : Pos} {k n : Nat} {f : Addr} {fd : FuncData} {ps : List Str} {m : List D → M D} {e : Expr} {es : List Expr} {fs : Lc → M (List D)} (hT : TbH Ts X.H_0) (F : FnG X.prog X.w X.K X.mg X.base (L2.CX X.prog X.w) k f fd ps (spT Ts X.K X.mg n m)) (hr : Room k X.A) (rm : Rm X) (hg : Gl X x)
    (hm : X.mg x = some (.ref f)) (hk : PySem.W.keepIn X.K (.ref f) = true) (hb : Binds X.K fd ps []) (ha : PA X (e :: es) (TDs X.K EP0 fs)) (hdb : (x == ("__debug__" : Str)) = false := by decide)
    (he : starEach (e :: es) X.env = (false, eval e X.env) :: starEach es X.env := by rfl) (hpl : (backTo pos (starEach es X.env)).any (·.1) = false := by rfl) : PE X (.Call (.Name x p) (e :: es) [] pos) (TD X.K EP0 (eCall n m fs)) := by
  refine ⟨fun pins s σ H Q I ⟨S, env, e0, ok, re, pp⟩ => ?_⟩
  subst e0
  refine wpAny_Call_Name_kw (ld_glob I hg hm ?_ hdb)
  have hta : TDs X.K EP0 fs σ S.H fun vs H1 => spD X.K X.mg n m vs H1 Q fun _ _ _ => False := ⟨S, env, rfl, ok, re, (Post.split pp).imp fun ds S1 x1 o1 q vs rvs => ?_⟩
  · refine PySem.W.callWith_K (h₀ := X.base) I.ok.mod.kin hk (thn (ha.run pos pins s σ S.H _ I hta) fun us s1 ⟨vs, H1, I1, r, q⟩ => ⟨I1.kIn, ?_⟩) he hpl
    exact run_g F hr rm hb (passAt (takes_none5 (X := X)) σ) I1 r ⟨tbH_of I1 hT, q⟩
  · obtain ⟨hl, q⟩ := Post.whened q
    exact ⟨S1, ds, rfl, o1, rvs, of_decide_eq_true hl, post_call0 q ⟨σ, re.ext x1⟩ o1⟩
theorem d_callXT {Ts : List Addr} {W : WX} {x : Str} {p : Pos} {k n : Nat} {f : Addr} {fd : FuncData} {ps : List Str} {m : List D → M D} {e : Expr} {es : List Expr} {fs : Lc → M (List D)} (hT : TbH Ts X.H_0) (tk : Takes X W) (F : FnG X.prog X.w X.K X.mg X.base (L2.CX X.prog X.w) k f fd ps (spT Ts X.K X.mg n m)) (hr : Room k X.A) (rm : Rm X) (hg : Gl X x)
    (hm : X.mg x = some (.ref f)) (hk : PySem.W.keepIn X.K (.ref f) = true) (hb : Binds X.K fd ps []) (ha : PA X (e :: es) (TDs X.K (EPw X.K X.mg W) fs)) (hdb : (x == ("__debug__" : Str)) = false := by decide)
    (he : starEach (e :: es) X.env = (false, eval e X.env) :: starEach es X.env := by rfl) (hpl : (backTo pos (starEach es X.env)).any (·.1) = false := by rfl) : PE X (.Call (.Name x p) (e :: es) [] pos) (TD X.K (EPw X.K X.mg W) (eCall n m fs)) := by
  refine ⟨fun pins s σ H Q I ⟨S, env, e0, ok, re, pp⟩ => ?_⟩
  subst e0
  refine wpAny_Call_Name_kw (ld_glob I hg hm ?_ hdb)
  have hta : TDs X.K (EPw X.K X.mg W) fs σ S.H fun vs H1 => spD X.K X.mg n m vs H1 Q (WE W σ) := ⟨S, env, rfl, ok, re, (Post.split pp).imp fun ds S1 x1 o1 q vs rvs => ?_⟩
  · refine PySem.W.callWith_K (h₀ := X.base) I.ok.mod.kin hk (thn (ha.run pos pins s σ S.H _ I hta) fun us s1 ⟨vs, H1, I1, r, q⟩ => ⟨I1.kIn, ?_⟩) he hpl
    exact run_g F hr rm hb (passAt tk σ) I1 r ⟨tbH_of I1 hT, q⟩
  · obtain ⟨hl, q⟩ := Post.whened q
    exact ⟨S1, ds, rfl, o1, rvs, of_decide_eq_true hl, post_callX q (re.ext x1)⟩
end
/-! ## the law's own call, with tables -/
/-- where lambdas are made: code objects and their tables, empty at first -/
structure TabsIn (K : PySem.W.Frag) (mg : Str → Option Value) (h : Heap) (cs : List (Addr × Addr)) : Prop where
  hT : ∀ p ∈ cs, h.get? p.2 = some { cls := .none, data := .fields #[] }
  nT : ∀ p ∈ cs, K.lookup p.2 = none
  hC : ∀ p ∈ cs, PySem.W.CodeHd h p.1 p.2
  bm : ∃ (bm : Addr) (ob : Obj), mg "__builtins__" = some (.ref bm) ∧ bm ≠ builtinsNs ∧ h.get? bm = some ob ∧ ob.cls = .type "module" ∧ ob.dict = some builtinsNs ∧ ob.data = .plain
theorem law_atT {P : Program} {w : World} {K : PySem.W.Frag} {mg mb : Str → Option Value} {k : Nat} {fa a : Addr} {fd : FuncData} {x : Str} {sp : Sp} {s₁ : Shared} {vs : List Value} {cs : List (Addr × Addr)} (H : Hp)
    (KX : K.In s₁.heap) (hns : s₁.heap.Ns mainGlobals mg) (hb : s₁.heap.Ns builtinsNs mb) (hbb : ∀ y : Str, y ≠ "__name__" → mb y = bootBuiltins y) (hlim : s₁.heap.NoLimit) (hg : s₁.gens = #[]) (T : TabsIn K mg s₁.heap cs)
    (ha : s₁.heap.get? a = some { cls := .type "list", data := .seq vs.toArray }) (hr : Room k callerA)
    (F : ∀ base : Heap, K.In base → base.Ns mainGlobals mg → (∀ p ∈ cs, LamX.TabB base mg p.1 p.2) → FnG P w K mg base (L2.CX P w) k fa fd [x] sp) (hbind : ∀ (s : Shared) (u : Value), BindsTo s fd ⟨[u], []⟩ [(x, u)])
    (hO : ∀ b, H b = none ∨ (b ∈ cs.map (·.2) ∧ H b = some (.tbl #[])) ∨ ∃ o xs, H b = some (.frz o (.lst xs))) (hTb : ∀ p ∈ cs, H p.2 = some (.tbl #[])) (hsp : sp [.ref a] H (fun v _ => v = .bl true) fun _ _ _ => False)
    (hok : HOk P w H s₁.heap) (hA : ∀ b, H b ≠ none → b = a ∨ b ∈ cs.map (·.2)) (hK : H a ≠ none → K.lookup a = none) :
    codeAny (model P w) callerA (.call (.ref fa) ⟨[.ref a], []⟩) (fun r s' => r = .ok (.ret (.bool true)) ∧ OldK s₁.heap s'.heap ∧ s'.os = s₁.os ∧ AllBare s'.gens) s₁ := by
  have tabObj : ∀ b, b ∈ cs.map (·.2) → s₁.heap.get? b = some { cls := .none, data := .fields #[] } := fun b m => by
    obtain ⟨p, hp, rfl⟩ := List.mem_map.mp m
    exact T.hT p hp
  have free : ∀ {b : Addr} {o : Obj}, s₁.heap.get? b = some o → (∀ vs n, o.data ≠ .seq vs n) → o.data ≠ .fields #[] → H b = none := fun {b o} e n1 n2 => by
    cases z : H b with
    | none => rfl
    | some u =>
      rcases hA b (by rw [z]; exact fun y => nomatch y) with y | y
      · rw [y, ha] at e
        cases e
        exact (n1 _ _ rfl).elim
      · rw [tabObj b y] at e
        cases e
        exact (n2 rfl).elim
  have dicts : ∀ {b : Addr} {o : Obj} {es : Array DictEntry} {ep : Nat}, s₁.heap.get? b = some o → o.data = .dict es ep → H b = none := fun {b o es ep} e d => free e (fun _ _ z => by rw [d] at z; cases z) fun z => by rw [d] at z; cases z
  have names : ∀ {b : Addr} {m : Str → Option Value}, s₁.heap.Ns b m → (hidT s₁.heap H).Ns b m := fun {b m} ⟨o, es, ep, e, d, r⟩ => ⟨o, es, ep, hidT_get e (dicts e d), d, r⟩
  have hKb : K.In (hidT s₁.heap H) := fun b o e => hidT_get (KX b o e) (by
    cases z : H b with
    | none => rfl
    | some u =>
      have y : H b ≠ none := by rw [z]; exact fun y => nomatch y
      rcases hA b y with ba | ba
      · rw [ba] at e y
        rw [hK y] at e
        cases e
      · obtain ⟨p, hp, ep⟩ := List.mem_map.mp ba
        rw [← ep, T.nT p hp] at e
        cases e)
  have hM : Mod K mg (hidT s₁.heap H) := ⟨hKb, names hns, ⟨mb, names hb, hbb⟩, hlim.elim fun mc z => ⟨mc, names z.1, z.2⟩⟩
  have TB : ∀ p ∈ cs, LamX.TabB (hidT s₁.heap H) mg p.1 p.2 := fun p hp => by
    have h0 := T.hT p hp
    refine ⟨?_, ?_, fun z => ?_⟩
    · obtain ⟨o, us, fl, tf, fg, tg, inF, tx, tt, e1, r1, r2, r3, rest⟩ := T.hC p hp
      exact ⟨o, us, fl, tf, fg, tg, inF, tx, tt, hidT_get e1 (free e1 (fun _ _ z => by rw [r2] at z; cases z) fun z => by
        rw [r2] at z
        cases z
        simp at r3), r1, r2, r3, rest⟩
    · obtain ⟨bm, ob, b1, b2, b3, b4, b5, b6⟩ := T.bm
      refine ⟨bm, ob, b1, b2, fun q => ?_, fun q => ?_, hidT_get b3 (free b3 (fun _ _ z => by rw [b6] at z; cases z) fun z => by rw [b6] at z; cases z), b4, b5, b6⟩
      · obtain ⟨o, es, ep, e, dd, _⟩ := hns
        rw [q, e] at b3
        cases b3
        rw [dd] at b6
        cases b6
      · rw [q, h0] at b3
        cases b3
        cases b6
    · obtain ⟨o, es, ep, e, dd, _⟩ := hns
      rw [z, h0] at e
      cases e
      cases dd
  have e0 : Env0 P w K mg (hidT s₁.heap H) callerA [] s₁ H := ⟨rfl, hM, fun b o e => of_hidT e, Nat.le_of_eq (hidT_size _ _), trivial, fun b hb => (nomatch (show b ∈ ([] : List Addr) from hb)), hok, .of_eq hg⟩
  have run := (F _ hKb (names hns) TB).run callerA [] s₁ H ⟨[.ref a], []⟩ [.ref a] [.ref a] _ _ hr rfl e0 (hbind s₁ (.ref a)) (.cons rfl .nil) hsp
  refine codeAny_mono run fun res s' h => ?_
  cases res with
  | error e =>
    obtain ⟨_, _, _, _, _, _, _, _, _, _, _, _, z⟩ := h
    exact z.elim
  | ok fl =>
    cases fl with
    | next => exact h.elim
    | brk => exact h.elim
    | cont => exact h.elim
    | ret u =>
      obtain ⟨v, H', os, bare, un, hok', r', q⟩ := h
      have q' : v = .bl true := q
      rw [q'] at r'
      obtain rfl : u = Value.bool true := r'
      have same : ∀ b o, b ∉ cs.map (·.2) → s₁.heap.get? b = some o → s'.heap.get? b = some o := fun b o nb e => by
        rcases hO b with z | ⟨z, _⟩ | ⟨ob, xs, z⟩
        · exact un.keep b o e z (fun y => (nomatch (show b ∈ ([] : List Addr) from y))) (fun y => (nomatch y))
        · exact absurd z nb
        · have e1 := (hok b _ z).1
          rw [e] at e1
          cases e1
          exact (hok' b _ (un.frzs b _ _ z)).1
      have more : ∀ p ∈ cs, ∃ mo : Array Value, s'.heap.get? p.2 = some { cls := .none, data := .fields mo } := fun p hp => by
        obtain ⟨mo, z⟩ := un.tbls p.2 #[] (hTb p hp)
        exact ⟨_, hok' p.2 _ z⟩
      refine ⟨rfl, ⟨fun b o e => ?_, fun b o e => ?_⟩, os, bare⟩
      · by_cases nb : b ∈ cs.map (·.2)
        · obtain ⟨p, hp, rfl⟩ := List.mem_map.mp nb
          obtain ⟨mo, hm⟩ := more p hp
          have h0 := T.hT p hp
          rw [h0] at e
          cases e
          exact .inr (.inl ⟨((T.hC p hp).tab h0).isCodeTable, rfl, #[], mo, rfl, by rw [Array.empty_append]; exact hm⟩)
        · exact .inl (same b o nb e)
      · by_cases nb : b ∈ cs.map (·.2)
        · obtain ⟨p, hp, rfl⟩ := List.mem_map.mp nb
          obtain ⟨mo, hm⟩ := more p hp
          exact ⟨_, hm⟩
        · exact ⟨o, same b o nb e⟩
theorem law_gT {P : Program} {w : World} {K : PySem.W.Frag} {mg mb : Str → Option Value} {k : Nat} {fa a : Addr} {fd : FuncData} {x : Str} {sp : Sp} {s₁ : Shared} {vs : List Value} {ns : List Int} {cs : List (Addr × Addr)}
    (KX : K.In s₁.heap) (hns : s₁.heap.Ns mainGlobals mg) (hb : s₁.heap.Ns builtinsNs mb) (hbb : ∀ y : Str, y ≠ "__name__" → mb y = bootBuiltins y) (hlim : s₁.heap.NoLimit) (hg : s₁.gens = #[]) (T : TabsIn K mg s₁.heap cs)
    (ha : s₁.heap.get? a = some { cls := .type "list", data := .seq vs.toArray }) (hi : IntsAre vs ns) (hl : ns.length ≤ sizeLine) (hr : Room k callerA)
    (F : ∀ base : Heap, K.In base → base.Ns mainGlobals mg → (∀ p ∈ cs, LamX.TabB base mg p.1 p.2) → FnG P w K mg base (L2.CX P w) k fa fd [x] sp) (hbind : ∀ (s : Shared) (u : Value), BindsTo s fd ⟨[u], []⟩ [(x, u)])
    (hsp : ∀ H : Hp, (∀ b, H b = none ∨ (b ∈ cs.map (·.2) ∧ H b = some (.tbl #[])) ∨ ∃ o xs, H b = some (.frz o (.lst xs))) → (∀ p ∈ cs, H p.2 = some (.tbl #[])) → SqL K H a (ns.map V.int) → sp [.ref a] H (fun v _ => v = .bl true) fun _ _ _ => False) :
    codeAny (model P w) callerA (.call (.ref fa) ⟨[.ref a], []⟩) (fun r s' => r = .ok (.ret (.bool true)) ∧ OldK s₁.heap s'.heap ∧ s'.os = s₁.os ∧ AllBare s'.gens) s₁ := by
  have rv := vals_ints hi
  have lenV := hi.length
  have aT : a ∉ cs.map (·.2) := fun m => by
    obtain ⟨p, hp, ep⟩ := List.mem_map.mp m
    have h0 := T.hT p hp
    rw [ep, ha] at h0
    have h1 : Data.seq vs.toArray _ = Data.fields #[] := congrArg Obj.data (Option.some.inj h0)
    cases h1
  have memT : ∀ p ∈ cs, p.2 ∈ cs.map (·.2) := fun p hp => List.mem_map.mpr ⟨p, hp, rfl⟩
  have okT : ∀ b, b ∈ cs.map (·.2) → ∀ H : Hp, ObjOk P w H s₁.heap b (.tbl #[]) := fun b m H => by
    obtain ⟨p, hp, rfl⟩ := List.mem_map.mp m
    exact T.hT p hp
  cases hk : K.lookup a with
  | some o =>
    have e := KX a o hk
    rw [ha] at e
    cases e
    have hO : ∀ b, (fun b => if b ∈ cs.map (·.2) then some (HO.tbl #[]) else none) b = none ∨ (b ∈ cs.map (·.2) ∧ (fun b => if b ∈ cs.map (·.2) then some (HO.tbl #[]) else none) b = some (.tbl #[])) ∨ ∃ o xs, (fun b => if b ∈ cs.map (·.2) then some (HO.tbl #[]) else none) b = some (.frz o (.lst xs)) := fun b => by
      by_cases m : b ∈ cs.map (·.2)
      · exact .inr (.inl ⟨m, if_pos m⟩)
      · exact .inl (if_neg m)
    refine law_atT _ KX hns hb hbb hlim hg T ha hr F hbind hO (fun p hp => if_pos (memT p hp)) (hsp _ hO (fun p hp => if_pos (memT p hp)) ?_) (fun b u z => ?_) (fun b z => ?_) fun z => absurd (show (if a ∈ cs.map (·.2) then some (HO.tbl #[]) else none) = none from if_neg aT) z
    · exact .inr ⟨_, vs.toArray, _, hk, rfl, rfl, rfl, by rw [List.size_toArray, lenV]; exact hl, by simpa using rv⟩
    · by_cases m : b ∈ cs.map (·.2)
      · have y := (if_pos m).symm.trans z
        cases y
        exact okT b m _
      · have y := (if_neg m).symm.trans z
        cases y
    · by_cases m : b ∈ cs.map (·.2)
      · exact .inr m
      · exact absurd (if_neg m) z
  | none =>
    have hO : ∀ b, (fun b => if b = a then some (.frz { cls := .type "list", data := .seq vs.toArray } (.lst (ns.map V.int))) else if b ∈ cs.map (·.2) then some (HO.tbl #[]) else none) b = none ∨ (b ∈ cs.map (·.2) ∧ (fun b => if b = a then some (.frz { cls := .type "list", data := .seq vs.toArray } (.lst (ns.map V.int))) else if b ∈ cs.map (·.2) then some (HO.tbl #[]) else none) b = some (.tbl #[])) ∨
        ∃ o xs, (fun b => if b = a then some (.frz { cls := .type "list", data := .seq vs.toArray } (.lst (ns.map V.int))) else if b ∈ cs.map (·.2) then some (HO.tbl #[]) else none) b = some (.frz o (.lst xs)) := fun b => by
      by_cases q : b = a
      · exact .inr (.inr ⟨_, _, if_pos q⟩)
      · by_cases m : b ∈ cs.map (·.2)
        · exact .inr (.inl ⟨m, (if_neg q).trans (if_pos m)⟩)
        · exact .inl ((if_neg q).trans (if_neg m))
    have hTb : ∀ p ∈ cs, (fun b => if b = a then some (.frz { cls := .type "list", data := .seq vs.toArray } (.lst (ns.map V.int))) else if b ∈ cs.map (·.2) then some (HO.tbl #[]) else none) p.2 = some (.tbl #[]) := fun p hp => (if_neg fun (z : p.2 = a) => aT (by rw [← z]; exact memT p hp)).trans (if_pos (memT p hp))
    refine law_atT _ KX hns hb hbb hlim hg T ha hr F hbind hO hTb (hsp _ hO hTb (.inl (.inr ⟨_, if_pos rfl⟩))) (fun b u z => ?_) (fun b z => ?_) fun _ => hk
    · by_cases q : b = a
      · have y := (if_pos q).symm.trans z
        cases y
        subst q
        exact ⟨ha, by rw [List.length_map]; exact hl, vs, _, rv, ha⟩
      · have y := (if_neg q).symm.trans z
        by_cases m : b ∈ cs.map (·.2)
        · have y2 := (if_pos m).symm.trans y
          cases y2
          exact okT b m _
        · have y2 := (if_neg m).symm.trans y
          cases y2
    · by_cases q : b = a
      · exact .inl q
      · by_cases m : b ∈ cs.map (·.2)
        · exact .inr m
        · exact absurd ((if_neg q).trans (if_neg m)) z
theorem walk_gT {l : PySem.W.OpenLaw} {n k : Nat} {q : Program} {loose : List Str} {XP : (Str → Option Value) → Heap → Prop} {YP : World → Heap → Prop} {d : DefRec} {K : Params → PySem.W.Frag} {x : Str} {m : List D → M D}
    (hn : l.most = some n) (hn2 : n ≤ sizeLine) (hdf : d.params.defaults = []) (hr : Room k callerA)
    (hY : ∀ (w : World) (h : Heap), YP w h → (K w.params).In h)
    (F : ∀ (w : World) (mg : Str → Option Value) (fa : Addr) (h : Heap), YP w h → (K w.params).In h → h.Ns mainGlobals mg → mg d.name = some (.ref fa) →
      ∃ (fd : FuncData) (cs : List (Addr × Addr)), ((∀ p ∈ cs, h.get? p.2 = some { cls := .none, data := .fields #[] }) ∧ (∀ p ∈ cs, (K w.params).lookup p.2 = none) ∧ ∀ p ∈ cs, PySem.W.CodeHd h p.1 p.2) ∧ (∀ (s : Shared) (u : Value), BindsTo s fd ⟨[u], []⟩ [(x, u)]) ∧
        ∀ base : Heap, (K w.params).In base → base.Ns mainGlobals mg → (∀ p ∈ cs, LamX.TabB base mg p.1 p.2) → FnG l.prog w (K w.params) mg base (L2.CX l.prog w) k fa fd [x] (spT (cs.map (·.2)) (K w.params) mg 1 m))
    (hm : ∀ ns : List Int, ns.length ≤ n → ∃ ah', m [.fro (ns.map D.int)] [] = .ok (.bl true) ah') :
    PySem.W.WalkO q loose XP YP l.row.toRowW d [] (fun f vs => PySem.call f vs) := by
  refine Att.attach_call hn hdf fun w s₀ s₁ mg mb fa o pm cd doc a vs ns G Y ho hd hcd hmg hobj hints hlen hg => ?_
  obtain ⟨fd, cs, ⟨c1, c2, c3⟩, bd, hF⟩ := F w mg fa _ Y (hY w _ Y) G.T.g hmg
  refine law_gT (hY w _ Y) G.T.g G.T.b G.T.builtins G.T.nolimit hg ⟨c1, c2, c3, G.T.bmain⟩ hobj hints (Nat.le_trans hlen hn2) hr hF bd fun H hO hTb hS => ⟨fun P hP => ?_, ?_⟩
  · obtain ⟨p, hp, rfl⟩ := List.mem_map.mp hP
    exact ⟨#[], hTb p hp⟩
  obtain ⟨ah', e⟩ := hm ns hlen
  let S : Sit := ⟨fun _ => 0, [], H, []⟩
  have nol : ∀ b, ¬ Liv S b := fun b z => by
    rcases z with ⟨i, o, h, _⟩ | z
    · have h' : ([] : AH)[i]? = some (some o) := h
      rw [List.getElem?_nil] at h'
      cases h'
    · exact nomatch (show b ∈ ([] : List Addr) from z)
  have rints : ∀ ns : List Int, RVs (K w.params) S (ns.map D.int) (ns.map V.int) := fun ns => by
    induction ns with
    | nil => exact .nil
    | cons i r ih => exact .cons (.int i) ih
  refine ⟨S, [.fro (ns.map D.int)], rfl, ⟨fun i o h => ?_, fun i j o o' h => ?_, fun b z => (nomatch (show b ∈ ([] : List Addr) from z)), fun i o h => ?_, fun P ps h => ?_⟩, .cons (.fro ?_ (rints ns)) .nil, rfl, ?_⟩
  · have h' : ([] : AH)[i]? = some (some o) := h
    rw [List.getElem?_nil] at h'
    cases h'
  · have h' : ([] : AH)[i]? = some (some o) := h
    rw [List.getElem?_nil] at h'
    cases h'
  · have h' : ([] : AH)[i]? = some (some o) := h
    rw [List.getElem?_nil] at h'
    cases h'
  · rcases hO P with z | ⟨_, z⟩ | ⟨_, _, z⟩
    · exact nomatch z.symm.trans h
    · have y := z.symm.trans h
      cases y
      exact ⟨trivial, fun pos cv hc => by have z : codeAmong pos [] = some cv := hc; simp [codeAmong] at z, fun z => nomatch (show P ∈ ([] : List Addr) from z)⟩
    · exact nomatch z.symm.trans h
  · rcases hS with (h | ⟨o, h⟩) | h
    · rcases hO a with z | ⟨_, z⟩ | ⟨o, xs, z⟩
      · rw [h] at z; cases z
      · rw [h] at z; cases z
      · rw [h] at z; cases z
    · exact .inl ⟨o, h, nol a, by intro ps h; cases h⟩
    · exact .inr h
  · rw [show m [.fro (ns.map D.int)] S.ah = .ok (.bl true) ah' from e]
    exact fun S' _ _ _ v r => by cases r; rfl
end Mi
set_option Elab.async false
set_option linter.all false
set_option maxRecDepth 100000
set_option maxHeartbeats 4000000
namespace Mi
open PySem PySem.Spec PyProof.Rows L2
/-! ## an exception out of a comprehension -/
/-- what leaves a call in the block is waited for -/
def PassF (X : Cx) (Wb : WX) : Prop := ∀ σ, PassesAt (L2.CX X.prog X.w) X σ (WE Wb σ)
/-- the block's own wish: a call in it let something out -/
def blkXe (X : Cx) (Wb : WX) : Value → Shared → Prop := fun u s' => ∃ pins σ H s, Inv X pins σ H s ∧ L2.CX X.prog X.w X.stack H s (WE Wb σ) u s'
theorem passF_blk {X : Cx} {Wb : WX} : PassF (X.wish (blkXe X Wb)) Wb := fun σ pins H s e s' I c => ⟨pins, σ, H, s, I.unwish, c⟩
theorem up_trans {h h' h'' : Heap} (a : h.UpToSlots h') (b : h'.UpToSlots h'') : h.UpToSlots h'' := fun x o e nf => by
  obtain ⟨sl, e1⟩ := a x o e nf
  obtain ⟨sl', e2⟩ := b x _ e1 nf
  exact ⟨sl', e2⟩
theorem ff_base {h B B' : Heap} (hb : ∀ b, B.get? b = none → B'.get? b = none) : ∀ {l : List PySem.Env}, h.FunFrames B l → h.FunFrames B' l
  | [], _ => trivial
  | _ :: _, ⟨hk, ⟨L, o, hf, hn, ho, hd⟩, hr⟩ => ⟨hk, ⟨L, o, hf, hb _ hn, ho, hd⟩, ff_base hb hr⟩
section
variable {X : Cx} {pins : List (Addr × Obj)} {σ : St}
theorem errX {W : WX} (tk : Takes X W) (hst : X.stack = X.env :: X.outer) (hlf : X.env.frame = some X.env.locals) {s3 sc s' : Shared} {H3 Hc : Hp} {scope : Scope} {ce : Env} {fp : List Addr} {pb : List (Addr × Obj)} {σc : St} {u : Value}
    (I3 : Inv X pins σ H3 s3) (hce : ce.frame = X.env.frame) (hC : s3.heap.objs.size ≤ ce.locals) (f3 : ∀ b ∈ fp, FpOk X pins H3 b)
    (J : Inv (X.blk s3 H3 scope ce fp) pb σc Hc sc) (c : L2.CX X.prog X.w X.stack Hc sc (fun c d H => W c d σ H) u s') : notedBy (model X.prog X.w) X.A ce (CompFails (model X.prog X.w) X.A X.xe ce) u s' := by
  obtain ⟨a, B0, H0, cls0, d0, e0, fl0, _⟩ := id c
  obtain ⟨a1, B, sI, pI, σI, H', cls, d, e1, I, nb, up, sky, na, os, ag, w⟩ := XE.of_call (X := X.blk s3 H3 scope ce fp) (W := fun c d _ H => W c d σ H) J (fun _ _ _ z => z) c
  subst e0
  cases e1
  have fly : HandSPX.FlyingZ B X.stack a (Zc cls d) s'.heap := by
    obtain ⟨_, _, _, oe, vs, T, oT, ts, q1, _, q3, q4, _, _, q5, q6, q7⟩ := fl0
    rcases sky with ⟨_, _, _, oe', vs', p1, _, p3, p4⟩ | z | ⟨_, _, _, oe', vs', T', oT', ts', p1, _, p3, p4, _, _, p5, p6, p7⟩
    · rw [q1] at p1
      cases p1
      rw [q3] at p3
      cases p3
      rw [q4] at p4
      cases p4
    · exact z
    · rw [q1] at p1
      cases p1
      rw [q3] at p3
      cases p3
      rw [q4] at p4
      cases p4
      rw [q5] at p5
      cases p5
      rw [q6] at p6
      cases p6
      rw [q7] at p7
      simp [rawInt] at p7
  -- without the block's own names
  have fC : FpOk X pins H' ce.locals := I3.fpOk hC I.free
  obtain ⟨B', b1, b2⟩ := restrict B fun b => !decide (b = ce.locals)
  have bC : B'.get? ce.locals = none := b2 _ (by simp)
  have bN : ∀ b, b ≠ ce.locals → B'.get? b = B.get? b := fun b hb => b1 b (by simp [hb])
  have bS : ∀ b o, B'.get? b = some o → B.get? b = some o ∧ b ≠ ce.locals := fun b o e => by
    have hb : b ≠ ce.locals := fun z => by
      rw [z, bC] at e
      cases e
    exact ⟨(bN b hb) ▸ e, hb⟩
  have bn : ∀ b, B.get? b = none → B'.get? b = none := fun b e => by
    cases q : B'.get? b with
    | none => rfl
    | some o => rw [(bS b o q).1] at e; cases e
  obtain ⟨G, g1, g2⟩ := restrict sI.heap fun b => !decide (b = ce.locals)
  have gN : ∀ b, b ≠ ce.locals → G.get? b = sI.heap.get? b := fun b hb => g1 b (by simp [hb])
  have gS : ∀ b o, G.get? b = some o → sI.heap.get? b = some o ∧ b ≠ ce.locals := fun b o e => by
    have hb : b ≠ ce.locals := fun z => by
      rw [z, g2 _ (by simp)] at e
      cases e
    exact ⟨(gN b hb) ▸ e, hb⟩
  obtain ⟨f0, f1, f2, f4, f5, f6⟩ := fC
  have I7 : Inv X pins σ H' sI := I3.call' (ch := fp) I.os I.base I.hok I.bare fun b hb => ⟨(f3 b hb).2.2.2.1, (f3 b hb).2.1, (f3 b hb).2.2.2.2.1, (f3 b hb).2.2.2.2.2⟩
  have I8 : Inv X pins σ H' { sI with heap := G, toks := sI.toks } := I7.turned (t' := sI.toks) (fun b o hb e => (gN b hb).trans e) f0 f1 f4 f5 f6
  have fun_ : ∀ {h : Heap}, h.FunFrames B X.stack → h.FunFrames B' X.stack := fun {h} ff => ff_base bn ff
  obtain ⟨k1, k2, k3, k4⟩ := fly
  have fly' : HandSPX.FlyingZ B' (X.env :: X.outer) a (Zc cls d) s'.heap := by
    refine ⟨fun b o e => k1 b o (bS b o e).1, bn _ k2, hst ▸ fun_ k3, ?_⟩
    obtain ⟨oe, vs, T, oT, ts, q1, q2, q3, q4, q5, q6⟩ := k4
    exact ⟨oe, vs, T, oT, ts, q1, q2, q3, q4, bn _ q5, q6⟩
  show wpAny (model X.prog X.w) X.A (noteFrame (.ref a) ce) _ _ s'
  rw [noteFrame_env _ hce]
  refine HandSPX.looks_onZ Zc.steady (I3.ok.frames.trans (by rw [hst])) hlf fly' fun h1 hh1 up1 => ?_
  have nsC : ∃ m, s'.heap.Ns ce.locals m := by
    obtain ⟨m, hn, _⟩ := I.loc
    exact ⟨m, hn.upToSlots up⟩
  obtain ⟨m, hn⟩ := nsC
  refine ⟨m, hn.upToSlots up1, fun h2 m2 hn2 sb => ?_⟩
  obtain ⟨j1, j2, j3, j4⟩ := hh1
  obtain ⟨oe, vs, T, oT, ts, q1, q2, q3, q4, q5, q6, q7, q8, q9⟩ := j4
  have up2 : ∀ b o, h1.get? b = some o → b ≠ ce.locals → h2.get? b = some o := fun b o e hb => (sb.2 b hb).trans e
  have neF : ∀ {b : Addr} {o : Obj} {vs : Array Value}, h1.get? b = some o → o.data = .fields vs → b ≠ ce.locals := fun {b o vs} e e2 z => by
    obtain ⟨oL, es, ep, hoL, hdL, _⟩ := hn.upToSlots up1
    rw [z, hoL] at e
    cases e
    rw [hdL] at e2
    cases e2
  have held2 : HandSPX.HeldZ B' (X.env :: X.outer) a (Zc cls d) X.env.locals h2 := by
    refine ⟨fun b o e => up2 b o (j1 b o e) (bS b o e).2, j2, Heap.FunFrames.sameBut sb hn2 j3, oe, vs, T, oT, ts, up2 _ _ q1 (neF q1 q3), q2, q3, q4, q5, q6, up2 _ _ q7 (neF q7 q8), q8, q9⟩
  unfold PySem.passOn
  refine wpAny_bind (wpAny_field (up2 _ _ q1 (neF q1 q3)) q3 q4 ?_)
  rw [if_neg (show ¬ ((Value.ref T == Value.none) = true) from by simp)]
  rw [hce, hlf]
  refine wpAny_bind (HandSPX.setFlight_onZ held2 fun h3 hh3 up3 => ?_)
  refine wpAny_throw ?_
  refine tk _ _ ⟨a, B', { sI with heap := G, toks := sI.toks }, pins, σ, H', cls, d, rfl, I8, fun b o e hb => ?_, ?_, .inr (.inr (hst ▸ hh3)), na, os, ag, w⟩
  · have e2 := gS b o e
    rw [bN b e2.2]
    exact nb b o e2.1 hb
  · intro b o e nf
    have e2 := gS b o e
    obtain ⟨s1, r1⟩ := up b o e2.1 nf
    obtain ⟨s2, r2⟩ := up1 b _ r1 nf
    have r3 := up2 b _ r2 e2.2
    obtain ⟨s4, r4⟩ := up3 b _ r3 nf
    exact ⟨s4, r4⟩
end
end Mi
namespace Mi
open PySem PySem.Spec PyProof.Rows L2
section
variable {X : Cx}
/-- the block of a comprehension whose element may let something out -/
theorem lcX_core {W : WX} {pins : List (Addr × Obj)} {s : Shared} {σ : St} {H : Hp} {Q : VK} {elt tg iter : Expr} {ifs : List Expr} {scope : Scope} {own : List (Str × Nat)} {pos pos' : Pos} {wi : TI} {g : TG} {tt : TT} {te : TE} {use : Option (Value → Sem Unit)} {Qf : Value → Shared → Prop}
    (tk : Takes X W) (hst : X.stack = X.env :: X.outer) (hlf : X.env.frame = some X.env.locals)
    (hc : X.calm = true) (hN : X.N.Nodup) (I : Inv X pins σ H s) (hi : PI X tg iter wi) (ok : BlkOk X.N X.env.scope scope own)
    (hg : ∀ (s : Shared) (H : Hp) (C : Addr) (cl : List (Str × Addr)) (fp : List Addr), PG (X.blk s H scope (compEnvC scope cl C X.env) fp) tg g) (ht : ∀ (s : Shared) (H : Hp) (C : Addr) (cl : List (Str × Addr)) (fp : List Addr), PTs (X.blk s H scope (compEnvC scope cl C X.env) fp) ifs tt)
    (he : ∀ (s : Shared) (H : Hp) (C : Addr) (cl : List (Str × Addr)) (fp : List Addr) (xe : Value → Shared → Prop), PassF ((X.blk s H scope (compEnvC scope cl C X.env) fp).wish xe) (fun c d _ H => W c d σ H) → PE ((X.blk s H scope (compEnvC scope cl C X.env) fp).wish xe) elt te) (hs : ∀ x, foldedSetIterable iter X.env x = pure x)
    (h : tLc wi g tt te (own.map (·.2)) σ H Q)
    (hRR : ∀ D C s' m H' cenv, cenv.locals = C → Inv X pins σ H' s' → Q (.ref D) H' → s'.heap.Ns C m → FpOk X pins H' C → compEnds (model X.prog X.w) X.A X.xe use Qf (.ref D) cenv (.ok .next) s') :
    wpAny (model X.prog X.w) X.A (comprehension (.ListComp elt [⟨tg, iter, ifs, 0⟩] scope pos) scope X.env pos' (newList []) false (eval iter X.env) use) Qf X.xe s := by
  have hfree : ∀ y ∈ scope.names, y.2 = .free → ∃ c, X.env.cells.lookup y.1 = some c := fun y hy e => (ok.free y hy e).elim (fun k => I.ok.has _ (.inl k)) fun k => I.ok.has _ (.inr k)
  refine comprehension_at (use := use) rfl hs (closure_ok hfree) ok.kind (fun y hy e => by rw [ok.uniq y hy, e]) (thn (hi.run pins s σ H _ I h) fun xv sa hx => thn hx fun itv sb hb2 => ?_)
  obtain ⟨it, fp, tn, J, Hb, ei, Ib, T, stb, fb, q⟩ := hb2
  subst ei
  refine wpAny_newObj_type (newEnv_comp ?_) (by show 0 ≤ sizeLine; decide)
  obtain ⟨D, hD⟩ : ∃ D, sb.heap.objs.size = D := ⟨_, rfl⟩
  have hDn : Hb D = none := Ib.hok.fresh (Nat.le_of_eq hD)
  obtain ⟨Wt, ⟨m0, w0⟩, turn⟩ := q D hDn
  suffices aux : ∀ s3 : Shared, ({ sb with heap := sb.heap.push { cls := .type "list", data := .seq ([] : List Value).toArray } } : Shared) = s3 → codeAny (model X.prog X.w) X.A (.compStart (.ListComp elt [⟨tg, iter, ifs, 0⟩] scope pos) 0 (.ref it) (.ref sb.heap.objs.size) (compEnvC scope (cellsFrom (s3.heap.objs.size + 1) scope.names (cloFrom X.env.cells scope.names [])) s3.heap.objs.size X.env)) (compEnds (model X.prog X.w) X.A X.xe use Qf (.ref sb.heap.objs.size) (compEnvC scope (cellsFrom (s3.heap.objs.size + 1) scope.names (cloFrom X.env.cells scope.names [])) s3.heap.objs.size X.env)) ({ s3 with heap := pushCells (s3.heap.push { cls := .type "dict", data := .dict #[] }) scope.names } : Shared) by
    have z := aux _ rfl
    exact z
  intro s3 hs3
  rw [hD]
  have I3 : Inv X pins σ (upd Hb D (.lst [])) s3 := by
    rw [← hs3]
    refine Ib.laid (t' := sb.toks) (fun b o e => Heap.get?_push_of_some _ e) (Nat.le_of_eq hD) ⟨Nat.zero_le _, [], 0, .nil, ?_⟩
    rw [← hD]
    exact Heap.get?_push_size _ rfl
  have hh3 : s3.heap = sb.heap.push { cls := .type "list", data := .seq ([] : List Value).toArray } := by rw [← hs3]
  have szf : ∀ b ∈ fp, b < sb.heap.objs.size := fun b hb => let ⟨_, e, _⟩ := T.obj _ _ stb b hb; Heap.lt_size e
  have f3 : ∀ b ∈ fp, FpOk X pins (upd Hb D (.lst [])) b ∧ b < s3.heap.objs.size := fun b hb => by
    have lt := szf b hb
    refine ⟨⟨?_, (fb b hb).2⟩, by rw [hh3, Heap.size_push]; exact Nat.lt_succ_of_lt lt⟩
    rw [upd_ne (by rw [← hD]; exact Nat.ne_of_lt lt)]
    exact (fb b hb).1
  have st3 : tn 0 s3.heap := T.keep _ _ _ stb fun b _ o e => by rw [hh3]; exact Heap.get?_push_of_some _ e
  have I4 := block_start I3 ok hN f3
  obtain ⟨C, hCe⟩ : ∃ C, s3.heap.objs.size = C := ⟨_, rfl⟩
  obtain ⟨cl, hcl⟩ : ∃ cl, cellsFrom (s3.heap.objs.size + 1) scope.names (cloFrom X.env.cells scope.names []) = cl := ⟨_, rfl⟩
  have pg := hg s3 (upd Hb D (.lst [])) C cl fp
  have pt := ht s3 (upd Hb D (.lst [])) C cl fp
  have pe := he s3 (upd Hb D (.lst [])) C cl fp _ passF_blk
  rw [hcl, hCe] at I4
  rw [hcl, hCe]
  have nfp : ∀ b ∈ fp, (upd Hb D (.lst [])) b = none := fun b hb => (f3 b hb).1.1
  obtain ⟨ce, hce⟩ : ∃ ce, compEnvC scope cl C X.env = ce := ⟨_, rfl⟩
  have cL : ce.locals = C := by subst hce; rfl
  have cF : ce.frame = X.env.frame := by subst hce; rfl
  rw [hce] at I4 pg pt pe ⊢
  obtain ⟨H3, hH3⟩ : ∃ H3, upd Hb D (.lst []) = H3 := ⟨_, rfl⟩
  rw [hH3] at I3 I4 pg pt pe w0 nfp f3
  obtain ⟨s4, hs4⟩ : ∃ s4 : Shared, ({ s3 with heap := pushCells (s3.heap.push { cls := .type "dict", data := .dict #[] }) scope.names } : Shared) = s4 := ⟨_, rfl⟩
  have st4 : tn 0 s4.heap := T.keep _ _ _ st3 fun b _ o e => by rw [← hs4]; exact pushCells_keeps _ _ _ _ (Heap.get?_push_of_some _ e)
  rw [hs4] at I4 ⊢
  have stat : ∀ {σ' : St} {H' : Hp} {s' : Shared}, Inv (X.blk s3 H3 scope ce fp) [] σ' H' s' → (∀ b ∈ fp, H' b = none) → ∀ b ∈ fp, FpOk (X.blk s3 H3 scope ce fp) [] H' b := fun {σ' H' s'} I' hn b hb =>
    ⟨hn b hb, (I'.ok.exf b hb).1, I'.ok.exfs b hb, .inl hb, fun x c e => (I'.ok.exf b hb).2 x c e, fun p hp => (nomatch (show p ∈ ([] : List (Addr × Obj)) ++ [] from hp))⟩
  have hCs : s3.heap.objs.size ≤ ce.locals := by rw [cL, hCe]; exact Nat.le_refl _
  have loop : codeAny (model X.prog X.w) X.A (.compLoop (.ListComp elt [⟨tg, iter, ifs, 0⟩] scope pos) 0 (.ref it) (.ref D) ce) (compEnds (model X.prog X.w) X.A X.xe use Qf (.ref D) ce) s4 := by
    refine compLoop_any (fun n s' => ∃ i H', Inv (X.blk s3 H3 scope ce fp) [] (wipe σ (own.map (·.2))) H' s' ∧ tn i s'.heap ∧ (∀ b ∈ fp, H' b = none) ∧ Wt i n H') ?_ m0 ⟨0, H3, I4, st4, nfp, w0⟩
    rintro n s5 ⟨i, H5, I5, st5, n5, w5⟩
    rcases turn i n H5 w5 with ⟨stop, qq⟩ | ⟨go, Nx, hNx, step⟩
    · refine thnF (T.done (X.blk s3 H3 scope ce fp) rfl rfl rfl hc i [] s5 _ H5 (fun _ _ => False) I5 (stat I5 n5) st5 stop) fun r s6 ⟨hr, I6⟩ => ?_
      subst hr
      have I7 : Inv X pins σ H5 s6 := I3.call' (ch := fp) I6.os I6.base I6.hok I6.bare fun b hb => ⟨(f3 b hb).1.2.2.2.1, (f3 b hb).1.2.1, (f3 b hb).1.2.2.2.2.1, (f3 b hb).1.2.2.2.2.2⟩
      have nC : H5 ce.locals = none := I6.free
      obtain ⟨m, hn, _⟩ := I6.loc
      exact hRR D ce.locals s6 m H5 ce rfl I7 qq hn (I3.fpOk hCs nC)
    · refine thnF (T.item (X.blk s3 H3 scope ce fp) rfl rfl rfl hc i [] s5 _ H5 (fun _ _ => False) I5 (stat I5 n5) st5 go) fun r s6 ⟨u, hr, h6⟩ => ?_
      subst hr
      refine thnF h6 fun _ s7 ⟨x, H7, I7, r7, y7, st7, n7⟩ => ?_
      have J7 := I7.pinned (stat I7 n7) (T.obj _ _ st7)
      refine thnF (pg.run _ s7 _ H7 x u _ J7 r7 (step x H7 y7)) fun _ s8 ⟨σ8, H8, I8, hw8, q8⟩ => ?_
      refine thnF (pt.run _ s8 σ8 H8 _ I8 q8) fun b s9 ⟨H9, I9, q9⟩ => ?_
      have fin : ∀ {s' : Shared} {H' : Hp}, Inv (X.blk s3 H3 scope ce fp) ([] ++ pinsAt fp s7.heap) σ8 H' s' → Nx H' → ∃ m, m < n ∧ ∃ i H', Inv (X.blk s3 H3 scope ce fp) [] (wipe σ (own.map (·.2))) H' s' ∧ tn i s'.heap ∧ (∀ b ∈ fp, H' b = none) ∧ Wt i m H' := fun {s' H'} I' nx => by
        obtain ⟨m', hm, w'⟩ := hNx H' nx
        have pin' : ∀ b ∈ fp, ∀ o, s7.heap.get? b = some o → s'.heap.get? b = some o ∧ H' b = none := fun b hb o e =>
          let z := I'.pin (b, o) (List.mem_append_right _ (List.mem_append_right _ (mem_pinsAt hb e)))
          ⟨z.1, z.2.1⟩
        have hl : (wipe σ (own.map (·.2))).length = σ8.length := by rw [← hw8, wipe_length]
        refine ⟨m', hm, i + 1, H', (I'.unpinned (pins := [])).weak hl (fun j v e => ?_), T.keep _ _ _ st7 fun b hb o e => (pin' b hb o e).1, fun b hb => ?_, w'⟩
        · rw [← hw8] at e
          exact (wipe_some e).1
        · obtain ⟨o, e, _⟩ := T.obj _ _ st7 b hb
          exact (pin' b hb o e).2
      cases b with
      | false =>
        simp only [Bool.false_eq_true, if_false] at q9 ⊢
        exact fin I9 q9
      | true =>
        simp only [if_true] at q9 ⊢
        refine wpAny_mono (pe.run _ s9 σ8 H9 _ (I9.wish _) q9) (fun z s10 ⟨yv, H10, I10, r10, acc, hD10, hz10, nx⟩ => ?_) fun e s' hx => ?_
        · exact app_ok (X := X.blk s3 H3 scope ce fp) I10.unwish hD10 hz10 r10 fun s11 I11 => fin I11 nx
        · obtain ⟨pb, σc, Hc, sc, Ic, cx⟩ := hx
          exact errX tk hst hlf I3 cF hCs (fun b hb => (f3 b hb).1) Ic cx
  exact codeAny_compStart_list loop (T.self X.A 0 _ _ _ st4 loop)
end
end Mi
namespace Mi
open PySem PySem.Spec PyProof.Rows L2
section
variable {X : Cx}
theorem pe_lcX {W : WX} {elt tg iter : Expr} {ifs : List Expr} {scope : Scope} {own : List (Str × Nat)} {pos : Pos} {wi : TI} {g : TG} {tt : TT} {te : St → TE} (tk : Takes X W) (hst : X.stack = X.env :: X.outer) (hlf : X.env.frame = some X.env.locals) (hc : X.calm = true) (hN : X.N.Nodup) (hi : PI X tg iter wi) (ok : BlkOk X.N X.env.scope scope own)
    (hg : ∀ (s : Shared) (H : Hp) (C : Addr) (cl : List (Str × Addr)) (fp : List Addr), PG (X.blk s H scope (compEnvC scope cl C X.env) fp) tg g) (ht : ∀ (s : Shared) (H : Hp) (C : Addr) (cl : List (Str × Addr)) (fp : List Addr), PTs (X.blk s H scope (compEnvC scope cl C X.env) fp) ifs tt)
    (he : ∀ (σ : St) (s : Shared) (H : Hp) (C : Addr) (cl : List (Str × Addr)) (fp : List Addr) (xe : Value → Shared → Prop), PassF ((X.blk s H scope (compEnvC scope cl C X.env) fp).wish xe) (fun c d _ H => W c d σ H) → PE ((X.blk s H scope (compEnvC scope cl C X.env) fp).wish xe) elt (te σ)) (hs : ∀ x, foldedSetIterable iter X.env x = pure x := by intro _; rfl) :
    PE X (.ListComp elt [⟨tg, iter, ifs, 0⟩] scope pos) (fun σ H Q => tLc wi g tt (te σ) (own.map (·.2)) σ H Q) := by
  refine ⟨fun pins s σ H Q I h => ?_⟩
  rw [eval_ListComp]
  refine lcX_core tk hst hlf hc hN I hi ok hg ht (he σ) hs h fun D C s' m H' cenv hcl I' q hn f => ?_
  subst hcl
  refine ⟨m, hn, fun h'' sb => ?_⟩
  obtain ⟨f0, f1, f2, f3, f4, f5⟩ := f
  exact ⟨.ref D, H', I'.turned (t' := s'.toks) (fun b o hb e => (sb.2 b hb).trans e) f0 f1 f3 f4 f5, rfl, q⟩
theorem ps_setLcX {W : WX} {i : Nat} {y : Str} {py : Pos} {elt tg iter : Expr} {ifs : List Expr} {scope : Scope} {own : List (Str × Nat)} {pos spos : Pos} {wi : TI} {g : TG} {tt : TT} {te : St → TE} (tk : Takes X W) (hst : X.stack = X.env :: X.outer) (hlf : X.env.frame = some X.env.locals) (hc : X.calm = true) (hN : X.N.Nodup) (hy : X.N[i]? = some y) (hyl : X.env.scope.names.lookup y = some .local)
    (hsw : swapsWith (.ListComp elt [⟨tg, iter, ifs, 0⟩] scope pos) (some (.Name y py)) spos.line X.env = pure true) (hi : PI X tg iter wi) (ok : BlkOk X.N X.env.scope scope own)
    (hg : ∀ (s : Shared) (H : Hp) (C : Addr) (cl : List (Str × Addr)) (fp : List Addr), PG (X.blk s H scope (compEnvC scope cl C X.env) fp) tg g) (ht : ∀ (s : Shared) (H : Hp) (C : Addr) (cl : List (Str × Addr)) (fp : List Addr), PTs (X.blk s H scope (compEnvC scope cl C X.env) fp) ifs tt)
    (he : ∀ (σ : St) (s : Shared) (H : Hp) (C : Addr) (cl : List (Str × Addr)) (fp : List Addr) (xe : Value → Shared → Prop), PassF ((X.blk s H scope (compEnvC scope cl C X.env) fp).wish xe) (fun c d _ H => W c d σ H) → PE ((X.blk s H scope (compEnvC scope cl C X.env) fp).wish xe) elt (te σ)) (hs : ∀ x, foldedSetIterable iter X.env x = pure x := by intro _; rfl) :
    PS X (.Assign [.Name y py] (.ListComp elt [⟨tg, iter, ifs, 0⟩] scope pos) spos) (tAsg (fun σ H Q => tLc wi g tt (te σ) (own.map (·.2)) σ H Q) (gName i)) := by
  refine ⟨fun pins s σ H D I h => ?_⟩
  rw [exec_Assign_Name_used _ _ _ _ hsw]
  refine wpAny_bind (wpAny_standAt (wpAny_bind ?_))
  show wpAny _ X.A (do let _ ← comprehension (.ListComp elt [⟨tg, iter, ifs, 0⟩] scope pos) scope X.env (firstIterPos [⟨tg, iter, ifs, 0⟩] pos) (newList []) false (eval iter X.env) (some (assign (.Name y py) X.env))) _ _ s
  have h : tLc wi g tt (te σ) (own.map (·.2)) σ H (fun x H1 => gName i x σ H1 D.nx) := h
  refine wpAny_bind (thn (lcX_core (Qf := fun _ s' => SP X pins D .next s') tk hst hlf hc hN I hi ok hg ht (he σ) hs h fun L C s' m H' cenv hcl I' q hn f => ?_) fun _ s' hq => wpAny_pure (wpAny_pure hq))
  subst hcl
  show wpAny _ _ (assign (.Name y py) X.env (.ref L)) _ _ _
  refine wpAny_assign_Name (store_ok2 (v := V.ref L) I' hN hy (.inl hyl) rfl (fun s2 I2 ⟨a, sb, ha⟩ => ?_) (.inr hyl))
  obtain ⟨f0, f1, f2, f3, f4, f5⟩ := f
  have haC : cenv.locals ≠ a := by
    rcases ha with z | z
    · rw [z]; exact f1
    · exact fun e => f4 y a z e.symm
  refine ⟨m, hn.sameBut sb haC, fun h3 sb3 => ?_⟩
  exact ⟨_, H', I2.turned (t' := s2.toks) (fun b o hb e => (sb3.2 b hb).trans e) f0 f1 f3 f4 f5, q⟩
end
/-- what is let out is let out at another env -/
def reEnv {α : Type} (env : Lc) (m : M α) : M α := fun ah => match m ah with
  | .no => .no
  | .ok a ah' => .ok a ah'
  | .ex e _ ah' => .ex e env ah'
def eLcX (it : Lc → M (List D)) (go : D → Lc → Option Lc) (tt : Lc → M Bool) (el : Lc → M D) (vs : List Nat) : Lc → M D := fun env => M.andThen (it env) fun ds => M.when (decide (ds.length ≤ sizeLine)) (M.andThen (lc go (fun e1 => hush (tt e1)) (fun e1 => reEnv env (el e1)) vs env ds) fun ys => M.ret (.lst ys))
abbrev EPf (K : PySem.W.Frag) (mg : Str → Option Value) (W : WX) (σ : St) : EPT := EPw K mg fun c d _ H => W c d σ H
section
variable {K : PySem.W.Frag} {mg : Str → Option Value} {W : WX}
theorem RFs.ext0 {S S' : Sit} (e : Ext0 S S') : ∀ {ds : List (Str × D)} {vs : List (Str × V)}, RFs K S ds vs → RFs K S' ds vs
  | _, _, .nil => .nil
  | _, _, .cons a t => .cons (a.ext0 e) (RFs.ext0 e t)
theorem XAt.ext0 {S S' : Sit} (e : Ext0 S S') {args : List (Str × D)} {d : Option Addr} (h : XAt K S args d) : XAt K S' args d := by
  rcases h with h | ⟨na, a, fs, e1, e2, e3⟩
  · exact .inl h
  · exact .inr ⟨na, a, fs, e1, e.still _ _ e2, RFs.ext0 e e3⟩
theorem Post.hideX {α : Type} {G : α → Sit → Prop} {S : Sit} {m : M α} {p : Addr} {B : List Addr} {env : Lc} {σ : St} {ah : AH} (o : Opn S p B) (ok : Ok K S) (re : RE K S env σ) (h : Post K (EPw K mg W) (S.strip p B) G (reEnv env m ah)) :
    Post K (EPf K mg W σ) S (fun a S' => G a (S'.strip p B)) (m ah) := by
  unfold reEnv at h
  cases q : m ah with
  | no => rw [q] at h; exact h
  | ok a ah' => rw [q] at h; exact fun S' e ok' q => h (S'.strip p B) (Sit.strip_ext o ok e) (Sit.strip_ok (o.ext e) ok') q
  | ex x env' ah' =>
    rw [q] at h
    intro S' e ok' q σ' _
    obtain ⟨ok3, x3, e3, _⟩ := Sit.shut_ok (o.ext e) ok'
    obtain ⟨C, e1, e2⟩ := h (S'.shut B) ((Sit.strip_ext o ok e).trans x3) ok3 q σ ((re.ext e).ext0 e3)
    exact ⟨C, e1, fun d hd => e2 d (hd.ext0 e3)⟩
end
end Mi
namespace Mi
open PySem PySem.Spec PyProof.Rows L2
section
variable {X : Cx} {pos : Pos} {K : PySem.W.Frag} {mg : Str → Option Value} {W : WX}
theorem lc_runX {g : TG} {go : D → Lc → Option Lc} {tt : Lc → M Bool} {el : Lc → M D} {vs : List Nat} (raw : Raw K g go vs) {it : Lc → M (List D)} {σ : St} {H : Hp} {Q : VK} (h : TD K (EPw K mg W) (eLcX it go tt el vs) σ H Q) :
    tLc (TI' K (EPw K mg W) it) g (TB K EP0 tt) (TD K (EPf K mg W σ) el) vs σ H Q := by
  obtain ⟨S, env, rfl, ok, re, p⟩ := h
  refine ⟨S, env, rfl, ok, re, (Post.split p).imp fun ds S1 x1 o1 q J sv D hD => ?_⟩
  obtain ⟨hlen, q⟩ := Post.whened q
  have hlen := of_decide_eq_true hlen
  have q := Post.split q
  have re := re.ext x1
  obtain ⟨ok0, e0, op0⟩ := Sit.open_ok o1 (u := .lst []) hD
  have str0 := strip_open (u := .lst []) hD
  have hide0 : ∀ (σ : St) (e : Ex) (S' : Sit), Opn S' D S1.busy → EP0 σ e (S'.strip D S1.busy) → EP0 σ e S' := fun _ _ _ _ z => z
  refine ⟨fun i' m H' => ∃ S2 accD accV, S2.H = H' ∧ Ok K S2 ∧ Opn S2 D S1.busy ∧ Ext S1 (S2.strip D S1.busy) ∧ RE K S2 env σ ∧ (∀ d v, RV K S1 d v → RV K S2 d v) ∧ S2.H D = some (.lst accV) ∧ RVs K S2 accD accV ∧ accD.length ≤ i' ∧ i' + m = ds.length ∧
      Post K (EPw K mg W) (S2.strip D S1.busy) (fun ys S' => Post K (EPw K mg W) S' (GV K Q) (M.ret (.lst (accD ++ ys)) S'.ah)) (lc go (fun e1 => hush (tt e1)) (fun e1 => reEnv env (el e1)) vs env (ds.drop i') S2.ah),
    ⟨ds.length, S1.open D (.lst []), [], [], rfl, ok0, op0, by rw [str0]; exact Ext.refl _, re.ext0 e0, fun d v r => r.ext0 e0, upd_same, .nil, Nat.zero_le _, by omega, by rw [str0, List.drop_zero]; exact q⟩, fun i' m H' hW => ?_⟩
  obtain ⟨S2, accD, accV, rfl, ok2, op2, x2, re2, rv2, hd2, acc2, hle, hm, p2⟩ := hW
  obtain ⟨ok3, x3, e3, st3⟩ := Sit.shut_ok op2 ok2
  by_cases hl : i' < ds.length
  · obtain ⟨d, g1, g2⟩ := drop_get hl
    rw [g2] at p2
    refine .inr ⟨sv.go (S2.shut S1.busy) i' (x2.trans x3) hl, fun H' => ∃ S3 accD accV, S3.H = H' ∧ Ok K S3 ∧ Opn S3 D S1.busy ∧ Ext S1 (S3.strip D S1.busy) ∧ RE K S3 env σ ∧ (∀ d v, RV K S1 d v → RV K S3 d v) ∧ S3.H D = some (.lst accV) ∧ RVs K S3 accD accV ∧ accD.length ≤ i' + 1 ∧
        Post K (EPw K mg W) (S3.strip D S1.busy) (fun ys S' => Post K (EPw K mg W) S' (GV K Q) (M.ret (.lst (accD ++ ys)) S'.ah)) (lc go (fun e1 => hush (tt e1)) (fun e1 => reEnv env (el e1)) vs env (ds.drop (i' + 1)) S3.ah),
      fun H' ⟨S3, aD, aV, b1, b2, b3, b4, b5, b6, b7, b8, b9, b10⟩ => ⟨m - 1, by omega, S3, aD, aV, b1, b2, b3, b4, b5, b6, b7, b8, b9, by omega, b10⟩, fun x H' hy => ?_⟩
    obtain ⟨rfl, rv⟩ := sv.yld (S2.shut S1.busy) i' x H' (x2.trans x3) ok3 hy d g1
    have rv := rv2 _ _ rv
    obtain ⟨env1, he1, p2⟩ := Post.lifted (Post.split p2) (Sit.strip_ok op2 ok2)
    refine raw S2 env env1 σ d x _ ok2 re2 rv he1 fun σ2 reσ hw => ⟨hw, S2, env1, rfl, ok2, reσ, (Post.hide op2 ok2 hide0 (Post.hushed (Post.split p2))).imp fun b S3 y3 o3 q3 => ?_⟩
    have op3 := op2.ext y3
    have hd3 : S3.H D = some (.lst accV) := (y3.keep D (by rw [op2.b]; exact List.mem_cons_self)).trans hd2
    cases b with
    | false =>
      exact ⟨S3, accD, accV, rfl, o3, op3, x2.trans (Sit.strip_ext op2 ok2 y3), re2.ext y3, fun d v r => (rv2 d v r).ext y3, hd3, acc2.ext y3, by omega, q3⟩
    | true =>
      have p3 := Post.split q3
      refine ⟨S3, env1, rfl, o3, reσ.ext y3, (Post.hideX op3 o3 (re2.ext y3) p3).imp fun y S4 y4 o4 q4 w rw4 => ?_⟩
      have op4 := op3.ext y4
      have hd4 : S4.H D = some (.lst accV) := (y4.keep D (by rw [op3.b]; exact List.mem_cons_self)).trans hd3
      have acc4 := (acc2.ext y3).ext y4
      obtain ⟨o5, e5, op5⟩ := Sit.poke_ok (u := .lst (accV ++ [w])) op4 o4
      refine ⟨accV, hd4, by rw [← acc4.length]; omega, S4.poke D (.lst (accV ++ [w])), accD ++ [y], accV ++ [w], rfl, o5, op5, by rw [strip_poke]; exact (x2.trans (Sit.strip_ext op2 ok2 y3)).trans (Sit.strip_ext op3 o3 y4), ((re2.ext y3).ext y4).ext0 e5,
        fun d v r => (((rv2 d v r).ext y3).ext y4).ext0 e5, upd_same, (acc4.append (.cons rw4 .nil)).ext0 e5, by rw [List.length_append]; simp only [List.length_singleton]; omega, ?_⟩
      rw [strip_poke]
      refine (Post.split q4).imp fun ys S6 y6 o6 q6 => ?_
      have z := Post.ret (G := fun ys S' => Post K (EPw K mg W) S' (GV K Q) (M.ret (.lst (accD ++ ys)) S'.ah)) q6 o6
      rw [List.append_assoc]
      exact z
  · have e : i' = ds.length := by omega
    subst e
    rw [List.drop_length] at p2
    refine .inl ⟨sv.stop (S2.shut S1.busy) (x2.trans x3), ?_⟩
    have z : Post K (EPw K mg W) (S2.shut S1.busy) (GV K Q) (M.ret (.lst (accD ++ [])) (S2.shut S1.busy).ah) := p2 (S2.shut S1.busy) x3 ok3 rfl
    rw [List.append_nil] at z
    exact ok3.ret (EP := EPw K mg W) (a := Mi.D.lst accD) z _ (.lst (st3 _ hd2 (by intro ps h; cases h)) (acc2.ext0 e3))
theorem Rm.wish (rm : Rm X) (xe : Value → Shared → Prop) : Rm (X.wish xe) := ⟨rm.gu, rm.un, rm.cm, rm.u5⟩
/-- [elt for tg in iter if ..], whose element may let something out -/
theorem d_lcX {elt tg iter : Expr} {ifs : List Expr} {scope : Scope} {own : List (Str × Nat)} {g : TG} {go : D → Lc → Option Lc} {it : Lc → M (List D)} {tt : Lc → M Bool} {el : Lc → M D} (tk : Takes X W) (rm : Rm X) (hN : X.N.Nodup) (hi : PI X tg iter (TI' X.K (EPw X.K X.mg W) it)) (ok : BlkOk X.N X.env.scope scope own)
    (raw : Raw X.K g go (own.map (·.2)))
    (hg : ∀ (s : Shared) (H : Hp) (C : Addr) (cl : List (Str × Addr)) (fp : List Addr), PG (X.blk s H scope (compEnvC scope cl C X.env) fp) tg g)
    (ht : ∀ (s : Shared) (H : Hp) (C : Addr) (cl : List (Str × Addr)) (fp : List Addr), PTs (X.blk s H scope (compEnvC scope cl C X.env) fp) ifs (TB X.K EP0 tt))
    (he : ∀ (σ : St) (s : Shared) (H : Hp) (C : Addr) (cl : List (Str × Addr)) (fp : List Addr) (xe : Value → Shared → Prop), PassF ((X.blk s H scope (compEnvC scope cl C X.env) fp).wish xe) (fun c d _ H => W c d σ H) → PE ((X.blk s H scope (compEnvC scope cl C X.env) fp).wish xe) elt (TD X.K (EPf X.K X.mg W σ) el))
    (hst : X.stack = X.env :: X.outer := by rfl) (hlf : X.env.frame = some X.env.locals := by rfl)
    (hs : ∀ x, foldedSetIterable iter X.env x = pure x := by intro _; rfl) :
    PE X (.ListComp elt [{ target := tg, iter := iter, ifs := ifs, is_async := 0 }] scope pos) (TD X.K (EPw X.K X.mg W) (eLcX it go tt el (own.map (·.2)))) :=
  PE.by (pe_lcX tk hst hlf rm.cm hN hi ok hg ht he hs) fun _ _ _ h => lc_runX raw h
theorem s_setLcX (i : Nat) {y : Str} {py : Pos} {elt tg iter : Expr} {ifs : List Expr} {scope : Scope} {own : List (Str × Nat)} {spos : Pos} {g : TG} {go : D → Lc → Option Lc} {it : Lc → M (List D)} {tt : Lc → M Bool} {el : Lc → M D} (tk : Takes X W) (rm : Rm X) (hN : X.N.Nodup)
    (hi : PI X tg iter (TI' X.K (EPw X.K X.mg W) it)) (ok : BlkOk X.N X.env.scope scope own)
    (raw : Raw X.K g go (own.map (·.2)))
    (hg : ∀ (s : Shared) (H : Hp) (C : Addr) (cl : List (Str × Addr)) (fp : List Addr), PG (X.blk s H scope (compEnvC scope cl C X.env) fp) tg g)
    (ht : ∀ (s : Shared) (H : Hp) (C : Addr) (cl : List (Str × Addr)) (fp : List Addr), PTs (X.blk s H scope (compEnvC scope cl C X.env) fp) ifs (TB X.K EP0 tt))
    (he : ∀ (σ : St) (s : Shared) (H : Hp) (C : Addr) (cl : List (Str × Addr)) (fp : List Addr) (xe : Value → Shared → Prop), PassF ((X.blk s H scope (compEnvC scope cl C X.env) fp).wish xe) (fun c d _ H => W c d σ H) → PE ((X.blk s H scope (compEnvC scope cl C X.env) fp).wish xe) elt (TD X.K (EPf X.K X.mg W σ) el))
    (hst : X.stack = X.env :: X.outer := by rfl) (hlf : X.env.frame = some X.env.locals := by rfl)
    (hy : X.N[i]? = some y := by rfl) (hyl : X.env.scope.names.lookup y = some .local := by rfl)
    (hsw : swapsWith (.ListComp elt [{ target := tg, iter := iter, ifs := ifs, is_async := 0 }] scope pos) (some (.Name y py)) spos.line X.env = pure true := by exact sw_true rfl rfl rfl (by decide +kernel))
    (hs : ∀ x, foldedSetIterable iter X.env x = pure x := by intro _; rfl) :
    PS X (.Assign [.Name y py] (.ListComp elt [{ target := tg, iter := iter, ifs := ifs, is_async := 0 }] scope pos) spos) (TF X.K (EPw X.K X.mg W) (sSet i (eLcX it go tt el (own.map (·.2))))) := by
  refine PS.by (ps_setLcX (i := i) tk hst hlf rm.cm hN hy hyl hsw hi ok hg ht he hs) fun σ H Dn ⟨S, env, e, o, re, p⟩ => ?_
  subst e
  refine lc_runX raw ⟨S, env, rfl, o, re, (Post.split p).imp fun d S1 x1 o1 q v rv => o1.ret (a := (Fl.nx, env.set i (some d))) q _ ((re.ext x1).set i rv)⟩
/-- a call that may let something out, in the element -/
theorem d_callP {x : Str} {p : Pos} {k n : Nat} {f : Addr} {fd : FuncData} {ps : List Str} {m : List D → M D} {e : Expr} {es : List Expr} {fs : Lc → M (List D)} (pf : PassF X W) (F : FnG X.prog X.w X.K X.mg X.base (L2.CX X.prog X.w) k f fd ps (spD X.K X.mg n m)) (hr : Room k X.A) (rm : Rm X) (hg : Gl X x)
    (hm : X.mg x = some (.ref f)) (hk : PySem.W.keepIn X.K (.ref f) = true) (hb : Binds X.K fd ps []) (ha : PA X (e :: es) (TDs X.K (EPw X.K X.mg W) fs)) (hdb : (x == ("__debug__" : Str)) = false := by decide)
    (he : starEach (e :: es) X.env = (false, eval e X.env) :: starEach es X.env := by rfl) (hpl : (backTo pos (starEach es X.env)).any (·.1) = false := by rfl) : PE X (.Call (.Name x p) (e :: es) [] pos) (TD X.K (EPw X.K X.mg W) (eCall n m fs)) := by
  refine ⟨fun pins s σ H Q I ⟨S, env, e0, ok, re, pp⟩ => ?_⟩
  subst e0
  refine wpAny_Call_Name_kw (ld_glob I hg hm ?_ hdb)
  have hta : TDs X.K (EPw X.K X.mg W) fs σ S.H fun vs H1 => spD X.K X.mg n m vs H1 Q (WE W σ) := ⟨S, env, rfl, ok, re, (Post.split pp).imp fun ds S1 x1 o1 q vs rvs => ?_⟩
  · refine PySem.W.callWith_K (h₀ := X.base) I.ok.mod.kin hk (thn (ha.run pos pins s σ S.H _ I hta) fun us s1 ⟨vs, H1, I1, r, q⟩ => ⟨I1.kIn, ?_⟩) he hpl
    exact run_g F hr rm hb (pf σ) I1 r q
  · obtain ⟨hl, q⟩ := Post.whened q
    exact ⟨S1, ds, rfl, o1, rvs, of_decide_eq_true hl, post_callX q (re.ext x1)⟩
end
end Mi
set_option Elab.async false
set_option linter.all false
set_option maxRecDepth 100000
set_option maxHeartbeats 4000000
set_option exponentiation.threshold 30000
namespace Mi
open PySem PySem.Spec PyProof.Rows L2
/-! ## steps of the mirror -/
theorem wh_go {c : Lc → M Bool} {b : MS} {n : Nat} {env env2 : Lc} {ah ah1 ah2 : AH} (h : c env ah = .ok true ah1) (h2 : b env ah1 = .ok (.nx, env2) ah2) : wh c b (n + 1) env ah = wh c b n env2 ah2 := by
  simp [wh, M.andThen, h, h2]
theorem wh_end {c : Lc → M Bool} {b : MS} {n : Nat} {env : Lc} {ah ah1 : AH} (h : c env ah = .ok false ah1) : wh c b (n + 1) env ah = .ok (.nx, env) ah1 := by
  simp [wh, M.andThen, h, M.ret]
theorem sPs_nx {g h : MS} {env env1 : Lc} {ah ah1 : AH} (e : g env ah = .ok (.nx, env1) ah1) : sPs g h env ah = h env1 ah1 := by
  simp [sPs, M.andThen, e]
theorem sPs_rt {g h : MS} {env env1 : Lc} {ah ah1 : AH} {d : D} (e : g env ah = .ok (.rt d, env1) ah1) : sPs g h env ah = .ok (.rt d, env1) ah1 := by
  simp [sPs, M.andThen, e, M.ret]
theorem sPs_if {t : Lc → M Bool} {a b h : MS} {env : Lc} {ah ah1 : AH} {c : Bool} (e : t env ah = .ok c ah1) : sPs (sIf t a b) h env ah = sPs (if c = true then a else b) h env ah1 := by
  cases c <;> simp [sPs, sIf, M.andThen, e]
theorem sIf_at {t : Lc → M Bool} {a b : MS} {env : Lc} {ah ah1 : AH} {c : Bool} (e : t env ah = .ok c ah1) : sIf t a b env ah = (if c = true then a else b) env ah1 := by
  cases c <;> simp [sIf, M.andThen, e]
theorem sSet_at {i : Nat} {f : Lc → M D} {env : Lc} {ah ah1 : AH} {d : D} (e : f env ah = .ok d ah1) : sSet i f env ah = .ok (.nx, env.set i (some d)) ah1 := by
  simp [sSet, M.andThen, e, M.ret]
theorem sRt_at {f : Lc → M D} {env : Lc} {ah ah1 : AH} {d : D} (e : f env ah = .ok d ah1) : sRt f env ah = .ok (.rt d, env) ah1 := by
  simp [sRt, M.andThen, e, M.ret]
theorem def0_rt {tot : Nat} {g : MS} {ds : List D} {ah ah1 : AH} {d : D} {env : Lc} (e : g (ds.map some ++ List.replicate (tot - ds.length) none) ah = .ok (.rt d, env) ah1) : def0 tot g ds ah = .ok d ah1 := by
  simp [def0, e]
theorem call_at {n : Nat} {m : List D → M D} {fs : Lc → M (List D)} {env : Lc} {ah ah1 ah2 : AH} {ds : List D} {d : D} (e : fs env ah = .ok ds ah1) (hn : ds.length = n) (e2 : m ds ah1 = .ok d ah2) : eCall n m fs env ah = .ok d ah2 := by
  simp [eCall, M.andThen, e, M.when, hn, e2]
theorem fo_nil {gt : D → Lc → M Lc} {b : MS} {env : Lc} {ah : AH} : fo gt b [] env ah = .ok (.nx, env) ah := rfl
theorem fo_go {gt : D → Lc → M Lc} {b : MS} {d : D} {ds : List D} {env env1 env2 : Lc} {ah ah1 ah2 : AH} (h : gt d env ah = .ok env1 ah1) (h2 : b env1 ah1 = .ok (.nx, env2) ah2) : fo gt b (d :: ds) env ah = fo gt b ds env2 ah2 := by
  simp [fo, M.andThen, h, h2]
theorem fo_rt {gt : D → Lc → M Lc} {b : MS} {d r : D} {ds : List D} {env env1 env2 : Lc} {ah ah1 ah2 : AH} (h : gt d env ah = .ok env1 ah1) (h2 : b env1 ah1 = .ok (.rt r, env2) ah2) : fo gt b (d :: ds) env ah = .ok (.rt r, env2) ah2 := by
  simp [fo, M.andThen, h, h2, M.ret]
theorem sFo_at {it : Lc → M (List D)} {gt : D → Lc → M Lc} {b : MS} {env : Lc} {ah ah1 : AH} {ds : List D} (e : it env ah = .ok ds ah1) : sFo it gt b env ah = fo gt b ds env ah1 := by
  simp [sFo, M.andThen, e]
/-! ## the source of drawn numbers -/
structure Q where
  cells : List Int
  left : Int
  mixed : Int
  turn : Int
def srcD (l m t : Int) : List (Key × D) := [(.inr (Str.ofString "cells"), .ref 1), (.inr (Str.ofString "left"), .int l), (.inr (Str.ofString "mixed"), .int m), (.inr (Str.ofString "turn"), .int t)]
def SRC (q : Q) (rest : AH) : AH := some (.dct (srcD q.left q.mixed q.turn)) :: some (.lst (q.cells.map D.int)) :: rest
theorem dget_cells {q : Q} {rest : AH} : gDGet (.ref 0) (.str (Str.ofString "cells")) (SRC q rest) = .ok (.ref 1) (SRC q rest) := rfl
theorem dget_left {q : Q} {rest : AH} : gDGet (.ref 0) (.str (Str.ofString "left")) (SRC q rest) = .ok (.int q.left) (SRC q rest) := rfl
theorem dget_turn {q : Q} {rest : AH} : gDGet (.ref 0) (.str (Str.ofString "turn")) (SRC q rest) = .ok (.int q.turn) (SRC q rest) := rfl
theorem dget_mixed {q : Q} {rest : AH} : gDGet (.ref 0) (.str (Str.ofString "mixed")) (SRC q rest) = .ok (.int q.mixed) (SRC q rest) := rfl
theorem len_cells {q : Q} {rest : AH} : gLen [.ref 1] (SRC q rest) = .ok (.int q.cells.length) (SRC q rest) := by
  simp [gLen, M.andThen, getO, SRC, M.ret]
theorem pop_cells {q : Q} {rest : AH} (h : q.cells ≠ []) : gPop (.ref 1) (SRC q rest) = .ok (.int (q.cells.getLast h)) (SRC { q with cells := q.cells.dropLast } rest) := by
  have hl : (q.cells.map D.int)[q.cells.length - 1]? = some (.int (q.cells.getLast h)) := by
    rw [List.getElem?_map, ← List.getLast?_eq_getElem?, List.getLast?_eq_some_getLast h]
    rfl
  simp only [gPop, M.andThen, getO, SRC, List.getElem?_cons_zero, List.getElem?_cons_succ, M.ret, M.lift, getL, putO, List.length_map, hl, List.set_cons_succ, List.set_cons_zero, List.map_dropLast]
theorem sl : sizeLine = 16777216 := sizeLine_eq
theorem dput_left {q : Q} {rest : AH} {env : Lc} {fo fv : Lc → M D} {x : Int} {q' : Q} {ah : AH} (hv : fv env ah = .ok (.int x) (SRC q' rest)) (ho : fo env (SRC q' rest) = .ok (.ref 0) (SRC q' rest)) :
    Mi.sDPut fo (eC (.str (Str.ofString "left"))) fv env ah = .ok (.nx, env) (SRC { q' with left := x } rest) := by
  have e : (decide ((srcD q'.left q'.mixed q'.turn).length < sizeLine)) = true := by rw [sl]; rfl
  unfold Mi.sDPut
  simp only [M.andThen, hv, ho, eC, M.ret]
  unfold SRC
  simp only [getO, List.getElem?_cons_zero, getK, M.lift, toKey, M.when, putO, List.set_cons_zero, e, M.andThen]
  rfl
theorem dput_turn {q : Q} {rest : AH} {env : Lc} {fo fv : Lc → M D} {x : Int} {q' : Q} {ah : AH} (hv : fv env ah = .ok (.int x) (SRC q' rest)) (ho : fo env (SRC q' rest) = .ok (.ref 0) (SRC q' rest)) :
    Mi.sDPut fo (eC (.str (Str.ofString "turn"))) fv env ah = .ok (.nx, env) (SRC { q' with turn := x } rest) := by
  have e : (decide ((srcD q'.left q'.mixed q'.turn).length < sizeLine)) = true := by rw [sl]; rfl
  unfold Mi.sDPut
  simp only [M.andThen, hv, ho, eC, M.ret]
  unfold SRC
  simp only [getO, List.getElem?_cons_zero, getK, M.lift, toKey, M.when, putO, List.set_cons_zero, e, M.andThen]
  rfl
def pickB : MS := (Mi.sDPut (eV 0) (eC (.str (Str.ofString "left"))) (e1 gPop (eV 2)))
def pickT : Lc → M Bool := (tA (tV (e2 gLt (e2 gDGet (eV 0) (eC (.str (Str.ofString "left")))) (eC (.int 2)))) (tV (e2 gGt (eL gLen (esC (eV 2) esN)) (eC (.int 0)))))
def pickE (most : Int) : Lc := [some (.ref 0), some (.int most), some (.ref 1), none, none, none]
theorem pickT_at (most : Int) (q : Q) (rest : AH) : pickT (pickE most) (SRC q rest) = .ok (decide (q.left < 2) && decide (0 < (q.cells.length : Int))) (SRC q rest) := by
  simp only [pickT, pickE, tA, tV, e2, eL, esC, esN, eV, eC, M.andThen, M.ret, M.lift, List.getElem?_cons_zero, List.getElem?_cons_succ, Option.join_some, dget_left, gLt, gGt, gCmp, gI, M.when, if_true]
  cases decide (q.left < 2) with
  | false => rfl
  | true =>
    simp only [if_true, M.andThen, M.lift, M.ret, len_cells, M.when, Bool.true_and]
theorem pickB_at (most : Int) (q : Q) (rest : AH) (h : q.cells ≠ []) : pickB (pickE most) (SRC q rest) = .ok (.nx, pickE most) (SRC { q with cells := q.cells.dropLast, left := q.cells.getLast h } rest) := by
  refine dput_left (q := q) (q' := { q with cells := q.cells.dropLast }) ?_ rfl
  simp only [e1, eV, pickE, M.andThen, M.lift, List.getElem?_cons_zero, List.getElem?_cons_succ, Option.join_some]
  exact pop_cells h
theorem pick_while (most : Int) (rest : AH) : ∀ (n : Nat) (q : Q), q.cells.length < n → ∃ q', q'.cells.length ≤ q.cells.length ∧ wh pickT pickB n (pickE most) (SRC q rest) = .ok (.nx, pickE most) (SRC q' rest)
  | 0, _, h => nomatch h
  | n + 1, q, h => by
    by_cases hl : (decide (q.left < 2) && decide (0 < (q.cells.length : Int))) = true
    · have h2 := (Bool.and_eq_true_iff.mp hl).2
      have hc : q.cells ≠ [] := fun e => by
        rw [e] at h2
        exact absurd (of_decide_eq_true h2) (by decide)
      obtain ⟨q', il, ih⟩ := pick_while most rest n { q with cells := q.cells.dropLast, left := q.cells.getLast hc } (by
        have : 0 < q.cells.length := List.length_pos_iff.mpr hc
        show q.cells.dropLast.length < n
        rw [List.length_dropLast]
        omega)
      refine ⟨q', by
        have e : q.cells.dropLast.length ≤ q.cells.length := by rw [List.length_dropLast]; omega
        exact Nat.le_trans il e, ?_⟩
      rw [wh_go (by rw [pickT_at, hl]) (pickB_at most q rest hc)]
      exact ih
    · refine ⟨q, Nat.le_refl _, ?_⟩
      rw [wh_end (by rw [pickT_at, Bool.eq_false_iff.mpr hl])]
/-- what pick does is what it is in every law -/
def pickM : MS :=
  (sPs (sIf (tV (e2 gLt (eV 1) (eC (.int 2)))) (sRt (eC (.int 0))) sNx)
    (sPs (sSet 2 (e2 gDGet (eV 0) (eC (.str (Str.ofString "cells")))))
    (sPs (wh pickT pickB FU)
    (sPs (sSet 3 (e2 gDGet (eV 0) (eC (.str (Str.ofString "left")))))
    (sPs (sIf (tV (e2 gGt (eV 3) (eC (.int 1)))) (sPs (Mi.sDPut (eV 0) (eC (.str (Str.ofString "left"))) (e2 gFdiv (eV 3) (eV 1)))
    (sRt (e2 gMod (eL gInt (esC (eV 3) esN)) (eV 1)))) sNx)
    (sPs (Mi.sDPut (eV 0) (eC (.str (Str.ofString "turn"))) (e2 gAdd (e2 gDGet (eV 0) (eC (.str (Str.ofString "turn")))) (eC (.int 1))))
    (sPs (sSet 4 (e2 gDGet (eV 0) (eC (.str (Str.ofString "turn")))))
    (sPs (sSet 5 (e2 gMod (eL gInt (esC (e2 gAdd (e2 gDGet (eV 0) (eC (.str (Str.ofString "mixed")))) (e2 gMul (eV 4) (eC (.int 104729)))) esN)) (eC (.int 998244353))))
    (sPs (sSet 5 (e2 gMod (eL gInt (esC (e2 gAdd (e2 gMul (eV 5) (eV 5)) (e2 gMul (eV 4) (eC (.int 17)))) esN)) (eC (.int 2147483647))))
    (sRt (e2 gMod (eL gInt (esC (e2 gFdiv (eV 5) (eC (.int 16))) esN)) (eV 1))))))))))))
def Q.ok (q : Q) : Prop := q.cells.length ≤ 63
theorem FU_big {k : Nat} (h : k ≤ 20000) : 2 ^ k ≤ FU := Nat.pow_le_pow_right (by decide) h
theorem pick_while2 (most : Int) (rest : AH) (q : Q) (h : q.ok) : ∃ q', q'.ok ∧ wh pickT pickB FU (pickE most) (SRC q rest) = .ok (.nx, pickE most) (SRC q' rest) := by
  have hF : q.cells.length < FU := Nat.lt_of_lt_of_le (Nat.lt_of_le_of_lt h (by decide : 63 < 2 ^ 6)) (FU_big (by decide))
  obtain ⟨q', hl, e⟩ := pick_while most rest FU q hF
  exact ⟨q', Nat.le_trans hl h, e⟩
theorem fmod_range (a : Int) {m : Int} (h : 0 < m) : 0 ≤ a.fmod m ∧ a.fmod m < m := ⟨Int.fmod_nonneg_of_pos a h, Int.fmod_lt_of_pos a h⟩
theorem pick_ok {most : Int} (h0 : 0 < most) (h1 : most < 2 ^ 64) (q : Q) (hq : q.ok) (rest : AH) : ∃ k q', q'.ok ∧ 0 ≤ k ∧ k < most ∧ def0 6 pickM [.ref 0, .int most] (SRC q rest) = .ok (.int k) (SRC q' rest) := by
  by_cases hm : most < 2
  · refine ⟨0, q, hq, by omega, h0, def0_rt (env := pickE most |>.set 2 none) ?_⟩
    unfold pickM
    rw [sPs_if (c := true) (ah1 := SRC q rest) (by simp [tV, e2, M.andThen, eV, eC, M.lift, M.ret, gLt, gCmp, gI, M.when, hm])]
    exact sPs_rt rfl
  · obtain ⟨q1, hq1, hw⟩ := pick_while2 most rest q hq
    have ne : most ≠ 0 := by omega
    have hlog : most.natAbs.log2 < 9000 := by
      have : most.natAbs < 2 ^ 64 := by omega
      have h2 : most.natAbs ≠ 0 := by omega
      have := (Nat.log2_lt h2).mpr this
      omega
    have head : ∀ r, (sPs (sSet 3 (e2 gDGet (eV 0) (eC (.str (Str.ofString "left")))))
    (sPs (sIf (tV (e2 gGt (eV 3) (eC (.int 1)))) (sPs (Mi.sDPut (eV 0) (eC (.str (Str.ofString "left"))) (e2 gFdiv (eV 3) (eV 1)))
    (sRt (e2 gMod (eL gInt (esC (eV 3) esN)) (eV 1)))) sNx)
    (sPs (Mi.sDPut (eV 0) (eC (.str (Str.ofString "turn"))) (e2 gAdd (e2 gDGet (eV 0) (eC (.str (Str.ofString "turn")))) (eC (.int 1))))
    (sPs (sSet 4 (e2 gDGet (eV 0) (eC (.str (Str.ofString "turn")))))
    (sPs (sSet 5 (e2 gMod (eL gInt (esC (e2 gAdd (e2 gDGet (eV 0) (eC (.str (Str.ofString "mixed")))) (e2 gMul (eV 4) (eC (.int 104729)))) esN)) (eC (.int 998244353))))
    (sPs (sSet 5 (e2 gMod (eL gInt (esC (e2 gAdd (e2 gMul (eV 5) (eV 5)) (e2 gMul (eV 4) (eC (.int 17)))) esN)) (eC (.int 2147483647))))
    (sRt (e2 gMod (eL gInt (esC (e2 gFdiv (eV 5) (eC (.int 16))) esN)) (eV 1))))))))) (pickE most) (SRC q1 rest) = r → pickM [some (.ref 0), some (.int most), none, none, none, none] (SRC q rest) = r := by
      intro r hr
      unfold pickM
      rw [sPs_if (c := false) (ah1 := SRC q rest) (by simp [tV, e2, M.andThen, eV, eC, M.lift, M.ret, gLt, gCmp, gI, M.when, hm])]
      rw [sPs_nx (env1 := [some (.ref 0), some (.int most), none, none, none, none]) (ah1 := SRC q rest) rfl]
      rw [sPs_nx (env1 := pickE most) (ah1 := SRC q rest) rfl, sPs_nx hw]
      exact hr
    by_cases hl : 1 < q1.left
    · have hr := fmod_range q1.left h0
      refine ⟨q1.left.fmod most, { q1 with left := q1.left.fdiv most }, hq1, hr.1, hr.2, def0_rt (env := (pickE most).set 3 (some (.int q1.left))) (head _ ?_)⟩
      rw [sPs_nx (env1 := (pickE most).set 3 (some (.int q1.left))) (ah1 := SRC q1 rest) rfl]
      rw [sPs_if (c := true) (ah1 := SRC q1 rest) (by simp [pickE, tV, e2, M.andThen, eV, eC, M.lift, M.ret, gGt, gCmp, gI, M.when, hl])]
      refine sPs_rt ?_
      rw [if_pos rfl, sPs_nx (dput_left (rest := rest) (ah := SRC q1 rest) (q := q1) (q' := q1) (x := q1.left.fdiv most) (by simp [pickE, e2, M.andThen, eV, M.lift, M.ret, gFdiv, gI, M.when, okDiv, ne, hlog]) rfl)]
      simp [pickE, sRt, e2, eL, esC, esN, M.andThen, eV, M.lift, M.ret, gMod, gInt, gI, M.when, ne]
    · have hr := fmod_range ((((q1.mixed + (q1.turn + 1) * 104729).fmod 998244353 * (q1.mixed + (q1.turn + 1) * 104729).fmod 998244353 + (q1.turn + 1) * 17).fmod 2147483647).fdiv 16) h0
      have hb := fmod_range (q1.mixed + (q1.turn + 1) * 104729) (by decide : (0 : Int) < 998244353)
      refine ⟨_, { q1 with turn := q1.turn + 1 }, hq1, hr.1, hr.2, def0_rt (env := (((pickE most).set 3 (some (.int q1.left))).set 4 (some (.int (q1.turn + 1)))).set 5 (some (.int (((q1.mixed + (q1.turn + 1) * 104729).fmod 998244353 * (q1.mixed + (q1.turn + 1) * 104729).fmod 998244353 + (q1.turn + 1) * 17).fmod 2147483647)))) (head _ ?_)⟩
      rw [sPs_nx (env1 := (pickE most).set 3 (some (.int q1.left))) (ah1 := SRC q1 rest) rfl]
      rw [sPs_if (c := false) (ah1 := SRC q1 rest) (by simp [pickE, tV, e2, M.andThen, eV, eC, M.lift, M.ret, gGt, gCmp, gI, M.when, hl])]
      rw [sPs_nx (env1 := (pickE most).set 3 (some (.int q1.left))) (ah1 := SRC q1 rest) rfl]
      rw [sPs_nx (dput_turn (rest := rest) (ah := SRC q1 rest) (q := q1) (q' := q1) (x := q1.turn + 1) (by simp [pickE, e2, eC, M.andThen, eV, M.lift, M.ret, gAdd, dget_turn]) rfl)]
      rw [sPs_nx (env1 := ((pickE most).set 3 (some (.int q1.left))).set 4 (some (.int (q1.turn + 1)))) (ah1 := SRC { q1 with turn := q1.turn + 1 } rest) rfl]
      have c1 : okMul (q1.turn + 1) 104729 = true := by simp [okMul]
      have c2 : okMul (q1.turn + 1) 17 = true := by simp [okMul]
      have c3 : okMul ((q1.mixed + (q1.turn + 1) * 104729).fmod 998244353) ((q1.mixed + (q1.turn + 1) * 104729).fmod 998244353) = true := by
        have a : -(2 ^ 64) < (q1.mixed + (q1.turn + 1) * 104729).fmod 998244353 := by omega
        have b : (q1.mixed + (q1.turn + 1) * 104729).fmod 998244353 < 2 ^ 64 := by omega
        unfold okMul
        rw [decide_eq_true a, decide_eq_true b]
        rfl
      have c4 : okDiv ((((q1.mixed + (q1.turn + 1) * 104729).fmod 998244353 * (q1.mixed + (q1.turn + 1) * 104729).fmod 998244353 + (q1.turn + 1) * 17).fmod 2147483647)) 16 = true := by
        unfold okDiv
        rfl
      have c5 : decide (most ≠ 0) = true := decide_eq_true ne
      simp only [pickE, sPs, sSet, sRt, e2, eL, esC, esN, eC, M.andThen, eV, M.lift, M.ret, gMod, gInt, gI, gAdd, gMul, gFdiv, M.when, dget_mixed, List.set_cons_zero, List.set_cons_succ, List.getElem?_cons_zero, List.getElem?_cons_succ, Option.join_some, c1, c2, c3, c4, c5, if_true,
        (by decide : decide ((998244353 : Int) ≠ 0) = true), (by decide : decide ((2147483647 : Int) ≠ 0) = true)]
end Mi
set_option Elab.async false
set_option linter.all false
set_option maxRecDepth 100000
set_option maxHeartbeats 4000000
set_option exponentiation.threshold 30000
namespace Mi
open PySem PySem.Spec PyProof.Rows L2
/-! ## the cells are opened -/
def openM : MS :=
  (sPs (sSet 1 (eC (.int 11)))
    (sPs (sFo (iOf itD (eV 0)) (gN 2) (sSet 1 (e2 gMod (eL gInt (esC (e2 gAdd (e2 gAdd (e2 gMul (eV 1) (eC (.int 69069))) (e2 gMul (eV 2) (eC (.int 31)))) (eC (.int 5))) esN)) (eC (.int 2147483629)))))
    (sPs (sSet 3 (eLc (iOf itD (eV 0)) (oN 2) tYs (eL gAbs (esC (eV 2) esN)) [2]))
    (sRt (eDisp (pC (eC (.str (Str.ofString "cells"))) (e1 gRevN (eV 3)) (pC (eC (.str (Str.ofString "left"))) (eC (.int 1)) (pC (eC (.str (Str.ofString "mixed"))) (eV 1) (pC (eC (.str (Str.ofString "turn"))) (eC (.int 0)) pN)))))))))
theorem okMul_r {i j : Int} (h1 : -(2 ^ 64) < j) (h2 : j < 2 ^ 64) : okMul i j = true := by
  unfold okMul
  rw [decide_eq_true h1, decide_eq_true h2]
  simp
theorem okMul_l {i j : Int} (h1 : -(2 ^ 64) < i) (h2 : i < 2 ^ 64) : okMul i j = true := by
  unfold okMul
  rw [decide_eq_true h1, decide_eq_true h2]
  simp
theorem open_loop (z : D) (x3 : Option D) (ah : AH) : ∀ (ns : List Int) (m : Int) (x2 : Option D), ∃ m' x2', fo (gN 2) (sSet 1 (e2 gMod (eL gInt (esC (e2 gAdd (e2 gAdd (e2 gMul (eV 1) (eC (.int 69069))) (e2 gMul (eV 2) (eC (.int 31)))) (eC (.int 5))) esN)) (eC (.int 2147483629)))) (ns.map D.int) [some z, some (.int m), x2, x3] ah =
    .ok (.nx, [some z, some (.int m'), x2', x3]) ah
  | [], m, x2 => ⟨m, x2, rfl⟩
  | n :: ns, m, x2 => by
    obtain ⟨m', x2', ih⟩ := open_loop z x3 ah ns ((m * 69069 + n * 31 + 5).fmod 2147483629) (some (.int n))
    refine ⟨m', x2', ?_⟩
    rw [← ih, List.map_cons]
    refine fo_go (env1 := [some z, some (.int m), some (.int n), x3]) (ah1 := ah) rfl ?_
    have c1 : okMul m 69069 = true := okMul_r (by decide) (by decide)
    have c2 : okMul n 31 = true := okMul_r (by decide) (by decide)
    simp only [sSet, e2, eL, esC, esN, eC, M.andThen, eV, M.lift, M.ret, gMod, gInt, gI, gAdd, gMul, M.when, List.set_cons_zero, List.set_cons_succ, List.getElem?_cons_zero, List.getElem?_cons_succ, Option.join_some, c1, c2, if_true, (by decide : decide ((2147483629 : Int) ≠ 0) = true)]
def absI (n : Int) : Int := if n < 0 then -n else n
theorem open_comp (e0 e1' e3 : Option D) (ah : AH) : ∀ (ns : List Int) (x2 : Option D), lc (oN 2) tYs (eL gAbs (esC (eV 2) esN)) [2] [e0, e1', x2, e3] (ns.map D.int) ah = .ok ((ns.map absI).map D.int) ah
  | [], x2 => rfl
  | n :: ns, x2 => by
    have ih := open_comp e0 e1' e3 ah ns x2
    simp only [List.map_cons, lc, M.andThen, M.lift, oN, wipeE, List.set_cons_zero, List.set_cons_succ, tYs, M.ret, if_true, eL, esC, esN, eV, List.getElem?_cons_zero, List.getElem?_cons_succ, Option.join_some, gAbs, ih]
    rfl
theorem open_ok (ns : List Int) (h : ns.length ≤ 63) : ∃ q, q.ok ∧ def0 4 openM [.fro (ns.map D.int)] [] = .ok (.ref 0) (SRC q []) := by
  obtain ⟨m, x2, e1⟩ := open_loop (.fro (ns.map D.int)) none [] ns 11 none
  refine ⟨⟨(ns.map absI).reverse, 1, m, 0⟩, by show (ns.map absI).reverse.length ≤ 63; rw [List.length_reverse, List.length_map]; exact h, def0_rt (env := [some (.fro (ns.map D.int)), some (.int m), x2, some (.lst ((ns.map absI).map D.int))]) ?_⟩
  have e2 := open_comp (some (.fro (ns.map D.int))) (some (.int m)) none [] ns x2
  show openM [some (.fro (ns.map D.int)), none, none, none] [] = _
  unfold openM
  rw [sPs_nx (env1 := [some (.fro (ns.map D.int)), some (.int 11), none, none]) (ah1 := []) rfl]
  rw [sPs_nx (env1 := [some (.fro (ns.map D.int)), some (.int m), x2, none]) (ah1 := []) ((sFo_at (ds := ns.map D.int) (ah1 := []) rfl).trans e1)]
  have hl : decide ((ns.map D.int).length ≤ sizeLine) = true := decide_eq_true (by rw [sl, List.length_map]; omega)
  rw [sPs_nx (env1 := [some (.fro (ns.map D.int)), some (.int m), x2, some (.lst ((ns.map absI).map D.int))]) (ah1 := []) (by
    refine sSet_at ?_
    simp only [eLc, iOf, M.andThen, eV, M.lift, List.getElem?_cons_zero, Option.join_some, itD, M.ret, M.when, hl, if_true, hush, e2])]
  refine sRt_at ?_
  simp only [eDisp, M.andThen, newO, List.length_nil, List.nil_append, pC, pN, eC, M.ret, e1, eV, M.lift, List.getElem?_cons_zero, List.getElem?_cons_succ, Option.join_some, gRevN, Mi.e1, getO, List.singleton_append, List.cons_append, List.length_cons, getK, keysOf, toKey, Option.bind_some, Option.map_some, List.isEmpty_nil, M.when, putO, List.set_cons_zero, Bool.true_and, if_true, (by decide : decide (0 + 1 + 1 + 1 + 1 ≤ 15) = true)]
  rw [← List.map_reverse]
  rfl
/-! ## Euclid -/
def comW : MS := (sPar2 0 1 (esC (eV 1) (esC (e2 gMod (eV 0) (eV 1)) esN)))
def comT : Lc → M Bool := (tV (e2 gNe (eV 1) (eC (.int 0))))
def comM : MS :=
  (sPs (sPar2 0 1 (esC (eL gAbs (esC (eV 0) esN)) (esC (eL gAbs (esC (eV 1) esN)) esN)))
    (sPs (wh comT comW FU)
    (sRt (eV 0))))
theorem com_while (ah : AH) : ∀ (n a b : Nat), b < n → wh comT comW n [some (.int a), some (.int b)] ah = .ok (.nx, [some (.int (Nat.gcd a b)), some (.int 0)]) ah
  | 0, _, _, h => nomatch h
  | n + 1, a, b, h => by
    have t : comT [some (.int a), some (.int b)] ah = .ok (!decide ((b : Int) = 0)) ah := rfl
    by_cases hb : b = 0
    · subst hb
      rw [wh_end (ah1 := ah) t, Nat.gcd_zero_right]
      rfl
    · have hb' : (b : Int) ≠ 0 := by omega
      rw [wh_go (env2 := [some (.int b), some (.int (a % b : Nat))]) (ah1 := ah) (ah2 := ah) (by rw [t, decide_eq_false hb']; rfl) ?_, com_while ah n b (a % b) (by have := Nat.mod_lt a (Nat.pos_of_ne_zero hb); omega)]
      · rw [Nat.gcd_comm b (a % b), ← Nat.gcd_rec, Nat.gcd_comm]
      · simp only [comW, sPar2, esC, esN, eV, e2, M.andThen, M.lift, M.ret, List.getElem?_cons_zero, List.getElem?_cons_succ, Option.join_some, gMod, gI, M.when, decide_eq_true hb', if_true, List.set_cons_zero, List.set_cons_succ]
        rw [Int.fmod_eq_emod_of_nonneg _ (by omega)]
        rfl
theorem absI_eq (n : Int) : absI n = (n.natAbs : Int) := by
  unfold absI
  split <;> omega
theorem com_ok (a b : Int) (ah : AH) (h : b.natAbs < 2 ^ 20000) : def0 2 comM [.int a, .int b] ah = .ok (.int (Nat.gcd a.natAbs b.natAbs : Nat)) ah := by
  refine def0_rt (env := [some (.int (Nat.gcd a.natAbs b.natAbs : Nat)), some (.int 0)]) ?_
  show comM [some (.int a), some (.int b)] ah = _
  unfold comM
  rw [sPs_nx (env1 := [some (.int (a.natAbs : Nat)), some (.int (b.natAbs : Nat))]) (ah1 := ah) (by
    rw [← absI_eq, ← absI_eq]; rfl)]
  rw [sPs_nx (com_while ah FU a.natAbs b.natAbs h)]
  rfl
end Mi
set_option Elab.async false
set_option linter.all false
set_option maxRecDepth 100000
set_option maxHeartbeats 4000000
set_option exponentiation.threshold 30000
namespace Mi
open PySem PySem.Spec PyProof.Rows L2
/-! ## fractions -/
def nf (n d : Int) : Int × Int :=
  if d < 0 then (n.fdiv (-(Nat.gcd n.natAbs d.natAbs : Nat)), d.fdiv (-(Nat.gcd n.natAbs d.natAbs : Nat))) else (n.fdiv (Nat.gcd n.natAbs d.natAbs : Nat), d.fdiv (Nat.gcd n.natAbs d.natAbs : Nat))
/-- the one form -/
structure Nf (x : Int × Int) : Prop where
  pos : 0 < x.2
  one : Nat.gcd x.1.natAbs x.2.natAbs = 1
theorem nf_spec (n d : Int) (hd : d ≠ 0) : Nf (nf n d) ∧ ∃ k : Int, k ≠ 0 ∧ n = k * (nf n d).1 ∧ d = k * (nf n d).2 := by
  have hg : 0 < Nat.gcd n.natAbs d.natAbs := Nat.gcd_pos_of_pos_right _ (by omega)
  obtain ⟨u, hu⟩ : ((Nat.gcd n.natAbs d.natAbs : Nat) : Int) ∣ n := Int.ofNat_dvd_left.mpr (Nat.gcd_dvd_left _ _)
  obtain ⟨v, hv⟩ : ((Nat.gcd n.natAbs d.natAbs : Nat) : Int) ∣ d := Int.ofNat_dvd_left.mpr (Nat.gcd_dvd_right _ _)
  unfold nf
  generalize hG : Nat.gcd n.natAbs d.natAbs = g at hu hv hg ⊢
  have hco : Nat.gcd u.natAbs v.natAbs = 1 := by
    have h1 : g * Nat.gcd u.natAbs v.natAbs = g * 1 := by
      rw [← Nat.gcd_mul_left, Nat.mul_one]
      have e1 : g * u.natAbs = n.natAbs := by rw [hu, Int.natAbs_mul]; rfl
      have e2 : g * v.natAbs = d.natAbs := by rw [hv, Int.natAbs_mul]; rfl
      rw [e1, e2, hG]
    exact Nat.eq_of_mul_eq_mul_left hg h1
  have g0 : (g : Int) ≠ 0 := by omega
  by_cases hneg : d < 0
  · rw [if_pos hneg]
    have e1 : n.fdiv (-(g : Int)) = -u := by
      rw [show n = -(g : Int) * (-u) by rw [Int.neg_mul_neg]; exact hu]
      exact Int.mul_fdiv_cancel_left _ (by omega)
    have e2 : d.fdiv (-(g : Int)) = -v := by
      rw [show d = -(g : Int) * (-v) by rw [Int.neg_mul_neg]; exact hv]
      exact Int.mul_fdiv_cancel_left _ (by omega)
    rw [e1, e2]
    have hvneg : v < 0 := by
      by_cases z : v < 0
      · exact z
      · have : 0 ≤ (g : Int) * v := Int.mul_nonneg (by omega) (by omega)
        omega
    exact ⟨⟨by show 0 < -v; omega, by show Nat.gcd (-u).natAbs (-v).natAbs = 1; rw [Int.natAbs_neg, Int.natAbs_neg]; exact hco⟩, -(g : Int), by omega, by show n = -(g : Int) * (-u); rw [Int.neg_mul_neg]; exact hu, by show d = -(g : Int) * (-v); rw [Int.neg_mul_neg]; exact hv⟩
  · rw [if_neg hneg]
    have e1 : n.fdiv (g : Int) = u := by
      rw [show n = (g : Int) * u from hu]
      exact Int.mul_fdiv_cancel_left _ g0
    have e2 : d.fdiv (g : Int) = v := by
      rw [show d = (g : Int) * v from hv]
      exact Int.mul_fdiv_cancel_left _ g0
    rw [e1, e2]
    have hvpos : 0 < v := by
      by_cases z : 0 < v
      · exact z
      · have : (g : Int) * v ≤ 0 := Int.mul_nonpos_of_nonneg_of_nonpos (by omega) (by omega)
        omega
    exact ⟨⟨hvpos, hco⟩, (g : Int), g0, hu, hv⟩
theorem nf_cross (n d : Int) (hd : d ≠ 0) : (nf n d).1 * d = n * (nf n d).2 := by
  obtain ⟨_, k, _, h1, h2⟩ := nf_spec n d hd
  generalize nf n d = x at h1 h2
  subst h1 h2
  grind
theorem dvd_of_co {a b c : Int} (h : a ∣ b * c) (g : Nat.gcd a.natAbs b.natAbs = 1) : a ∣ c := by
  have h1 : a.natAbs ∣ b.natAbs * c.natAbs := by rw [← Int.natAbs_mul]; exact Int.natAbs_dvd_natAbs.mpr h
  exact Int.natAbs_dvd_natAbs.mp (Nat.Coprime.dvd_of_dvd_mul_left g h1)
theorem Nf.uniq {x y : Int × Int} (hx : Nf x) (hy : Nf y) (h : x.1 * y.2 = y.1 * x.2) : x = y := by
  have a : (x.2 : Int) ∣ y.2 := by
    have h1 : (x.2 : Int) ∣ x.1 * y.2 := ⟨y.1, by rw [h, Int.mul_comm]⟩
    exact dvd_of_co h1 (by rw [Nat.gcd_comm]; exact hx.one)
  have b : (y.2 : Int) ∣ x.2 := by
    have h1 : (y.2 : Int) ∣ y.1 * x.2 := ⟨x.1, by rw [← h, Int.mul_comm]⟩
    exact dvd_of_co h1 (by rw [Nat.gcd_comm]; exact hy.one)
  have e2 : x.2 = y.2 := Int.le_antisymm (Int.le_of_dvd hy.pos a) (Int.le_of_dvd hx.pos b)
  have e1 : x.1 = y.1 := by
    rw [e2] at h
    exact Int.eq_of_mul_eq_mul_right (by have := hy.pos; omega) h
  exact Prod.ext e1 e2
theorem nf_eq {n d n' d' : Int} (hd : d ≠ 0) (hd' : d' ≠ 0) (h : n * d' = n' * d) : nf n d = nf n' d' := by
  obtain ⟨a, k, k0, h1, h2⟩ := nf_spec n d hd
  obtain ⟨b, j, j0, h3, h4⟩ := nf_spec n' d' hd'
  refine a.uniq b ?_
  generalize nf n d = x at *
  generalize nf n' d' = y at *
  subst h1 h2 h3 h4
  have e : (k * j) * (x.1 * y.2) = (k * j) * (y.1 * x.2) := by grind
  exact Int.eq_of_mul_eq_mul_left (by intro z; rcases Int.mul_eq_zero.mp z with z | z; exact k0 z; exact j0 z) e
theorem Nf.nf {x : Int × Int} (h : Nf x) : nf x.1 x.2 = x := by
  have h0 : x.2 ≠ 0 := by have := h.pos; omega
  exact (nf_spec x.1 x.2 h0).1.uniq h (nf_cross x.1 x.2 h0)
theorem nf_mul {N D u v : Int} (hD : D ≠ 0) (hv : v ≠ 0) : nf ((nf N D).1 * u) ((nf N D).2 * v) = nf (N * u) (D * v) := by
  have hp := (nf_spec N D hD).1.pos
  have hc := nf_cross N D hD
  refine nf_eq (by intro z; rcases Int.mul_eq_zero.mp z with z | z; omega; exact hv z) (by intro z; rcases Int.mul_eq_zero.mp z with z | z; exact hD z; exact hv z) ?_
  generalize nf N D = x at *
  grind
theorem nf_add {N D M E : Int} (hD : D ≠ 0) (hE : E ≠ 0) : nf ((nf N D).1 * (nf M E).2 + (nf M E).1 * (nf N D).2) ((nf N D).2 * (nf M E).2) = nf (N * E + M * D) (D * E) := by
  have hp := (nf_spec N D hD).1.pos
  have hc := nf_cross N D hD
  have hq := (nf_spec M E hE).1.pos
  have he := nf_cross M E hE
  refine nf_eq (by intro z; rcases Int.mul_eq_zero.mp z with z | z <;> omega) (by intro z; rcases Int.mul_eq_zero.mp z with z | z; exact hD z; exact hE z) ?_
  generalize nf N D = x at *
  generalize nf M E = y at *
  grind
/-! bounds -/
def B (k : Nat) (n : Int) : Prop := n.natAbs < 2 ^ k
theorem B.mono {j k : Nat} {n : Int} (h : B j n) (l : j ≤ k) : B k n := Nat.lt_of_lt_of_le h (Nat.pow_le_pow_right (by decide) l)
theorem B.mul {j k : Nat} {m n : Int} (h : B j m) (l : B k n) : B (j + k) (m * n) := by
  unfold B at *
  rw [Int.natAbs_mul, Nat.pow_add]
  exact Nat.mul_lt_mul'' h l
theorem B.add {k : Nat} {m n : Int} (h : B k m) (l : B k n) : B (k + 1) (m + n) := by
  unfold B at *
  rw [Nat.pow_succ]
  omega
theorem B.sub {k : Nat} {m n : Int} (h : B k m) (l : B k n) : B (k + 1) (m - n) := by
  unfold B at *
  rw [Nat.pow_succ]
  omega
theorem B.neg {k : Nat} {m : Int} (h : B k m) : B k (-m) := by
  unfold B at *
  rw [Int.natAbs_neg]
  exact h
theorem B.of {k : Nat} {n : Int} (h : -(2 ^ k : Nat) < n) (l : n < (2 ^ k : Nat)) : B k n := by
  unfold B
  omega
theorem log_lt {k x : Nat} (h : x < 2 ^ k) (hk : 0 < k) : x.log2 < k := by
  by_cases z : x = 0
  · rw [z]; simpa using hk
  · exact (Nat.log2_lt z).mpr h
theorem okMul_B {j k : Nat} {m n : Int} (h : B j m) (l : B k n) (hj : 0 < j) (hk : 0 < k) (s : j + k ≤ 1000000) : okMul m n = true := by
  have a := log_lt h hj
  have b := log_lt l hk
  unfold okMul
  rw [decide_eq_true (show m.natAbs.log2 + n.natAbs.log2 < 1000000 by omega)]
  simp
theorem okDiv_B {k : Nat} {m n : Int} (h : B k n) (hk : 0 < k) (s : k ≤ 9000) (n0 : n ≠ 0) : okDiv m n = true := by
  have a := log_lt h hk
  unfold okDiv
  rw [decide_eq_true n0, decide_eq_true (show n.natAbs.log2 < 9000 by omega)]
  rfl
theorem natAbs_le_of_mul {k x : Int} (hk : k ≠ 0) : x.natAbs ≤ (k * x).natAbs := by
  rw [Int.natAbs_mul]
  exact Nat.le_mul_of_pos_left _ (by omega)
theorem B.nf1 {k : Nat} {n d : Int} (h : B k n) (hd : d ≠ 0) : B k (nf n d).1 := by
  obtain ⟨_, j, j0, h1, _⟩ := nf_spec n d hd
  have := natAbs_le_of_mul (k := j) (x := (nf n d).1) j0
  rw [← h1] at this
  exact Nat.lt_of_le_of_lt this h
theorem B.nf2 {k : Nat} {n d : Int} (h : B k d) (hd : d ≠ 0) : B k (nf n d).2 := by
  obtain ⟨_, j, j0, _, h2⟩ := nf_spec n d hd
  have := natAbs_le_of_mul (k := j) (x := (nf n d).2) j0
  rw [← h2] at this
  exact Nat.lt_of_le_of_lt this h
/-! fractions as values -/
def fr (x : Int × Int) : D := .tup [.int x.1, .int x.2]
def fracM : MS :=
  (sPs (sSet 2 (eL gGcd (esC (eV 0) (esC (eV 1) esN))))
    (sPs (sIf (tV (e2 gLt (eV 1) (eC (.int 0)))) (sSet 2 (e1 gNeg (eV 2))) sNx)
    (sRt (eL gTupD (esC (e2 gFdiv (eV 0) (eV 2)) (esC (e2 gFdiv (eV 1) (eV 2)) esN))))))
theorem gcd_B {k : Nat} {n d : Int} (h : B k d) (hd : d ≠ 0) : B k (Nat.gcd n.natAbs d.natAbs : Nat) := by
  unfold B
  exact Nat.lt_of_le_of_lt (Nat.le_of_dvd (by omega) (Nat.gcd_dvd_right n.natAbs d.natAbs)) h
theorem frac_ok {n d : Int} (h : B 9000 d) (hd : d ≠ 0) (ah : AH) : def0 3 fracM [.int n, .int d] ah = .ok (fr (nf n d)) ah := by
  have hg : ((Nat.gcd n.natAbs d.natAbs : Nat) : Int) ≠ 0 := by
    have : 0 < Nat.gcd n.natAbs d.natAbs := Nat.gcd_pos_of_pos_right _ (by omega)
    omega
  have b1 := gcd_B (n := n) h hd
  unfold nf fr
  by_cases hneg : d < 0
  · have c1 : okDiv n (-(Nat.gcd n.natAbs d.natAbs : Nat)) = true := okDiv_B b1.neg (by decide) (by decide) (by omega)
    have c2 : okDiv d (-(Nat.gcd n.natAbs d.natAbs : Nat)) = true := okDiv_B b1.neg (by decide) (by decide) (by omega)
    simp only [def0, fracM, sPs, sSet, sIf, sRt, tV, e2, e1, eL, esC, esN, eC, M.andThen, eV, M.lift, M.ret, gGcd, gLt, gCmp, gNeg, gFdiv, gI, gTupD, M.when, List.map_cons, List.map_nil, List.cons_append, List.nil_append, List.length_cons, List.length_nil, List.replicate, List.set_cons_zero, List.set_cons_succ, List.getElem?_cons_zero, List.getElem?_cons_succ, Option.join_some, decide_eq_true hneg, if_true, if_pos hneg, c1, c2, sl]
    rfl
  · have c1 : okDiv n (Nat.gcd n.natAbs d.natAbs : Nat) = true := okDiv_B b1 (by decide) (by decide) hg
    have c2 : okDiv d (Nat.gcd n.natAbs d.natAbs : Nat) = true := okDiv_B b1 (by decide) (by decide) hg
    simp only [def0, fracM, sPs, sSet, sIf, sRt, sNx, tV, e2, e1, eL, esC, esN, eC, M.andThen, eV, M.lift, M.ret, gGcd, gLt, gCmp, gNeg, gFdiv, gI, gTupD, M.when, List.map_cons, List.map_nil, List.cons_append, List.nil_append, List.length_cons, List.length_nil, List.replicate, List.set_cons_zero, List.set_cons_succ, List.getElem?_cons_zero, List.getElem?_cons_succ, Option.join_some, decide_eq_false hneg, if_true, if_neg hneg, c1, c2, sl, Bool.false_eq_true, if_false]
    rfl
def lfracM (m : List D → M D) : MS :=
  (sPs (sSet 2 (eI (tV (e2 gGt (eV 1) (eC (.int 0)))) (eC (.int 1)) (e2 gSub (eC (.int 0)) (eC (.int 1)))))
    (sPs (sSet 3 (e2 gMul (eCall 2 m (esC (eV 0) (esC (eV 1) esN))) (eV 2)))
    (sRt (eL gTupD (esC (e2 gFdiv (eV 0) (eV 3)) (esC (e2 gFdiv (eV 1) (eV 3)) esN))))))
theorem lfrac_ok {m : List D → M D} {n d : Int} (h : B 9000 d) (hd : d ≠ 0) (ah : AH) (hc : m [.int n, .int d] ah = .ok (.int (Nat.gcd n.natAbs d.natAbs : Nat)) ah) : def0 4 (lfracM m) [.int n, .int d] ah = .ok (fr (nf n d)) ah := by
  have hg : ((Nat.gcd n.natAbs d.natAbs : Nat) : Int) ≠ 0 := by
    have : 0 < Nat.gcd n.natAbs d.natAbs := Nat.gcd_pos_of_pos_right _ (by omega)
    omega
  have b1 := gcd_B (n := n) h hd
  unfold nf fr
  by_cases hneg : d < 0
  · have c1 : okDiv n ((Nat.gcd n.natAbs d.natAbs : Nat) * (0 - 1)) = true := okDiv_B (k := 9000) (by rw [Int.zero_sub, Int.mul_neg, Int.mul_one]; exact b1.neg) (by decide) (by decide) (by omega)
    have c2 : okDiv d ((Nat.gcd n.natAbs d.natAbs : Nat) * (0 - 1)) = true := okDiv_B (k := 9000) (by rw [Int.zero_sub, Int.mul_neg, Int.mul_one]; exact b1.neg) (by decide) (by decide) (by omega)
    have c3 : okMul (Nat.gcd n.natAbs d.natAbs : Nat) (0 - 1) = true := okMul_r (by decide) (by decide)
    have c4 : ¬ 0 < d := by omega
    have c5 : ((Nat.gcd n.natAbs d.natAbs : Nat) : Int) * (0 - 1) = -(Nat.gcd n.natAbs d.natAbs : Nat) := by omega
    simp only [def0, lfracM, sPs, sSet, sIf, sRt, tV, e2, e1, eL, eI, eCall, esC, esN, eC, M.andThen, eV, M.lift, M.ret, gSub, gMul, gGt, gCmp, gNeg, gFdiv, gI, gTupD, M.when, List.map_cons, List.map_nil, List.cons_append, List.nil_append, List.length_cons, List.length_nil, List.replicate, List.set_cons_zero, List.set_cons_succ, List.getElem?_cons_zero, List.getElem?_cons_succ, Option.join_some, decide_eq_false c4, if_true, if_pos hneg, sl, Bool.false_eq_true, if_false, Nat.zero_add, decide_true, Nat.reduceAdd]
    simp only [def0, sPs, sSet, sIf, sRt, sNx, sEx, sRtN, sPar2, sPar3, tV, tA, tO, tN, Mi.e2, Mi.e1, eL, eI, eA, eO, eCall, esC, esN, eC, M.andThen, eV, M.lift, M.ret, M.when, gI, gCmp, gLt, gLe, gGt, gGe, gSub, gMul, gAdd, gFdiv, gMod, gNeg, gNot, gGcd, gTupD, gLstD, gIx, gInt, gAbs, List.map_cons, List.map_nil, List.cons_append, List.nil_append, List.length_cons, List.length_nil, List.replicate, List.set_cons_zero, List.set_cons_succ, List.getElem?_cons_zero, List.getElem?_cons_succ, Option.join_some, if_true, Bool.false_eq_true, if_false, Nat.zero_add, decide_true, Nat.reduceAdd, Nat.reduceSub, hc, c1, c2, c3]
    rw [c5]
    rfl
  · have hp : 0 < d := by omega
    have c1 : okDiv n ((Nat.gcd n.natAbs d.natAbs : Nat) * 1) = true := okDiv_B (k := 9000) (by rw [Int.mul_one]; exact b1) (by decide) (by decide) (by omega)
    have c2 : okDiv d ((Nat.gcd n.natAbs d.natAbs : Nat) * 1) = true := okDiv_B (k := 9000) (by rw [Int.mul_one]; exact b1) (by decide) (by decide) (by omega)
    have c3 : okMul (Nat.gcd n.natAbs d.natAbs : Nat) 1 = true := okMul_r (by decide) (by decide)
    simp only [def0, lfracM, sPs, sSet, sIf, sRt, tV, e2, e1, eL, eI, eCall, esC, esN, eC, M.andThen, eV, M.lift, M.ret, gSub, gMul, gGt, gCmp, gNeg, gFdiv, gI, gTupD, M.when, List.map_cons, List.map_nil, List.cons_append, List.nil_append, List.length_cons, List.length_nil, List.replicate, List.set_cons_zero, List.set_cons_succ, List.getElem?_cons_zero, List.getElem?_cons_succ, Option.join_some, decide_eq_true hp, if_true, if_neg hneg, sl, Bool.false_eq_true, if_false, Nat.zero_add, decide_true, Nat.reduceAdd]
    simp only [def0, sPs, sSet, sIf, sRt, sNx, sEx, sRtN, sPar2, sPar3, tV, tA, tO, tN, Mi.e2, Mi.e1, eL, eI, eA, eO, eCall, esC, esN, eC, M.andThen, eV, M.lift, M.ret, M.when, gI, gCmp, gLt, gLe, gGt, gGe, gSub, gMul, gAdd, gFdiv, gMod, gNeg, gNot, gGcd, gTupD, gLstD, gIx, gInt, gAbs, List.map_cons, List.map_nil, List.cons_append, List.nil_append, List.length_cons, List.length_nil, List.replicate, List.set_cons_zero, List.set_cons_succ, List.getElem?_cons_zero, List.getElem?_cons_succ, Option.join_some, if_true, Bool.false_eq_true, if_false, Nat.zero_add, decide_true, Nat.reduceAdd, Nat.reduceSub, hc, c1, c2, c3]
    rw [Int.mul_one]
    rfl
end Mi
set_option Elab.async false
set_option linter.all false
set_option maxRecDepth 100000
set_option maxHeartbeats 4000000
set_option exponentiation.threshold 30000
namespace Mi
open PySem PySem.Spec PyProof.Rows L2
/-! ## what may be shown -/
mutual
def D.sm : D → Bool
  | .non => true
  | .bl _ => true
  | .int i => decide (i.natAbs < 2 ^ 200)
  | .str x => x.cps.toList.all fun c => decide (c < 16 ^ 8)
  | .tup xs => D.sms xs
  | .lst xs => D.sms xs
  | .fro xs => D.sms xs
  | .emp => true
  | .ref _ => true
  | .oth _ => true
def D.sms : List D → Bool
  | [] => true
  | x :: xs => D.sm x && D.sms xs
end
mutual
def D.wt : D → Nat
  | .non => 0
  | .bl _ => 0
  | .int _ => 200
  | .str x => x.cps.size
  | .tup xs => D.wts xs
  | .lst xs => D.wts xs
  | .fro xs => D.wts xs
  | .emp => 0
  | .ref _ => 0
  | .oth _ => 0
def D.wts : List D → Nat
  | [] => 0
  | x :: xs => D.wt x + 1 + D.wts xs
end
mutual
def D.dpt : D → Nat
  | .non => 0
  | .bl _ => 0
  | .int _ => 0
  | .str _ => 0
  | .tup xs => D.dpts xs + 1
  | .lst xs => D.dpts xs + 1
  | .fro xs => D.dpts xs + 1
  | .emp => 1
  | .ref _ => 0
  | .oth _ => 0
def D.dpts : List D → Nat
  | [] => 0
  | x :: xs => max (D.dpt x) (D.dpts xs)
end
theorem log200 {i : Int} (h : i.natAbs < 2 ^ 200) : i.natAbs.log2 < 200 := log_lt h (by decide)
mutual
theorem D.sm_ok : ∀ d : D, d.sm = true → d.p.leavesShort 1000 = true ∧ d.p.showable = true ∧ d.p.weight ≤ d.wt
  | .non, _ => ⟨rfl, rfl, Nat.le_refl _⟩
  | .bl _, _ => ⟨rfl, rfl, Nat.le_refl _⟩
  | .int i, h => by
    have h := of_decide_eq_true h
    have l := log200 h
    refine ⟨?_, ?_, ?_⟩
    · show decide ((PyData.shown (.int i)).length ≤ 1000) = true
      refine decide_eq_true ?_
      have := int_text_length_le (a := i) (k := 200) (by decide) l
      refine Nat.le_trans ?_ (Nat.le_trans this (by decide))
      show (Str.ofString (toString i)).length ≤ _
      rw [PyProof.Rows.ofString_len]
      exact Nat.le_refl _
    · show decide (i.natAbs.log2 < 1920) = true
      exact decide_eq_true (by omega)
    · show (if i == 0 then 0 else i.natAbs.log2 + 1) ≤ 200
      split <;> omega
  | .str x, h => ⟨h, rfl, Nat.le_refl _⟩
  | .tup xs, h => by
    obtain ⟨a, b, c⟩ := D.sms_ok xs h
    exact ⟨a, b, c⟩
  | .lst xs, h => by
    obtain ⟨a, b, c⟩ := D.sms_ok xs h
    exact ⟨a, b, c⟩
  | .fro xs, h => by
    obtain ⟨a, b, c⟩ := D.sms_ok xs h
    exact ⟨a, b, c⟩
  | .emp, _ => ⟨rfl, rfl, Nat.le_refl _⟩
  | .ref _, _ => ⟨rfl, rfl, Nat.le_refl _⟩
  | .oth _, _ => ⟨rfl, rfl, Nat.le_refl _⟩
theorem D.sms_ok : ∀ ds : List D, D.sms ds = true → PyData.leavesShortAll 1000 (D.ps ds) = true ∧ PyData.showableAll (D.ps ds) = true ∧ PyData.weightAll (D.ps ds) ≤ D.wts ds
  | [], _ => ⟨rfl, rfl, Nat.le_refl _⟩
  | x :: xs, h => by
    have h' := Bool.and_eq_true_iff.mp h
    obtain ⟨a, b, c⟩ := D.sm_ok x h'.1
    obtain ⟨a2, b2, c2⟩ := D.sms_ok xs h'.2
    refine ⟨?_, ?_, ?_⟩
    · show (PyData.leavesShort 1000 x.p && PyData.leavesShortAll 1000 (D.ps xs)) = true
      rw [a, a2]; rfl
    · show (PyData.showable x.p && PyData.showableAll (D.ps xs)) = true
      rw [b, b2]; rfl
    · show PyData.weight x.p + 1 + PyData.weightAll (D.ps xs) ≤ D.wt x + 1 + D.wts xs
      omega
end
mutual
theorem D.dpt_ok : ∀ d : D, d.p.depth ≤ d.dpt
  | .non => Nat.le_refl _
  | .bl _ => Nat.le_refl _
  | .int _ => Nat.le_refl _
  | .str _ => Nat.le_refl _
  | .tup xs => by
    have := D.dpts_ok xs
    show PyData.depth (.tuple (D.ps xs)) ≤ D.dpts xs + 1
    simp only [PyData.depth]
    omega
  | .lst xs => by
    have := D.dpts_ok xs
    show PyData.depth (.list (D.ps xs)) ≤ D.dpts xs + 1
    simp only [PyData.depth]
    omega
  | .fro xs => by
    have := D.dpts_ok xs
    show PyData.depth (.list (D.ps xs)) ≤ D.dpts xs + 1
    simp only [PyData.depth]
    omega
  | .emp => Nat.le_refl _
  | .ref _ => Nat.le_refl _
  | .oth _ => Nat.le_refl _
theorem D.dpts_ok : ∀ ds : List D, PyData.depthAll (D.ps ds) ≤ D.dpts ds
  | [] => Nat.le_refl _
  | x :: xs => by
    have := D.dpt_ok x
    have := D.dpts_ok xs
    show PyData.depthAll (x.p :: D.ps xs) ≤ max x.dpt (D.dpts xs)
    simp only [PyData.depthAll]
    omega
end
structure Shw (d : D) : Prop where
  f : (d.flat || d.shw) = true
  s : d.sm = true
  w : decide (d.wt ≤ 16000) = true
  t : decide (d.dpt ≤ 60) = true
theorem Shw.ok {d : D} (h : Shw d) : okShow d = true := by
  obtain ⟨a, b, c⟩ := D.sm_ok d h.s
  have l := PyData.shown_le 1000 (by decide) d.p a
  have w := of_decide_eq_true h.w
  have t := of_decide_eq_true h.t
  have t2 := D.dpt_ok d
  have l2 : d.p.shown.length ≤ sizeLine := by
    rw [sl]
    have : (1000 + 2) * d.p.weight ≤ (1000 + 2) * 16000 := Nat.mul_le_mul_left _ (by omega)
    omega
  unfold okShow
  rw [h.f, b, decide_eq_true l2, decide_eq_true (show d.p.depth ≤ 60 by omega)]
  rfl
theorem Shw.at {d : D} (h : Shw d) (ah : AH) : gRepr [d] ah = .ok (.str d.p.shown) ah := by
  simp only [gRepr, M.when, h.ok, if_true, M.ret]
theorem ne_str_self (x : Str) (ah : AH) : gNe (.str x) (.str x) ah = .ok (.bl false) ah := by
  simp [gNe, M.ret]
theorem okEq_fr (x y : Int × Int) : okEq (fr x) (fr y) = true := rfl
theorem ne_fr_self (x : Int × Int) (ah : AH) : gNe (fr x) (fr x) ah = .ok (.bl false) ah := by
  have e : PyData.eqv (fr x).p (fr x).p = true := by
    show ((x.1 == x.1) && ((x.2 == x.2) && true)) = true
    simp
  show M.when (okEq (fr x) (fr x)) (M.ret (D.bl (!PyData.eqv (fr x).p (fr x).p))) ah = _
  rw [okEq_fr, e]
  rfl
end Mi
set_option Elab.async false
set_option linter.all false
set_option maxRecDepth 100000
set_option maxHeartbeats 400000
set_option exponentiation.threshold 30000
namespace Mi
open PySem PySem.Spec PyProof.Rows L2
/-! ## how often p stands in n -/
structure Pr (p : Int) : Prop where
  two : 2 ≤ p
  pr : ∀ a b : Int, p ∣ a * b → p ∣ a ∨ p ∣ b
def Vl (p n : Int) (v : Nat) : Prop := ∃ m, n = p ^ v * m ∧ ¬ p ∣ m
theorem pr_of {p : Nat} (h2 : 2 ≤ p) (h : ∀ d, d ≤ p → d ∣ p → d = 1 ∨ d = p) : Pr (p : Int) := by
  refine ⟨by omega, fun a b hab => ?_⟩
  have hab' : p ∣ a.natAbs * b.natAbs := by
    rw [← Int.natAbs_mul]
    exact Int.ofNat_dvd_left.mp hab
  have hg : Nat.gcd p a.natAbs ∣ p := Nat.gcd_dvd_left _ _
  rcases h _ (Nat.le_of_dvd (by omega) hg) hg with e | e
  · exact .inr (Int.ofNat_dvd_left.mpr (Nat.Coprime.dvd_of_dvd_mul_left e hab'))
  · refine .inl (Int.ofNat_dvd_left.mpr ?_)
    rw [← e]
    exact Nat.gcd_dvd_right _ _
section
variable {p : Int} (P : Pr p)
include P
theorem Pr.ne : p ≠ 0 := by have := P.two; omega
theorem Pr.pw (k : Nat) : p ^ k ≠ 0 := by
  induction k with
  | zero => rw [Int.pow_zero]; decide
  | succ k ih => rw [Int.pow_succ]; intro z; rcases Int.mul_eq_zero.mp z with z | z; exact ih z; exact P.ne z
theorem Pr.pos (k : Nat) : 0 < p ^ k := by
  have h := P.two
  induction k with
  | zero => rw [Int.pow_zero]; decide
  | succ k ih => rw [Int.pow_succ]; exact Int.mul_pos ih (by omega)
theorem Vl.dvd {n : Int} {v k : Nat} (h : Vl p n v) : p ^ k ∣ n ↔ k ≤ v := by
  obtain ⟨m, e, hm⟩ := h
  constructor
  · intro ⟨c, hc⟩
    by_cases hk : k ≤ v
    · exact hk
    · exfalso
      apply hm
      have e1 : p ^ k = p ^ v * p ^ (k - v) := by rw [← Int.pow_add, show v + (k - v) = k by omega]
      rw [e, e1, Int.mul_assoc] at hc
      have h3 := Int.eq_of_mul_eq_mul_left (P.pw v) hc
      rw [h3, show k - v = (k - v - 1) + 1 by omega, Int.pow_succ]
      exact ⟨p ^ (k - v - 1) * c, by grind⟩
  · intro hk
    exact ⟨p ^ (v - k) * m, by rw [e, ← Int.mul_assoc, ← Int.pow_add, show k + (v - k) = v by omega]⟩
theorem Vl.uniq {n : Int} {v w : Nat} (h : Vl p n v) (l : Vl p n w) : v = w := by
  have a : v ≤ w := (l.dvd P).mp ((h.dvd P).mpr (Nat.le_refl _))
  have b : w ≤ v := (h.dvd P).mp ((l.dvd P).mpr (Nat.le_refl _))
  omega
theorem Vl.mul {m n : Int} {v w : Nat} (h : Vl p m v) (l : Vl p n w) : Vl p (m * n) (v + w) := by
  obtain ⟨a, e, ha⟩ := h
  obtain ⟨b, f, hb⟩ := l
  refine ⟨a * b, ?_, fun z => (P.pr a b z).elim ha hb⟩
  rw [e, f, Int.pow_add]
  grind
theorem Vl.one : Vl p 1 0 := ⟨1, by rw [Int.pow_zero]; rfl, fun ⟨c, hc⟩ => by
  have h := P.two
  have : p ∣ 1 := ⟨c, hc⟩
  have := Int.le_of_dvd (by decide) this
  omega⟩
theorem Vl.pw (k : Nat) : Vl p (p ^ k) k := ⟨1, by rw [Int.mul_one], fun ⟨c, hc⟩ => by
  have h := P.two
  have : p ∣ 1 := ⟨c, hc⟩
  have := Int.le_of_dvd (by decide) this
  omega⟩
theorem Vl.neg {n : Int} {v : Nat} (h : Vl p n v) : Vl p (-n) v := by
  obtain ⟨m, e, hm⟩ := h
  exact ⟨-m, by rw [e, Int.mul_neg], fun z => hm (Int.dvd_neg.mp z)⟩
theorem Vl.ne {n : Int} {v : Nat} (h : Vl p n v) : n ≠ 0 := by
  obtain ⟨m, e, hm⟩ := h
  rw [e]
  intro z
  rcases Int.mul_eq_zero.mp z with z | z
  · exact P.pw v z
  · exact hm (z ▸ Int.dvd_zero p)
theorem Vl.zero_iff {n : Int} (h : ¬ p ∣ n) : Vl p n 0 := ⟨n, by rw [Int.pow_zero, Int.one_mul], h⟩
theorem Vl.up {n : Int} {v : Nat} (h : Vl p n v) (k : Nat) : Vl p (p ^ k * n) (k + v) := (Vl.pw P k).mul P h
/-- out of p^k * n -/
theorem Vl.down {n : Int} {v k : Nat} (h : Vl p (p ^ k * n) v) : k ≤ v ∧ Vl p n (v - k) := by
  have hk : k ≤ v := (h.dvd P).mp ⟨n, rfl⟩
  obtain ⟨m, e, hm⟩ := h
  refine ⟨hk, m, ?_, hm⟩
  have e1 : p ^ v = p ^ k * p ^ (v - k) := by rw [← Int.pow_add, show k + (v - k) = v by omega]
  rw [e1, Int.mul_assoc] at e
  exact Int.eq_of_mul_eq_mul_left (P.pw k) e
theorem Vl.ex_aux : ∀ (N : Nat) (n : Int), n.natAbs ≤ N → n ≠ 0 → ∃ v, Vl p n v
  | 0, n, h, h0 => absurd (by omega) h0
  | N + 1, n, h, h0 => by
    by_cases hd : p ∣ n
    · obtain ⟨m, hm⟩ := hd
      have m0 : m ≠ 0 := by intro z; rw [z, Int.mul_zero] at hm; exact h0 hm
      have hlt : m.natAbs < n.natAbs := by
        rw [hm, Int.natAbs_mul]
        have h2 : 2 ≤ p.natAbs := by have := P.two; omega
        have h3 : 0 < m.natAbs := by omega
        have : 2 * m.natAbs ≤ p.natAbs * m.natAbs := Nat.mul_le_mul_right _ h2
        omega
      obtain ⟨v, hv⟩ := Vl.ex_aux N m (by omega) m0
      refine ⟨1 + v, ?_⟩
      have := hv.up P 1
      rw [Int.pow_one, ← hm] at this
      exact this
    · exact ⟨0, Vl.zero_iff P hd⟩
theorem Vl.ex {n : Int} (h0 : n ≠ 0) : ∃ v, Vl p n v := Vl.ex_aux P n.natAbs n (Nat.le_refl _) h0
/-- of a sum -/
theorem Vl.add {m n : Int} {v w s : Nat} (h : Vl p m v) (l : Vl p n w) (hs : Vl p (m + n) s) : min v w ≤ s ∧ (v ≠ w → s = min v w) := by
  have a : min v w ≤ s := (hs.dvd P).mp (Int.dvd_add ((h.dvd P).mpr (Nat.min_le_left _ _)) ((l.dvd P).mpr (Nat.min_le_right _ _)))
  refine ⟨a, fun ne => ?_⟩
  refine Nat.le_antisymm ?_ a
  by_cases hlt : v < w
  · rw [Nat.min_eq_left (by omega)]
    by_cases z : s ≤ v
    · exact z
    · exfalso
      have h1 : p ^ (v + 1) ∣ m + n := (hs.dvd P).mpr (by omega)
      have h2 : p ^ (v + 1) ∣ n := (l.dvd P).mpr (by omega)
      have h3 := (h.dvd P).mp ((Int.dvd_add_left h2).mp h1)
      omega
  · rw [Nat.min_eq_right (by omega)]
    by_cases z : s ≤ w
    · exact z
    · exfalso
      have h1 : p ^ (w + 1) ∣ m + n := (hs.dvd P).mpr (by omega)
      have h2 : p ^ (w + 1) ∣ m := (h.dvd P).mpr (by omega)
      have h3 := (l.dvd P).mp ((Int.dvd_add_right h2).mp h1)
      omega
/-- the difference over a fraction -/
theorem Vl.nf {n d : Int} {v w a b : Nat} (hd : d ≠ 0) (hn : Vl p n v) (h2 : Vl p d w) (ha : Vl p (Mi.nf n d).1 a) (hb : Vl p (Mi.nf n d).2 b) : (v : Int) - w = (a : Int) - b := by
  have c := nf_cross n d hd
  have e1 := ha.mul P h2
  have e2 := hn.mul P hb
  rw [c] at e1
  have := e1.uniq P e2
  omega
end
end Mi
set_option Elab.async false
set_option linter.all false
set_option maxRecDepth 100000
set_option maxHeartbeats 400000
set_option exponentiation.threshold 30000
namespace Mi
open PySem PySem.Spec PyProof.Rows L2
/-! ## a run ends well, and of what it gives Q holds -/
def W {α : Type} (r : R α) (Q : α → AH → Prop) : Prop := ∃ a ah, r = .ok a ah ∧ Q a ah
section
variable {α β : Type} {Q : α → AH → Prop} {ah : AH}
theorem W.mono {r : R α} {Q' : α → AH → Prop} (h : W r Q) (q : ∀ a ah, Q a ah → Q' a ah) : W r Q' := by
  obtain ⟨a, ah, e, h⟩ := h
  exact ⟨a, ah, e, q a ah h⟩
theorem wq_ok {a : α} (h : Q a ah) : W (.ok a ah) Q := ⟨a, ah, rfl, h⟩
theorem wq_ret {a : α} (h : Q a ah) : W (M.ret a ah) Q := ⟨a, ah, rfl, h⟩
theorem wq_eq {r : R α} {a : α} {ah' : AH} (e : r = .ok a ah') (h : Q a ah') : W r Q := ⟨a, ah', e, h⟩
theorem wq_bind {Q : β → AH → Prop} {m : M α} {f : α → M β} (h : W (m ah) fun a ah' => W (f a ah') Q) : W (M.andThen m f ah) Q := by
  obtain ⟨a, ah1, e, b, ah2, e2, q⟩ := h
  exact ⟨b, ah2, by simp only [M.andThen, e, e2], q⟩
theorem wq_when {c : Bool} {m : M α} (hc : c = true) (h : W (m ah) Q) : W (M.when c m ah) Q := by
  subst hc
  exact h
theorem wq_lift {o : Option α} {a : α} (hc : o = some a) (h : Q a ah) : W (M.lift o ah) Q := by
  subst hc
  exact ⟨a, ah, rfl, h⟩
end
section
variable {ah : AH} {env : Lc}
section
variable {Q : D → AH → Prop}
theorem wq_eV {i : Nat} {d : D} (e : env[i]?.join = some d) (q : Q d ah) : W (eV i env ah) Q := wq_lift e q
theorem wq_eC {d : D} (q : Q d ah) : W (eC d env ah) Q := wq_ret q
theorem wq_e1 {g : D → M D} {a : Lc → M D} (h : W (a env ah) fun x ah' => W (g x ah') Q) : W (e1 g a env ah) Q := wq_bind h
theorem wq_e2 {g : D → D → M D} {a b : Lc → M D} (h : W (a env ah) fun x ah1 => W (b env ah1) fun y ah2 => W (g x y ah2) Q) : W (e2 g a b env ah) Q := wq_bind (h.mono fun _ _ h => wq_bind h)
theorem wq_eL {g : List D → M D} {r : Lc → M (List D)} (h : W (r env ah) fun x ah' => W (g x ah') Q) : W (eL g r env ah) Q := wq_bind h
theorem wq_esN {Q : List D → AH → Prop} (q : Q [] ah) : W (esN env ah) Q := wq_ret q
theorem wq_esC {Q : List D → AH → Prop} {a : Lc → M D} {r : Lc → M (List D)} (h : W (a env ah) fun x ah1 => W (r env ah1) fun xs ah2 => Q (x :: xs) ah2) : W (esC a r env ah) Q :=
  wq_bind (h.mono fun _ _ h => wq_bind (h.mono fun _ _ h => wq_ret h))
theorem wq_eCall {n : Nat} {m : List D → M D} {fs : Lc → M (List D)} (h : W (fs env ah) fun ds ah1 => ds.length = n ∧ W (m ds ah1) Q) : W (eCall n m fs env ah) Q := by
  refine wq_bind (h.mono fun ds ah1 h => wq_when (decide_eq_true h.1) ?_)
  obtain ⟨a, ah2, e, q⟩ := h.2
  exact ⟨a, ah2, by simp only [e], q⟩
/-- two ways -/
def KI {α : Type} (a b : Lc → M α) (env : Lc) (Q : α → AH → Prop) : Bool → AH → Prop := fun c ah => if c = true then W (a env ah) Q else W (b env ah) Q
theorem KI.t {α : Type} {a b : Lc → M α} {Q : α → AH → Prop} {c : Bool} (hc : c = true) (h : W (a env ah) Q) : KI a b env Q c ah := by subst hc; exact h
theorem KI.f {α : Type} {a b : Lc → M α} {Q : α → AH → Prop} {c : Bool} (hc : c = false) (h : W (b env ah) Q) : KI a b env Q c ah := by subst hc; exact h
theorem KI.split {α : Type} {a b : Lc → M α} {Q : α → AH → Prop} {c : Bool} (h1 : c = true → W (a env ah) Q) (h2 : c = false → W (b env ah) Q) : KI a b env Q c ah := by
  cases c with
  | true => exact h1 rfl
  | false => exact h2 rfl
theorem KI.mid {α : Type} {a b : Lc → M α} {P Q : α → AH → Prop} {c : Bool} (h : KI a b env P c ah) (q : ∀ x ah, P x ah → Q x ah) : KI a b env Q c ah := by
  cases c with
  | true => exact W.mono (show W (a env ah) P from h) q
  | false => exact W.mono (show W (b env ah) P from h) q
theorem KI.dec {α : Type} {a b : Lc → M α} {Q : α → AH → Prop} {p : Prop} [Decidable p] (h1 : p → W (a env ah) Q) (h2 : ¬ p → W (b env ah) Q) : KI a b env Q (decide p) ah :=
  KI.split (fun h => h1 (of_decide_eq_true h)) fun h => h2 (of_decide_eq_false h)
theorem KI.nec {α : Type} {a b : Lc → M α} {Q : α → AH → Prop} {p : Prop} [Decidable p] (h1 : ¬ p → W (a env ah) Q) (h2 : p → W (b env ah) Q) : KI a b env Q (!decide p) ah :=
  KI.split (fun h => h1 (of_decide_eq_false (by cases hd : decide p with | false => rfl | true => rw [hd] at h; cases h))) fun h => h2 (of_decide_eq_true (by cases hd : decide p with | true => rfl | false => rw [hd] at h; cases h))
theorem wq_eI {t : Lc → M Bool} {f g : Lc → M D} (h : W (t env ah) (KI f g env Q)) : W (eI t f g env ah) Q := wq_bind (h.mono fun c _ h => by
  cases c with
  | true => exact h
  | false => exact h)
def KB (d : Bool) (t : Lc → M D) (env : Lc) (Q : D → AH → Prop) : D → AH → Prop := fun x ah => ∃ c, x = .bl c ∧ if c = d then W (t env ah) Q else Q (.bl c) ah
theorem KB.t {d : Bool} {t : Lc → M D} {c : Bool} (hc : c = d) (h : W (t env ah) Q) : KB d t env Q (.bl c) ah := ⟨c, rfl, by rw [if_pos hc]; exact h⟩
theorem KB.f {d : Bool} {t : Lc → M D} {c : Bool} (hc : c ≠ d) (h : Q (.bl c) ah) : KB d t env Q (.bl c) ah := ⟨c, rfl, by rw [if_neg hc]; exact h⟩
theorem wq_eA {s t : Lc → M D} (h : W (s env ah) (KB true t env Q)) : W (eA s t env ah) Q := wq_bind (h.mono fun x _ h => by
  obtain ⟨c, rfl, h⟩ := h
  cases c with
  | true => exact h
  | false => exact wq_ret h)
theorem wq_eO {s t : Lc → M D} (h : W (s env ah) (KB false t env Q)) : W (eO s t env ah) Q := wq_bind (h.mono fun x _ h => by
  obtain ⟨c, rfl, h⟩ := h
  cases c with
  | true => exact wq_ret h
  | false => exact h)
/-! tests -/
theorem wq_tV {Q : Bool → AH → Prop} {f : Lc → M D} (h : W (f env ah) fun x ah' => ∃ b, x = .bl b ∧ Q b ah') : W (tV f env ah) Q := wq_bind (h.mono fun x _ h => by
  obtain ⟨c, rfl, h⟩ := h
  exact wq_ret h)
theorem wq_tYs {Q : Bool → AH → Prop} (h : Q true ah) : W (tYs env ah) Q := wq_ret h
theorem wq_tI {Q : Bool → AH → Prop} {f : Lc → M D} (h : W (f env ah) fun x ah' => ∃ i, x = .int i ∧ Q (i != 0) ah') : W (tI f env ah) Q := wq_bind (h.mono fun x _ h => by
  obtain ⟨c, rfl, h⟩ := h
  exact wq_ret h)
theorem wq_tN {Q : Bool → AH → Prop} {t : Lc → M Bool} (h : W (t env ah) fun c ah' => Q (!c) ah') : W (tN t env ah) Q := wq_bind (h.mono fun x _ h => wq_ret h)
def KT (d : Bool) (t : Lc → M Bool) (env : Lc) (Q : Bool → AH → Prop) : Bool → AH → Prop := fun c ah => if c = d then W (t env ah) Q else Q c ah
theorem KT.t {Q : Bool → AH → Prop} {d : Bool} {t : Lc → M Bool} {c : Bool} (hc : c = d) (h : W (t env ah) Q) : KT d t env Q c ah := by unfold KT; rw [if_pos hc]; exact h
theorem KT.f {Q : Bool → AH → Prop} {d : Bool} {t : Lc → M Bool} {c : Bool} (hc : c ≠ d) (h : Q c ah) : KT d t env Q c ah := by unfold KT; rw [if_neg hc]; exact h
theorem KT.split {Q : Bool → AH → Prop} {d : Bool} {t : Lc → M Bool} {c : Bool} (h1 : c = d → W (t env ah) Q) (h2 : c = !d → Q (!d) ah) : KT d t env Q c ah := by
  unfold KT
  by_cases h : c = d
  · rw [if_pos h]; exact h1 h
  · rw [if_neg h]
    have : c = !d := by cases c <;> cases d <;> first | rfl | exact absurd rfl h
    rw [this]; exact h2 this
theorem KT.mid {P Q : Bool → AH → Prop} {d : Bool} {t : Lc → M Bool} {c : Bool} (h : KT d t env P c ah) (q : ∀ x ah, P x ah → Q x ah) : KT d t env Q c ah := by
  unfold KT at h ⊢
  split
  · rename_i e; rw [if_pos e] at h; exact h.mono q
  · rename_i e; rw [if_neg e] at h; exact q _ _ h
theorem wq_tA {Q : Bool → AH → Prop} {s t : Lc → M Bool} (h : W (s env ah) (KT true t env Q)) : W (tA s t env ah) Q := wq_bind (h.mono fun c _ h => by
  cases c with
  | true => exact h
  | false => exact wq_ret h)
theorem wq_tO {Q : Bool → AH → Prop} {s t : Lc → M Bool} (h : W (s env ah) (KT false t env Q)) : W (tO s t env ah) Q := wq_bind (h.mono fun c _ h => by
  cases c with
  | true => exact wq_ret h
  | false => exact h)
def KC (g' : D → D → M D) (fc : Lc → M D) (env : Lc) (Q : D → AH → Prop) (y : D) : D → AH → Prop := fun z ah => ∃ k, z = .bl k ∧ if k = true then W (fc env ah) fun w ah' => W (g' y w ah') Q else Q (.bl false) ah
theorem wq_eCh {g g' : D → D → M D} {fa fb fc : Lc → M D} (h : W (fa env ah) fun x ah1 => W (fb env ah1) fun y ah2 => W (g x y ah2) (KC g' fc env Q y)) : W (eCh g g' fa fb fc env ah) Q :=
  wq_bind (h.mono fun _ _ h => wq_bind (h.mono fun _ _ h => wq_bind (h.mono fun z _ h => by
    obtain ⟨k, rfl, h⟩ := h
    cases k with
    | true => exact wq_bind h
    | false => exact wq_ret h)))
theorem KC.t {g' : D → D → M D} {fc : Lc → M D} {y : D} {c : Bool} (hc : c = true) (h : W (fc env ah) fun w ah' => W (g' y w ah') Q) : KC g' fc env Q y (.bl c) ah := ⟨c, rfl, by rw [if_pos hc]; exact h⟩
theorem KC.f {g' : D → D → M D} {fc : Lc → M D} {y : D} {c : Bool} (hc : c = false) (h : Q (.bl false) ah) : KC g' fc env Q y (.bl c) ah := ⟨c, rfl, by subst hc; exact h⟩
/-! parts of slices -/
theorem wq_partN {Q : Option Int → AH → Prop} (h : Q none ah) : W (partN env ah) Q := wq_ret h
theorem wq_partI {Q : Option Int → AH → Prop} {f : Lc → M D} (h : W (f env ah) fun x ah' => ∃ i, x = .int i ∧ Q (some i) ah') : W (partI f env ah) Q := wq_bind (h.mono fun x _ h => by
  obtain ⟨c, rfl, h⟩ := h
  exact wq_ret h)
theorem wq_eSl {fa : Lc → M D} {fl fh : Lc → M (Option Int)} (h : W (fa env ah) fun x h1 => W (fl env h1) fun l h2 => W (fh env h2) fun k h3 => W (gSl x l k h3) Q) : W (eSl fa fl fh env ah) Q :=
  wq_bind (h.mono fun _ _ h => wq_bind (h.mono fun _ _ h => wq_bind h))
theorem wq_slT {xs : List D} {l h : Option Int} (q : Q (.tup (cutD xs l h)) ah) : W (gSl (.tup xs) l h ah) Q := wq_ret q
theorem wq_slL {xs : List D} {l h : Option Int} (q : Q (.lst (cutD xs l h)) ah) : W (gSl (.lst xs) l h ah) Q := wq_ret q
/-! operations -/
theorem wq_add {i j : Int} (q : Q (.int (i + j)) ah) : W (gAdd (.int i) (.int j) ah) Q := wq_ret q
theorem wq_addT {xs ys : List D} (h : xs.length + ys.length ≤ 100000) (q : Q (.tup (xs ++ ys)) ah) : W (gAdd (.tup xs) (.tup ys) ah) Q := wq_when (decide_eq_true (by rw [sl]; omega)) (wq_ret q)
theorem wq_addL {xs ys : List D} (h : xs.length + ys.length ≤ 100000) (q : Q (.lst (xs ++ ys)) ah) : W (gAdd (.lst xs) (.lst ys) ah) Q := wq_when (decide_eq_true (by rw [sl]; omega)) (wq_ret q)
theorem wq_sub {i j : Int} (q : Q (.int (i - j)) ah) : W (gSub (.int i) (.int j) ah) Q := wq_ret q
theorem wq_mul {i j : Int} (h : okMul i j = true) (q : Q (.int (i * j)) ah) : W (gMul (.int i) (.int j) ah) Q := wq_when h (wq_ret q)
theorem wq_mod {i j : Int} (h : j ≠ 0) (q : Q (.int (i.fmod j)) ah) : W (gMod (.int i) (.int j) ah) Q := wq_when (decide_eq_true h) (wq_ret q)
theorem wq_fdiv {i j : Int} (h : okDiv i j = true) (q : Q (.int (i.fdiv j)) ah) : W (gFdiv (.int i) (.int j) ah) Q := wq_when h (wq_ret q)
theorem wq_pow {i j : Int} (h : okPow i j = true) (q : Q (.int (i ^ j.toNat)) ah) : W (gPow (.int i) (.int j) ah) Q := wq_when h (wq_ret q)
theorem wq_neg {i : Int} (q : Q (.int (-i)) ah) : W (gNeg (.int i) ah) Q := wq_ret q
theorem wq_not {b : Bool} (q : Q (.bl (!b)) ah) : W (gNot (.bl b) ah) Q := wq_ret q
theorem wq_and {i j : Int} (q : Q (.int (Builtin.bitAnd i j)) ah) : W (gAnd (.int i) (.int j) ah) Q := wq_ret q
theorem wq_shr {i j : Int} (h : 0 ≤ j) (q : Q (.int (i / 2 ^ j.toNat)) ah) : W (gShr (.int i) (.int j) ah) Q := wq_when (decide_eq_true h) (wq_ret q)
theorem wq_lt {i j : Int} (q : Q (.bl (decide (i < j))) ah) : W (gLt (.int i) (.int j) ah) Q := wq_ret q
theorem wq_le {i j : Int} (q : Q (.bl (decide (i ≤ j))) ah) : W (gLe (.int i) (.int j) ah) Q := wq_ret q
theorem wq_gt {i j : Int} (q : Q (.bl (decide (j < i))) ah) : W (gGt (.int i) (.int j) ah) Q := wq_ret q
theorem wq_ge {i j : Int} (q : Q (.bl (decide (j ≤ i))) ah) : W (gGe (.int i) (.int j) ah) Q := wq_ret q
theorem wq_eqI {i j : Int} (q : Q (.bl (decide (i = j))) ah) : W (gEq (.int i) (.int j) ah) Q := wq_ret q
theorem wq_neI {i j : Int} (q : Q (.bl (!decide (i = j))) ah) : W (gNe (.int i) (.int j) ah) Q := wq_ret q
theorem wq_neS {x y : Str} (q : Q (.bl (!decide (x = y))) ah) : W (gNe (.str x) (.str y) ah) Q := wq_ret q
theorem wq_eqS {x y : Str} (q : Q (.bl (decide (x = y))) ah) : W (gEq (.str x) (.str y) ah) Q := wq_ret q
theorem wq_neSame {x : Str} (q : Q (.bl false) ah) : W (gNe (.str x) (.str x) ah) Q := wq_neS (by rw [decide_eq_true rfl]; exact q)
theorem wq_tupD {ds : List D} (h : ds.length ≤ 100000) (q : Q (.tup ds) ah) : W (gTupD ds ah) Q := wq_when (decide_eq_true (by rw [sl]; omega)) (wq_ret q)
theorem wq_lstD {ds : List D} (h : ds.length ≤ 100000) (q : Q (.lst ds) ah) : W (gLstD ds ah) Q := wq_when (decide_eq_true (by rw [sl]; omega)) (wq_ret q)
theorem wq_ixT {xs : List D} {k : Int} {d : D} (e : L2.atI xs k = some d) (q : Q d ah) : W (gIx (.tup xs) (.int k) ah) Q := wq_lift e q
theorem wq_ixI {is : List Int} {k : Int} (h0 : 0 ≤ k) (h1 : k < (is.length : Int)) (q : ∀ i ∈ is, Q (.int i) ah) : W (gIx (.lst (is.map .int)) (.int k) ah) Q := by
  obtain ⟨j, rfl⟩ := Int.eq_ofNat_of_zero_le h0
  have hk : j < is.length := by omega
  exact wq_lift (L2.atI_nat (by rw [List.getElem?_map, List.getElem?_eq_getElem hk]; rfl)) (q _ (List.getElem_mem hk))
theorem wq_ixM {xs : List D} {k : Int} (h0 : 0 ≤ k) (h1 : k < (xs.length : Int)) (q : ∀ d ∈ xs, Q d ah) : W (gIx (.lst xs) (.int k) ah) Q := by
  obtain ⟨j, rfl⟩ := Int.eq_ofNat_of_zero_le h0
  have hk : j < xs.length := by omega
  exact wq_lift (L2.atI_nat (List.getElem?_eq_getElem hk)) (q _ (List.getElem_mem hk))
theorem wq_ixL {xs : List D} {k : Int} {d : D} (e : L2.atI xs k = some d) (q : Q d ah) : W (gIx (.lst xs) (.int k) ah) Q := wq_lift e q
theorem wq_lenT {xs : List D} (q : Q (.int xs.length) ah) : W (gLen [.tup xs] ah) Q := wq_ret q
theorem wq_lenL {xs : List D} (q : Q (.int xs.length) ah) : W (gLen [.lst xs] ah) Q := wq_ret q
theorem wq_abs {i : Int} (q : Q (.int (i.natAbs : Int)) ah) : W (gAbs [.int i] ah) Q := by
  have : (if i < 0 then -i else i) = (i.natAbs : Int) := by split <;> omega
  exact wq_ret (by rw [this]; exact q)
theorem wq_int {i : Int} (q : Q (.int i) ah) : W (gInt [.int i] ah) Q := wq_ret q
theorem wq_gcd4 {i j k l : Int} (q : Q (.int ((((i.natAbs.gcd j.natAbs).gcd k.natAbs).gcd l.natAbs : Nat) : Int)) ah) : W (gGcd4 [.int i, .int j, .int k, .int l] ah) Q := wq_ret q
theorem wq_gcd {i j : Int} (q : Q (.int (Nat.gcd i.natAbs j.natAbs : Nat)) ah) : W (gGcd [.int i, .int j] ah) Q := wq_ret q
theorem wq_tupT {xs : List D} (q : Q (.tup xs) ah) : W (gTuple [.tup xs] ah) Q := wq_ret q
theorem wq_tupL {xs : List D} (q : Q (.tup xs) ah) : W (gTuple [.lst xs] ah) Q := wq_ret q
theorem wq_lstT {xs : List D} (q : Q (.lst xs) ah) : W (gListOf [.tup xs] ah) Q := wq_ret q
theorem wq_lstL {xs : List D} (q : Q (.lst xs) ah) : W (gListOf [.lst xs] ah) Q := wq_ret q
theorem wq_revL {xs : List D} (q : Q (.lst xs.reverse) ah) : W (gRev (.lst xs) ah) Q := wq_ret q
theorem wq_isN {d : D} (h : ∀ v, d ≠ .oth v) (q : Q (.bl d.isNon) ah) : W (gIsN d .non ah) Q := by
  unfold gIsN
  split
  · rename_i v; exact absurd rfl (h v)
  · exact wq_ret q
theorem wq_notN {d : D} (h : ∀ v, d ≠ .oth v) (q : Q (.bl (!d.isNon)) ah) : W (gNotN d .non ah) Q := by
  unfold gNotN
  split
  · rename_i v; exact absurd rfl (h v)
  · exact wq_ret q
end
/-! statements -/
section
variable {Q : Fl × Lc → AH → Prop}
def KS (h : MS) (Q : Fl × Lc → AH → Prop) : Fl × Lc → AH → Prop := fun x ah => match x.1 with
  | .nx => W (h x.2 ah) Q
  | _ => Q x ah
theorem KS.nx {h : MS} (q : W (h env ah) Q) : KS h Q (.nx, env) ah := q
theorem KS.rt {h : MS} {d : D} (q : Q (.rt d, env) ah) : KS h Q (.rt d, env) ah := q
theorem wq_sPs {g h : MS} (q : W (g env ah) (KS h Q)) : W (sPs g h env ah) Q := wq_bind (q.mono fun x ah' q => by
  obtain ⟨f, e⟩ := x
  cases f with
  | nx => exact q
  | bk => exact wq_ret q
  | ct => exact wq_ret q
  | rt d => exact wq_ret q)
theorem wq_sNx (q : Q (.nx, env) ah) : W (sNx env ah) Q := wq_ret q
theorem wq_sEx {f : Lc → M D} (h : W (f env ah) fun _ ah' => Q (.nx, env) ah') : W (sEx f env ah) Q := wq_bind (h.mono fun _ _ h => wq_ret h)
theorem wq_sRt {f : Lc → M D} (h : W (f env ah) fun d ah' => Q (.rt d, env) ah') : W (sRt f env ah) Q := wq_bind (h.mono fun _ _ h => wq_ret h)
theorem wq_sRtN (h : Q (.rt .non, env) ah) : W (sRtN env ah) Q := wq_ret h
theorem wq_sIf {t : Lc → M Bool} {g h : MS} (q : W (t env ah) (KI g h env Q)) : W (sIf t g h env ah) Q := wq_bind (q.mono fun c _ h => by
  cases c with
  | true => exact h
  | false => exact h)
theorem wq_sSet {i : Nat} {f : Lc → M D} (h : W (f env ah) fun d ah' => Q (.nx, env.set i (some d)) ah') : W (sSet i f env ah) Q := wq_bind (h.mono fun _ _ h => wq_ret h)
theorem wq_sAsg {gt : D → Lc → M Lc} {f : Lc → M D} (h : W (f env ah) fun d ah' => W (gt d env ah') fun env' ah2 => Q (.nx, env') ah2) : W (sAsg gt f env ah) Q := wq_bind (h.mono fun _ _ h => wq_bind (h.mono fun _ _ h => wq_ret h))
theorem wq_sPar2 {i j : Nat} {a b : Lc → M D} (h : W (a env ah) fun u h1 => W (b env h1) fun v h2 => Q (.nx, (env.set i (some u)).set j (some v)) h2) : W (sPar2 i j (esC a (esC b esN)) env ah) Q :=
  wq_bind (wq_esC (h.mono fun _ _ h => wq_esC (h.mono fun _ _ h => wq_esN (wq_ret h))))
theorem wq_sPar3 {i j l : Nat} {a b c : Lc → M D} (h : W (a env ah) fun u h1 => W (b env h1) fun v h2 => W (c env h2) fun w h3 => Q (.nx, ((env.set i (some u)).set j (some v)).set l (some w)) h3) : W (sPar3 i j l (esC a (esC b (esC c esN))) env ah) Q :=
  wq_bind (wq_esC (h.mono fun _ _ h => wq_esC (h.mono fun _ _ h => wq_esC (h.mono fun _ _ h => wq_esN (wq_ret h)))))
theorem wq_sAug {i : Nat} {f : Int → Int → Int} {k : Lc → M D} (h : W (eV i env ah) fun x h1 => W (k env h1) fun y h2 => ∃ a b, x = .int a ∧ y = .int b ∧ Q (.nx, env.set i (some (.int (f a b)))) h2) : W (sAug i (gIp f) k env ah) Q :=
  wq_bind (h.mono fun _ _ h => wq_bind (h.mono fun _ _ h => by
    obtain ⟨a, b, rfl, rfl, h⟩ := h
    exact wq_bind (wq_ret (wq_ret h))))
/-! targets -/
theorem wq_gN {Q : Lc → AH → Prop} {i : Nat} {d : D} (q : Q (env.set i (some d)) ah) : W (gN i d env ah) Q := wq_ret q
theorem wq_gsN {Q : Lc → AH → Prop} (q : Q env ah) : W (gsN [] env ah) Q := wq_ret q
theorem wq_gsC {Q : Lc → AH → Prop} {g : D → Lc → M Lc} {r : List D → Lc → M Lc} {d : D} {ds : List D} (q : W (g d env ah) fun env' ah' => W (r ds env' ah') Q) : W (gsC g r (d :: ds) env ah) Q := wq_bind q
theorem wq_gT {Q : Lc → AH → Prop} {n : Nat} {r : List D → Lc → M Lc} {ds : List D} (h : ds.length = n) (q : W (r ds env ah) Q) : W (gT n r (.tup ds) env ah) Q := wq_when (decide_eq_true h) q
theorem wq_gLs {Q : Lc → AH → Prop} {n : Nat} {r : List D → Lc → M Lc} {ds : List D} (h : ds.length = n) (q : W (r ds env ah) Q) : W (gLs n r (.lst ds) env ah) Q := wq_when (decide_eq_true h) q
/-! calls of defs -/
theorem wq_def0 {tot : Nat} {g : MS} {ds : List D} {Q : D → AH → Prop} (h : W (g (ds.map some ++ List.replicate (tot - ds.length) none) ah) fun x ah' => match x.1 with | .rt d => Q d ah' | .nx => Q .non ah' | _ => False) : W (def0 tot g ds ah) Q := by
  obtain ⟨⟨f, e⟩, ah', e1, q⟩ := h
  cases f with
  | rt d => exact ⟨d, ah', by unfold Mi.def0; rw [e1], q⟩
  | nx => exact ⟨.non, ah', by unfold Mi.def0; rw [e1], q⟩
  | bk => exact False.elim q
  | ct => exact False.elim q
/-! walks -/
theorem wq_iOf {Q : List D → AH → Prop} {h : D → M (List D)} {f : Lc → M D} (q : W (f env ah) fun d ah' => W (h d ah') Q) : W (iOf h f env ah) Q := wq_bind q
theorem wq_iOfs {Q : List D → AH → Prop} {h : List D → M (List D)} {f : Lc → M (List D)} (q : W (f env ah) fun d ah' => W (h d ah') Q) : W (iOfs h f env ah) Q := wq_bind q
theorem wq_itL {Q : List D → AH → Prop} {xs : List D} (q : Q xs ah) : W (itD (.lst xs) ah) Q := wq_ret q
theorem wq_itT {Q : List D → AH → Prop} {xs : List D} (q : Q xs ah) : W (itT (.tup xs) ah) Q := wq_ret q
theorem wq_itAL {Q : List D → AH → Prop} {xs : List D} (q : Q xs ah) : W (itA (.lst xs) ah) Q := wq_ret q
theorem wq_itAT {Q : List D → AH → Prop} {xs : List D} (q : Q xs ah) : W (itA (.tup xs) ah) Q := wq_ret q
theorem wq_itR1 {Q : List D → AH → Prop} {j : Int} (h : okRng j = true) (q : Q (rng 0 j.toNat) ah) : W (itR1 [.int j] ah) Q := wq_when h (wq_ret q)
theorem wq_itR2 {Q : List D → AH → Prop} {i j : Int} (h : (okRng i && okRng j) = true) (q : Q (rng i (j - i).toNat) ah) : W (itR2 [.int i, .int j] ah) Q := wq_when h (wq_ret q)
theorem wq_sFo {it : Lc → M (List D)} {gt : D → Lc → M Lc} {b : MS} (q : W (it env ah) fun ds ah' => W (fo gt b ds env ah') Q) : W (sFo it gt b env ah) Q := wq_bind q
theorem wq_fo_nil {gt : D → Lc → M Lc} {b : MS} (q : Q (.nx, env) ah) : W (fo gt b [] env ah) Q := wq_ret q
def KF (gt : D → Lc → M Lc) (b : MS) (ds : List D) (Q : Fl × Lc → AH → Prop) : Fl × Lc → AH → Prop := fun x ah => match x.1 with
  | .nx => W (fo gt b ds x.2 ah) Q
  | .ct => W (fo gt b ds x.2 ah) Q
  | .bk => Q (.nx, x.2) ah
  | .rt d => Q (.rt d, x.2) ah
theorem wq_fo_cons {gt : D → Lc → M Lc} {b : MS} {d : D} {ds : List D} (q : W (gt d env ah) fun env1 ah1 => W (b env1 ah1) (KF gt b ds Q)) : W (fo gt b (d :: ds) env ah) Q :=
  wq_bind (q.mono fun env1 ah1 q => wq_bind (q.mono fun x ah2 q => by
    obtain ⟨f, e⟩ := x
    cases f with
    | nx => exact q
    | ct => exact q
    | bk => exact wq_ret q
    | rt d => exact wq_ret q))
theorem KF.nx {gt : D → Lc → M Lc} {b : MS} {ds : List D} (q : W (fo gt b ds env ah) Q) : KF gt b ds Q (.nx, env) ah := q
theorem KF.rt {gt : D → Lc → M Lc} {b : MS} {ds : List D} {d : D} (q : Q (.rt d, env) ah) : KF gt b ds Q (.rt d, env) ah := q
/-- a walk that keeps something -/
theorem wq_fo_inv {gt : D → Lc → M Lc} {b : MS} (I : Lc → AH → Prop) : ∀ (ds : List D) {env : Lc} {ah : AH}, I env ah → (∀ d ∈ ds, ∀ env ah, I env ah → W (gt d env ah) fun env1 ah1 => W (b env1 ah1) fun x ah2 => x.1 = .nx ∧ I x.2 ah2) → (∀ env ah, I env ah → Q (.nx, env) ah) → W (fo gt b ds env ah) Q
  | [], env, ah, h, _, f => wq_fo_nil (f _ _ h)
  | d :: ds, env, ah, h, st, f => wq_fo_cons ((st d (List.mem_cons_self ..) env ah h).mono fun env1 ah1 q => q.mono fun x ah2 q => by
    obtain ⟨fl, e⟩ := x
    obtain ⟨q1, q2⟩ := q
    have q1 : fl = .nx := q1
    subst q1
    exact KF.nx (wq_fo_inv I ds q2 (fun d hd => st d (List.mem_cons_of_mem _ hd)) f))
end
/-- a walk that keeps something, counted -/
theorem wq_fo_ix {Q : Fl × Lc → AH → Prop} {gt : D → Lc → M Lc} {b : MS} (I : Nat → Lc → AH → Prop) : ∀ (ds : List D) {i : Nat} {env : Lc} {ah : AH}, I i env ah → (∀ j d env ah, d ∈ ds → i ≤ j → j < i + ds.length → I j env ah → W (gt d env ah) fun env1 ah1 => W (b env1 ah1) fun x ah2 => x.1 = .nx ∧ I (j + 1) x.2 ah2) → (∀ env ah, I (i + ds.length) env ah → Q (.nx, env) ah) → W (fo gt b ds env ah) Q
  | [], i, env, ah, h, _, f => wq_fo_nil (f _ _ h)
  | d :: ds, i, env, ah, h, st, f => wq_fo_cons ((st i d env ah (List.mem_cons_self ..) (Nat.le_refl _) (by rw [List.length_cons]; omega) h).mono fun env1 ah1 q => q.mono fun x ah2 q => by
    obtain ⟨fl, e⟩ := x
    obtain ⟨q1, q2⟩ := q
    have q1 : fl = .nx := q1
    subst q1
    exact KF.nx (wq_fo_ix I ds q2 (fun j d env ah hd h1 h2 => st j d env ah (List.mem_cons_of_mem _ hd) (by omega) (by rw [List.length_cons]; omega)) fun env ah hi => f env ah (by rw [List.length_cons, Nat.add_comm ds.length 1, ← Nat.add_assoc]; exact hi)))
/-! while -/
def KW (c : Lc → M Bool) (b : MS) (n : Nat) (env : Lc) (Q : Fl × Lc → AH → Prop) : Bool → AH → Prop := fun t ah => if t = true then W (b env ah) (fun x ah' => match x.1 with
  | .nx => W (wh c b n x.2 ah') Q
  | .ct => W (wh c b n x.2 ah') Q
  | .bk => Q (.nx, x.2) ah'
  | .rt d => Q (.rt d, x.2) ah') else Q (.nx, env) ah
theorem wq_wh {Q : Fl × Lc → AH → Prop} {env : Lc} {ah : AH} {c : Lc → M Bool} {b : MS} {n : Nat} (h : W (c env ah) (KW c b n env Q)) : W (wh c b (n + 1) env ah) Q :=
  wq_bind (h.mono fun t ah1 h => by
    cases t with
    | false => exact wq_ret h
    | true => exact wq_bind (W.mono (show W (b env ah1) _ from h) fun x ah2 q => by
        obtain ⟨f, e⟩ := x
        cases f with
        | nx => exact q
        | ct => exact q
        | bk => exact wq_ret q
        | rt d => exact wq_ret q))
theorem KW.go {Q : Fl × Lc → AH → Prop} {env : Lc} {ah : AH} {c : Lc → M Bool} {b : MS} {n : Nat} {t : Bool} (ht : t = true) (h : W (b env ah) fun x ah' => x.1 = .nx ∧ W (wh c b n x.2 ah') Q) : KW c b n env Q t ah := by
  subst ht
  refine W.mono h fun x ah' q => ?_
  obtain ⟨f, e⟩ := x
  obtain ⟨q1, q2⟩ := q
  have q1 : f = .nx := q1
  subst q1
  exact q2
theorem KW.stop {Q : Fl × Lc → AH → Prop} {env : Lc} {ah : AH} {c : Lc → M Bool} {b : MS} {n : Nat} {t : Bool} (ht : t = false) (h : Q (.nx, env) ah) : KW c b n env Q t ah := by
  subst ht
  exact h
/-! a list on the heap -/
theorem src_get (q : Q) (rest : AH) (o : Option AO) : (SRC q (rest ++ [o]))[rest.length + 2]? = some o := by
  show (rest ++ [o])[rest.length]? = some o
  rw [List.getElem?_append_right (Nat.le_refl _), Nat.sub_self]
  rfl
theorem src_set (q : Q) (rest : AH) (o o' : Option AO) : (SRC q (rest ++ [o])).set (rest.length + 2) o' = SRC q (rest ++ [o']) := by
  show _ :: _ :: (rest ++ [o]).set rest.length o' = _
  rw [List.set_append_right _ _ (Nat.le_refl _), Nat.sub_self]
  rfl
theorem wq_lstN {Q : D → AH → Prop} {q : Mi.Q} {rest : AH} {ds : List D} (h : ds.length ≤ 100000) (k : Q (.ref (rest.length + 2)) (SRC q (rest ++ [some (.lst ds)]))) : W (gLstN ds (SRC q rest)) Q :=
  wq_when (decide_eq_true (by rw [sl]; omega)) ⟨_, _, rfl, k⟩
theorem wq_eApp {Q : D → AH → Prop} {env : Lc} {fo fe : Lc → M D} {q : Mi.Q} {rest : AH} {xs : List D} (e : fo env (SRC q (rest ++ [some (.lst xs)])) = .ok (.ref (rest.length + 2)) (SRC q (rest ++ [some (.lst xs)]))) (hl : xs.length ≤ 100000)
    (h : W (fe env (SRC q (rest ++ [some (.lst xs)]))) fun y ah => ∃ q', ah = SRC q' (rest ++ [some (.lst xs)]) ∧ Q .non (SRC q' (rest ++ [some (.lst (xs ++ [y]))]))) : W (eApp fo fe env (SRC q (rest ++ [some (.lst xs)]))) Q := by
  refine wq_bind (wq_eq e (wq_bind (wq_eq (a := ()) (ah' := SRC q (rest ++ [some (.lst xs)])) ?_ (wq_bind (h.mono fun y ah ⟨q', e', k⟩ => ?_)))))
  · show (M.andThen (getO _) _) _ = _
    simp only [M.andThen, getO, src_get, getL, M.lift, M.ret]
  · subst e'
    show W ((M.andThen (getO _) _) _) Q
    refine ⟨_, SRC q' (rest ++ [some (.lst (xs ++ [y]))]), ?_, k⟩
    have c : decide (xs.length < sizeLine) = true := decide_eq_true (by rw [sl]; omega)
    simp only [M.andThen, getO, src_get, getL, M.lift, M.ret, M.when, c, if_true, putO, src_set]
theorem wq_fix {Q : D → AH → Prop} {q : Mi.Q} {rest : AH} {xs : List D} (k : Q (.lst xs) (SRC q (rest ++ [none]))) : W (fixD (.ref (rest.length + 2)) (SRC q (rest ++ [some (.lst xs)]))) Q := by
  refine ⟨.lst xs, SRC q (rest ++ [none]), ?_, k⟩
  unfold fixD
  simp only [src_get, src_set]
/-! comprehensions -/
inductive All2 {α β : Type} (P : α → β → Prop) : List α → List β → Prop
  | nil : All2 P [] []
  | cons {a : α} {b : β} {as : List α} {bs : List β} : P a b → All2 P as bs → All2 P (a :: as) (b :: bs)
theorem wq_eLc {Q : D → AH → Prop} {it : Lc → M (List D)} {go : D → Lc → Option Lc} {tt : Lc → M Bool} {el : Lc → M D} {vs : List Nat} (h : W (it env ah) fun ds ah1 => ds.length ≤ 100000 ∧ W (lc go tt el vs env ds ah1) fun ys ah2 => Q (.lst ys) ah2) : W (eLc it go tt el vs env ah) Q :=
  wq_bind (h.mono fun ds ah1 h => wq_when (decide_eq_true (by have := h.1; rw [sl]; omega)) (wq_bind (by
    obtain ⟨ys, ah2, e, q⟩ := h.2
    exact ⟨ys, ah2, by unfold hush; rw [e], wq_ret q⟩)))
section
variable {Q : List D → AH → Prop} {go : D → Lc → Option Lc} {tt : Lc → M Bool} {el : Lc → M D} {vs : List Nat}
theorem wq_lc_nil (q : Q [] ah) : W (lc go tt el vs env [] ah) Q := wq_ret q
theorem wq_lc_cons {d : D} {ds : List D} {env1 : Lc} (e : go d (wipeE env vs) = some env1) (q : W (el env1 ah) fun y ah1 => W (lc go tYs el vs env ds ah1) fun ys ah2 => Q (y :: ys) ah2) : W (lc go tYs el vs env (d :: ds) ah) Q :=
  wq_bind (wq_lift e (wq_bind (wq_ret (wq_bind (q.mono fun y ah1 q => wq_bind (q.mono fun ys ah2 q => wq_ret q))))))
/-- each thing gives another one, all else stays -/
theorem wq_lc_map (F : D → D) : ∀ (ds : List D) {Q : List D → AH → Prop}, (∀ d ∈ ds, ∃ env1, go d (wipeE env vs) = some env1 ∧ el env1 ah = .ok (F d) ah) → Q (ds.map F) ah → W (lc go tYs el vs env ds ah) Q
  | [], Q, _, q => wq_ret q
  | d :: ds, Q, h, q => by
    obtain ⟨env1, e1, e2⟩ := h d (List.mem_cons_self ..)
    exact wq_lc_cons e1 (wq_eq e2 (wq_lc_map F ds (fun d hd => h d (List.mem_cons_of_mem _ hd)) q))
/-- each thing gives one that is as told, and something stays -/
theorem wq_lc_rel (P : D → D → Prop) (I : AH → Prop) : ∀ (ds : List D) {ah : AH} {Q : List D → AH → Prop}, I ah → (∀ d ∈ ds, ∀ ah, I ah → ∃ env1, go d (wipeE env vs) = some env1 ∧ W (el env1 ah) fun y ah1 => P d y ∧ I ah1) → (∀ ys ah, All2 P ds ys → I ah → Q ys ah) → W (lc go tYs el vs env ds ah) Q
  | [], ah, Q, hi, _, q => wq_ret (q _ _ .nil hi)
  | d :: ds, ah, Q, hi, h, q => by
    obtain ⟨env1, e1, e2⟩ := h d (List.mem_cons_self ..) ah hi
    refine wq_lc_cons e1 (e2.mono fun y ah1 ⟨p, i⟩ => ?_)
    exact wq_lc_rel P I ds i (fun d hd => h d (List.mem_cons_of_mem _ hd)) fun ys ah' f i' => q _ _ (.cons p f) i'
end
end
theorem wq_lc_maps {go : D → Lc → Option Lc} {el : Lc → M D} {vs : List Nat} {env : Lc} {ah : AH} {τ : Type} (f F : τ → D) : ∀ (ts : List τ) {Q : List D → AH → Prop}, (∀ t ∈ ts, ∃ env1, go (f t) (wipeE env vs) = some env1 ∧ W (el env1 ah) fun d ah' => d = F t ∧ ah' = ah) → Q (ts.map F) ah → W (lc go tYs el vs env (ts.map f) ah) Q
  | [], Q, _, q => wq_ret q
  | t :: ts, Q, h, q => by
    obtain ⟨env1, e1, e2⟩ := h t (List.mem_cons_self ..)
    refine wq_lc_cons e1 (e2.mono fun d ah' ⟨a, b⟩ => ?_)
    subst a; subst b
    exact wq_lc_maps f F ts (fun t ht => h t (List.mem_cons_of_mem _ ht)) q
theorem allBl_map {τ : Type} (f : τ → Bool) : ∀ ts : List τ, allBl (ts.map fun t => .bl (f t)) = some (ts.all f)
  | [] => rfl
  | t :: ts => by
    show (allBl (ts.map fun t => D.bl (f t))).map (f t && ·) = _
    rw [allBl_map f ts]; rfl
theorem wq_all {τ : Type} {f : τ → Bool} {ts : List τ} {ah : AH} {Q : D → AH → Prop} (q : Q (.bl (ts.all f)) ah) : W (gAll [.lst (ts.map fun t => .bl (f t))] ah) Q :=
  wq_bind (wq_lift (allBl_map f ts) (wq_ret q))
theorem wq_neB {a b : Bool} {ah : AH} {Q : D → AH → Prop} (q : Q (.bl (!(a == b))) ah) : W (gNe (.bl a) (.bl b) ah) Q := ⟨_, _, rfl, q⟩
theorem wq_eqB {a b : Bool} {ah : AH} {Q : D → AH → Prop} (q : Q (.bl (a == b)) ah) : W (gEq (.bl a) (.bl b) ah) Q := ⟨_, _, rfl, q⟩
theorem cut_take (xs : List D) (k : Nat) : cutD xs none (some (k : Int)) = xs.take k := by
  unfold cutD
  rw [HT.sIx_none, HT.sIx_nat, List.drop_zero, Nat.sub_zero]
  by_cases h : k ≤ xs.length
  · rw [Nat.min_eq_left h]
  · rw [Nat.min_eq_right (by omega), List.take_length, List.take_of_length_le (by omega)]
theorem cut_drop (xs : List D) (k : Nat) : cutD xs (some (k : Int)) none = xs.drop k := by
  unfold cutD
  rw [HT.sIx_none, HT.sIx_nat]
  by_cases h : k ≤ xs.length
  · rw [Nat.min_eq_left h]
    exact List.take_of_length_le (by rw [List.length_drop]; omega)
  · rw [Nat.min_eq_right (by omega), List.drop_of_length_le (Nat.le_refl _), List.drop_of_length_le (by omega), List.take_nil]
/-- a run of a def, as an equation -/
theorem wq_get {α : Type} {r : R α} {a : α} {ah : AH} (h : W r fun b ah' => b = a ∧ ah' = ah) : r = .ok a ah := by
  obtain ⟨b, ah', e, rfl, rfl⟩ := h
  exact e
theorem le5 {n : Nat} (h : n.ble 100000 = true) : n ≤ 100000 := Nat.le_of_ble_eq_true h
end Mi
set_option Elab.async false
set_option linter.all false
set_option maxRecDepth 100000
set_option maxHeartbeats 400000
set_option exponentiation.threshold 30000
namespace Mi
open PySem PySem.Spec PyProof.Rows L2
/-! ## data that equal themselves -/
mutual
def D.pla : D → Bool
  | .non => true
  | .bl _ => true
  | .int _ => true
  | .tup xs => D.plas xs
  | .lst xs => D.plas xs
  | _ => false
def D.plas : List D → Bool
  | [] => true
  | x :: xs => D.pla x && D.plas xs
end
mutual
theorem D.pla_ok : ∀ d : D, d.pla = true → d.flat = true ∧ d.p.canLay0 = true
  | .non, _ => ⟨rfl, rfl⟩
  | .bl _, _ => ⟨rfl, rfl⟩
  | .int _, _ => ⟨rfl, rfl⟩
  | .tup xs, h => by
    have := D.plas_ok xs h
    exact ⟨this.1, this.2⟩
  | .lst xs, h => by
    have := D.plas_ok xs h
    exact ⟨this.1, this.2⟩
theorem D.plas_ok : ∀ ds : List D, D.plas ds = true → D.flats ds = true ∧ PyData.canLayAll0 (D.ps ds) = true
  | [], _ => ⟨rfl, rfl⟩
  | x :: xs, h => by
    have h : (D.pla x && D.plas xs) = true := h
    have h := Bool.and_eq_true_iff.mp h
    have a := D.pla_ok x h.1
    have b := D.plas_ok xs h.2
    constructor
    · show (D.flat x && D.flats xs) = true
      rw [a.1, b.1]; rfl
    · show (PyData.canLay0 x.p && PyData.canLayAll0 (D.ps xs)) = true
      rw [a.2, b.2]; rfl
end
theorem okEq_pla {x y : D} (hx : x.pla = true) (hy : y.pla = true) (dx : x.dpt ≤ 60) (dy : y.dpt ≤ 60) : okEq x y = true := by
  have a := D.pla_ok x hx
  have b := D.pla_ok y hy
  have c := D.dpt_ok x
  have d := D.dpt_ok y
  unfold okEq
  rw [a.1, b.1]
  unfold SeqAt.shaped
  rw [a.2, b.2, decide_eq_true (show x.p.depth ≤ 64 by omega), decide_eq_true (show y.p.depth ≤ 64 by omega)]
  rfl
theorem ne_self {d : D} (h : d.pla = true) (hd : d.dpt ≤ 60) (ah : AH) : gNe d d ah = .ok (.bl false) ah := by
  have e : PyData.eqv d.p d.p = true := PySem.SeqAt.eqv_refl d.p (D.pla_ok d h).2
  have o := okEq_pla h h hd hd
  unfold gNe
  split
  · simp [M.ret]
  · simp [M.ret]
  · rw [o, e]; rfl
theorem eq_self' {d : D} (h : d.pla = true) (hd : d.dpt ≤ 60) (ah : AH) : gEq d d ah = .ok (.bl true) ah := by
  have e : PyData.eqv d.p d.p = true := PySem.SeqAt.eqv_refl d.p (D.pla_ok d h).2
  have o := okEq_pla h h hd hd
  unfold gEq
  split
  · simp [M.ret]
  · simp [M.ret]
  · split
    · rename_i z; exact absurd rfl z
    · rw [o, e]; rfl
  · rw [o, e]; rfl
theorem wq_eqSelf {d d' : D} (hh : d = d') (h : d.pla = true) (hd : d.dpt ≤ 60) {ah : AH} {K : D → AH → Prop} (k : K (.bl true) ah) : W (gEq d d' ah) K := by
  subst hh
  exact wq_eq (eq_self' h hd ah) k
theorem wq_neSelf {d d' : D} (hh : d = d') (h : d.pla = true) (hd : d.dpt ≤ 60) {ah : AH} {K : D → AH → Prop} (k : K (.bl false) ah) : W (gNe d d' ah) K := by
  subst hh
  exact wq_eq (ne_self h hd ah) k
theorem eq_fr (x y : Int × Int) (ah : AH) : gEq (fr x) (fr y) ah = .ok (.bl (decide (x = y))) ah := by
  have e : PyData.eqv (fr x).p (fr y).p = decide (x = y) := by
    show ((x.1 == y.1) && ((x.2 == y.2) && true)) = decide (x = y)
    obtain ⟨a, b⟩ := x
    obtain ⟨c, d⟩ := y
    simp only [Bool.and_true, Prod.mk.injEq, Bool.decide_and]
    have : ∀ i j : Int, (i == j) = decide (i = j) := fun i j => rfl
    rw [this, this]
  show M.when (okEq (fr x) (fr y)) (M.ret (D.bl (PyData.eqv (fr x).p (fr y).p))) ah = _
  rw [e]
  rfl
theorem ne_fr (x y : Int × Int) (ah : AH) : gNe (fr x) (fr y) ah = .ok (.bl (!decide (x = y))) ah := by
  have e : PyData.eqv (fr x).p (fr y).p = decide (x = y) := by
    show ((x.1 == y.1) && ((x.2 == y.2) && true)) = decide (x = y)
    obtain ⟨a, b⟩ := x
    obtain ⟨c, d⟩ := y
    simp only [Bool.and_true, Prod.mk.injEq, Bool.decide_and]
    have : ∀ i j : Int, (i == j) = decide (i = j) := fun i j => rfl
    rw [this, this]
  show M.when (okEq (fr x) (fr y)) (M.ret (D.bl (!PyData.eqv (fr x).p (fr y).p))) ah = _
  rw [e]
  rfl
theorem wq_eqF {x y : Int × Int} {ah : AH} {K : D → AH → Prop} (k : K (.bl (decide (x = y))) ah) : W (gEq (fr x) (fr y) ah) K := wq_eq (eq_fr x y ah) k
theorem wq_neF2 {x y : Int × Int} {ah : AH} {K : D → AH → Prop} (k : K (.bl (!decide (x = y))) ah) : W (gNe (fr x) (fr y) ah) K := wq_eq (ne_fr x y ah) k
/-! lists of pairs -/
theorem frs_pla : ∀ xs : List (Int × Int), D.plas (xs.map fr) = true
  | [] => rfl
  | x :: xs => by show (true && D.plas (xs.map fr)) = true; rw [frs_pla xs]; rfl
theorem frs_dpt : ∀ xs : List (Int × Int), D.dpts (xs.map fr) ≤ 1
  | [] => Nat.zero_le _
  | x :: xs => by
    have := frs_dpt xs
    show max 1 (D.dpts (xs.map fr)) ≤ 1
    omega
theorem frs_sm {k : Nat} (hk : k ≤ 199) : ∀ xs : List (Int × Int), (∀ x ∈ xs, B k x.1 ∧ B k x.2) → D.sms (xs.map fr) = true
  | [], _ => rfl
  | x :: xs, h => by
    show ((decide (x.1.natAbs < 2 ^ 200) && (decide (x.2.natAbs < 2 ^ 200) && true)) && D.sms (xs.map fr)) = true
    have hx := h x (List.mem_cons_self ..)
    have e : ∀ {m : Int}, B k m → decide (m.natAbs < 2 ^ 200) = true := fun h => decide_eq_true (h.mono (by omega))
    rw [e hx.1, e hx.2, frs_sm hk xs fun y hy => h y (List.mem_cons_of_mem _ hy)]; rfl
theorem frs_wt : ∀ xs : List (Int × Int), D.wts (xs.map fr) = 403 * xs.length
  | [] => rfl
  | x :: xs => by
    show 402 + 1 + D.wts (xs.map fr) = _
    rw [frs_wt xs, List.length_cons]; omega
theorem shw_frs {k : Nat} (hk : k ≤ 199) {xs : List (Int × Int)} (hl : xs.length ≤ 30) (h : ∀ x ∈ xs, B k x.1 ∧ B k x.2) : Shw (.lst (xs.map fr)) where
  f := by
    show (D.flats (xs.map fr) || false) = true
    rw [(D.plas_ok _ (frs_pla xs)).1]; rfl
  s := frs_sm hk xs h
  w := decide_eq_true (by show D.wts (xs.map fr) ≤ 16000; rw [frs_wt]; omega)
  t := decide_eq_true (by show D.dpts (xs.map fr) + 1 ≤ 60; have := frs_dpt xs; omega)
theorem bls_pla (xs : List Bool) : D.plas (xs.map D.bl) = true := by
  induction xs with
  | nil => rfl
  | cons x xs ih => show (true && D.plas (xs.map D.bl)) = true; rw [ih]; rfl
theorem bls_dpt (xs : List Bool) : D.dpts (xs.map D.bl) = 0 := by
  induction xs with
  | nil => rfl
  | cons x xs ih => show max 0 (D.dpts (xs.map D.bl)) = 0; rw [ih]; rfl
/-- raising defs -/
theorem wq_defM {tot : Nat} {g : MS} {ds : List D} {ah : AH} {Q : D → AH → Prop} (h : W (g (ds.map some ++ List.replicate (tot - ds.length) none) ah) fun x ah' => match x.1 with | .rt d => Q d ah' | .nx => Q .non ah' | _ => False) : W (defM tot g ds ah) Q := by
  obtain ⟨⟨f, e⟩, ah', e1, q⟩ := h
  cases f with
  | rt d => exact ⟨d, ah', by unfold Mi.defM; rw [e1], q⟩
  | nx => exact ⟨.non, ah', by unfold Mi.defM; rw [e1], q⟩
  | bk => exact False.elim q
  | ct => exact False.elim q
theorem wq_eCallS {n : Nat} {m : List D → M D} {f : Lc → M D} {env : Lc} {ah : AH} {Q : D → AH → Prop} (h : W (f env ah) fun d ah1 => ∃ xs, d = .tup xs ∧ xs.length = n ∧ W (m xs ah1) Q) : W (eCallS n m f env ah) Q := by
  refine wq_bind (h.mono fun d ah1 h => ?_)
  obtain ⟨xs, rfl, hl, a, ah2, e, q⟩ := h
  exact wq_when (decide_eq_true hl) ⟨a, ah2, by simp only [e], q⟩
/-- what is an int, a tuple -/
theorem isi_int (i : Int) (ah : AH) : gIsi [.int i, .oth (.ty "int")] ah = .ok (.bl true) ah := by
  have : kitB "int" "int" = some true := by decide +kernel
  show (match (some "int").bind fun t => kitB t "int" with | some b => R.ok (D.bl b) ah | none => R.no) = _
  rw [Option.bind_some, this]
theorem isi_bool (i : Int) (ah : AH) : gIsi [.int i, .oth (.ty "bool")] ah = .ok (.bl false) ah := by
  have : kitB "int" "bool" = some false := by decide +kernel
  show (match (some "int").bind fun t => kitB t "bool" with | some b => R.ok (D.bl b) ah | none => R.no) = _
  rw [Option.bind_some, this]
theorem isi_tup (xs : List D) (ah : AH) : gIsi [.tup xs, .oth (.ty "tuple")] ah = .ok (.bl true) ah := by
  have : kitB "tuple" "tuple" = some true := by decide +kernel
  show (match (some "tuple").bind fun t => kitB t "tuple" with | some b => R.ok (D.bl b) ah | none => R.no) = _
  rw [Option.bind_some, this]
theorem wq_isiI {i : Int} {ah : AH} {K : D → AH → Prop} (k : K (.bl true) ah) : W (gIsi [.int i, .oth (.ty "int")] ah) K := wq_eq (isi_int i ah) k
theorem wq_isiB {i : Int} {ah : AH} {K : D → AH → Prop} (k : K (.bl false) ah) : W (gIsi [.int i, .oth (.ty "bool")] ah) K := wq_eq (isi_bool i ah) k
theorem wq_isiT {xs : List D} {ah : AH} {K : D → AH → Prop} (k : K (.bl true) ah) : W (gIsi [.tup xs, .oth (.ty "tuple")] ah) K := wq_eq (isi_tup xs ah) k
theorem wq_fr0 {x : Int × Int} {ah : AH} {K : D → AH → Prop} (k : K (.int x.1) ah) : W (gIx (fr x) (.int 0) ah) K := wq_ixT (xs := [.int x.1, .int x.2]) rfl k
theorem wq_fr1 {x : Int × Int} {ah : AH} {K : D → AH → Prop} (k : K (.int x.2) ah) : W (gIx (fr x) (.int 1) ah) K := wq_ixT (xs := [.int x.1, .int x.2]) rfl k
theorem wq_addN {Q : D → AH → Prop} {q : Mi.Q} {rest : AH} {xs ys : List D} (h : xs.length + ys.length ≤ 100000) (k : Q (.ref (rest.length + 2)) (SRC q (rest ++ [some (.lst (xs ++ ys))]))) : W (gAddN (.lst xs) (.lst ys) (SRC q rest)) Q :=
  wq_when (decide_eq_true (by rw [sl]; omega)) ⟨_, _, rfl, k⟩
theorem wq_fixV {i : Nat} {Q : Fl × Lc → AH → Prop} {env : Lc} {q : Mi.Q} {rest : AH} {xs : List D} (e : env[i]?.join = some (.ref (rest.length + 2))) (k : Q (.nx, env.set i (some (.lst xs))) (SRC q (rest ++ [none]))) : W (sFixV i env (SRC q (rest ++ [some (.lst xs)]))) Q :=
  wq_bind (wq_eV e (wq_bind (wq_fix (wq_ret k))))
theorem atI_last {α : Type} (xs : List α) (x : α) : L2.atI (xs ++ [x]) (-1) = some x := by
  have e : L2.ixN (xs ++ [x]).length (-1) = some xs.length := by
    unfold L2.ixN
    rw [if_neg (by decide), List.length_append, List.length_singleton]
    simp
    omega
  unfold L2.atI
  rw [e]
  show (xs ++ [x])[xs.length]? = some x
  rw [List.getElem?_append_right (Nat.le_refl _), Nat.sub_self]
  rfl
theorem nest_pla {τ σ : Type} (f : τ → σ → Bool) (ys : List σ) : ∀ xs : List τ, D.plas (xs.map fun x => .lst (ys.map fun y => .bl (f x y))) = true
  | [] => rfl
  | x :: xs => by
    show (D.plas (ys.map fun y => .bl (f x y)) && D.plas (xs.map fun x => .lst (ys.map fun y => .bl (f x y)))) = true
    rw [nest_pla f ys xs]
    have := bls_pla (ys.map (f x))
    rw [List.map_map] at this
    rw [show (ys.map fun y => D.bl (f x y)) = ys.map (D.bl ∘ f x) from rfl, this]; rfl
theorem nest_dpt {τ σ : Type} (f : τ → σ → Bool) (ys : List σ) : ∀ xs : List τ, D.dpts (xs.map fun x => .lst (ys.map fun y => .bl (f x y))) ≤ 1
  | [] => Nat.zero_le _
  | x :: xs => by
    have h := nest_dpt f ys xs
    have := bls_dpt (ys.map (f x))
    rw [List.map_map] at this
    show max (D.dpts (ys.map fun y => .bl (f x y)) + 1) (D.dpts (xs.map fun x => .lst (ys.map fun y => .bl (f x y)))) ≤ 1
    rw [show (ys.map fun y => D.bl (f x y)) = ys.map (D.bl ∘ f x) from rfl, this]
    omega
theorem wq_shw {d : D} (s : Shw d) {ah : AH} {K : D → AH → Prop} (h : K (.str d.p.shown) ah) : W (gRepr [d] ah) K := wq_eq (s.at ah) h
end Mi
set_option Elab.async false
set_option linter.all false
set_option maxRecDepth 100000
set_option maxHeartbeats 400000
set_option exponentiation.threshold 30000
namespace Mi
/-! # tables of four integers, but for a common factor -/
structure T4 where
  a : Int
  b : Int
  c : Int
  d : Int
namespace T4
@[ext] theorem ext' {x y : T4} (h1 : x.a = y.a) (h2 : x.b = y.b) (h3 : x.c = y.c) (h4 : x.d = y.d) : x = y := by
  cases x; cases y; cases h1; cases h2; cases h3; cases h4; rfl
def det (x : T4) : Int := x.a * x.d - x.b * x.c
def tr (x : T4) : Int := x.a + x.d
def mul (x y : T4) : T4 := ⟨x.a * y.a + x.b * y.c, x.a * y.b + x.b * y.d, x.c * y.a + x.d * y.c, x.c * y.b + x.d * y.d⟩
def adj (x : T4) : T4 := ⟨x.d, -x.b, -x.c, x.a⟩
def sc (k : Int) (x : T4) : T4 := ⟨k * x.a, k * x.b, k * x.c, k * x.d⟩
def one : T4 := ⟨1, 0, 0, 1⟩
def g4 (x : T4) : Nat := ((x.a.natAbs.gcd x.b.natAbs).gcd x.c.natAbs).gcd x.d.natAbs
def neg (x : T4) : Bool := decide (x.a < 0) || (decide (x.a = 0) && decide (x.b < 0))
/-- the divisor that scaled takes -/
def dv (x : T4) : Int := if x.neg = true then -(x.g4 : Int) else (x.g4 : Int)
def nm (x : T4) : T4 := ⟨x.a.fdiv x.dv, x.b.fdiv x.dv, x.c.fdiv x.dv, x.d.fdiv x.dv⟩
def nz (x : T4) : Prop := ¬ (x.a = 0 ∧ x.b = 0 ∧ x.c = 0 ∧ x.d = 0)
theorem nz_of_det {x : T4} (h : x.det ≠ 0) : x.nz := fun ⟨h1, h2, h3, h4⟩ => h (by unfold det; rw [h1, h2]; omega)
theorem g4_dvd (x : T4) : (x.g4 : Int) ∣ x.a ∧ (x.g4 : Int) ∣ x.b ∧ (x.g4 : Int) ∣ x.c ∧ (x.g4 : Int) ∣ x.d := by
  have h1 : x.g4 ∣ (x.a.natAbs.gcd x.b.natAbs).gcd x.c.natAbs := Nat.gcd_dvd_left _ _
  have h2 : (x.a.natAbs.gcd x.b.natAbs).gcd x.c.natAbs ∣ x.a.natAbs.gcd x.b.natAbs := Nat.gcd_dvd_left _ _
  refine ⟨Int.natAbs_dvd_natAbs.mp (show x.g4 ∣ x.a.natAbs from ?_), Int.natAbs_dvd_natAbs.mp (show x.g4 ∣ x.b.natAbs from ?_), Int.natAbs_dvd_natAbs.mp (show x.g4 ∣ x.c.natAbs from ?_), Int.natAbs_dvd_natAbs.mp (show x.g4 ∣ x.d.natAbs from ?_)⟩
  · exact Nat.dvd_trans (Nat.dvd_trans h1 h2) (Nat.gcd_dvd_left _ _)
  · exact Nat.dvd_trans (Nat.dvd_trans h1 h2) (Nat.gcd_dvd_right _ _)
  · exact Nat.dvd_trans h1 (Nat.gcd_dvd_right _ _)
  · exact Nat.gcd_dvd_right _ _
theorem dvd_g4 {x : T4} {k : Int} (h1 : k ∣ x.a) (h2 : k ∣ x.b) (h3 : k ∣ x.c) (h4 : k ∣ x.d) : k ∣ (x.g4 : Int) := by
  have e : ∀ {m : Int}, k ∣ m → k.natAbs ∣ m.natAbs := fun h => Int.natAbs_dvd_natAbs.mpr h
  refine Int.natAbs_dvd_natAbs.mp (show k.natAbs ∣ x.g4 from ?_)
  exact Nat.dvd_gcd (Nat.dvd_gcd (Nat.dvd_gcd (e h1) (e h2)) (e h3)) (e h4)
theorem g4_pos {x : T4} (h : x.nz) : 0 < x.g4 := by
  rcases Nat.eq_zero_or_pos x.g4 with z | z
  · exfalso
    obtain ⟨h1, h2, h3, h4⟩ := x.g4_dvd
    rw [z] at h1 h2 h3 h4
    exact h ⟨Int.zero_dvd.mp h1, Int.zero_dvd.mp h2, Int.zero_dvd.mp h3, Int.zero_dvd.mp h4⟩
  · exact z
theorem dv_ne {x : T4} (h : x.nz) : x.dv ≠ 0 := by
  have := g4_pos h
  unfold dv
  split <;> omega
theorem dv_dvd (x : T4) : x.dv ∣ x.a ∧ x.dv ∣ x.b ∧ x.dv ∣ x.c ∧ x.dv ∣ x.d := by
  obtain ⟨h1, h2, h3, h4⟩ := x.g4_dvd
  unfold dv
  split
  · exact ⟨Int.neg_dvd.mpr h1, Int.neg_dvd.mpr h2, Int.neg_dvd.mpr h3, Int.neg_dvd.mpr h4⟩
  · exact ⟨h1, h2, h3, h4⟩
theorem mul_fdiv {k a : Int} (h : k ∣ a) (h0 : k ≠ 0) : k * a.fdiv k = a := by
  obtain ⟨c, rfl⟩ := h
  rw [Int.mul_fdiv_cancel_left _ h0]
theorem nm_eq {x : T4} (h : x.nz) : x = sc x.dv x.nm := by
  obtain ⟨h1, h2, h3, h4⟩ := x.dv_dvd
  have z := dv_ne h
  exact ext' (mul_fdiv h1 z).symm (mul_fdiv h2 z).symm (mul_fdiv h3 z).symm (mul_fdiv h4 z).symm
/-- as moves are -/
structure Ok (x : T4) : Prop where
  g : x.g4 = 1
  n : x.neg = false
theorem det_sc (k : Int) (x : T4) : (sc k x).det = k * k * x.det := by unfold det sc; grind
theorem det_mul (x y : T4) : (mul x y).det = x.det * y.det := by unfold det mul; grind
theorem det_adj (x : T4) : (adj x).det = x.det := by unfold det adj; grind
theorem g4_sc (k : Int) (x : T4) : (sc k x).g4 = k.natAbs * x.g4 := by
  unfold g4 sc
  simp only [Int.natAbs_mul, Nat.gcd_mul_left]
theorem neg_sc {k : Int} (x : T4) (h : 0 < k) : (sc k x).neg = x.neg := by
  have e1 : ∀ m : Int, (k * m < 0) = (m < 0) := fun m => propext ⟨fun z => by
    rcases Int.lt_trichotomy m 0 with y | y | y
    · exact y
    · rw [y] at z; omega
    · have := Int.mul_pos h y; omega, fun z => Int.mul_neg_of_pos_of_neg h z⟩
  have e2 : ∀ m : Int, (k * m = 0) = (m = 0) := fun m => propext ⟨fun z => by
    rcases Int.mul_eq_zero.mp z with y | y
    · omega
    · exact y, fun z => by rw [z]; omega⟩
  unfold neg sc
  simp only [e1, e2]
theorem neg_neg {x : T4} (h : ¬ (x.a = 0 ∧ x.b = 0)) : (sc (-1) x).neg = !x.neg := by
  unfold neg sc
  simp only
  rcases Int.lt_trichotomy x.a 0 with y | y | y
  · have h1 : ¬ (-1 * x.a < 0) := by omega
    have h2 : ¬ (-1 * x.a = 0) := by omega
    simp [h1, h2, y]; try omega
  · rcases Int.lt_trichotomy x.b 0 with z | z | z
    · have h3 : ¬ (-1 * x.b < 0) := by omega
      simp [y, z, h3]; try omega
    · exact absurd ⟨y, z⟩ h
    · have h3 : ¬ (x.b < 0) := by omega
      have h4 : -1 * x.b < 0 := by omega
      simp [y, h3, h4]; try omega
  · have h1 : -1 * x.a < 0 := by omega
    have h2 : ¬ (x.a < 0) := by omega
    have h3 : ¬ (x.a = 0) := by omega
    simp [h1, h2, h3]; try omega
theorem ab_of_det {x : T4} (h : x.det ≠ 0) : ¬ (x.a = 0 ∧ x.b = 0) := fun ⟨h1, h2⟩ => h (by unfold det; rw [h1, h2]; omega)
theorem sc_sc (k l : Int) (x : T4) : sc k (sc l x) = sc (k * l) x := by unfold sc; simp only [Int.mul_assoc]
theorem sc_one (x : T4) : sc 1 x = x := by unfold sc; simp only [Int.one_mul]
theorem sc_inj {k : Int} {x y : T4} (h : k ≠ 0) (e : sc k x = sc k y) : x = y := by
  have h1 : k * x.a = k * y.a := congrArg T4.a e
  have h2 : k * x.b = k * y.b := congrArg T4.b e
  have h3 : k * x.c = k * y.c := congrArg T4.c e
  have h4 : k * x.d = k * y.d := congrArg T4.d e
  exact ext' (Int.eq_of_mul_eq_mul_left h h1) (Int.eq_of_mul_eq_mul_left h h2) (Int.eq_of_mul_eq_mul_left h h3) (Int.eq_of_mul_eq_mul_left h h4)
theorem det_nm {x : T4} (h : x.det ≠ 0) : x.nm.det ≠ 0 := by
  intro z
  apply h
  rw [nm_eq (nz_of_det h), det_sc, z, Int.mul_zero]
theorem ok_nm {x : T4} (h : x.det ≠ 0) : x.nm.Ok := by
  have hz := nz_of_det h
  have e := nm_eq hz
  have hp := g4_pos hz
  have e1 : x.dv.natAbs = x.g4 := by unfold dv; split <;> omega
  have e2 := congrArg g4 e
  rw [g4_sc, e1] at e2
  refine ⟨Nat.eq_of_mul_eq_mul_left hp (by rw [Nat.mul_one]; exact e2.symm), ?_⟩
  have e3 := congrArg neg e
  cases hn : x.neg with
  | true =>
    rw [hn] at e3
    have e4 : x.dv = x.g4 * -1 := by unfold dv; rw [if_pos hn]; omega
    rw [e4, ← sc_sc, neg_sc _ (by omega), neg_neg (ab_of_det (det_nm h))] at e3
    cases h5 : x.nm.neg with
    | false => rfl
    | true => rw [h5] at e3; cases e3
  | false =>
    rw [hn] at e3
    have e4 : x.dv = x.g4 := by unfold dv; rw [if_neg (by rw [hn]; decide)]
    rw [e4, neg_sc _ (by omega)] at e3
    exact e3.symm
/-- the same but for factors -/
def Sim (x y : T4) : Prop := ∃ k l : Int, k ≠ 0 ∧ l ≠ 0 ∧ sc k x = sc l y
theorem Sim.refl (x : T4) : Sim x x := ⟨1, 1, by decide, by decide, rfl⟩
theorem Sim.symm {x y : T4} (h : Sim x y) : Sim y x := by
  obtain ⟨k, l, a, b, e⟩ := h
  exact ⟨l, k, b, a, e.symm⟩
theorem mne {a b : Int} (h : a ≠ 0) (l : b ≠ 0) : a * b ≠ 0 := fun z => (Int.mul_eq_zero.mp z).elim h l
theorem Sim.trans {x y z : T4} (h : Sim x y) (g : Sim y z) : Sim x z := by
  obtain ⟨k, l, a, b, e⟩ := h
  obtain ⟨k', l', a', b', e'⟩ := g
  refine ⟨k' * k, l * l', mne a' a, mne b b', ?_⟩
  rw [← sc_sc, e, sc_sc, Int.mul_comm k' l, ← sc_sc, e', sc_sc]
theorem sc_mul_l (k : Int) (x y : T4) : mul (sc k x) y = sc k (mul x y) := by unfold mul sc; ext <;> simp only <;> grind
theorem sc_mul_r (k : Int) (x y : T4) : mul x (sc k y) = sc k (mul x y) := by unfold mul sc; ext <;> simp only <;> grind
theorem sc_adj (k : Int) (x : T4) : adj (sc k x) = sc k (adj x) := by unfold adj sc; ext <;> simp only <;> grind
theorem Sim.mul {x y x' y' : T4} (h : Sim x x') (g : Sim y y') : Sim (mul x y) (T4.mul x' y') := by
  obtain ⟨k, l, a, b, e⟩ := h
  obtain ⟨k', l', a', b', e'⟩ := g
  refine ⟨k * k', l * l', mne a a', mne b b', ?_⟩
  rw [← sc_sc, ← sc_mul_r, ← sc_mul_l, e, e', sc_mul_l, sc_mul_r, sc_sc]
theorem Sim.adj {x y : T4} (h : Sim x y) : Sim (adj x) (T4.adj y) := by
  obtain ⟨k, l, a, b, e⟩ := h
  exact ⟨k, l, a, b, by rw [← sc_adj, e, sc_adj]⟩
theorem Sim.nm {x : T4} (h : x.det ≠ 0) : Sim x.nm x := ⟨x.dv, 1, dv_ne (nz_of_det h), by decide, by rw [sc_one]; exact (nm_eq (nz_of_det h)).symm⟩
theorem Sim.det {x y : T4} (h : Sim x y) (hx : x.det ≠ 0) : y.det ≠ 0 := by
  obtain ⟨k, l, a, b, e⟩ := h
  intro z
  have e2 := congrArg T4.det e
  rw [det_sc, det_sc, z, Int.mul_zero] at e2
  exact mne (mne a a) hx e2
theorem uniq {x y : T4} (hx : x.Ok) (hy : y.Ok) (h0 : x.det ≠ 0) (h : Sim x y) : x = y := by
  obtain ⟨k, l, a, b, e⟩ := h
  have e2 := congrArg g4 e
  rw [g4_sc, g4_sc, hx.g, hy.g] at e2
  have e3 : k = l ∨ k = -l := by omega
  rcases e3 with rfl | rfl
  · exact sc_inj a e
  · exfalso
    have e4 : sc (-l) x = sc l (sc (-1) x) := by rw [sc_sc]; congr 1; omega
    rw [e4] at e
    have e5 := sc_inj b e
    have e6 := congrArg neg e5
    rw [neg_neg (ab_of_det h0), hx.n, hy.n] at e6
    cases e6
theorem Ok.nm {x : T4} (hx : x.Ok) (h0 : x.det ≠ 0) : x.nm = x := uniq (ok_nm h0) hx (det_nm h0) (Sim.nm h0)
theorem nm_eq_of {x y : T4} (h0 : x.det ≠ 0) (h : Sim x y) : x.nm = y.nm :=
  uniq (ok_nm h0) (ok_nm (h.det h0)) (det_nm h0) (((Sim.nm h0).trans h).trans (Sim.nm (h.det h0)).symm)
theorem mul_assoc (x y z : T4) : mul (mul x y) z = mul x (mul y z) := by unfold mul; ext <;> simp only <;> grind
theorem adj_mul (x y : T4) : adj (mul x y) = mul (adj y) (adj x) := by unfold adj mul; ext <;> simp only <;> grind
theorem adj_adj (x : T4) : adj (adj x) = x := by unfold adj; ext <;> simp only <;> omega
theorem mul_adj (x : T4) : mul x (adj x) = sc x.det one := by unfold mul adj sc det one; ext <;> simp only <;> grind
theorem adj_mul_self (x : T4) : mul (adj x) x = sc x.det one := by unfold mul adj sc det one; ext <;> simp only <;> grind
theorem one_mul (x : T4) : mul one x = x := by unfold mul one; ext <;> simp only <;> omega
theorem mul_one (x : T4) : mul x one = x := by unfold mul one; ext <;> simp only <;> omega
theorem Sim.sc {x : T4} {k : Int} (h : k ≠ 0) : Sim (sc k x) x := ⟨1, k, by decide, h, by rw [sc_one]⟩
theorem det_mul_ne {x y : T4} (h : x.det ≠ 0) (g : y.det ≠ 0) : (mul x y).det ≠ 0 := by rw [det_mul]; exact mne h g
theorem det_adj_ne {x : T4} (h : x.det ≠ 0) : (adj x).det ≠ 0 := by rw [det_adj]; exact h
/-- all numbers are below 2 ^ k -/
structure Bd (k : Nat) (x : T4) : Prop where
  a : B k x.a
  b : B k x.b
  c : B k x.c
  d : B k x.d
theorem Bd.mono {j k : Nat} {x : T4} (h : Bd j x) (l : j ≤ k) : Bd k x := ⟨h.a.mono l, h.b.mono l, h.c.mono l, h.d.mono l⟩
theorem Bd.mul {j k : Nat} {x y : T4} (h : Bd j x) (g : Bd k y) : Bd (j + k + 1) (mul x y) :=
  ⟨(h.a.mul g.a).add (h.b.mul g.c), (h.a.mul g.b).add (h.b.mul g.d), (h.c.mul g.a).add (h.d.mul g.c), (h.c.mul g.b).add (h.d.mul g.d)⟩
theorem Bd.adj {k : Nat} {x : T4} (h : Bd k x) : Bd k (adj x) := ⟨h.d, h.b.neg, h.c.neg, h.a⟩
theorem B_fdiv {k : Nat} {m n : Int} (h : B k m) (hd : n ∣ m) (h0 : n ≠ 0) : B k (m.fdiv n) := by
  have e := T4.mul_fdiv hd h0
  have : (m.fdiv n).natAbs ≤ m.natAbs := by
    have := natAbs_le_of_mul (k := n) (x := m.fdiv n) h0
    rw [e] at this
    exact this
  exact Nat.lt_of_le_of_lt this h
theorem Bd.nm {k : Nat} {x : T4} (h : Bd k x) (h0 : x.nz) : Bd k x.nm := by
  obtain ⟨h1, h2, h3, h4⟩ := x.dv_dvd
  have z := dv_ne h0
  exact ⟨B_fdiv h.a h1 z, B_fdiv h.b h2 z, B_fdiv h.c h3 z, B_fdiv h.d h4 z⟩
/-! whole -/
def Wh (x : T4) : Prop := ∃ u : T4, (u.det = 1 ∨ u.det = -1) ∧ Sim x u
theorem Wh.sim {x y : T4} (h : Wh x) (s : Sim x y) : Wh y := by
  obtain ⟨u, h1, h2⟩ := h
  exact ⟨u, h1, s.symm.trans h2⟩
theorem Wh.mul {x y : T4} (h : Wh x) (g : Wh y) : Wh (T4.mul x y) := by
  obtain ⟨u, h1, h2⟩ := h
  obtain ⟨v, g1, g2⟩ := g
  refine ⟨T4.mul u v, ?_, h2.mul g2⟩
  rw [det_mul]
  rcases h1 with h1 | h1 <;> rcases g1 with g1 | g1 <;> rw [h1, g1] <;> decide
theorem Wh.adj {x : T4} (h : Wh x) : Wh (T4.adj x) := by
  obtain ⟨u, h1, h2⟩ := h
  exact ⟨T4.adj u, by rw [det_adj]; exact h1, h2.adj⟩
theorem uni_g {u : T4} (h : u.det = 1 ∨ u.det = -1) : u.g4 = 1 := by
  obtain ⟨h1, h2, h3, h4⟩ := u.g4_dvd
  have h5 : (u.g4 : Int) ∣ u.det := Int.dvd_sub (Int.dvd_mul_of_dvd_left h1) (Int.dvd_mul_of_dvd_left h2)
  have h6 : (u.g4 : Int) ∣ 1 := by
    rcases h with h | h
    · rw [h] at h5; exact h5
    · rw [h] at h5; exact Int.dvd_neg.mp h5
  have := Int.le_of_dvd (by decide) h6
  have : u.g4 ≠ 0 := fun z => by rw [z] at h6; exact absurd (Int.zero_dvd.mp h6) (by decide)
  omega
theorem uni_nm {u : T4} (h : u.det = 1 ∨ u.det = -1) : u.nm.det = 1 ∨ u.nm.det = -1 := by
  have h0 : u.det ≠ 0 := by rcases h with h | h <;> rw [h] <;> decide
  have e := nm_eq (nz_of_det h0)
  have e1 : u.dv * u.dv = 1 := by
    have := uni_g h
    unfold dv
    rw [this]
    split <;> rfl
  have e2 := congrArg det e
  rw [det_sc, e1, Int.one_mul] at e2
  rw [← e2]
  exact h
theorem wh_iff {x : T4} (h0 : x.det ≠ 0) : Wh x ↔ (x.nm.det = 1 ∨ x.nm.det = -1) := by
  refine ⟨fun h => ?_, fun h => ⟨x.nm, h, (Sim.nm h0).symm⟩⟩
  obtain ⟨u, h1, h2⟩ := h
  rw [nm_eq_of h0 h2]
  exact uni_nm h1
end T4
end Mi
set_option Elab.async false
set_option linter.all false
namespace Mi
/-! # words that are shortened -/
namespace Wo
abbrev L := Int × Int
def bk (x : L) : L := (x.1, -x.2)
theorem bk_bk (x : L) : bk (bk x) = x := by unfold bk; simp
/-- one more letter; the last one of what is left stands first -/
def push (st : List L) (x : L) : List L := match st with
  | [] => [x]
  | t :: r => if t = bk x then r else x :: t :: r
/-- no neighbours that go out -/
def Rd : List L → Prop
  | [] => True
  | x :: st => (match st with | [] => True | y :: _ => y ≠ bk x) ∧ Rd st
theorem Rd.tail {x : L} {st : List L} (h : Rd (x :: st)) : Rd st := h.2
theorem Rd.ne {x y : L} {st : List L} (h : Rd (x :: y :: st)) : y ≠ bk x := h.1
theorem Rd.drop {us st : List L} (h : Rd (us ++ st)) : Rd st := by
  induction us with
  | nil => exact h
  | cons u us ih => exact ih h.2
theorem push_rd {st : List L} (h : Rd st) (x : L) : Rd (push st x) := by
  cases st with
  | nil => exact ⟨trivial, trivial⟩
  | cons t r =>
    unfold push
    by_cases e : t = bk x
    · simp only [if_pos e]; exact h.tail
    · simp only [if_neg e]; exact ⟨e, h⟩
theorem push_back {st : List L} (h : Rd st) (x : L) : push (push st x) (bk x) = st := by
  cases st with
  | nil => unfold push; simp [bk_bk]
  | cons t r =>
    by_cases e : t = bk x
    · have e1 : push (t :: r) x = r := by unfold push; simp only [if_pos e]
      rw [e1]
      cases r with
      | nil => subst e; rfl
      | cons u r =>
        have n := h.ne
        rw [e, bk_bk] at n
        unfold push
        simp only [bk_bk, if_neg n, e]
    · have e1 : push (t :: r) x = x :: t :: r := by unfold push; simp only [if_neg e]
      rw [e1]
      unfold push
      simp only [bk_bk, if_true]
def run (st w : List L) : List L := w.foldl push st
theorem run_rd {st : List L} (h : Rd st) : ∀ w, Rd (run st w)
  | [] => h
  | x :: w => by
    show Rd (run (push st x) w)
    exact run_rd (push_rd h x) w
theorem run_append (st u v : List L) : run st (u ++ v) = run (run st u) v := List.foldl_append
/-- two neighbours taken out -/
theorem run_out {st : List L} (h : Rd st) (u v : List L) (x : L) : run st (u ++ x :: bk x :: v) = run st (u ++ v) := by
  rw [run_append, run_append]
  show run (push (push (run st u) x) (bk x)) v = _
  rw [push_back (run_rd h u)]
/-- what is short stays -/
theorem run_short : ∀ {w st : List L}, Rd (w.reverse ++ st) → run st w = w.reverse ++ st
  | [], st, _ => rfl
  | x :: w, st, h => by
    have e : (x :: w).reverse ++ st = w.reverse ++ (x :: st) := by simp
    rw [e] at h ⊢
    have r : Rd (x :: st) := h.drop
    have p : push st x = x :: st := by
      cases st with
      | nil => rfl
      | cons t r' => unfold push; simp only [if_neg r.ne]
    show run (push st x) w = _
    rw [p]
    exact run_short h
def inv (w : List L) : List L := (w.map bk).reverse
theorem run_inv : ∀ {st : List L} (w : List L), Rd st → run (run st w) (inv w) = st
  | st, [], _ => rfl
  | st, x :: w, h => by
    have e : inv (x :: w) = inv w ++ [bk x] := by unfold inv; simp
    rw [e, run_append]
    show push (run (run (push st x) w) (inv w)) (bk x) = st
    rw [run_inv w (push_rd h x)]
    exact push_back h x
def red (w : List L) : List L := (run [] w).reverse
theorem red_out (u v : List L) (x : L) : red (u ++ x :: bk x :: v) = red (u ++ v) := by unfold red; rw [run_out (by exact trivial)]
theorem red_inv (w : List L) : red (w ++ inv w) = [] := by
  unfold red
  rw [run_append, run_inv w (by exact trivial)]
  rfl
/-- the places at which two neighbours go out -/
def spot (w : List L) (k : Nat) : Prop := ∃ u x v, w = u ++ x :: bk x :: v ∧ u.length = k
theorem rd_of_spots : ∀ {w st : List L}, Rd st → (∀ t r x w', st = t :: r → w = x :: w' → t ≠ bk x) → (∀ k, ¬ spot w k) → Rd (w.reverse ++ st)
  | [], st, h, _, _ => h
  | x :: w, st, h, hj, hs => by
    have e : (x :: w).reverse ++ st = w.reverse ++ (x :: st) := by simp
    rw [e]
    refine rd_of_spots (w := w) (st := x :: st) ?_ ?_ ?_
    · cases st with
      | nil => exact ⟨trivial, trivial⟩
      | cons t r => exact ⟨hj t r x w rfl rfl, h⟩
    · intro t r y w' e1 e2 e3
      cases e1
      subst e2
      refine hs 0 ⟨[], x, w', ?_, rfl⟩
      rw [e3, bk_bk]
      rfl
    · intro k ⟨u, y, v, e1, e2⟩
      exact hs (k + 1) ⟨x :: u, y, v, by rw [e1]; rfl, by rw [List.length_cons, e2]⟩
theorem red_short {w : List L} (hs : ∀ k, ¬ spot w k) : red w = w := by
  unfold red
  rw [run_short (rd_of_spots (by exact trivial) (fun _ _ _ _ e _ => by cases e) hs)]
  simp
theorem spot_out {w : List L} {k : Nat} (h : spot w k) : red (w.take k ++ w.drop (k + 2)) = red w ∧ (w.take k ++ w.drop (k + 2)).length + 2 = w.length := by
  obtain ⟨u, x, v, rfl, rfl⟩ := h
  have e1 : (u ++ x :: bk x :: v).take u.length = u := by simp
  have e2 : (u ++ x :: bk x :: v).drop (u.length + 2) = v := by
    rw [List.drop_append]
    simp
  rw [e1, e2]
  refine ⟨(red_out u v x).symm, ?_⟩
  simp only [List.length_append, List.length_cons]
  omega
end Wo
end Mi
set_option Elab.async false
set_option linter.all false
set_option maxRecDepth 100000
set_option maxHeartbeats 400000
set_option exponentiation.threshold 30000
namespace Mi
open PySem PySem.Spec PyProof.Rows L2
/-! ## any place of the heap -/
section
variable {ah : AH} {n : Nat} {xs : List D}
theorem wq_lstNR {ds : List D} {Q : D → AH → Prop} (h : ds.length ≤ 100000) (k : Q (.ref ah.length) (ah ++ [some (.lst ds)])) : W (gLstN ds ah) Q :=
  wq_when (decide_eq_true (by rw [sl]; omega)) ⟨_, _, rfl, k⟩
theorem wq_ixR {k : Int} {d : D} {Q : D → AH → Prop} (h : ah[n]? = some (some (.lst xs))) (e : L2.atI xs k = some d) (q : Q d ah) : W (gIx (.ref n) (.int k) ah) Q := by
  refine ⟨d, ah, ?_, q⟩
  show M.andThen (getO n) _ ah = _
  simp only [M.andThen, getO, h, M.lift, e]
theorem wq_neR {y : D} {Q : D → AH → Prop} (h : ah[n]? = some (some (.lst xs))) (o : okEq (.lst xs) y = true) (q : Q (.bl (!PyData.eqv (D.p (.lst xs)) y.p)) ah) : W (gNeH (.ref n) y ah) Q := by
  refine ⟨_, ah, ?_, q⟩
  show M.andThen (getO n) _ ah = _
  simp only [M.andThen, getO, h, M.lift, getL, M.when, o, if_true, M.ret]
theorem wq_eqR {y : D} {Q : D → AH → Prop} (h : ah[n]? = some (some (.lst xs))) (o : okEq (.lst xs) y = true) (q : Q (.bl (PyData.eqv (D.p (.lst xs)) y.p)) ah) : W (gEqH (.ref n) y ah) Q := by
  refine ⟨_, ah, ?_, q⟩
  show M.andThen (getO n) _ ah = _
  simp only [M.andThen, getO, h, M.lift, getL, M.when, o, if_true, M.ret]
theorem wq_popR {x : D} {Q : D → AH → Prop} (h : ah[n]? = some (some (.lst (xs ++ [x])))) (q : Q x (ah.set n (some (.lst xs)))) : W (gPop (.ref n) ah) Q := by
  refine ⟨x, _, ?_, q⟩
  show M.andThen (getO n) _ ah = _
  have e : (xs ++ [x])[(xs ++ [x]).length - 1]? = some x := by
    rw [List.length_append, List.length_singleton, Nat.add_sub_cancel, List.getElem?_append_right (Nat.le_refl _), Nat.sub_self]; rfl
  simp only [M.andThen, getO, h, M.lift, getL, e, putO, M.ret, List.dropLast_concat]
theorem wq_appR {env : Lc} {fo fe : Lc → M D} {Q : D → AH → Prop} (e : fo env ah = .ok (.ref n) ah) (h : ah[n]? = some (some (.lst xs))) (hl : xs.length ≤ 100000)
    (q : W (fe env ah) fun y ah1 => ah1[n]? = some (some (.lst xs)) ∧ Q .non (ah1.set n (some (.lst (xs ++ [y]))))) : W (eApp fo fe env ah) Q := by
  refine wq_bind (wq_eq e (wq_bind (wq_eq (a := ()) (ah' := ah) ?_ (wq_bind (q.mono fun y ah1 ⟨h1, k⟩ => ?_)))))
  · show (M.andThen (getO _) _) _ = _
    simp only [M.andThen, getO, h, getL, M.lift, M.ret]
  · show W ((M.andThen (getO _) _) _) Q
    refine ⟨_, _, ?_, k⟩
    have c : decide (xs.length < sizeLine) = true := decide_eq_true (by rw [sl]; omega)
    simp only [M.andThen, getO, h1, getL, M.lift, M.ret, M.when, c, if_true, putO]
theorem wq_tupR {Q : D → AH → Prop} (h : ah[n]? = some (some (.lst xs))) (q : Q (.tup xs) ah) : W (gTuple [.ref n] ah) Q := by
  refine ⟨.tup xs, ah, ?_, q⟩
  show M.andThen (getO n) _ ah = _
  simp only [M.andThen, getO, h, M.ret]
theorem wq_gSt {fo fi : Lc → M D} {d : D} {env : Lc} {Q : Lc → AH → Prop} (q : W (fo env ah) fun x ah1 => W (fi env ah1) fun y ah2 => ∃ n xs i j, x = .ref n ∧ y = .int i ∧ ah2[n]? = some (some (.lst xs)) ∧ ixN xs.length i = some j ∧ Q env (ah2.set n (some (.lst (xs.set j d))))) : W (gSt fo fi d env ah) Q :=
  wq_bind (q.mono fun x ah1 q => wq_bind (q.mono fun y ah2 q => by
    obtain ⟨n, xs, i, j, rfl, rfl, h, e, q⟩ := q
    refine ⟨env, _, ?_, q⟩
    show M.andThen (getO n) _ ah2 = _
    simp only [M.andThen, getO, h, M.ret, M.lift, getL, e, putO]))
theorem get_end (ah : AH) (o : Option AO) : (ah ++ [o])[ah.length]? = some o := by
  rw [List.getElem?_append_right (Nat.le_refl _), Nat.sub_self]; rfl
theorem set_end (ah : AH) (o o' : Option AO) : (ah ++ [o]).set ah.length o' = ah ++ [o'] := by
  rw [List.set_append_right _ _ (Nat.le_refl _), Nat.sub_self]; rfl
end
/-! ## words -/
abbrev wd (w : List (Int × Int)) : D := .tup (w.map fr)
theorem frs_p : ∀ xs : List (Int × Int), D.ps (xs.map fr) = xs.map fun x => .tuple [.int x.1, .int x.2]
  | [] => rfl
  | x :: xs => by
    show (fr x).p :: D.ps (xs.map fr) = _
    rw [frs_p xs]; rfl
theorem eqvAll_frs : ∀ xs ys : List (Int × Int), PyData.eqvAll (D.ps (xs.map fr)) (D.ps (ys.map fr)) = decide (xs = ys)
  | [], [] => rfl
  | [], _ :: _ => rfl
  | _ :: _, [] => rfl
  | x :: xs, y :: ys => by
    show (PyData.eqv (fr x).p (fr y).p && PyData.eqvAll (D.ps (xs.map fr)) (D.ps (ys.map fr))) = _
    rw [eqvAll_frs xs ys]
    have e : PyData.eqv (fr x).p (fr y).p = decide (x = y) := by
      show ((x.1 == y.1) && ((x.2 == y.2) && true)) = decide (x = y)
      obtain ⟨a, b⟩ := x
      obtain ⟨c, d⟩ := y
      simp only [Bool.and_true, Prod.mk.injEq, Bool.decide_and]
      have : ∀ i j : Int, (i == j) = decide (i = j) := fun i j => rfl
      rw [this, this]
    rw [e]
    simp only [List.cons.injEq, Bool.decide_and]
theorem okEq_frs (xs ys : List (Int × Int)) : okEq (.lst (xs.map fr)) (.lst (ys.map fr)) = true := by
  refine okEq_pla (frs_pla xs) (frs_pla ys) ?_ ?_
  · show D.dpts (xs.map fr) + 1 ≤ 60; have := frs_dpt xs; omega
  · show D.dpts (ys.map fr) + 1 ≤ 60; have := frs_dpt ys; omega
theorem okEq_wd (xs ys : List (Int × Int)) : okEq (wd xs) (wd ys) = true := by
  refine okEq_pla (frs_pla xs) (frs_pla ys) ?_ ?_
  · show D.dpts (xs.map fr) + 1 ≤ 60; have := frs_dpt xs; omega
  · show D.dpts (ys.map fr) + 1 ≤ 60; have := frs_dpt ys; omega
theorem wq_eqW {x y : List (Int × Int)} {ah : AH} {Q : D → AH → Prop} (q : Q (.bl (decide (x = y))) ah) : W (gEq (wd x) (wd y) ah) Q := by
  refine ⟨_, ah, ?_, q⟩
  show M.when (okEq (wd x) (wd y)) (M.ret (D.bl (PyData.eqv (wd x).p (wd y).p))) ah = _
  have e : PyData.eqv (wd x).p (wd y).p = decide (x = y) := eqvAll_frs x y
  rw [okEq_wd, e]; rfl
theorem wq_neW {x y : List (Int × Int)} {ah : AH} {Q : D → AH → Prop} (q : Q (.bl (!decide (x = y))) ah) : W (gNe (wd x) (wd y) ah) Q := by
  refine ⟨_, ah, ?_, q⟩
  show M.when (okEq (wd x) (wd y)) (M.ret (D.bl (!PyData.eqv (wd x).p (wd y).p))) ah = _
  have e : PyData.eqv (wd x).p (wd y).p = decide (x = y) := eqvAll_frs x y
  rw [okEq_wd, e]; rfl
theorem wq_neL {x y : List (Int × Int)} {ah : AH} {Q : D → AH → Prop} (q : Q (.bl (!decide (x = y))) ah) : W (gNe (.lst (x.map fr)) (.lst (y.map fr)) ah) Q := by
  refine ⟨_, ah, ?_, q⟩
  show M.when (okEq _ _) (M.ret (D.bl (!PyData.eqv (D.p (.lst (x.map fr))) (D.p (.lst (y.map fr)))))) ah = _
  have e : PyData.eqv (D.p (.lst (x.map fr))) (D.p (.lst (y.map fr))) = decide (x = y) := eqvAll_frs x y
  rw [okEq_frs, e]; rfl
theorem cutD_map {τ : Type} (f : τ → D) (ts : List τ) (lo hi : Option Int) : ∃ us : List τ, cutD (ts.map f) lo hi = us.map f ∧ us.length ≤ ts.length ∧ ∀ u ∈ us, u ∈ ts := by
  refine ⟨(ts.drop (HT.sIx ts.length 0 lo)).take (HT.sIx ts.length ts.length hi - HT.sIx ts.length 0 lo), ?_, ?_, fun u hu => List.mem_of_mem_drop (List.mem_of_mem_take hu)⟩
  · unfold cutD
    rw [List.length_map, ← List.map_drop, ← List.map_take]
  · rw [List.length_take, List.length_drop]; omega
theorem cut_last (xs : List D) (x : D) : cutD (xs ++ [x]) none (some (-1)) = xs := by
  unfold cutD
  have e : HT.sIx (xs ++ [x]).length (xs ++ [x]).length (some (-1)) = xs.length := by
    rw [List.length_append, List.length_singleton]
    unfold HT.sIx
    simp
    omega
  rw [HT.sIx_none, e, List.drop_zero, Nat.sub_zero, List.take_left]
/-! small letters may be shown, however many -/
def Sl (x : Int × Int) : Prop := x.1.natAbs < 8 ∧ x.2.natAbs < 8
theorem int_short {i : Int} (h : i.natAbs < 8) : decide ((PyData.shown (.int i)).length ≤ 8) = true := by
  have h1 : -8 < i := by omega
  have h2 : i < 8 := by omega
  have : i = -7 ∨ i = -6 ∨ i = -5 ∨ i = -4 ∨ i = -3 ∨ i = -2 ∨ i = -1 ∨ i = 0 ∨ i = 1 ∨ i = 2 ∨ i = 3 ∨ i = 4 ∨ i = 5 ∨ i = 6 ∨ i = 7 := by omega
  rcases this with rfl | rfl | rfl | rfl | rfl | rfl | rfl | rfl | rfl | rfl | rfl | rfl | rfl | rfl | rfl <;> decide +kernel
theorem int_show {i : Int} (h : i.natAbs < 8) : i.natAbs.log2 < 3 := by
  have : i.natAbs = 0 ∨ i.natAbs = 1 ∨ i.natAbs = 2 ∨ i.natAbs = 3 ∨ i.natAbs = 4 ∨ i.natAbs = 5 ∨ i.natAbs = 6 ∨ i.natAbs = 7 := by omega
  rcases this with e | e | e | e | e | e | e | e <;> rw [e] <;> decide +kernel
theorem frs_short : ∀ xs : List (Int × Int), (∀ x ∈ xs, Sl x) → PyData.leavesShortAll 8 (D.ps (xs.map fr)) = true ∧ PyData.showableAll (D.ps (xs.map fr)) = true ∧ PyData.weightAll (D.ps (xs.map fr)) ≤ 9 * xs.length
  | [], _ => ⟨rfl, rfl, Nat.le_refl _⟩
  | x :: xs, h => by
    obtain ⟨a, b, c⟩ := frs_short xs fun y hy => h y (List.mem_cons_of_mem _ hy)
    obtain ⟨h1, h2⟩ := h x List.mem_cons_self
    refine ⟨?_, ?_, ?_⟩
    · show ((decide ((PyData.shown (.int x.1)).length ≤ 8) && (decide ((PyData.shown (.int x.2)).length ≤ 8) && true)) && PyData.leavesShortAll 8 (D.ps (xs.map fr))) = true
      rw [a, int_short h1, int_short h2]; rfl
    · show ((decide (x.1.natAbs.log2 < 1920) && (decide (x.2.natAbs.log2 < 1920) && true)) && PyData.showableAll (D.ps (xs.map fr))) = true
      have := int_show h1
      have := int_show h2
      rw [b, decide_eq_true (show x.1.natAbs.log2 < 1920 by omega), decide_eq_true (show x.2.natAbs.log2 < 1920 by omega)]; rfl
    · show ((if x.1 == 0 then 0 else x.1.natAbs.log2 + 1) + 1 + ((if x.2 == 0 then 0 else x.2.natAbs.log2 + 1) + 1 + 0)) + 1 + PyData.weightAll (D.ps (xs.map fr)) ≤ 9 * (xs.length + 1)
      have := int_show h1
      have := int_show h2
      split <;> split <;> omega
theorem frs_flat (xs : List (Int × Int)) : D.flats (xs.map fr) = true := (D.plas_ok _ (frs_pla xs)).1
theorem okShow_of {d : D} (hf : d.flat = true) (hs : d.p.showable = true) (hl : d.p.leavesShort 8 = true) (hw : d.p.weight ≤ 1600000) (ht : d.dpt ≤ 60) : okShow d = true := by
  have l := PyData.shown_le 8 (by decide) d.p hl
  have t2 := D.dpt_ok d
  have l2 : d.p.shown.length ≤ sizeLine := by
    rw [sl]
    have : (8 + 2) * d.p.weight ≤ (8 + 2) * 1600000 := Nat.mul_le_mul_left _ hw
    omega
  unfold okShow
  rw [hf, hs, decide_eq_true l2, decide_eq_true (show d.p.depth ≤ 60 by omega)]
  rfl
theorem okShow_frs {xs : List (Int × Int)} (h : ∀ x ∈ xs, Sl x) (hl : xs.length ≤ 100000) : okShow (.lst (xs.map fr)) = true := by
  obtain ⟨a, b, c⟩ := frs_short xs h
  refine okShow_of (frs_flat xs) b a (Nat.le_trans c (by omega)) ?_
  show D.dpts (xs.map fr) + 1 ≤ 60
  have := frs_dpt xs; omega
theorem okShow_two {x y : List (Int × Int)} (h : ∀ u ∈ x, Sl u) (g : ∀ u ∈ y, Sl u) (hl : x.length ≤ 50000) (gl : y.length ≤ 50000) : okShow (.tup [wd x, wd y]) = true := by
  obtain ⟨a, b, c⟩ := frs_short x h
  obtain ⟨a2, b2, c2⟩ := frs_short y g
  refine okShow_of ?_ ?_ ?_ ?_ ?_
  · show (D.flats (x.map fr) && (D.flats (y.map fr) && true)) = true
    rw [frs_flat, frs_flat]; rfl
  · show (PyData.showableAll (D.ps (x.map fr)) && (PyData.showableAll (D.ps (y.map fr)) && true)) = true
    rw [b, b2]; rfl
  · show (PyData.leavesShortAll 8 (D.ps (x.map fr)) && (PyData.leavesShortAll 8 (D.ps (y.map fr)) && true)) = true
    rw [a, a2]; rfl
  · show PyData.weightAll (D.ps (x.map fr)) + 1 + (PyData.weightAll (D.ps (y.map fr)) + 1 + 0) ≤ 1600000
    omega
  · show max (D.dpts (x.map fr) + 1) (max (D.dpts (y.map fr) + 1) 0) + 1 ≤ 60
    have := frs_dpt x; have := frs_dpt y; omega
theorem wq_reprOk {d : D} (s : okShow d = true) {ah : AH} {K : D → AH → Prop} (h : K (.str d.p.shown) ah) : W (gRepr [d] ah) K := wq_when s (wq_ret h)
theorem wq_lc_self {go : D → Lc → Option Lc} {el : Lc → M D} {vs : List Nat} {env : Lc} {ah : AH} (F : D → D) (ts : List D) {Q : List D → AH → Prop} (h : ∀ t ∈ ts, ∃ env1, go t (wipeE env vs) = some env1 ∧ W (el env1 ah) fun d ah' => d = F t ∧ ah' = ah) (q : Q (ts.map F) ah) : W (lc go tYs el vs env ts ah) Q := by
  have := wq_lc_maps (fun x : D => x) F ts h q
  rwa [List.map_id'] at this
theorem okRng_of {i : Int} (h0 : -2 ≤ i) (h1 : i ≤ 1000000) : okRng i = true := by
  unfold okRng
  simp
  omega
namespace Wo
theorem run_len : ∀ (w st : List L), (run st w).length ≤ st.length + w.length
  | [], st => Nat.le_refl _
  | x :: w, st => by
    have := run_len w (push st x)
    have h : (push st x).length ≤ st.length + 1 := by
      cases st with
      | nil => exact Nat.le_refl _
      | cons t r =>
        show (if t = bk x then r else x :: t :: r).length ≤ r.length + 1 + 1
        split
        · omega
        · exact Nat.le_refl _
    show (run (push st x) w).length ≤ _
    rw [List.length_cons]
    omega
theorem red_len (w : List L) : (red w).length ≤ w.length := by
  unfold red
  rw [List.length_reverse]
  have := run_len w []
  simpa using this
theorem run_mem {P : L → Prop} : ∀ (w st : List L), (∀ x ∈ st, P x) → (∀ x ∈ w, P x) → ∀ x ∈ run st w, P x
  | [], st, h, _ => h
  | x :: w, st, h, g => by
    refine run_mem w (push st x) ?_ fun y hy => g y (List.mem_cons_of_mem _ hy)
    have gx := g x List.mem_cons_self
    cases st with
    | nil => intro y hy; rw [List.mem_singleton.mp hy]; exact gx
    | cons t r =>
      intro y hy
      have hy : y ∈ if t = bk x then r else x :: t :: r := hy
      split at hy
      · exact h y (List.mem_cons_of_mem _ hy)
      · rcases List.mem_cons.mp hy with rfl | hy
        · exact gx
        · exact h y hy
theorem red_mem {P : L → Prop} {w : List L} (h : ∀ x ∈ w, P x) : ∀ x ∈ red w, P x := fun x hx => run_mem w [] (fun _ z => nomatch z) h x (List.mem_reverse.mp hx)
/-- how often a letter stands, its back taken off -/
def ex (k : Int) : List L → Int
  | [] => 0
  | x :: w => (if x.1 = k then x.2 else 0) + ex k w
theorem ex_append (k : Int) : ∀ u v : List L, ex k (u ++ v) = ex k u + ex k v
  | [], v => by show ex k v = 0 + ex k v; omega
  | x :: u, v => by
    show (if x.1 = k then x.2 else 0) + ex k (u ++ v) = (if x.1 = k then x.2 else 0) + ex k u + ex k v
    rw [ex_append k u v]; omega
theorem ex_reverse (k : Int) : ∀ u : List L, ex k u.reverse = ex k u
  | [] => rfl
  | x :: u => by
    rw [List.reverse_cons, ex_append, ex_reverse k u]
    show ex k u + ((if x.1 = k then x.2 else 0) + 0) = (if x.1 = k then x.2 else 0) + ex k u
    omega
theorem ex_push (k : Int) (st : List L) (x : L) : ex k (push st x) = ex k st + (if x.1 = k then x.2 else 0) := by
  cases st with
  | nil => show (if x.1 = k then x.2 else 0) + 0 = 0 + _; omega
  | cons t r =>
    show ex k (if t = bk x then r else x :: t :: r) = _
    split
    · rename_i e
      subst e
      show ex k r = (if x.1 = k then -x.2 else 0) + ex k r + (if x.1 = k then x.2 else 0)
      split <;> omega
    · show (if x.1 = k then x.2 else 0) + ex k (t :: r) = _
      omega
theorem ex_run (k : Int) : ∀ (w st : List L), ex k (run st w) = ex k st + ex k w
  | [], st => by show ex k st = ex k st + 0; omega
  | x :: w, st => by
    show ex k (run (push st x) w) = ex k st + ((if x.1 = k then x.2 else 0) + ex k w)
    rw [ex_run k w, ex_push]; omega
theorem ex_red (k : Int) (w : List L) : ex k (red w) = ex k w := by
  unfold red
  rw [ex_reverse, ex_run]
  show 0 + _ = _
  omega
theorem ex_inv (k : Int) (w : List L) : ex k (inv w) = -ex k w := by
  unfold inv
  rw [ex_reverse]
  induction w with
  | nil => rfl
  | cons x w ih =>
    show (if x.1 = k then -x.2 else 0) + ex k (w.map bk) = -((if x.1 = k then x.2 else 0) + ex k w)
    rw [ih]
    split <;> omega
theorem inv_len (w : List L) : (inv w).length = w.length := by unfold inv; rw [List.length_reverse, List.length_map]
end Wo
end Mi
set_option Elab.async false
set_option linter.all false
set_option maxRecDepth 100000
set_option maxHeartbeats 400000
/-! words for lists that comprehensions make on the heap, and for dict displays -/
namespace Law
open PySem PySem.Spec PyProof.Rows L2 Mi
variable {env : Lc} {ah : AH}
theorem wq_eLcN {Q : D → AH → Prop} {it : Lc → M (List D)} {go : D → Lc → Option Lc} {tt : Lc → M Bool} {el : Lc → M D} {vs : List Nat} (h : W (it env ah) fun ds ah1 => ds.length ≤ 100000 ∧ W (lc go tt el vs env ds ah1) fun ys ah2 => Q (.ref ah2.length) (ah2 ++ [some (.lst ys)])) : W (eLcN it go tt el vs env ah) Q :=
  wq_bind (h.mono fun ds ah1 h => wq_when (decide_eq_true (by have := h.1; rw [sl]; omega)) (wq_bind (by
    obtain ⟨ys, ah2, e, q⟩ := h.2
    exact ⟨ys, ah2, by unfold hush; rw [e], ⟨_, _, rfl, q⟩⟩)))
theorem wq_pN {Q : List (D × D) → AH → Prop} (q : Q [] ah) : W (pN env ah) Q := wq_ret q
theorem wq_pC {fk fv : Lc → M D} {r : Lc → M (List (D × D))} {Q : List (D × D) → AH → Prop} (h : W (fk env ah) fun k ah1 => W (fv env ah1) fun v ah2 => W (r env ah2) fun ps ah3 => Q ((k, v) :: ps) ah3) : W (pC fk fv r env ah) Q :=
  wq_bind (h.mono fun k ah1 h => wq_bind (h.mono fun v ah2 h => wq_bind (h.mono fun ps ah3 q => wq_ret q)))
/-- a dict display whose parts leave the heap as it is -/
theorem wq_disp {f : Lc → M (List (D × D))} {Q : D → AH → Prop} (h : W (f env (ah ++ [some (.dct [])])) fun ps ah1 => ah1 = ah ++ [some (.dct [])] ∧ ∃ l, keysOf ps = some l ∧ l.length ≤ 15 ∧ Q (.ref ah.length) (ah ++ [some (.dct (mergeD [] l))])) : W (eDisp f env ah) Q := by
  obtain ⟨ps, ah1, e, rfl, l, hk, hl, q⟩ := h
  refine ⟨_, _, ?_, q⟩
  have g : (ah ++ [some (AO.dct [])])[ah.length]? = some (some (.dct [])) := by simp
  have st : (ah ++ [some (AO.dct [])]).set ah.length (some (.dct (mergeD [] l))) = ah ++ [some (.dct (mergeD [] l))] := by simp
  unfold eDisp
  simp only [M.andThen, newO, e, getO, g, getK, M.lift, hk, M.when, decide_eq_true hl, List.isEmpty_nil, Bool.and_self, if_true, putO, st, M.ret]
theorem wq_dget {n : Nat} {kds : List (Key × D)} {y d : D} {k : Key} {Q : D → AH → Prop} (h : ah[n]? = some (some (.dct kds))) (hy : toKey y = some k) (hd : lookD kds k = some d) (q : Q d ah) : W (gDGet (.ref n) y ah) Q := by
  refine ⟨d, ah, ?_, q⟩
  unfold gDGet
  simp only [M.andThen, getO, h, getK, M.lift, hy, Option.bind_some, hd, M.ret]
end Law
set_option Elab.async false
set_option linter.all false
set_option maxRecDepth 100000
set_option maxHeartbeats 400000
namespace Mi
open PySem PySem.Spec PyProof.Rows L2
/-! ## data with texts among them -/
mutual
def D.pls : D → Bool
  | .non => true
  | .bl _ => true
  | .int _ => true
  | .str x => PyData.canLay0 (D.str x).p
  | .tup xs => D.plss xs
  | .lst xs => D.plss xs
  | _ => false
def D.plss : List D → Bool
  | [] => true
  | x :: xs => D.pls x && D.plss xs
end
mutual
theorem D.pls_ok : ∀ d : D, d.pls = true → d.flat = true ∧ d.p.canLay0 = true
  | .non, _ => ⟨rfl, rfl⟩
  | .bl _, _ => ⟨rfl, rfl⟩
  | .int _, _ => ⟨rfl, rfl⟩
  | .str x, h => ⟨rfl, h⟩
  | .tup xs, h => by
    have := D.plss_ok xs h
    exact ⟨this.1, this.2⟩
  | .lst xs, h => by
    have := D.plss_ok xs h
    exact ⟨this.1, this.2⟩
theorem D.plss_ok : ∀ ds : List D, D.plss ds = true → D.flats ds = true ∧ PyData.canLayAll0 (D.ps ds) = true
  | [], _ => ⟨rfl, rfl⟩
  | x :: xs, h => by
    have h := Bool.and_eq_true_iff.mp h
    have a := D.pls_ok x h.1
    have b := D.plss_ok xs h.2
    constructor
    · show (D.flat x && D.flats xs) = true
      rw [a.1, b.1]; rfl
    · show (PyData.canLay0 x.p && PyData.canLayAll0 (D.ps xs)) = true
      rw [a.2, b.2]; rfl
end
theorem okEq_pls {x y : D} (hx : x.pls = true) (hy : y.pls = true) (dx : x.dpt ≤ 60) (dy : y.dpt ≤ 60) : okEq x y = true := by
  have a := D.pls_ok x hx
  have b := D.pls_ok y hy
  have c := D.dpt_ok x
  have d := D.dpt_ok y
  unfold okEq
  rw [a.1, b.1]
  unfold SeqAt.shaped
  rw [a.2, b.2, decide_eq_true (show x.p.depth ≤ 64 by omega), decide_eq_true (show y.p.depth ≤ 64 by omega)]
  rfl
theorem eq_tupS {xs : List D} {d : D} (hx : (D.tup xs).pls = true) (hd : d.pls = true) (dx : (D.tup xs).dpt ≤ 60) (dd : d.dpt ≤ 60) (ah : AH) : gEq (.tup xs) d ah = .ok (.bl (PyData.eqv (D.tup xs).p d.p)) ah := by
  have o := okEq_pls hx hd dx dd
  cases d <;> (show M.when (okEq _ _) _ ah = _; rw [o]; rfl)
theorem ne_tupS {xs : List D} {d : D} (hx : (D.tup xs).pls = true) (hd : d.pls = true) (dx : (D.tup xs).dpt ≤ 60) (dd : d.dpt ≤ 60) (ah : AH) : gNe (.tup xs) d ah = .ok (.bl (!PyData.eqv (D.tup xs).p d.p)) ah := by
  have o := okEq_pls hx hd dx dd
  cases d <;> (show M.when (okEq _ _) _ ah = _; rw [o]; rfl)
theorem eqv_selfS {d : D} (h : d.pls = true) : PyData.eqv d.p d.p = true := PySem.SeqAt.eqv_refl d.p (D.pls_ok d h).2
theorem wq_eqSelfS {xs : List D} {d : D} (hh : (.tup xs) = d) (h : (D.tup xs).pls = true) (hd : (D.tup xs).dpt ≤ 60) {ah : AH} {K : D → AH → Prop} (k : K (.bl true) ah) : W (gEq (.tup xs) d ah) K := by
  subst hh
  have := eq_tupS h h hd hd ah
  rw [eqv_selfS h] at this
  exact wq_eq this k
theorem wq_neSelfS {xs : List D} {d : D} (hh : (.tup xs) = d) (h : (D.tup xs).pls = true) (hd : (D.tup xs).dpt ≤ 60) {ah : AH} {K : D → AH → Prop} (k : K (.bl false) ah) : W (gNe (.tup xs) d ah) K := by
  subst hh
  have := ne_tupS h h hd hd ah
  rw [eqv_selfS h] at this
  exact wq_eq this k
end Mi
set_option Elab.async false
set_option linter.all false
set_option maxRecDepth 100000
set_option maxHeartbeats 400000
namespace Law
open PySem PySem.Spec PyProof.Rows L2 Mi
/-- a comprehension with a test, whose calls may leave things on the heap -/
theorem wq_lc_filG {go : D → Lc → Option Lc} {tt : Lc → M Bool} {el : Lc → M D} {vs : List Nat} {env : Lc} {τ : Type} (f F : τ → D) (Pb : τ → Bool) : ∀ (ts : List τ) {ah : AH} {Q : List D → AH → Prop}, (∀ t ∈ ts, ∃ env1, go (f t) (wipeE env vs) = some env1 ∧ (∀ (ah : AH) (K : Bool → AH → Prop), (∀ ex, K (Pb t) (ah ++ ex)) → W (tt env1 ah) K) ∧ ∀ (ah : AH) (K : D → AH → Prop), (∀ ex, K (F t) (ah ++ ex)) → W (el env1 ah) K) → (∀ ex, Q ((ts.filter Pb).map F) (ah ++ ex)) → W (lc go tt el vs env (ts.map f) ah) Q
  | [], ah, Q, _, q => wq_lc_nil (by have := q []; rwa [List.append_nil] at this)
  | t :: ts, ah, Q, h, q => by
    obtain ⟨env1, e1, e2, e3⟩ := h t (List.mem_cons_self ..)
    refine wq_bind (wq_lift e1 (wq_bind (e2 _ _ fun ex => ?_)))
    cases hp : Pb t with
    | true =>
      rw [List.filter_cons_of_pos hp, List.map_cons] at q
      show W (M.andThen (el env1) (fun y => M.andThen (lc go tt el vs env (ts.map f)) fun ys => M.ret (y :: ys)) (ah ++ ex)) Q
      refine wq_bind (e3 _ _ fun ex2 => wq_bind ?_)
      refine wq_lc_filG f F Pb ts (Q := fun ys ah2 => W (M.ret (F t :: ys) ah2) Q) (fun t ht => h t (List.mem_cons_of_mem _ ht)) fun ex3 => ?_
      refine wq_ret ?_
      simp only [List.append_assoc]
      exact q _
    | false =>
      rw [List.filter_cons_of_neg (by rw [hp]; decide)] at q
      show W (lc go tt el vs env (ts.map f) (ah ++ ex)) Q
      refine wq_lc_filG f F Pb ts (fun t ht => h t (List.mem_cons_of_mem _ ht)) fun ex3 => ?_
      rw [List.append_assoc]
      exact q _
/-- the same, where what is made is asked only of what the test lets by -/
theorem wq_lc_filH {go : D → Lc → Option Lc} {tt : Lc → M Bool} {el : Lc → M D} {vs : List Nat} {env : Lc} {τ : Type} (f F : τ → D) (Pb : τ → Bool) : ∀ (ts : List τ) {ah : AH} {Q : List D → AH → Prop}, (∀ t ∈ ts, ∃ env1, go (f t) (wipeE env vs) = some env1 ∧ (∀ (ah : AH) (K : Bool → AH → Prop), (∀ ex, K (Pb t) (ah ++ ex)) → W (tt env1 ah) K) ∧ (Pb t = true → ∀ (ah : AH) (K : D → AH → Prop), (∀ ex, K (F t) (ah ++ ex)) → W (el env1 ah) K)) → (∀ ex, Q ((ts.filter Pb).map F) (ah ++ ex)) → W (lc go tt el vs env (ts.map f) ah) Q
  | [], ah, Q, _, q => wq_lc_nil (by have := q []; rwa [List.append_nil] at this)
  | t :: ts, ah, Q, h, q => by
    obtain ⟨env1, e1, e2, e3⟩ := h t (List.mem_cons_self ..)
    refine wq_bind (wq_lift e1 (wq_bind (e2 _ _ fun ex => ?_)))
    cases hp : Pb t with
    | true =>
      rw [List.filter_cons_of_pos hp, List.map_cons] at q
      show W (M.andThen (el env1) (fun y => M.andThen (lc go tt el vs env (ts.map f)) fun ys => M.ret (y :: ys)) (ah ++ ex)) Q
      refine wq_bind (e3 hp _ _ fun ex2 => wq_bind ?_)
      refine wq_lc_filH f F Pb ts (Q := fun ys ah2 => W (M.ret (F t :: ys) ah2) Q) (fun t ht => h t (List.mem_cons_of_mem _ ht)) fun ex3 => ?_
      refine wq_ret ?_
      simp only [List.append_assoc]
      exact q _
    | false =>
      rw [List.filter_cons_of_neg (by rw [hp]; decide)] at q
      show W (lc go tt el vs env (ts.map f) (ah ++ ex)) Q
      refine wq_lc_filH f F Pb ts (fun t ht => h t (List.mem_cons_of_mem _ ht)) fun ex3 => ?_
      rw [List.append_assoc]
      exact q _
theorem wq_lc_gro {go : D → Lc → Option Lc} {el : Lc → M D} {vs : List Nat} {env : Lc} {τ : Type} (f F : τ → D) : ∀ (ts : List τ) {ah : AH} {Q : List D → AH → Prop}, (∀ t ∈ ts, ∃ env1, go (f t) (wipeE env vs) = some env1 ∧ ∀ (ah : AH) (K : D → AH → Prop), (∀ ex, K (F t) (ah ++ ex)) → W (el env1 ah) K) → (∀ ex, Q (ts.map F) (ah ++ ex)) → W (lc go tYs el vs env (ts.map f) ah) Q
  | [], ah, Q, _, q => wq_lc_nil (by have := q []; rwa [List.append_nil] at this)
  | t :: ts, ah, Q, h, q => by
    obtain ⟨env1, e, w⟩ := h t (List.mem_cons_self ..)
    refine wq_lc_cons e (w _ _ fun ex => ?_)
    refine wq_lc_gro f F ts (Q := fun ys ah2 => Q (F t :: ys) ah2) (fun t ht => h t (List.mem_cons_of_mem _ ht)) fun ex2 => ?_
    rw [List.append_assoc]
    exact q _
theorem wq_lc_fil2 {go : D → Lc → Option Lc} {tt : Lc → M Bool} {el : Lc → M D} {vs : List Nat} {env : Lc} {ah : AH} {τ : Type} (f F : τ → D) (P : τ → Bool) : ∀ (ts : List τ) {Q : List D → AH → Prop}, (∀ t ∈ ts, ∃ env1, go (f t) (wipeE env vs) = some env1 ∧ W (tt env1 ah) (fun b ah' => b = P t ∧ ah' = ah) ∧ W (el env1 ah) fun d ah' => d = F t ∧ ah' = ah) → Q ((ts.filter P).map F) ah → W (lc go tt el vs env (ts.map f) ah) Q
  | [], Q, _, q => wq_ret q
  | t :: ts, Q, h, q => by
    obtain ⟨env1, e1, e2, e3⟩ := h t (List.mem_cons_self ..)
    refine wq_bind (wq_lift e1 (wq_bind (e2.mono fun b ah' z => ?_)))
    obtain ⟨rfl, rfl⟩ := z
    cases hp : P t with
    | true =>
      rw [List.filter_cons_of_pos hp] at q
      show W (M.andThen _ _ _) _
      refine wq_bind (e3.mono fun d ah' z => ?_)
      obtain ⟨rfl, rfl⟩ := z
      exact wq_bind (wq_lc_fil2 f F P ts (Q := fun ys ah => W (M.ret (F t :: ys) ah) Q) (fun t ht => h t (List.mem_cons_of_mem _ ht)) (wq_ret q))
    | false =>
      rw [List.filter_cons_of_neg (by rw [hp]; decide)] at q
      exact wq_lc_fil2 f F P ts (fun t ht => h t (List.mem_cons_of_mem _ ht)) q

variable {env : Lc} {ah : AH}
theorem wq_listNL {xs : List D} {Q : D → AH → Prop} (q : Q (.ref ah.length) (ah ++ [some (.lst xs)])) : W (gListN [.lst xs] ah) Q := ⟨_, _, rfl, q⟩
theorem wq_listNT {xs : List D} {Q : D → AH → Prop} (q : Q (.ref ah.length) (ah ++ [some (.lst xs)])) : W (gListN [.tup xs] ah) Q := ⟨_, _, rfl, q⟩
theorem wq_lenR {n : Nat} {xs : List D} {Q : D → AH → Prop} (h : ah[n]? = some (some (.lst xs))) (q : Q (.int xs.length) ah) : W (gLen [.ref n] ah) Q := by
  refine ⟨_, _, ?_, q⟩
  show M.andThen (getO n) _ ah = _
  simp only [M.andThen, getO, h, M.lift, M.ret]
theorem wq_popAt {n : Nat} {fo fe : Lc → M D} {xs : List D} {Q : D → AH → Prop} (e : fo env ah = .ok (.ref n) ah) (h : ah[n]? = some (some (.lst xs)))
    (q : W (fe env ah) fun y ah1 => ah1[n]? = some (some (.lst xs)) ∧ ∃ k d, idxOf y xs.length = some k ∧ xs[k]? = some d ∧ Q d (ah1.set n (some (.lst (xs.eraseIdx k))))) : W (ePopAt fo fe env ah) Q := by
  refine wq_bind (wq_eq e (wq_bind (wq_eq (a := ()) (ah' := ah) ?_ (wq_bind (q.mono fun y ah1 ⟨h1, k, d, ek, ed, kk⟩ => ?_)))))
  · show (M.andThen (getO _) _) _ = _
    simp only [M.andThen, getO, h, getL, M.lift, M.ret]
  · show W ((M.andThen (getO _) _) _) Q
    refine ⟨_, _, ?_, kk⟩
    simp only [M.andThen, getO, h1, getL, M.lift, ek, ed, putO, M.ret]
theorem idxOf_nat {n : Nat} {k : Int} (k0 : 0 ≤ k) (k1 : k < n) (hn : n < 2 ^ 62) : idxOf (.int k) n = some k.toNat := by
  unfold idxOf
  simp only
  have h1 : -(2 ^ 63) ≤ k := by omega
  have h2 : k < 2 ^ 63 := by omega
  rw [if_pos h1, if_pos h2]
  have e : (if k < 0 then k + (n : Int) else k) = k := if_neg (by omega)
  have this : (decide (0 ≤ k) && decide (k < (n : Int))) = true := by rw [decide_eq_true k0, decide_eq_true k1]; rfl
  unfold seqIndex?
  simp only [e, this, if_true]
theorem wq_eGet2 {fo fe ff : Lc → M D} {Q : D → AH → Prop} (h : W (fo env ah) fun x h1 => ∃ n kds, x = .ref n ∧ h1[n]? = some (some (.dct kds)) ∧ W (fe env h1) fun y h2 => W (ff env h2) fun z h3 => ∃ k, toKey y = some k ∧ h3[n]? = some (some (.dct kds)) ∧ Q ((lookD kds k).getD z) h3) : W (eGet2 fo fe ff env ah) Q := by
  refine wq_bind (h.mono fun x h1 ⟨n, kds, ex, g, w⟩ => ?_)
  subst ex
  refine wq_bind (wq_eq (a := ()) (ah' := h1) ?_ (wq_bind (w.mono fun y h2 w => wq_bind (w.mono fun z h3 ⟨k, hk, g3, q⟩ => ?_))))
  · show (M.andThen (getO _) _) _ = _
    simp only [M.andThen, getO, g, getK, M.lift, M.ret]
  · refine ⟨_, _, ?_, q⟩
    show (M.andThen (getO _) _) _ = _
    simp only [M.andThen, getO, g3, getK, M.lift, hk, M.ret]
theorem midG (q : Q) (r0 ex : AH) (o : Option AO) : (SRC q (r0 ++ [o] ++ ex))[r0.length + 2]? = some o := by
  unfold SRC
  simp
theorem midS (q : Q) (r0 ex : AH) (o o' : Option AO) : (SRC q (r0 ++ [o] ++ ex)).set (r0.length + 2) o' = SRC q (r0 ++ [o'] ++ ex) := by
  unfold SRC
  simp
/-- lists that may hold texts -/
theorem eq_lstS {xs ys : List D} (hl : xs.length = ys.length) (hx : (D.lst xs).pls = true) (hd : (D.lst ys).pls = true) (dx : (D.lst xs).dpt ≤ 60) (dd : (D.lst ys).dpt ≤ 60) (ah : AH) : gEq (.lst xs) (.lst ys) ah = .ok (.bl (PyData.eqv (D.lst xs).p (D.lst ys).p)) ah := by
  have o := okEq_pls hx hd dx dd
  show (if xs.length ≠ ys.length then _ else M.when (okEq _ _) _ : M D) ah = _
  rw [if_neg (by omega), o]
  rfl
theorem ne_lstS {xs ys : List D} (hx : (D.lst xs).pls = true) (hd : (D.lst ys).pls = true) (dx : (D.lst xs).dpt ≤ 60) (dd : (D.lst ys).dpt ≤ 60) (ah : AH) : gNe (.lst xs) (.lst ys) ah = .ok (.bl (!PyData.eqv (D.lst xs).p (D.lst ys).p)) ah := by
  have o := okEq_pls hx hd dx dd
  show (M.when (okEq _ _) _ : M D) ah = _
  rw [o]
  rfl
theorem wq_neLstS {xs ys : List D} (hh : xs = ys) (h : (D.lst xs).pls = true) (hd : (D.lst xs).dpt ≤ 60) {K : D → AH → Prop} (k : K (.bl false) ah) : W (gNe (.lst xs) (.lst ys) ah) K := by
  subst hh
  have := ne_lstS h h hd hd ah
  rw [eqv_selfS h] at this
  exact wq_eq this k
theorem wq_eqLstS {xs ys : List D} (hh : xs = ys) (h : (D.lst xs).pls = true) (hd : (D.lst xs).dpt ≤ 60) {K : D → AH → Prop} (k : K (.bl true) ah) : W (gEq (.lst xs) (.lst ys) ah) K := by
  subst hh
  have := eq_lstS rfl h h hd hd ah
  rw [eqv_selfS h] at this
  exact wq_eq this k
end Law
set_option Elab.async false
set_option linter.all false
set_option maxRecDepth 100000
set_option maxHeartbeats 400000
namespace Law
open PySem PySem.Spec PyProof.Rows L2 Mi
/-! ## comprehensions with two for, a try that looks at what it caught -/
theorem wq_eLd {c : Nat} {env : Lc} {ah : AH} {Q : D → AH → Prop} {it it1 : Lc → M (List D)} {go go1 : D → Lc → Option Lc} {tt tt1 : Lc → M Bool} {el : Lc → M D} {vs vs1 : List Nat} (h : W (it env ah) fun ds ah1 => ds.length * c ≤ 100000 ∧ W (lcd c go tt it1 go1 tt1 el vs vs1 env ds ah1) fun ys ah2 => Q (.lst ys) ah2) : W (eLd c it go tt it1 go1 tt1 el vs vs1 env ah) Q :=
  wq_bind (h.mono fun ds ah1 h => wq_when (decide_eq_true (by have := h.1; rw [sl]; omega)) (wq_bind (by
    obtain ⟨ys, ah2, e, q⟩ := h.2
    exact ⟨ys, ah2, by unfold hush; rw [e], wq_ret q⟩)))
theorem wq_lcd_gro {c : Nat} {go go1 : D → Lc → Option Lc} {it1 : Lc → M (List D)} {el : Lc → M D} {vs vs1 : List Nat} {env : Lc} {τ σ : Type} (f : τ → D) (g : σ → D) (F : τ → σ → D) (us : List σ) (hc : us.length ≤ c) : ∀ (ts : List τ) {ah : AH} {Q : List D → AH → Prop},
    (∀ t ∈ ts, ∃ env1, go (f t) (wipeE env vs) = some env1 ∧ (∀ (ah : AH) (K : List D → AH → Prop), K (us.map g) ah → W (it1 env1 ah) K) ∧ ∀ u ∈ us, ∃ env2, go1 (g u) (wipeE env1 vs1) = some env2 ∧ ∀ (ah : AH) (K : D → AH → Prop), (∀ ex, K (F t u) (ah ++ ex)) → W (el env2 ah) K) →
    (∀ ex, Q (ts.flatMap fun t => us.map (F t)) (ah ++ ex)) → W (lcd c go tYs it1 go1 tYs el vs vs1 env (ts.map f) ah) Q
  | [], ah, Q, _, q => wq_ret (by have := q []; rwa [List.append_nil] at this)
  | t :: ts, ah, Q, h, q => by
    obtain ⟨env1, e1, e2, e3⟩ := h t (List.mem_cons_self ..)
    refine wq_bind (wq_lift e1 (wq_bind (wq_ret ?_)))
    show W (M.andThen (it1 env1) _ ah) Q
    refine wq_bind (e2 ah _ ?_)
    refine wq_when (decide_eq_true (by rw [List.length_map]; exact hc)) ?_
    refine wq_bind (wq_lc_gro g (F t) us e3 fun ex => ?_)
    refine wq_bind (wq_lcd_gro f g F us hc ts (fun t ht => h t (List.mem_cons_of_mem _ ht)) fun ex2 => ?_)
    refine wq_ret ?_
    rw [List.append_assoc]
    exact q _
theorem wq_tryI {i : Nat} {y : Str} {b : Bool} {g : MS} {env env' : Lc} {ah ah' : AH} {Q : Fl × Lc → AH → Prop} (h : g env ah = .ex ⟨y, []⟩ env' ah') (hi : i < env'.length) (q : Q (.rt (.bl b), env') ah') : W (sTryI i y b g env ah) Q := by
  refine ⟨_, _, ?_, q⟩
  unfold sTryI
  simp only [h]
  simp [hi]
end Law
set_option Elab.async false
set_option linter.all false
set_option maxRecDepth 100000
set_option maxHeartbeats 4000000
namespace Law
open PySem PySem.Spec PyProof.Rows L2 Mi
def topS (i : Nat) : Stmt := PySem.Challenge.pw_ballmoves_k22_moves_made.main.body.getD i (.Pass ⟨0, 0, 0, 0⟩)
/-! ## the mirror -/
def b_is_number : MS :=
  (sRt (eA (eL gIsi (esC (eV 0) (esC (eC (.oth (.ty "int"))) esN))) (e1 gNot (eL gIsi (esC (eV 0) (esC (eC (.oth (.ty "bool"))) esN))))))
def m_is_number : List D → M D := def0 1 b_is_number
def b_is_pair : MS :=
  (sRt (eA (eL gIsi (esC (eV 0) (esC (eC (.oth (.ty "tuple"))) esN))) (eA (e2 gEq (eL gLen (esC (eV 0) esN)) (eC (.int 2))) (eA (eCall 1 m_is_number (esC (e2 gIx (eV 0) (eC (.int 0))) esN)) (eCall 1 m_is_number (esC (e2 gIx (eV 0) (eC (.int 1))) esN))))))
def m_is_pair : List D → M D := def0 1 b_is_pair
def b_is_fraction : MS :=
  (sRt (eA (eCall 1 m_is_pair (esC (eV 0) esN)) (eA (e2 gGt (e2 gIx (eV 0) (eC (.int 1))) (eC (.int 0))) (e2 gEq (eL gGcd (esC (e2 gIx (eV 0) (eC (.int 0))) (esC (e2 gIx (eV 0) (eC (.int 1))) esN))) (eC (.int 1))))))
def m_is_fraction : List D → M D := def0 1 b_is_fraction
def b_scaled : MS :=
  (sPs (sSet 4 (eL gGcd4 (esC (eV 0) (esC (eV 1) (esC (eV 2) (esC (eV 3) esN))))))
    (sPs (sIf (tO (tV (e2 gLt (eV 0) (eC (.int 0)))) (tA (tV (e2 gEq (eV 0) (eC (.int 0)))) (tV (e2 gLt (eV 1) (eC (.int 0)))))) (sSet 4 (e1 gNeg (eV 4))) sNx)
    (sRt (eL gTupD (esC (e2 gFdiv (eV 0) (eV 4)) (esC (e2 gFdiv (eV 1) (eV 4)) (esC (e2 gFdiv (eV 2) (eV 4)) (esC (e2 gFdiv (eV 3) (eV 4)) esN))))))))
def m_scaled : List D → M D := def0 5 b_scaled
def b_as_fraction : MS :=
  (sPs (sIf (tV (eCall 1 m_is_number (esC (eV 0) esN))) (sRt (eL gTupD (esC (eV 0) (esC (eC (.int 1)) esN)))) sNx)
    (sPs (sIf (tV (eCall 1 m_is_fraction (esC (eV 0) esN))) (sRt (eV 0)) sNx)
    (sRaise "BadMove")))
def m_as_fraction : List D → M D := defM 1 b_as_fraction
def b_move : MS :=
  (sPs (sSet 4 (eLcX (iOf itT (eL gTupD (esC (eV 0) (esC (eV 1) (esC (eV 2) (esC (eV 3) esN)))))) (oN 6) tYs (eCall 1 m_as_fraction (esC (eV 6) esN)) [6]))
    (sPs (sSet 5 (eL gLcm4 (esC (e2 gIx (e2 gIx (eV 4) (eC (.int 0))) (eC (.int 1))) (esC (e2 gIx (e2 gIx (eV 4) (eC (.int 1))) (eC (.int 1))) (esC (e2 gIx (e2 gIx (eV 4) (eC (.int 2))) (eC (.int 1))) (esC (e2 gIx (e2 gIx (eV 4) (eC (.int 3))) (eC (.int 1))) esN))))))
    (sPs (sAsg (gLs 4 (gsC (gN 0) (gsC (gN 1) (gsC (gN 2) (gsC (gN 3) gsN))))) (eLc (iOf itD (eV 4)) (oN 7) tYs (e2 gMul (e2 gIx (eV 7) (eC (.int 0))) (e2 gFdiv (eV 5) (e2 gIx (eV 7) (eC (.int 1))))) [7]))
    (sPs (sIf (tV (e2 gEq (e2 gMul (eV 0) (eV 3)) (e2 gMul (eV 1) (eV 2)))) (sRaise "BadMove") sNx)
    (sRt (eCall 4 m_scaled (esC (eV 0) (esC (eV 1) (esC (eV 2) (esC (eV 3) esN))))))))))
def m_move : List D → M D := defM 8 b_move
def b_size : MS :=
  (sPs (sAsg (gT 4 (gsC (gN 1) (gsC (gN 2) (gsC (gN 3) (gsC (gN 4) gsN))))) (eV 0))
    (sRt (e2 gSub (e2 gMul (eV 1) (eV 4)) (e2 gMul (eV 2) (eV 3)))))
def m_size : List D → M D := def0 5 b_size
def b_is_move : MS :=
  (sPs (sIf (tO (tN (tV (eL gIsi (esC (eV 0) (esC (eC (.oth (.ty "tuple"))) esN))))) (tV (e2 gNe (eL gLen (esC (eV 0) esN)) (eC (.int 4))))) (sRt (eC (.bl false))) sNx)
    (sPs (sIf (tN (tV (eL gAll (esC (eLc (iOf itA (eV 0)) (oN 1) tYs (eCall 1 m_is_number (esC (eV 1) esN)) [1]) esN)))) (sRt (eC (.bl false))) sNx)
    (sRt (eA (e2 gNe (eCall 1 m_size (esC (eV 0) esN)) (eC (.int 0))) (e2 gEq (eCallS 4 m_scaled (eV 0)) (eV 0))))))
def m_is_move : List D → M D := def0 2 b_is_move
def b_sum_of : MS :=
  (sRt (e2 gAdd (e2 gIx (eV 0) (eC (.int 0))) (e2 gIx (eV 0) (eC (.int 3)))))
def m_sum_of : List D → M D := def0 1 b_sum_of
def b__law_open_cells : MS :=
  (sPs (sSet 1 (eC (.int 11)))
    (sPs (sFo (iOf itD (eV 0)) (gN 2) (sSet 1 (e2 gMod (eL gInt (esC (e2 gAdd (e2 gAdd (e2 gMul (eV 1) (eC (.int 69069))) (e2 gMul (eV 2) (eC (.int 31)))) (eC (.int 5))) esN)) (eC (.int 2147483629)))))
    (sPs (sSet 3 (eLc (iOf itD (eV 0)) (oN 2) tYs (eL gAbs (esC (eV 2) esN)) [2]))
    (sRt (eDisp (pC (eC (.str (Str.ofString "cells"))) (e1 gRevN (eV 3)) (pC (eC (.str (Str.ofString "left"))) (eC (.int 1)) (pC (eC (.str (Str.ofString "mixed"))) (eV 1) (pC (eC (.str (Str.ofString "turn"))) (eC (.int 0)) pN)))))))))
def m__law_open_cells : List D → M D := def0 4 b__law_open_cells
def b__law_pick : MS :=
  (sPs (sIf (tV (e2 gLt (eV 1) (eC (.int 2)))) (sRt (eC (.int 0))) sNx)
    (sPs (sSet 2 (e2 gDGet (eV 0) (eC (.str (Str.ofString "cells")))))
    (sPs (wh (tA (tV (e2 gLt (e2 gDGet (eV 0) (eC (.str (Str.ofString "left")))) (eC (.int 2)))) (tV (e2 gGt (eL gLen (esC (eV 2) esN)) (eC (.int 0))))) (sDPut (eV 0) (eC (.str (Str.ofString "left"))) (e1 gPop (eV 2))) FU)
    (sPs (sSet 3 (e2 gDGet (eV 0) (eC (.str (Str.ofString "left")))))
    (sPs (sIf (tV (e2 gGt (eV 3) (eC (.int 1)))) (sPs (sDPut (eV 0) (eC (.str (Str.ofString "left"))) (e2 gFdiv (eV 3) (eV 1)))
    (sRt (e2 gMod (eL gInt (esC (eV 3) esN)) (eV 1)))) sNx)
    (sPs (sDPut (eV 0) (eC (.str (Str.ofString "turn"))) (e2 gAdd (e2 gDGet (eV 0) (eC (.str (Str.ofString "turn")))) (eC (.int 1))))
    (sPs (sSet 4 (e2 gDGet (eV 0) (eC (.str (Str.ofString "turn")))))
    (sPs (sSet 5 (e2 gMod (eL gInt (esC (e2 gAdd (e2 gDGet (eV 0) (eC (.str (Str.ofString "mixed")))) (e2 gMul (eV 4) (eC (.int 104729)))) esN)) (eC (.int 998244353))))
    (sPs (sSet 5 (e2 gMod (eL gInt (esC (e2 gAdd (e2 gMul (eV 5) (eV 5)) (e2 gMul (eV 4) (eC (.int 17)))) esN)) (eC (.int 2147483647))))
    (sRt (e2 gMod (eL gInt (esC (e2 gFdiv (eV 5) (eC (.int 16))) esN)) (eV 1))))))))))))
def m__law_pick : List D → M D := def0 6 b__law_pick
def b__law_common : MS :=
  (sPs (sPar2 0 1 (esC (eL gAbs (esC (eV 0) esN)) (esC (eL gAbs (esC (eV 1) esN)) esN)))
    (sPs (wh (tV (e2 gNe (eV 1) (eC (.int 0)))) (sPar2 0 1 (esC (eV 1) (esC (e2 gMod (eV 0) (eV 1)) esN))) FU)
    (sRt (eV 0))))
def m__law_common : List D → M D := def0 2 b__law_common
def b__law_fraction : MS :=
  (sPs (sSet 2 (eI (tV (e2 gGt (eV 1) (eC (.int 0)))) (eC (.int 1)) (e2 gSub (eC (.int 0)) (eC (.int 1)))))
    (sPs (sSet 3 (e2 gMul (eCall 2 m__law_common (esC (eV 0) (esC (eV 1) esN))) (eV 2)))
    (sRt (eL gTupD (esC (e2 gFdiv (eV 0) (eV 3)) (esC (e2 gFdiv (eV 1) (eV 3)) esN))))))
def m__law_fraction : List D → M D := def0 4 b__law_fraction
def b__law_move : MS :=
  (sPs (sSet 4 (eCall 2 m__law_common (esC (eCall 2 m__law_common (esC (eV 0) (esC (eV 1) esN))) (esC (eCall 2 m__law_common (esC (eV 2) (esC (eV 3) esN))) esN))))
    (sPs (sSet 5 (e2 gIx (eLc (iOf itT (eL gTupD (esC (eV 0) (esC (eV 1) (esC (eV 2) (esC (eV 3) esN)))))) (oN 6) (tV (e2 gNe (eV 6) (eC (.int 0)))) (eV 6) [6]) (eC (.int 0))))
    (sPs (sSet 4 (eI (tV (e2 gGt (eV 5) (eC (.int 0)))) (eV 4) (e2 gSub (eC (.int 0)) (eV 4))))
    (sRt (eL gTupD (esC (e2 gFdiv (eV 0) (eV 4)) (esC (e2 gFdiv (eV 1) (eV 4)) (esC (e2 gFdiv (eV 2) (eV 4)) (esC (e2 gFdiv (eV 3) (eV 4)) esN)))))))))
def m__law_move : List D → M D := def0 7 b__law_move
def b__law_size : MS :=
  (sRt (e2 gSub (e2 gMul (e2 gIx (eV 0) (eC (.int 0))) (e2 gIx (eV 0) (eC (.int 3)))) (e2 gMul (e2 gIx (eV 0) (eC (.int 1))) (e2 gIx (eV 0) (eC (.int 2))))))
def m__law_size : List D → M D := def0 1 b__law_size
def b__law_product : MS :=
  (sRt (eCall 2 m__law_fraction (esC (e2 gMul (e2 gIx (eV 0) (eC (.int 0))) (e2 gIx (eV 1) (eC (.int 0)))) (esC (e2 gMul (e2 gIx (eV 0) (eC (.int 1))) (e2 gIx (eV 1) (eC (.int 1)))) esN))))
def m__law_product : List D → M D := def0 2 b__law_product
def b__law_draw_prime : MS :=
  (sRt (e2 gIx (eL gLstD (esC (eC (.int 2)) (esC (eC (.int 3)) (esC (eC (.int 2)) (esC (eC (.int 5)) (esC (eC (.int 7)) esN)))))) (eCall 2 m__law_pick (esC (eV 0) (esC (eC (.int 5)) esN)))))
def m__law_draw_prime : List D → M D := def0 1 b__law_draw_prime
def b__law_draw_fraction : MS :=
  (sPs (sPar2 3 4 (esC (e2 gSub (eCall 2 m__law_pick (esC (eV 0) (esC (e2 gAdd (e2 gMul (eC (.int 2)) (eV 2)) (eC (.int 1))) esN))) (eV 2)) (esC (e2 gIx (eL gLstD (esC (eC (.int 1)) (esC (eC (.int 1)) (esC (eV 1) (esC (eC (.int 2)) (esC (eC (.int 3)) (esC (e2 gMul (eV 1) (eV 1)) esN))))))) (eCall 2 m__law_pick (esC (eV 0) (esC (eC (.int 6)) esN)))) esN)))
    (sRt (eCall 2 m__law_fraction (esC (e2 gMul (eV 3) (e2 gIx (eL gLstD (esC (eC (.int 1)) (esC (eC (.int 1)) (esC (eV 1) esN)))) (eCall 2 m__law_pick (esC (eV 0) (esC (eC (.int 3)) esN))))) (esC (eV 4) esN)))))
def m__law_draw_fraction : List D → M D := def0 5 b__law_draw_fraction
def b__law_choice_of : MS :=
  (sRt (e2 gIx (eV 1) (eCall 2 m__law_pick (esC (eV 0) (esC (eL gLen (esC (eV 1) esN)) esN)))))
def m__law_choice_of : List D → M D := def0 2 b__law_choice_of
def b__law_number : MS :=
  (sPs (sSet 1 (eCall 2 m__law_pick (esC (eV 0) (esC (eC (.int 9)) esN))))
    (sPs (sIf (tV (e2 gEq (eV 1) (eC (.int 0)))) (sRt (e2 gIx (eL gLstD (esC (e2 gSub (e2 gPow (eC (.int 10)) (eC (.int 9))) (eC (.int 1))) (esC (e2 gSub (eC (.int 1)) (e2 gPow (eC (.int 10)) (eC (.int 9)))) (esC (e2 gPow (eC (.int 2)) (eC (.int 29))) (esC (e2 gPow (eC (.int 3)) (eC (.int 18))) (esC (eC (.int 360360)) esN)))))) (eCall 2 m__law_pick (esC (eV 0) (esC (eC (.int 5)) esN))))) sNx)
    (sRt (eI (tV (e2 gGt (eV 1) (eC (.int 1)))) (e2 gSub (eCall 2 m__law_pick (esC (eV 0) (esC (eC (.int 25)) esN))) (eC (.int 12))) (e2 gSub (e2 gAdd (e2 gMul (eCall 2 m__law_pick (esC (eV 0) (esC (eC (.int 44721)) esN))) (eC (.int 44721))) (eCall 2 m__law_pick (esC (eV 0) (esC (eC (.int 44721)) esN)))) (eC (.int 999999999)))))))
def m__law_number : List D → M D := def0 2 b__law_number
def b__law_no_fraction : MS :=
  (sPs (sSet 1 (eL gLstD (esC (eC .non) (esC (eC (.bl true)) (esC (eC (.bl false)) (esC (eC (.str (Str.ofString "1"))) (esC (eL gLstD (esC (eC (.int 1)) (esC (eC (.int 1)) esN))) (esC (eL gTupD (esC (eC (.int 1)) esN)) (esC (eL gTupD (esC (eC (.int 2)) (esC (eC (.int 4)) esN))) (esC (eL gTupD (esC (eC (.int 1)) (esC (eC (.int 0)) esN))) (esC (eL gTupD (esC (eC (.int 1)) (esC (e1 gNeg (eC (.int 1))) esN))) (esC (eC .emp) (esC (eL gTupD (esC (eC (.bl true)) (esC (eC (.int 1)) esN))) (esC (eL gTupD (esC (eC (.int 1)) (esC (eC (.bl true)) esN))) (esC (eL gTupD (esC (eC (.bl true)) (esC (eC (.int 2)) esN))) (esC (eL gTupD (esC (eC .non) (esC (eC (.int 1)) esN))) esN))))))))))))))))
    (sRt (eCall 2 m__law_choice_of (esC (eV 0) (esC (e2 gAdd (eV 1) (eL gLstD (esC (eL gTupD (esC (eC (.int 1)) (esC (eC (.str (Str.ofString "a"))) esN))) (esC (eL gTupD (esC (eL gLstD (esC (eC (.int 1)) esN)) (esC (eC (.int 2)) esN))) (esC (eL gTupD (esC (eL gTupD (esC (eC (.int 1)) (esC (eC (.int 2)) esN))) (esC (eC (.int 3)) esN))) (esC (eL gTupD (esC (eC (.int 1)) (esC (eC (.int 2)) (esC (eC (.int 3)) esN)))) (esC (eL gTupD (esC (eC (.int 1)) (esC (eC .non) esN))) (esC (eL gTupD esN) (esC (eC (.str (Str.ofString ""))) (esC (eL gTupD (esC (eC (.bl false)) (esC (eC (.int 1)) esN))) esN)))))))))) esN)))))
def m__law_no_fraction : List D → M D := def0 2 b__law_no_fraction
def b__law_due : MS :=
  (sPs (sSet 1 (e2 gMul (e2 gMul (e2 gMul (e2 gIx (e2 gIx (eV 0) (eC (.int 0))) (eC (.int 1))) (e2 gIx (e2 gIx (eV 0) (eC (.int 1))) (eC (.int 1)))) (e2 gIx (e2 gIx (eV 0) (eC (.int 2))) (eC (.int 1)))) (e2 gIx (e2 gIx (eV 0) (eC (.int 3))) (eC (.int 1)))))
    (sPs (sSet 2 (eLc (iOf itD (eV 0)) (oN 3) tYs (e2 gMul (e2 gIx (eV 3) (eC (.int 0))) (e2 gFdiv (eV 1) (e2 gIx (eV 3) (eC (.int 1))))) [3]))
    (sPs (sIf (tV (e2 gEq (e2 gMul (e2 gIx (eV 2) (eC (.int 0))) (e2 gIx (eV 2) (eC (.int 3)))) (e2 gMul (e2 gIx (eV 2) (eC (.int 1))) (e2 gIx (eV 2) (eC (.int 2)))))) (sRt (eL gTupD (esC (eC (.str (Str.ofString "refused"))) esN))) sNx)
    (sRt (eCall 4 m__law_move (esC (e2 gIx (eV 2) (eC (.int 0))) (esC (e2 gIx (eV 2) (eC (.int 1))) (esC (e2 gIx (eV 2) (eC (.int 2))) (esC (e2 gIx (eV 2) (eC (.int 3))) esN)))))))))
def m__law_due : List D → M D := def0 4 b__law_due
def sub_0 : Str → Option Bool := fun y => if y = "BadMove" then some true else none
def b__law_told : MS :=
  (sTry sub_0 (sRt (eCall 4 m_move (esC (e2 gIx (eV 0) (eC (.int 0))) (esC (e2 gIx (eV 0) (eC (.int 1))) (esC (e2 gIx (eV 0) (eC (.int 2))) (esC (e2 gIx (eV 0) (eC (.int 3))) esN)))))) (sRt (eL gTupD (esC (eC (.str (Str.ofString "refused"))) esN))))
def m__law_told : List D → M D := def0 1 b__law_told
def b__law_draw_row : MS :=
  (sPs (sSet 2 (eLc (iOfs itR1 (esC (eC (.int 4)) esN)) (oN 4) tYs (eCall 3 m__law_draw_fraction (esC (eV 0) (esC (eV 1) (esC (eC (.int 6)) esN)))) [4]))
    (sPs (sIf (tV (e2 gEq (eCall 2 m__law_pick (esC (eV 0) (esC (eC (.int 5)) esN))) (eC (.int 0)))) (sPs (sSet 3 (eCall 3 m__law_draw_fraction (esC (eV 0) (esC (eV 1) (esC (eC (.int 3)) esN)))))
    (sSet 2 (e2 gAdd (eSl (eV 2) partN (partI (eC (.int 2)))) (eL gLstD (esC (eCall 2 m__law_product (esC (e2 gIx (eV 2) (eC (.int 0))) (esC (eV 3) esN))) (esC (eCall 2 m__law_product (esC (e2 gIx (eV 2) (eC (.int 1))) (esC (eV 3) esN))) esN)))))) sNx)
    (sRt (eV 2))))
def m__law_draw_row : List D → M D := def0 5 b__law_draw_row
def b_law : MS :=
  (sPs (sSet 1 (eCall 1 m__law_open_cells (esC (eV 0) esN)))
    (sPs (sFo (iOfs itR1 (esC (eC (.int 8)) esN)) (gN 2) (sPs (sSet 3 (eCall 1 m__law_draw_prime (esC (eV 1) esN)))
    (sPs (sAsg (gT 2 (gsC (gN 4) (gsC (gN 5) gsN))) (eL gTupD (esC (eCall 2 m__law_draw_row (esC (eV 1) (esC (eV 3) esN))) (esC (eCall 2 m__law_fraction (esC (e2 gAdd (eC (.int 1)) (eCall 2 m__law_pick (esC (eV 1) (esC (eC (.int 9)) esN)))) (esC (e2 gAdd (eC (.int 1)) (eCall 2 m__law_pick (esC (eV 1) (esC (eC (.int 4)) esN)))) esN))) esN))))
    (sPs (sSet 6 (eCall 1 m__law_due (esC (eV 4) esN)))
    (sPs (sSet 7 (eLc (iOf itD (eV 4)) (oN 13) tYs (eI (tA (tV (e2 gEq (e2 gIx (eV 13) (eC (.int 1))) (eC (.int 1)))) (tV (e2 gEq (eCall 2 m__law_pick (esC (eV 1) (esC (eC (.int 2)) esN))) (eC (.int 0))))) (e2 gIx (eV 13) (eC (.int 0))) (eV 13)) [13]))
    (sPs (sSet 8 (eL gLstD (esC (eV 4) (esC (eV 7) (esC (eLc (iOf itD (eV 4)) (oN 13) tYs (eCall 2 m__law_product (esC (eV 13) (esC (eV 5) esN))) [13]) (esC (eLc (iOf itD (eV 4)) (oN 13) tYs (eL gTupD (esC (e2 gSub (eC (.int 0)) (e2 gIx (eV 13) (eC (.int 0)))) (esC (e2 gIx (eV 13) (eC (.int 1))) esN))) [13]) esN))))))
    (sPs (sIf (tV (e2 gNe (eL gRepr (esC (eLc (iOf itD (eV 8)) (oN 14) tYs (eCall 1 m__law_told (esC (eV 14) esN)) [14]) esN)) (eL gRepr (esC (e2 gMul (eL gLstD (esC (eV 6) esN)) (eC (.int 4))) esN)))) (sRt (eC (.bl false))) sNx)
    (sPs (sIf (tA (tV (e2 gNe (eV 6) (eL gTupD (esC (eC (.str (Str.ofString "refused"))) esN)))) (tO (tV (e2 gNe (eL gRepr (esC (eL gLstD (esC (eCall 1 m_size (esC (eV 6) esN)) (esC (eCall 1 m_sum_of (esC (eV 6) esN)) esN))) esN)) (eL gRepr (esC (eL gLstD (esC (eCall 1 m__law_size (esC (eV 6) esN)) (esC (e2 gAdd (e2 gIx (eV 6) (eC (.int 0))) (e2 gIx (eV 6) (eC (.int 3)))) esN))) esN)))) (tN (tV (eCall 1 m_is_move (esC (eV 6) esN)))))) (sRt (eC (.bl false))) sNx)
    (sPs (sSet 9 (eLc (iOfs itR1 (esC (eC (.int 4)) esN)) (oN 15) tYs (eCall 1 m__law_number (esC (eV 1) esN)) [15]))
    (sPs (sIf (tV (e2 gNe (eL gRepr (esC (eCall 1 m__law_told (esC (eV 9) esN)) esN)) (eL gRepr (esC (eCall 1 m__law_due (esC (eLc (iOf itD (eV 9)) (oN 16) tYs (eL gTupD (esC (eV 16) (esC (eC (.int 1)) esN))) [16]) esN)) esN)))) (sRt (eC (.bl false))) sNx)
    (sPs (sPar2 10 11 (esC (eCall 2 m__law_pick (esC (eV 1) (esC (eC (.int 4)) esN))) (esC (eCall 1 m__law_no_fraction (esC (eV 1) esN)) esN)))
    (sPs (sSet 12 (eL gLstN (esC (eC (.int 1)) (esC (eC (.int 2)) (esC (eC (.int 3)) (esC (eC (.int 5)) esN))))))
    (sPs (sAsg (gSt (eV 12) (eV 10)) (eV 11))
    (sIf (tO (tV (e2 gNe (eCall 1 m__law_told (esC (eV 12) esN)) (eL gTupD (esC (eC (.str (Str.ofString "refused"))) esN)))) (tV (e2 gNe (eCall 1 m__law_told (esC (e2 gMul (eL gLstD (esC (eV 11) esN)) (eC (.int 4))) esN)) (eL gTupD (esC (eC (.str (Str.ofString "refused"))) esN))))) (sRt (eC (.bl false))) sNx))))))))))))))
    (sRt (eA (e2 gEq (eCall 1 m__law_told (esC (eL gLstD (esC (eC (.int 0)) (esC (eC (.int 0)) (esC (eC (.int 0)) (esC (eC (.int 0)) esN))))) esN)) (eL gTupD (esC (eC (.str (Str.ofString "refused"))) esN))) (e2 gEq (eCall 4 m_move (esC (eL gTupD (esC (eC (.int 1)) (esC (eC (.int 2)) esN))) (esC (eL gTupD (esC (eC (.int 1)) (esC (eC (.int 3)) esN))) (esC (eC (.int 0)) (esC (eL gTupD (esC (eC (.int 1)) (esC (eC (.int 5)) esN))) esN))))) (eL gTupD (esC (eC (.int 15)) (esC (eC (.int 10)) (esC (eC (.int 0)) (esC (eC (.int 6)) esN))))))))))
def m_law : List D → M D := defM 17 b_law
/-! ## each def keeps to its mirror -/
abbrev st_is_number : Stmt := topS 5
abbrev st_is_pair : Stmt := topS 6
abbrev st_is_fraction : Stmt := topS 7
abbrev st_scaled : Stmt := topS 9
abbrev st_as_fraction : Stmt := topS 10
abbrev st_move : Stmt := topS 11
abbrev st_size : Stmt := topS 13
abbrev st_is_move : Stmt := topS 12
abbrev st_sum_of : Stmt := topS 14
abbrev st__law_open_cells : Stmt := topS 16
abbrev st__law_pick : Stmt := topS 17
abbrev st__law_common : Stmt := topS 18
abbrev st__law_fraction : Stmt := topS 19
abbrev st__law_move : Stmt := topS 20
abbrev st__law_size : Stmt := topS 21
abbrev st__law_product : Stmt := topS 22
abbrev st__law_draw_prime : Stmt := topS 23
abbrev st__law_draw_fraction : Stmt := topS 24
abbrev st__law_choice_of : Stmt := topS 25
abbrev st__law_number : Stmt := topS 26
abbrev st__law_no_fraction : Stmt := topS 27
abbrev st__law_due : Stmt := topS 28
abbrev st__law_told : Stmt := topS 29
abbrev st__law_draw_row : Stmt := topS 30
abbrev st_law : Stmt := topS 31
theorem sc_is_number : FnScope ["value"] ["value"] (defScope st_is_number) := ⟨rfl, rfl, rfl, by decide +kernel, rfl, by decide +kernel, by decide +kernel⟩
theorem sc_is_pair : FnScope ["value"] ["value"] (defScope st_is_pair) := ⟨rfl, rfl, rfl, by decide +kernel, rfl, by decide +kernel, by decide +kernel⟩
theorem sc_is_fraction : FnScope ["value"] ["value"] (defScope st_is_fraction) := ⟨rfl, rfl, rfl, by decide +kernel, rfl, by decide +kernel, by decide +kernel⟩
theorem sc_scaled : FnScope ["a", "b", "c", "d", "divisor"] ["a", "b", "c", "d"] (defScope st_scaled) := ⟨rfl, rfl, rfl, by decide +kernel, rfl, by decide +kernel, by decide +kernel⟩
theorem sc_as_fraction : FnScope ["value"] ["value"] (defScope st_as_fraction) := ⟨rfl, rfl, rfl, by decide +kernel, rfl, by decide +kernel, by decide +kernel⟩
theorem sc_move : FnScope ["a", "b", "c", "d", "told", "scale", "value", "x"] ["a", "b", "c", "d"] (defScope st_move) := ⟨rfl, rfl, rfl, by decide +kernel, rfl, by decide +kernel, by decide +kernel⟩
theorem sc_size : FnScope ["m", "a", "b", "c", "d"] ["m"] (defScope st_size) := ⟨rfl, rfl, rfl, by decide +kernel, rfl, by decide +kernel, by decide +kernel⟩
theorem sc_is_move : FnScope ["value", "part"] ["value"] (defScope st_is_move) := ⟨rfl, rfl, rfl, by decide +kernel, rfl, by decide +kernel, by decide +kernel⟩
theorem sc_sum_of : FnScope ["m"] ["m"] (defScope st_sum_of) := ⟨rfl, rfl, rfl, by decide +kernel, rfl, by decide +kernel, by decide +kernel⟩
theorem sc__law_open_cells : FnScope ["_law_script", "_law_mixed", "_law_cell", "_law_cells"] ["_law_script"] (defScope st__law_open_cells) := ⟨rfl, rfl, rfl, by decide +kernel, rfl, by decide +kernel, by decide +kernel⟩
theorem sc__law_pick : FnScope ["_law_source", "_law_most", "_law_cells", "_law_left", "_law_turn", "_law_mixed"] ["_law_source", "_law_most"] (defScope st__law_pick) := ⟨rfl, rfl, rfl, by decide +kernel, rfl, by decide +kernel, by decide +kernel⟩
theorem sc__law_common : FnScope ["_law_a", "_law_b"] ["_law_a", "_law_b"] (defScope st__law_common) := ⟨rfl, rfl, rfl, by decide +kernel, rfl, by decide +kernel, by decide +kernel⟩
theorem sc__law_fraction : FnScope ["_law_n", "_law_d", "_law_sign", "_law_divisor"] ["_law_n", "_law_d"] (defScope st__law_fraction) := ⟨rfl, rfl, rfl, by decide +kernel, rfl, by decide +kernel, by decide +kernel⟩
theorem sc__law_move : FnScope ["_law_a", "_law_b", "_law_c", "_law_d", "_law_divisor", "_law_first", "_law_x"] ["_law_a", "_law_b", "_law_c", "_law_d"] (defScope st__law_move) := ⟨rfl, rfl, rfl, by decide +kernel, rfl, by decide +kernel, by decide +kernel⟩
theorem sc__law_size : FnScope ["_law_m"] ["_law_m"] (defScope st__law_size) := ⟨rfl, rfl, rfl, by decide +kernel, rfl, by decide +kernel, by decide +kernel⟩
theorem sc__law_product : FnScope ["_law_x", "_law_y"] ["_law_x", "_law_y"] (defScope st__law_product) := ⟨rfl, rfl, rfl, by decide +kernel, rfl, by decide +kernel, by decide +kernel⟩
theorem sc__law_draw_prime : FnScope ["_law_source"] ["_law_source"] (defScope st__law_draw_prime) := ⟨rfl, rfl, rfl, by decide +kernel, rfl, by decide +kernel, by decide +kernel⟩
theorem sc__law_draw_fraction : FnScope ["_law_source", "_law_p", "_law_wide", "_law_n", "_law_d"] ["_law_source", "_law_p", "_law_wide"] (defScope st__law_draw_fraction) := ⟨rfl, rfl, rfl, by decide +kernel, rfl, by decide +kernel, by decide +kernel⟩
theorem sc__law_choice_of : FnScope ["_law_source", "_law_things"] ["_law_source", "_law_things"] (defScope st__law_choice_of) := ⟨rfl, rfl, rfl, by decide +kernel, rfl, by decide +kernel, by decide +kernel⟩
theorem sc__law_number : FnScope ["_law_source", "_law_kind"] ["_law_source"] (defScope st__law_number) := ⟨rfl, rfl, rfl, by decide +kernel, rfl, by decide +kernel, by decide +kernel⟩
theorem sc__law_no_fraction : FnScope ["_law_source", "_law_some"] ["_law_source"] (defScope st__law_no_fraction) := ⟨rfl, rfl, rfl, by decide +kernel, rfl, by decide +kernel, by decide +kernel⟩
theorem sc__law_due : FnScope ["_law_row", "_law_common_here", "_law_found", "_law_x"] ["_law_row"] (defScope st__law_due) := ⟨rfl, rfl, rfl, by decide +kernel, rfl, by decide +kernel, by decide +kernel⟩
theorem sc__law_told : FnScope ["_law_row"] ["_law_row"] (defScope st__law_told) := ⟨rfl, rfl, rfl, by decide +kernel, rfl, by decide +kernel, by decide +kernel⟩
theorem sc__law_draw_row : FnScope ["_law_source", "_law_p", "_law_row", "_law_times", "_law_lap"] ["_law_source", "_law_p"] (defScope st__law_draw_row) := ⟨rfl, rfl, rfl, by decide +kernel, rfl, by decide +kernel, by decide +kernel⟩
theorem sc_law : FnScope ["_law_script", "_law_source", "_law_lap", "_law_p", "_law_row", "_law_times", "_law_due_here", "_law_mixed", "_law_some", "_law_great", "_law_k", "_law_odd", "_law_bent", "_law_x", "_law_one", "_law_turn", "_law_n"] ["_law_script"] (defScope st_law) := ⟨rfl, rfl, rfl, by decide +kernel, rfl, by decide +kernel, by decide +kernel⟩
structure Txt (K : PySem.W.Frag) (mg : Str → Option Value) : Type where
  is_number : DefAt K mg "is_number" st_is_number ["value"]
  is_pair : DefAt K mg "is_pair" st_is_pair ["value"]
  is_fraction : DefAt K mg "is_fraction" st_is_fraction ["value"]
  scaled : DefAt K mg "scaled" st_scaled ["a", "b", "c", "d"]
  as_fraction : DefAt K mg "as_fraction" st_as_fraction ["value"]
  move : DefAt K mg "move" st_move ["a", "b", "c", "d"]
  is_move : DefAt K mg "is_move" st_is_move ["value"]
  size : DefAt K mg "size" st_size ["m"]
  sum_of : DefAt K mg "sum_of" st_sum_of ["m"]
  _law_open_cells : DefAt K mg "_law_open_cells" st__law_open_cells ["_law_script"]
  _law_pick : DefAt K mg "_law_pick" st__law_pick ["_law_source", "_law_most"]
  _law_common : DefAt K mg "_law_common" st__law_common ["_law_a", "_law_b"]
  _law_fraction : DefAt K mg "_law_fraction" st__law_fraction ["_law_n", "_law_d"]
  _law_move : DefAt K mg "_law_move" st__law_move ["_law_a", "_law_b", "_law_c", "_law_d"]
  _law_size : DefAt K mg "_law_size" st__law_size ["_law_m"]
  _law_product : DefAt K mg "_law_product" st__law_product ["_law_x", "_law_y"]
  _law_draw_prime : DefAt K mg "_law_draw_prime" st__law_draw_prime ["_law_source"]
  _law_draw_fraction : DefAt K mg "_law_draw_fraction" st__law_draw_fraction ["_law_source", "_law_p", "_law_wide"]
  _law_choice_of : DefAt K mg "_law_choice_of" st__law_choice_of ["_law_source", "_law_things"]
  _law_number : DefAt K mg "_law_number" st__law_number ["_law_source"]
  _law_no_fraction : DefAt K mg "_law_no_fraction" st__law_no_fraction ["_law_source"]
  _law_due : DefAt K mg "_law_due" st__law_due ["_law_row"]
  _law_told : DefAt K mg "_law_told" st__law_told ["_law_row"]
  _law_draw_row : DefAt K mg "_law_draw_row" st__law_draw_row ["_law_source", "_law_p"]
  law : DefAt K mg "law" st_law ["_law_script"]
  z_abs : mg "abs" = none
  z_all : mg "all" = none
  z_bool : mg "bool" = none
  z_int : mg "int" = none
  z_isinstance : mg "isinstance" = none
  z_len : mg "len" = none
  z_range : mg "range" = none
  z_repr : mg "repr" = none
  z_tuple : mg "tuple" = none
  y_gcd : mg "gcd" = some (.builtin "math.gcd")
  y_lcm : mg "lcm" = some (.builtin "math.lcm")
  x_BadMove : ExAt K mg "BadMove"
  e_BadMove_BadMove : PySem.W.exmOne K (.ref x_BadMove.C) (.ref x_BadMove.C) = some true
section
variable {P : Program} {w : World} {K : PySem.W.Frag} {mg : Str → Option Value} {base : Heap}
theorem ok_is_number (T : Txt K mg) : FnG P w K mg base (L2.CX P w) 1 T.is_number.f T.is_number.fd ["value"] (spD K mg 1 m_is_number) := by
  have nd := sc_is_number.nd
  refine okM (k := 0) (g := b_is_number) T.is_number.fn sc_is_number rfl rfl fun cdv A outer s H E hr rm => ?_
  exact (s_one (s_ret (d_and (d_bfn call_isi g_isi rfl T.z_isinstance (by decide +kernel) (as_cons (d_var 0) (as_cons (d_tyname rfl T.z_int (by decide +kernel)) as_nil))) (d_one (d_not (d_bfn call_isi g_isi rfl T.z_isinstance (by decide +kernel) (as_cons (d_var 0) (as_cons (d_tyname rfl T.z_bool (by decide +kernel)) as_nil))))))))
theorem ok_is_pair (T : Txt K mg) : FnG P w K mg base (L2.CX P w) 2 T.is_pair.f T.is_pair.fd ["value"] (spD K mg 1 m_is_pair) := by
  have G_is_number := ok_is_number (P := P) (w := w) (base := base) T
  have nd := sc_is_pair.nd
  refine okM (k := 1) (g := b_is_pair) T.is_pair.fn sc_is_pair rfl rfl fun cdv A outer s H E hr rm => ?_
  exact (s_one (s_ret (d_and (d_bfn call_isi g_isi rfl T.z_isinstance (by decide +kernel) (as_cons (d_var 0) (as_cons (d_tyname rfl T.z_tuple (by decide +kernel)) as_nil))) (d_and (d_cmp (o_eq rm.un) g_eq (d_bfn c_len g_len rfl T.z_len (by decide +kernel) (as_cons (d_var 0) as_nil)) d_int) (d_and (d_call0 G_is_number (hr.mono (by decide)) rm rfl T.is_number.ix T.is_number.fn.kp T.is_number.bd (as_cons (d_ix (d_var 0) d_int) as_nil)) (d_one (d_call0 G_is_number (hr.mono (by decide)) rm rfl T.is_number.ix T.is_number.fn.kp T.is_number.bd (as_cons (d_ix (d_var 0) d_int) as_nil))))))))
theorem ok_is_fraction (T : Txt K mg) : FnG P w K mg base (L2.CX P w) 3 T.is_fraction.f T.is_fraction.fd ["value"] (spD K mg 1 m_is_fraction) := by
  have G_is_pair := ok_is_pair (P := P) (w := w) (base := base) T
  have nd := sc_is_fraction.nd
  refine okM (k := 2) (g := b_is_fraction) T.is_fraction.fn sc_is_fraction rfl rfl fun cdv A outer s H E hr rm => ?_
  exact (s_one (s_ret (d_and (d_call0 G_is_pair (hr.mono (by decide)) rm rfl T.is_pair.ix T.is_pair.fn.kp T.is_pair.bd (as_cons (d_var 0) as_nil)) (d_and (d_cmp op_gt g_gt (d_ix (d_var 0) d_int) d_int) (d_one (d_cmp (o_eq rm.un) g_eq (d_mfn cr_gcd g_gcd rfl T.y_gcd (as_cons (d_ix (d_var 0) d_int) (as_cons (d_ix (d_var 0) d_int) as_nil))) d_int))))))
theorem ok_scaled (T : Txt K mg) : FnG P w K mg base (L2.CX P w) 1 T.scaled.f T.scaled.fd ["a", "b", "c", "d"] (spD K mg 4 m_scaled) := by
  have nd := sc_scaled.nd
  refine okM (k := 0) (g := b_scaled) T.scaled.fn sc_scaled rfl rfl fun cdv A outer s H E hr rm => ?_
  exact (s_cons (s_set 4 nd (d_mfn cr_gcd4 g_gcd4 rfl T.y_gcd (as_cons (d_var 0) (as_cons (d_var 1) (as_cons (d_var 2) (as_cons (d_var 3) as_nil))))))
    (s_cons (s_if (L2.PW.pt (w_or (t_cmp op_lt g_lt (d_var 0) d_int) (w_or1 (L2.PW.pt (w_and (t_cmp (o_eq rm.un) g_eq (d_var 0) d_int) (w_and1 (t_cmp op_lt g_lt (d_var 1) d_int))))))) (s_one (s_set 4 nd (d_un un_neg g_neg (d_var 4)))) s_nil)
    (s_one (s_ret (d_tup (as_cons (d_op o_fdiv g_fdiv (d_var 0) (d_var 4)) (as_cons (d_op o_fdiv g_fdiv (d_var 1) (d_var 4)) (as_cons (d_op o_fdiv g_fdiv (d_var 2) (d_var 4)) (as_cons (d_op o_fdiv g_fdiv (d_var 3) (d_var 4)) as_nil)))))))))
theorem ok_as_fraction (T : Txt K mg) : FnG P w K mg base (L2.CX P w) 4 T.as_fraction.f T.as_fraction.fd ["value"] (spD K mg 1 m_as_fraction) := by
  have G_is_number := ok_is_number (P := P) (w := w) (base := base) T
  have G_is_fraction := ok_is_fraction (P := P) (w := w) (base := base) T
  have nd := sc_as_fraction.nd
  refine okX (k := 3) (g := b_as_fraction) T.as_fraction.fn sc_as_fraction rfl rfl fun cdv A outer s H E hr rm tk po => ?_
  exact (s_cons (s_if (t_val (d_callX tk G_is_number (hr.mono (by decide)) rm rfl T.is_number.ix T.is_number.fn.kp T.is_number.bd (as_cons (d_var 0) as_nil))) (s_one (s_ret (d_tup (as_cons (d_var 0) (as_cons d_int as_nil))))) s_nil)
    (s_cons (s_if (t_val (d_callX tk G_is_fraction (hr.mono (by decide)) rm rfl T.is_fraction.ix T.is_fraction.fn.kp T.is_fraction.bd (as_cons (d_var 0) as_nil))) (s_one (s_ret (d_var 0))) s_nil)
    (s_one (s_raise rm tk T.x_BadMove rfl))))
theorem ok_move (T : Txt K mg) : FnG P w K mg base (L2.CX P w) 5 T.move.f T.move.fd ["a", "b", "c", "d"] (spD K mg 4 m_move) := by
  have G_scaled := ok_scaled (P := P) (w := w) (base := base) T
  have G_as_fraction := ok_as_fraction (P := P) (w := w) (base := base) T
  have nd := sc_move.nd
  refine okX (k := 4) (g := b_move) T.move.fn sc_move rfl rfl fun cdv A outer s H E hr rm tk po => ?_
  exact (s_cons (s_setLcX 4 (own := [("value", 6)]) (g := gName 6) tk rm nd (i_tup (d_tup (as_cons (d_var 0) (as_cons (d_var 1) (as_cons (d_var 2) (as_cons (d_var 3) as_nil)))))) (blkOk_by (N := ["a", "b", "c", "d", "told", "scale", "value", "x"]) (sc := defScope st_move) (own := [("value", 6)]) (by decide +kernel)) (raw_n (by decide)) (fun _ _ _ _ _ => pg_name (i := 6) nd rfl (by first | exact Or.inl rfl | exact Or.inr rfl)) (fun _ _ _ _ _ => ts_nil) (fun _ _ _ _ _ _ _ pf => (have rm := rm.blk.wish _; (d_callP pf G_as_fraction (hr.mono (by decide)) rm rfl T.as_fraction.ix T.as_fraction.fn.kp T.as_fraction.bd (as_cons (d_var 6) as_nil)))))
    (s_cons (s_set 5 nd (d_mfn cr_lcm4 g_lcm4 rfl T.y_lcm (as_cons (d_ix (d_ix (d_var 4) d_int) d_int) (as_cons (d_ix (d_ix (d_var 4) d_int) d_int) (as_cons (d_ix (d_ix (d_var 4) d_int) d_int) (as_cons (d_ix (d_ix (d_var 4) d_int) d_int) as_nil))))))
    (s_cons (s_asg (d_lc (own := [("x", 7)]) (g := gName 7) rm nd (i_list (d_var 4)) (blkOk_by (N := ["a", "b", "c", "d", "told", "scale", "value", "x"]) (sc := defScope st_move) (own := [("x", 7)]) (by decide +kernel)) (raw_n (by decide)) (fun _ _ _ _ _ => pg_name (i := 7) nd rfl (by first | exact Or.inl rfl | exact Or.inr rfl)) (fun _ _ _ _ _ => ts_nil) (fun _ _ _ _ _ => (d_op o_mul g_mul (d_ix (d_var 7) d_int) (d_op o_fdiv g_fdiv (d_var 5) (d_ix (d_var 7) d_int))))) (g_lstT rm (gs_cons (g_name 0 nd) (gs_cons (g_name 1 nd) (gs_cons (g_name 2 nd) (gs_cons (g_name 3 nd) gs_nil))))))
    (s_cons (s_if (t_cmp (o_eq rm.un) g_eq (d_op o_mul g_mul (d_var 0) (d_var 3)) (d_op o_mul g_mul (d_var 1) (d_var 2))) (s_one (s_raise rm tk T.x_BadMove rfl)) s_nil)
    (s_one (s_ret (d_callX tk G_scaled (hr.mono (by decide)) rm rfl T.scaled.ix T.scaled.fn.kp T.scaled.bd (as_cons (d_var 0) (as_cons (d_var 1) (as_cons (d_var 2) (as_cons (d_var 3) as_nil)))))))))))
theorem ok_size (T : Txt K mg) : FnG P w K mg base (L2.CX P w) 1 T.size.f T.size.fd ["m"] (spD K mg 1 m_size) := by
  have nd := sc_size.nd
  refine okM (k := 0) (g := b_size) T.size.fn sc_size rfl rfl fun cdv A outer s H E hr rm => ?_
  exact (s_cons (s_asg (d_var 0) (g_tupT rm (gs_cons (g_name 1 nd) (gs_cons (g_name 2 nd) (gs_cons (g_name 3 nd) (gs_cons (g_name 4 nd) gs_nil))))))
    (s_one (s_ret (d_op op_sub g_sub (d_op o_mul g_mul (d_var 1) (d_var 4)) (d_op o_mul g_mul (d_var 2) (d_var 3))))))
theorem ok_is_move (T : Txt K mg) : FnG P w K mg base (L2.CX P w) 2 T.is_move.f T.is_move.fd ["value"] (spD K mg 1 m_is_move) := by
  have G_size := ok_size (P := P) (w := w) (base := base) T
  have G_scaled := ok_scaled (P := P) (w := w) (base := base) T
  have G_is_number := ok_is_number (P := P) (w := w) (base := base) T
  have nd := sc_is_move.nd
  refine okM (k := 1) (g := b_is_move) T.is_move.fn sc_is_move rfl rfl fun cdv A outer s H E hr rm => ?_
  exact (s_cons (s_if (L2.PW.pt (w_or (t_not (t_val (d_bfn call_isi g_isi rfl T.z_isinstance (by decide +kernel) (as_cons (d_var 0) (as_cons (d_tyname rfl T.z_tuple (by decide +kernel)) as_nil))))) (w_or1 (t_cmp (o_ne rm.un) g_ne (d_bfn c_len g_len rfl T.z_len (by decide +kernel) (as_cons (d_var 0) as_nil)) d_int)))) (s_one (s_ret d_bl)) s_nil)
    (s_cons (s_if (t_not (t_val (d_bfn (cr_all rm.cm) g_all rfl T.z_all (by decide +kernel) (as_cons (d_lc (own := [("part", 1)]) (g := gName 1) rm nd (i_any (d_var 0)) (blkOk_by (N := ["value", "part"]) (sc := defScope st_is_move) (own := [("part", 1)]) (by decide +kernel)) (raw_n (by decide)) (fun _ _ _ _ _ => pg_name (i := 1) nd rfl (by first | exact Or.inl rfl | exact Or.inr rfl)) (fun _ _ _ _ _ => ts_nil) (fun _ _ _ _ _ => (have rm := rm.blk; (d_call0 G_is_number (hr.mono (by decide)) rm rfl T.is_number.ix T.is_number.fn.kp T.is_number.bd (as_cons (d_var 1) as_nil))))) as_nil)))) (s_one (s_ret d_bl)) s_nil)
    (s_one (s_ret (d_and (d_cmp (o_ne rm.un) g_ne (d_call0 G_size (hr.mono (by decide)) rm rfl T.size.ix T.size.fn.kp T.size.bd (as_cons (d_var 0) as_nil)) d_int) (d_one (d_cmp (o_eq rm.un) g_eq (d_callS1 G_scaled (hr.mono (by decide)) rm rfl T.scaled.ix T.scaled.fn.kp T.scaled.bd (d_var 0)) (d_var 0))))))))
theorem ok_sum_of (T : Txt K mg) : FnG P w K mg base (L2.CX P w) 1 T.sum_of.f T.sum_of.fd ["m"] (spD K mg 1 m_sum_of) := by
  have nd := sc_sum_of.nd
  refine okM (k := 0) (g := b_sum_of) T.sum_of.fn sc_sum_of rfl rfl fun cdv A outer s H E hr rm => ?_
  exact (s_one (s_ret (d_op o_add g_add (d_ix (d_var 0) d_int) (d_ix (d_var 0) d_int))))
theorem ok__law_open_cells (T : Txt K mg) : FnG P w K mg base (L2.CX P w) 1 T._law_open_cells.f T._law_open_cells.fd ["_law_script"] (spD K mg 1 m__law_open_cells) := by
  have nd := sc__law_open_cells.nd
  refine okM (k := 0) (g := b__law_open_cells) T._law_open_cells.fn sc__law_open_cells rfl rfl fun cdv A outer s H E hr rm => ?_
  exact (s_cons (s_set 1 nd d_int)
    (s_cons (s_for rm PassesOwn.never (i_list (d_var 0)) (g_name 2 nd) (s_one (s_set 1 nd (d_op op_modN g_mod (d_bty call_int1 g_intc rfl T.z_int (by decide +kernel) (as_cons (d_op o_add g_add (d_op o_add g_add (d_op o_mul g_mul (d_var 1) d_int) (d_op o_mul g_mul (d_var 2) d_int)) d_int) as_nil)) d_int))))
    (s_cons (s_setLc 3 (own := [("_law_cell", 2)]) (g := gName 2) rm nd (i_list (d_var 0)) (blkOk_by (N := ["_law_script", "_law_mixed", "_law_cell", "_law_cells"]) (sc := defScope st__law_open_cells) (own := [("_law_cell", 2)]) (by decide +kernel)) (raw_n (by decide)) (fun _ _ _ _ _ => pg_name (i := 2) nd rfl (by first | exact Or.inl rfl | exact Or.inr rfl)) (fun _ _ _ _ _ => ts_nil) (fun _ _ _ _ _ => (d_bfn call_abs g_abs rfl T.z_abs (by decide +kernel) (as_cons (d_var 2) as_nil))))
    (s_one (s_ret (d_disp (pps_cons d_str (d_revN (d_var 3)) (pps_cons d_str d_int (pps_cons d_str (d_var 1) (pps_cons d_str d_int pps_nil)))) (tp_cons (tp_cons (tp_cons (tp_cons tp_nil))))))))))
theorem ok__law_pick (T : Txt K mg) : FnG P w K mg base (L2.CX P w) 1 T._law_pick.f T._law_pick.fd ["_law_source", "_law_most"] (spD K mg 2 m__law_pick) := by
  have nd := sc__law_pick.nd
  refine okM (k := 0) (g := b__law_pick) T._law_pick.fn sc__law_pick rfl rfl fun cdv A outer s H E hr rm => ?_
  exact (s_cons (s_if (t_cmp op_lt g_lt (d_var 1) d_int) (s_one (s_ret d_int)) s_nil)
    (s_cons (s_set 2 nd (d_dget rm (d_var 0) d_str))
    (s_cons (s_while FU PassesOwn.never (L2.PW.pt (w_and (t_cmp op_lt g_lt (d_dget rm (d_var 0) d_str) d_int) (w_and1 (t_cmp op_gt g_gt (d_bfn c_len g_len rfl T.z_len (by decide +kernel) (as_cons (d_var 2) as_nil)) d_int)))) (s_one (s_dput rm (d_var 0) d_str (d_pop (d_var 2)))))
    (s_cons (s_set 3 nd (d_dget rm (d_var 0) d_str))
    (s_cons (s_if (t_cmp op_gt g_gt (d_var 3) d_int) (s_cons (s_dput rm (d_var 0) d_str (d_op o_fdiv g_fdiv (d_var 3) (d_var 1)))
    (s_one (s_ret (d_op op_modN g_mod (d_bty call_int1 g_intc rfl T.z_int (by decide +kernel) (as_cons (d_var 3) as_nil)) (d_var 1))))) s_nil)
    (s_cons (s_dput rm (d_var 0) d_str (d_op o_add g_add (d_dget rm (d_var 0) d_str) d_int))
    (s_cons (s_set 4 nd (d_dget rm (d_var 0) d_str))
    (s_cons (s_set 5 nd (d_op op_modN g_mod (d_bty call_int1 g_intc rfl T.z_int (by decide +kernel) (as_cons (d_op o_add g_add (d_dget rm (d_var 0) d_str) (d_op o_mul g_mul (d_var 4) d_int)) as_nil)) d_int))
    (s_cons (s_set 5 nd (d_op op_modN g_mod (d_bty call_int1 g_intc rfl T.z_int (by decide +kernel) (as_cons (d_op o_add g_add (d_op o_mul g_mul (d_var 5) (d_var 5)) (d_op o_mul g_mul (d_var 4) d_int)) as_nil)) d_int))
    (s_one (s_ret (d_op op_modN g_mod (d_bty call_int1 g_intc rfl T.z_int (by decide +kernel) (as_cons (d_op o_fdiv g_fdiv (d_var 5) d_int) as_nil)) (d_var 1)))))))))))))
theorem ok__law_common (T : Txt K mg) : FnG P w K mg base (L2.CX P w) 1 T._law_common.f T._law_common.fd ["_law_a", "_law_b"] (spD K mg 2 m__law_common) := by
  have nd := sc__law_common.nd
  refine okM (k := 0) (g := b__law_common) T._law_common.fn sc__law_common rfl rfl fun cdv A outer s H E hr rm => ?_
  exact (s_cons (s_par2 0 1 rm nd (as_cons (d_bfn call_abs g_abs rfl T.z_abs (by decide +kernel) (as_cons (d_var 0) as_nil)) (as_cons (d_bfn call_abs g_abs rfl T.z_abs (by decide +kernel) (as_cons (d_var 1) as_nil)) as_nil)))
    (s_cons (s_while FU PassesOwn.never (t_cmp (o_ne rm.un) g_ne (d_var 1) d_int) (s_one (s_par2 0 1 rm nd (as_cons (d_var 1) (as_cons (d_op op_modN g_mod (d_var 0) (d_var 1)) as_nil)))))
    (s_one (s_ret (d_var 0)))))
theorem ok__law_fraction (T : Txt K mg) : FnG P w K mg base (L2.CX P w) 2 T._law_fraction.f T._law_fraction.fd ["_law_n", "_law_d"] (spD K mg 2 m__law_fraction) := by
  have G__law_common := ok__law_common (P := P) (w := w) (base := base) T
  have nd := sc__law_fraction.nd
  refine okM (k := 1) (g := b__law_fraction) T._law_fraction.fn sc__law_fraction rfl rfl fun cdv A outer s H E hr rm => ?_
  exact (s_cons (s_set 2 nd (d_if (t_cmp op_gt g_gt (d_var 1) d_int) d_int (d_op op_sub g_sub d_int d_int)))
    (s_cons (s_set 3 nd (d_op o_mul g_mul (d_call0 G__law_common (hr.mono (by decide)) rm rfl T._law_common.ix T._law_common.fn.kp T._law_common.bd (as_cons (d_var 0) (as_cons (d_var 1) as_nil))) (d_var 2)))
    (s_one (s_ret (d_tup (as_cons (d_op o_fdiv g_fdiv (d_var 0) (d_var 3)) (as_cons (d_op o_fdiv g_fdiv (d_var 1) (d_var 3)) as_nil)))))))
theorem ok__law_move (T : Txt K mg) : FnG P w K mg base (L2.CX P w) 2 T._law_move.f T._law_move.fd ["_law_a", "_law_b", "_law_c", "_law_d"] (spD K mg 4 m__law_move) := by
  have G__law_common := ok__law_common (P := P) (w := w) (base := base) T
  have nd := sc__law_move.nd
  refine okM (k := 1) (g := b__law_move) T._law_move.fn sc__law_move rfl rfl fun cdv A outer s H E hr rm => ?_
  exact (s_cons (s_set 4 nd (d_call0 G__law_common (hr.mono (by decide)) rm rfl T._law_common.ix T._law_common.fn.kp T._law_common.bd (as_cons (d_call0 G__law_common (hr.mono (by decide)) rm rfl T._law_common.ix T._law_common.fn.kp T._law_common.bd (as_cons (d_var 0) (as_cons (d_var 1) as_nil))) (as_cons (d_call0 G__law_common (hr.mono (by decide)) rm rfl T._law_common.ix T._law_common.fn.kp T._law_common.bd (as_cons (d_var 2) (as_cons (d_var 3) as_nil))) as_nil))))
    (s_cons (s_set 5 nd (d_ix (d_lc (own := [("_law_x", 6)]) (g := gName 6) rm nd (i_tup (d_tup (as_cons (d_var 0) (as_cons (d_var 1) (as_cons (d_var 2) (as_cons (d_var 3) as_nil)))))) (blkOk_by (N := ["_law_a", "_law_b", "_law_c", "_law_d", "_law_divisor", "_law_first", "_law_x"]) (sc := defScope st__law_move) (own := [("_law_x", 6)]) (by decide +kernel)) (raw_n (by decide)) (fun _ _ _ _ _ => pg_name (i := 6) nd rfl (by first | exact Or.inl rfl | exact Or.inr rfl)) (fun _ _ _ _ _ => (have rm := rm.blk; (ts_one (t_cmp (o_ne rm.un) g_ne (d_var 6) d_int)))) (fun _ _ _ _ _ => (d_var 6))) d_int))
    (s_cons (s_set 4 nd (d_if (t_cmp op_gt g_gt (d_var 5) d_int) (d_var 4) (d_op op_sub g_sub d_int (d_var 4))))
    (s_one (s_ret (d_tup (as_cons (d_op o_fdiv g_fdiv (d_var 0) (d_var 4)) (as_cons (d_op o_fdiv g_fdiv (d_var 1) (d_var 4)) (as_cons (d_op o_fdiv g_fdiv (d_var 2) (d_var 4)) (as_cons (d_op o_fdiv g_fdiv (d_var 3) (d_var 4)) as_nil))))))))))
theorem ok__law_size (T : Txt K mg) : FnG P w K mg base (L2.CX P w) 1 T._law_size.f T._law_size.fd ["_law_m"] (spD K mg 1 m__law_size) := by
  have nd := sc__law_size.nd
  refine okM (k := 0) (g := b__law_size) T._law_size.fn sc__law_size rfl rfl fun cdv A outer s H E hr rm => ?_
  exact (s_one (s_ret (d_op op_sub g_sub (d_op o_mul g_mul (d_ix (d_var 0) d_int) (d_ix (d_var 0) d_int)) (d_op o_mul g_mul (d_ix (d_var 0) d_int) (d_ix (d_var 0) d_int)))))
theorem ok__law_product (T : Txt K mg) : FnG P w K mg base (L2.CX P w) 3 T._law_product.f T._law_product.fd ["_law_x", "_law_y"] (spD K mg 2 m__law_product) := by
  have G__law_fraction := ok__law_fraction (P := P) (w := w) (base := base) T
  have nd := sc__law_product.nd
  refine okM (k := 2) (g := b__law_product) T._law_product.fn sc__law_product rfl rfl fun cdv A outer s H E hr rm => ?_
  exact (s_one (s_ret (d_call0 G__law_fraction (hr.mono (by decide)) rm rfl T._law_fraction.ix T._law_fraction.fn.kp T._law_fraction.bd (as_cons (d_op o_mul g_mul (d_ix (d_var 0) d_int) (d_ix (d_var 1) d_int)) (as_cons (d_op o_mul g_mul (d_ix (d_var 0) d_int) (d_ix (d_var 1) d_int)) as_nil)))))
theorem ok__law_draw_prime (T : Txt K mg) : FnG P w K mg base (L2.CX P w) 2 T._law_draw_prime.f T._law_draw_prime.fd ["_law_source"] (spD K mg 1 m__law_draw_prime) := by
  have G__law_pick := ok__law_pick (P := P) (w := w) (base := base) T
  have nd := sc__law_draw_prime.nd
  refine okM (k := 1) (g := b__law_draw_prime) T._law_draw_prime.fn sc__law_draw_prime rfl rfl fun cdv A outer s H E hr rm => ?_
  exact (s_one (s_ret (d_ix (d_lst (as_cons d_int (as_cons d_int (as_cons d_int (as_cons d_int (as_cons d_int as_nil)))))) (d_call0 G__law_pick (hr.mono (by decide)) rm rfl T._law_pick.ix T._law_pick.fn.kp T._law_pick.bd (as_cons (d_var 0) (as_cons d_int as_nil))))))
theorem ok__law_draw_fraction (T : Txt K mg) : FnG P w K mg base (L2.CX P w) 3 T._law_draw_fraction.f T._law_draw_fraction.fd ["_law_source", "_law_p", "_law_wide"] (spD K mg 3 m__law_draw_fraction) := by
  have G__law_fraction := ok__law_fraction (P := P) (w := w) (base := base) T
  have G__law_pick := ok__law_pick (P := P) (w := w) (base := base) T
  have nd := sc__law_draw_fraction.nd
  refine okM (k := 2) (g := b__law_draw_fraction) T._law_draw_fraction.fn sc__law_draw_fraction rfl rfl fun cdv A outer s H E hr rm => ?_
  exact (s_cons (s_par2 3 4 rm nd (as_cons (d_op op_sub g_sub (d_call0 G__law_pick (hr.mono (by decide)) rm rfl T._law_pick.ix T._law_pick.fn.kp T._law_pick.bd (as_cons (d_var 0) (as_cons (d_op o_add g_add (d_op o_mul g_mul d_int (d_var 2)) d_int) as_nil))) (d_var 2)) (as_cons (d_ix (d_lst (as_cons d_int (as_cons d_int (as_cons (d_var 1) (as_cons d_int (as_cons d_int (as_cons (d_op o_mul g_mul (d_var 1) (d_var 1)) as_nil))))))) (d_call0 G__law_pick (hr.mono (by decide)) rm rfl T._law_pick.ix T._law_pick.fn.kp T._law_pick.bd (as_cons (d_var 0) (as_cons d_int as_nil)))) as_nil)))
    (s_one (s_ret (d_call0 G__law_fraction (hr.mono (by decide)) rm rfl T._law_fraction.ix T._law_fraction.fn.kp T._law_fraction.bd (as_cons (d_op o_mul g_mul (d_var 3) (d_ix (d_lst (as_cons d_int (as_cons d_int (as_cons (d_var 1) as_nil)))) (d_call0 G__law_pick (hr.mono (by decide)) rm rfl T._law_pick.ix T._law_pick.fn.kp T._law_pick.bd (as_cons (d_var 0) (as_cons d_int as_nil))))) (as_cons (d_var 4) as_nil))))))
theorem ok__law_choice_of (T : Txt K mg) : FnG P w K mg base (L2.CX P w) 2 T._law_choice_of.f T._law_choice_of.fd ["_law_source", "_law_things"] (spD K mg 2 m__law_choice_of) := by
  have G__law_pick := ok__law_pick (P := P) (w := w) (base := base) T
  have nd := sc__law_choice_of.nd
  refine okM (k := 1) (g := b__law_choice_of) T._law_choice_of.fn sc__law_choice_of rfl rfl fun cdv A outer s H E hr rm => ?_
  exact (s_one (s_ret (d_ix (d_var 1) (d_call0 G__law_pick (hr.mono (by decide)) rm rfl T._law_pick.ix T._law_pick.fn.kp T._law_pick.bd (as_cons (d_var 0) (as_cons (d_bfn c_len g_len rfl T.z_len (by decide +kernel) (as_cons (d_var 1) as_nil)) as_nil))))))
theorem ok__law_number (T : Txt K mg) : FnG P w K mg base (L2.CX P w) 2 T._law_number.f T._law_number.fd ["_law_source"] (spD K mg 1 m__law_number) := by
  have G__law_pick := ok__law_pick (P := P) (w := w) (base := base) T
  have nd := sc__law_number.nd
  refine okM (k := 1) (g := b__law_number) T._law_number.fn sc__law_number rfl rfl fun cdv A outer s H E hr rm => ?_
  exact (s_cons (s_set 1 nd (d_call0 G__law_pick (hr.mono (by decide)) rm rfl T._law_pick.ix T._law_pick.fn.kp T._law_pick.bd (as_cons (d_var 0) (as_cons d_int as_nil))))
    (s_cons (s_if (t_cmp (o_eq rm.un) g_eq (d_var 1) d_int) (s_one (s_ret (d_ix (d_lst (as_cons (d_op op_sub g_sub (d_op op_pow g_pow d_int d_int) d_int) (as_cons (d_op op_sub g_sub d_int (d_op op_pow g_pow d_int d_int)) (as_cons (d_op op_pow g_pow d_int d_int) (as_cons (d_op op_pow g_pow d_int d_int) (as_cons d_int as_nil)))))) (d_call0 G__law_pick (hr.mono (by decide)) rm rfl T._law_pick.ix T._law_pick.fn.kp T._law_pick.bd (as_cons (d_var 0) (as_cons d_int as_nil)))))) s_nil)
    (s_one (s_ret (d_if (t_cmp op_gt g_gt (d_var 1) d_int) (d_op op_sub g_sub (d_call0 G__law_pick (hr.mono (by decide)) rm rfl T._law_pick.ix T._law_pick.fn.kp T._law_pick.bd (as_cons (d_var 0) (as_cons d_int as_nil))) d_int) (d_op op_sub g_sub (d_op o_add g_add (d_op o_mul g_mul (d_call0 G__law_pick (hr.mono (by decide)) rm rfl T._law_pick.ix T._law_pick.fn.kp T._law_pick.bd (as_cons (d_var 0) (as_cons d_int as_nil))) d_int) (d_call0 G__law_pick (hr.mono (by decide)) rm rfl T._law_pick.ix T._law_pick.fn.kp T._law_pick.bd (as_cons (d_var 0) (as_cons d_int as_nil)))) d_int))))))
theorem ok__law_no_fraction (T : Txt K mg) : FnG P w K mg base (L2.CX P w) 3 T._law_no_fraction.f T._law_no_fraction.fd ["_law_source"] (spD K mg 1 m__law_no_fraction) := by
  have G__law_choice_of := ok__law_choice_of (P := P) (w := w) (base := base) T
  have nd := sc__law_no_fraction.nd
  refine okM (k := 2) (g := b__law_no_fraction) T._law_no_fraction.fn sc__law_no_fraction rfl rfl fun cdv A outer s H E hr rm => ?_
  exact (s_cons (s_set 1 nd (d_lst (as_cons d_non (as_cons d_bl (as_cons d_bl (as_cons d_str (as_cons (d_lst (as_cons d_int (as_cons d_int as_nil))) (as_cons (d_tup (as_cons d_int as_nil)) (as_cons (d_tup (as_cons d_int (as_cons d_int as_nil))) (as_cons (d_tup (as_cons d_int (as_cons d_int as_nil))) (as_cons (d_tup (as_cons d_int (as_cons (d_un un_neg g_neg d_int) as_nil))) (as_cons d_emp (as_cons (d_tup (as_cons d_bl (as_cons d_int as_nil))) (as_cons (d_tup (as_cons d_int (as_cons d_bl as_nil))) (as_cons (d_tup (as_cons d_bl (as_cons d_int as_nil))) (as_cons (d_tup (as_cons d_non (as_cons d_int as_nil))) as_nil))))))))))))))))
    (s_one (s_ret (d_call0 G__law_choice_of (hr.mono (by decide)) rm rfl T._law_choice_of.ix T._law_choice_of.fn.kp T._law_choice_of.bd (as_cons (d_var 0) (as_cons (d_op o_add g_add (d_var 1) (d_lst (as_cons (d_tup (as_cons d_int (as_cons d_str as_nil))) (as_cons (d_tup (as_cons (d_lst (as_cons d_int as_nil)) (as_cons d_int as_nil))) (as_cons (d_tup (as_cons (d_tup (as_cons d_int (as_cons d_int as_nil))) (as_cons d_int as_nil))) (as_cons (d_tup (as_cons d_int (as_cons d_int (as_cons d_int as_nil)))) (as_cons (d_tup (as_cons d_int (as_cons d_non as_nil))) (as_cons (d_tup as_nil) (as_cons d_str (as_cons (d_tup (as_cons d_bl (as_cons d_int as_nil))) as_nil)))))))))) as_nil))))))
theorem ok__law_due (T : Txt K mg) : FnG P w K mg base (L2.CX P w) 3 T._law_due.f T._law_due.fd ["_law_row"] (spD K mg 1 m__law_due) := by
  have G__law_move := ok__law_move (P := P) (w := w) (base := base) T
  have nd := sc__law_due.nd
  refine okM (k := 2) (g := b__law_due) T._law_due.fn sc__law_due rfl rfl fun cdv A outer s H E hr rm => ?_
  exact (s_cons (s_set 1 nd (d_op o_mul g_mul (d_op o_mul g_mul (d_op o_mul g_mul (d_ix (d_ix (d_var 0) d_int) d_int) (d_ix (d_ix (d_var 0) d_int) d_int)) (d_ix (d_ix (d_var 0) d_int) d_int)) (d_ix (d_ix (d_var 0) d_int) d_int)))
    (s_cons (s_setLc 2 (own := [("_law_x", 3)]) (g := gName 3) rm nd (i_list (d_var 0)) (blkOk_by (N := ["_law_row", "_law_common_here", "_law_found", "_law_x"]) (sc := defScope st__law_due) (own := [("_law_x", 3)]) (by decide +kernel)) (raw_n (by decide)) (fun _ _ _ _ _ => pg_name (i := 3) nd rfl (by first | exact Or.inl rfl | exact Or.inr rfl)) (fun _ _ _ _ _ => ts_nil) (fun _ _ _ _ _ => (d_op o_mul g_mul (d_ix (d_var 3) d_int) (d_op o_fdiv g_fdiv (d_var 1) (d_ix (d_var 3) d_int)))))
    (s_cons (s_if (t_cmp (o_eq rm.un) g_eq (d_op o_mul g_mul (d_ix (d_var 2) d_int) (d_ix (d_var 2) d_int)) (d_op o_mul g_mul (d_ix (d_var 2) d_int) (d_ix (d_var 2) d_int))) (s_one (s_ret (d_tup (as_cons d_str as_nil)))) s_nil)
    (s_one (s_ret (d_call0 G__law_move (hr.mono (by decide)) rm rfl T._law_move.ix T._law_move.fn.kp T._law_move.bd (as_cons (d_ix (d_var 2) d_int) (as_cons (d_ix (d_var 2) d_int) (as_cons (d_ix (d_var 2) d_int) (as_cons (d_ix (d_var 2) d_int) as_nil))))))))))
theorem ok__law_told (T : Txt K mg) : FnG P w K mg base (L2.CX P w) 6 T._law_told.f T._law_told.fd ["_law_row"] (spD K mg 1 m__law_told) := by
  have G_move := ok_move (P := P) (w := w) (base := base) T
  have nd := sc__law_told.nd
  refine okM (k := 5) (g := b__law_told) T._law_told.fn sc__law_told rfl rfl fun cdv A outer s H E hr rm => ?_
  exact (s_one (s_try0 rfl rfl ⟨rfl, by decide, .inl T.x_BadMove.ix⟩  (fun y b h => by
    unfold sub_0 at h
    split at h
    · rename_i e; subst e; cases h; exact ⟨_, T.x_BadMove.ix, T.e_BadMove_BadMove⟩
    exact nomatch h) (fun W' pn xe tk po => have rm := rm.tr pn xe; (s_one (s_ret (d_callX tk G_move (hr.mono (by decide)) rm rfl T.move.ix T.move.fn.kp T.move.bd (as_cons (d_ix (d_var 0) d_int) (as_cons (d_ix (d_var 0) d_int) (as_cons (d_ix (d_var 0) d_int) (as_cons (d_ix (d_var 0) d_int) as_nil)))))))) (fun a pn => (s_one (s_ret (d_tup (as_cons d_str as_nil)))))))
theorem ok__law_draw_row (T : Txt K mg) : FnG P w K mg base (L2.CX P w) 4 T._law_draw_row.f T._law_draw_row.fd ["_law_source", "_law_p"] (spD K mg 2 m__law_draw_row) := by
  have G__law_draw_fraction := ok__law_draw_fraction (P := P) (w := w) (base := base) T
  have G__law_pick := ok__law_pick (P := P) (w := w) (base := base) T
  have G__law_product := ok__law_product (P := P) (w := w) (base := base) T
  have nd := sc__law_draw_row.nd
  refine okM (k := 3) (g := b__law_draw_row) T._law_draw_row.fn sc__law_draw_row rfl rfl fun cdv A outer s H E hr rm => ?_
  exact (s_cons (s_setLc 2 (own := [("_law_lap", 4)]) (g := gName 4) rm nd (i_rng1 rfl T.z_range (as_cons d_int as_nil)) (blkOk_by (N := ["_law_source", "_law_p", "_law_row", "_law_times", "_law_lap"]) (sc := defScope st__law_draw_row) (own := [("_law_lap", 4)]) (by decide +kernel)) (raw_n (by decide)) (fun _ _ _ _ _ => pg_name (i := 4) nd rfl (by first | exact Or.inl rfl | exact Or.inr rfl)) (fun _ _ _ _ _ => ts_nil) (fun _ _ _ _ _ => (have rm := rm.blk; (d_call0 G__law_draw_fraction (hr.mono (by decide)) rm rfl T._law_draw_fraction.ix T._law_draw_fraction.fn.kp T._law_draw_fraction.bd (as_cons (d_var 0) (as_cons (d_var 1) (as_cons d_int as_nil)))))))
    (s_cons (s_if (t_cmp (o_eq rm.un) g_eq (d_call0 G__law_pick (hr.mono (by decide)) rm rfl T._law_pick.ix T._law_pick.fn.kp T._law_pick.bd (as_cons (d_var 0) (as_cons d_int as_nil))) d_int) (s_cons (s_set 3 nd (d_call0 G__law_draw_fraction (hr.mono (by decide)) rm rfl T._law_draw_fraction.ix T._law_draw_fraction.fn.kp T._law_draw_fraction.bd (as_cons (d_var 0) (as_cons (d_var 1) (as_cons d_int as_nil)))))
    (s_one (s_set 2 nd (d_op o_add g_add (d_slice (d_var 2) p_none (p_some d_int)) (d_lst (as_cons (d_call0 G__law_product (hr.mono (by decide)) rm rfl T._law_product.ix T._law_product.fn.kp T._law_product.bd (as_cons (d_ix (d_var 2) d_int) (as_cons (d_var 3) as_nil))) (as_cons (d_call0 G__law_product (hr.mono (by decide)) rm rfl T._law_product.ix T._law_product.fn.kp T._law_product.bd (as_cons (d_ix (d_var 2) d_int) (as_cons (d_var 3) as_nil))) as_nil))))))) s_nil)
    (s_one (s_ret (d_var 2)))))
theorem ok_law (T : Txt K mg) : FnG P w K mg base (L2.CX P w) 7 T.law.f T.law.fd ["_law_script"] (spD K mg 1 m_law) := by
  have G__law_open_cells := ok__law_open_cells (P := P) (w := w) (base := base) T
  have G__law_draw_prime := ok__law_draw_prime (P := P) (w := w) (base := base) T
  have G__law_due := ok__law_due (P := P) (w := w) (base := base) T
  have G__law_draw_row := ok__law_draw_row (P := P) (w := w) (base := base) T
  have G__law_fraction := ok__law_fraction (P := P) (w := w) (base := base) T
  have G__law_number := ok__law_number (P := P) (w := w) (base := base) T
  have G__law_pick := ok__law_pick (P := P) (w := w) (base := base) T
  have G__law_no_fraction := ok__law_no_fraction (P := P) (w := w) (base := base) T
  have G__law_told := ok__law_told (P := P) (w := w) (base := base) T
  have G_move := ok_move (P := P) (w := w) (base := base) T
  have G__law_product := ok__law_product (P := P) (w := w) (base := base) T
  have G_is_move := ok_is_move (P := P) (w := w) (base := base) T
  have G_size := ok_size (P := P) (w := w) (base := base) T
  have G_sum_of := ok_sum_of (P := P) (w := w) (base := base) T
  have G__law_size := ok__law_size (P := P) (w := w) (base := base) T
  have nd := sc_law.nd
  refine okX (k := 6) (g := b_law) T.law.fn sc_law rfl rfl fun cdv A outer s H E hr rm tk po => ?_
  exact (s_cons (s_set 1 nd (d_callX tk G__law_open_cells (hr.mono (by decide)) rm rfl T._law_open_cells.ix T._law_open_cells.fn.kp T._law_open_cells.bd (as_cons (d_var 0) as_nil)))
    (s_cons (s_for rm po (i_rng1 rfl T.z_range (as_cons d_int as_nil)) (g_name 2 nd) (s_cons (s_set 3 nd (d_callX tk G__law_draw_prime (hr.mono (by decide)) rm rfl T._law_draw_prime.ix T._law_draw_prime.fn.kp T._law_draw_prime.bd (as_cons (d_var 1) as_nil)))
    (s_cons (s_asg (d_tup (as_cons (d_callX tk G__law_draw_row (hr.mono (by decide)) rm rfl T._law_draw_row.ix T._law_draw_row.fn.kp T._law_draw_row.bd (as_cons (d_var 1) (as_cons (d_var 3) as_nil))) (as_cons (d_callX tk G__law_fraction (hr.mono (by decide)) rm rfl T._law_fraction.ix T._law_fraction.fn.kp T._law_fraction.bd (as_cons (d_op o_add g_add d_int (d_callX tk G__law_pick (hr.mono (by decide)) rm rfl T._law_pick.ix T._law_pick.fn.kp T._law_pick.bd (as_cons (d_var 1) (as_cons d_int as_nil)))) (as_cons (d_op o_add g_add d_int (d_callX tk G__law_pick (hr.mono (by decide)) rm rfl T._law_pick.ix T._law_pick.fn.kp T._law_pick.bd (as_cons (d_var 1) (as_cons d_int as_nil)))) as_nil))) as_nil))) (g_tupT rm (gs_cons (g_name 4 nd) (gs_cons (g_name 5 nd) gs_nil))))
    (s_cons (s_set 6 nd (d_callX tk G__law_due (hr.mono (by decide)) rm rfl T._law_due.ix T._law_due.fn.kp T._law_due.bd (as_cons (d_var 4) as_nil)))
    (s_cons (s_setLc 7 (own := [("_law_x", 13)]) (g := gName 13) rm nd (i_list (d_var 4)) (blkOk_by (N := ["_law_script", "_law_source", "_law_lap", "_law_p", "_law_row", "_law_times", "_law_due_here", "_law_mixed", "_law_some", "_law_great", "_law_k", "_law_odd", "_law_bent", "_law_x", "_law_one", "_law_turn", "_law_n"]) (sc := defScope st_law) (own := [("_law_x", 13)]) (by decide +kernel)) (raw_n (by decide)) (fun _ _ _ _ _ => pg_name (i := 13) nd rfl (by first | exact Or.inl rfl | exact Or.inr rfl)) (fun _ _ _ _ _ => ts_nil) (fun _ _ _ _ _ => (have rm := rm.blk; (d_if (L2.PW.pt (w_and (t_cmp (o_eq rm.un) g_eq (d_ix (d_var 13) d_int) d_int) (w_and1 (t_cmp (o_eq rm.un) g_eq (d_call0 G__law_pick (hr.mono (by decide)) rm rfl T._law_pick.ix T._law_pick.fn.kp T._law_pick.bd (as_cons (d_var 1) (as_cons d_int as_nil))) d_int)))) (d_ix (d_var 13) d_int) (d_var 13)))))
    (s_cons (s_set 8 nd (d_lst (as_cons (d_var 4) (as_cons (d_var 7) (as_cons (d_lc (own := [("_law_x", 13)]) (g := gName 13) rm nd (i_list (d_var 4)) (blkOk_by (N := ["_law_script", "_law_source", "_law_lap", "_law_p", "_law_row", "_law_times", "_law_due_here", "_law_mixed", "_law_some", "_law_great", "_law_k", "_law_odd", "_law_bent", "_law_x", "_law_one", "_law_turn", "_law_n"]) (sc := defScope st_law) (own := [("_law_x", 13)]) (by decide +kernel)) (raw_n (by decide)) (fun _ _ _ _ _ => pg_name (i := 13) nd rfl (by first | exact Or.inl rfl | exact Or.inr rfl)) (fun _ _ _ _ _ => ts_nil) (fun _ _ _ _ _ => (have rm := rm.blk; (d_call0 G__law_product (hr.mono (by decide)) rm rfl T._law_product.ix T._law_product.fn.kp T._law_product.bd (as_cons (d_var 13) (as_cons (d_var 5) as_nil)))))) (as_cons (d_lc (own := [("_law_x", 13)]) (g := gName 13) rm nd (i_list (d_var 4)) (blkOk_by (N := ["_law_script", "_law_source", "_law_lap", "_law_p", "_law_row", "_law_times", "_law_due_here", "_law_mixed", "_law_some", "_law_great", "_law_k", "_law_odd", "_law_bent", "_law_x", "_law_one", "_law_turn", "_law_n"]) (sc := defScope st_law) (own := [("_law_x", 13)]) (by decide +kernel)) (raw_n (by decide)) (fun _ _ _ _ _ => pg_name (i := 13) nd rfl (by first | exact Or.inl rfl | exact Or.inr rfl)) (fun _ _ _ _ _ => ts_nil) (fun _ _ _ _ _ => (d_tup (as_cons (d_op op_sub g_sub d_int (d_ix (d_var 13) d_int)) (as_cons (d_ix (d_var 13) d_int) as_nil))))) as_nil))))))
    (s_cons (s_if (t_cmp (o_ne rm.un) g_ne (d_bfn (c_repr rm) g_repr rfl T.z_repr (by decide +kernel) (as_cons (d_lc (own := [("_law_one", 14)]) (g := gName 14) rm nd (i_list (d_var 8)) (blkOk_by (N := ["_law_script", "_law_source", "_law_lap", "_law_p", "_law_row", "_law_times", "_law_due_here", "_law_mixed", "_law_some", "_law_great", "_law_k", "_law_odd", "_law_bent", "_law_x", "_law_one", "_law_turn", "_law_n"]) (sc := defScope st_law) (own := [("_law_one", 14)]) (by decide +kernel)) (raw_n (by decide)) (fun _ _ _ _ _ => pg_name (i := 14) nd rfl (by first | exact Or.inl rfl | exact Or.inr rfl)) (fun _ _ _ _ _ => ts_nil) (fun _ _ _ _ _ => (have rm := rm.blk; (d_call0 G__law_told (hr.mono (by decide)) rm rfl T._law_told.ix T._law_told.fn.kp T._law_told.bd (as_cons (d_var 14) as_nil))))) as_nil)) (d_bfn (c_repr rm) g_repr rfl T.z_repr (by decide +kernel) (as_cons (d_op o_mul g_mul (d_lst (as_cons (d_var 6) as_nil)) d_int) as_nil))) (s_one (s_ret d_bl)) s_nil)
    (s_cons (s_if (L2.PW.pt (w_and (t_cmp (o_ne rm.un) g_ne (d_var 6) (d_tup (as_cons d_str as_nil))) (w_and1 (L2.PW.pt (w_or (t_cmp (o_ne rm.un) g_ne (d_bfn (c_repr rm) g_repr rfl T.z_repr (by decide +kernel) (as_cons (d_lst (as_cons (d_callX tk G_size (hr.mono (by decide)) rm rfl T.size.ix T.size.fn.kp T.size.bd (as_cons (d_var 6) as_nil)) (as_cons (d_callX tk G_sum_of (hr.mono (by decide)) rm rfl T.sum_of.ix T.sum_of.fn.kp T.sum_of.bd (as_cons (d_var 6) as_nil)) as_nil))) as_nil)) (d_bfn (c_repr rm) g_repr rfl T.z_repr (by decide +kernel) (as_cons (d_lst (as_cons (d_callX tk G__law_size (hr.mono (by decide)) rm rfl T._law_size.ix T._law_size.fn.kp T._law_size.bd (as_cons (d_var 6) as_nil)) (as_cons (d_op o_add g_add (d_ix (d_var 6) d_int) (d_ix (d_var 6) d_int)) as_nil))) as_nil))) (w_or1 (t_not (t_val (d_callX tk G_is_move (hr.mono (by decide)) rm rfl T.is_move.ix T.is_move.fn.kp T.is_move.bd (as_cons (d_var 6) as_nil)))))))))) (s_one (s_ret d_bl)) s_nil)
    (s_cons (s_setLc 9 (own := [("_law_turn", 15)]) (g := gName 15) rm nd (i_rng1 rfl T.z_range (as_cons d_int as_nil)) (blkOk_by (N := ["_law_script", "_law_source", "_law_lap", "_law_p", "_law_row", "_law_times", "_law_due_here", "_law_mixed", "_law_some", "_law_great", "_law_k", "_law_odd", "_law_bent", "_law_x", "_law_one", "_law_turn", "_law_n"]) (sc := defScope st_law) (own := [("_law_turn", 15)]) (by decide +kernel)) (raw_n (by decide)) (fun _ _ _ _ _ => pg_name (i := 15) nd rfl (by first | exact Or.inl rfl | exact Or.inr rfl)) (fun _ _ _ _ _ => ts_nil) (fun _ _ _ _ _ => (have rm := rm.blk; (d_call0 G__law_number (hr.mono (by decide)) rm rfl T._law_number.ix T._law_number.fn.kp T._law_number.bd (as_cons (d_var 1) as_nil)))))
    (s_cons (s_if (t_cmp (o_ne rm.un) g_ne (d_bfn (c_repr rm) g_repr rfl T.z_repr (by decide +kernel) (as_cons (d_callX tk G__law_told (hr.mono (by decide)) rm rfl T._law_told.ix T._law_told.fn.kp T._law_told.bd (as_cons (d_var 9) as_nil)) as_nil)) (d_bfn (c_repr rm) g_repr rfl T.z_repr (by decide +kernel) (as_cons (d_callX tk G__law_due (hr.mono (by decide)) rm rfl T._law_due.ix T._law_due.fn.kp T._law_due.bd (as_cons (d_lc (own := [("_law_n", 16)]) (g := gName 16) rm nd (i_list (d_var 9)) (blkOk_by (N := ["_law_script", "_law_source", "_law_lap", "_law_p", "_law_row", "_law_times", "_law_due_here", "_law_mixed", "_law_some", "_law_great", "_law_k", "_law_odd", "_law_bent", "_law_x", "_law_one", "_law_turn", "_law_n"]) (sc := defScope st_law) (own := [("_law_n", 16)]) (by decide +kernel)) (raw_n (by decide)) (fun _ _ _ _ _ => pg_name (i := 16) nd rfl (by first | exact Or.inl rfl | exact Or.inr rfl)) (fun _ _ _ _ _ => ts_nil) (fun _ _ _ _ _ => (d_tup (as_cons (d_var 16) (as_cons d_int as_nil))))) as_nil)) as_nil))) (s_one (s_ret d_bl)) s_nil)
    (s_cons (s_par2 10 11 rm nd (as_cons (d_callX tk G__law_pick (hr.mono (by decide)) rm rfl T._law_pick.ix T._law_pick.fn.kp T._law_pick.bd (as_cons (d_var 1) (as_cons d_int as_nil))) (as_cons (d_callX tk G__law_no_fraction (hr.mono (by decide)) rm rfl T._law_no_fraction.ix T._law_no_fraction.fn.kp T._law_no_fraction.bd (as_cons (d_var 1) as_nil)) as_nil)))
    (s_cons (s_set 12 nd (d_lstN (as_cons d_int (as_cons d_int (as_cons d_int (as_cons d_int as_nil))))))
    (s_cons (s_asg (d_var 11) (g_st (d_var 12) (d_var 10)))
    (s_one (s_if (L2.PW.pt (w_or (t_cmp (o_ne rm.un) g_ne (d_callX tk G__law_told (hr.mono (by decide)) rm rfl T._law_told.ix T._law_told.fn.kp T._law_told.bd (as_cons (d_var 12) as_nil)) (d_tup (as_cons d_str as_nil))) (w_or1 (t_cmp (o_ne rm.un) g_ne (d_callX tk G__law_told (hr.mono (by decide)) rm rfl T._law_told.ix T._law_told.fn.kp T._law_told.bd (as_cons (d_op o_mul g_mul (d_lst (as_cons (d_var 11) as_nil)) d_int) as_nil)) (d_tup (as_cons d_str as_nil)))))) (s_one (s_ret d_bl)) s_nil)))))))))))))))
    (s_one (s_ret (d_and (d_cmp (o_eq rm.un) g_eq (d_callX tk G__law_told (hr.mono (by decide)) rm rfl T._law_told.ix T._law_told.fn.kp T._law_told.bd (as_cons (d_lst (as_cons d_int (as_cons d_int (as_cons d_int (as_cons d_int as_nil))))) as_nil)) (d_tup (as_cons d_str as_nil))) (d_one (d_cmp (o_eq rm.un) g_eq (d_callX tk G_move (hr.mono (by decide)) rm rfl T.move.ix T.move.fn.kp T.move.bd (as_cons (d_tup (as_cons d_int (as_cons d_int as_nil))) (as_cons (d_tup (as_cons d_int (as_cons d_int as_nil))) (as_cons d_int (as_cons (d_tup (as_cons d_int (as_cons d_int as_nil))) as_nil))))) (d_tup (as_cons d_int (as_cons d_int (as_cons d_int (as_cons d_int as_nil))))))))))))
end
theorem all_mk {l : PySem.W.OpenLaw} {w : World} {K : PySem.W.Frag} {h : Heap} {mg : Str → Option Value} {fa : Addr} (X : K.In h) (G : h.Ns mainGlobals mg) (hfa : mg "law" = some (.ref fa))
    {f0 : Addr} {oc0 : Value} {od0 an0 : Option Addr} {sl0 : Array (Option Value)} {kV0 dc0 pm0 cd0 ct0 : Value}
    {f1 : Addr} {oc1 : Value} {od1 an1 : Option Addr} {sl1 : Array (Option Value)} {kV1 dc1 pm1 cd1 ct1 : Value}
    {f2 : Addr} {oc2 : Value} {od2 an2 : Option Addr} {sl2 : Array (Option Value)} {kV2 dc2 pm2 cd2 ct2 : Value}
    {f3 : Addr} {oc3 : Value} {od3 an3 : Option Addr} {sl3 : Array (Option Value)} {kV3 dc3 pm3 cd3 ct3 : Value}
    {f4 : Addr} {oc4 : Value} {od4 an4 : Option Addr} {sl4 : Array (Option Value)} {kV4 dc4 pm4 cd4 ct4 : Value}
    {f5 : Addr} {oc5 : Value} {od5 an5 : Option Addr} {sl5 : Array (Option Value)} {kV5 dc5 pm5 cd5 ct5 : Value}
    {f6 : Addr} {oc6 : Value} {od6 an6 : Option Addr} {sl6 : Array (Option Value)} {kV6 dc6 pm6 cd6 ct6 : Value}
    {f7 : Addr} {oc7 : Value} {od7 an7 : Option Addr} {sl7 : Array (Option Value)} {kV7 dc7 pm7 cd7 ct7 : Value}
    {f8 : Addr} {oc8 : Value} {od8 an8 : Option Addr} {sl8 : Array (Option Value)} {kV8 dc8 pm8 cd8 ct8 : Value}
    {f9 : Addr} {oc9 : Value} {od9 an9 : Option Addr} {sl9 : Array (Option Value)} {kV9 dc9 pm9 cd9 ct9 : Value}
    {f10 : Addr} {oc10 : Value} {od10 an10 : Option Addr} {sl10 : Array (Option Value)} {kV10 dc10 pm10 cd10 ct10 : Value}
    {f11 : Addr} {oc11 : Value} {od11 an11 : Option Addr} {sl11 : Array (Option Value)} {kV11 dc11 pm11 cd11 ct11 : Value}
    {f12 : Addr} {oc12 : Value} {od12 an12 : Option Addr} {sl12 : Array (Option Value)} {kV12 dc12 pm12 cd12 ct12 : Value}
    {f13 : Addr} {oc13 : Value} {od13 an13 : Option Addr} {sl13 : Array (Option Value)} {kV13 dc13 pm13 cd13 ct13 : Value}
    {f14 : Addr} {oc14 : Value} {od14 an14 : Option Addr} {sl14 : Array (Option Value)} {kV14 dc14 pm14 cd14 ct14 : Value}
    {f15 : Addr} {oc15 : Value} {od15 an15 : Option Addr} {sl15 : Array (Option Value)} {kV15 dc15 pm15 cd15 ct15 : Value}
    {f16 : Addr} {oc16 : Value} {od16 an16 : Option Addr} {sl16 : Array (Option Value)} {kV16 dc16 pm16 cd16 ct16 : Value}
    {f17 : Addr} {oc17 : Value} {od17 an17 : Option Addr} {sl17 : Array (Option Value)} {kV17 dc17 pm17 cd17 ct17 : Value}
    {f18 : Addr} {oc18 : Value} {od18 an18 : Option Addr} {sl18 : Array (Option Value)} {kV18 dc18 pm18 cd18 ct18 : Value}
    {f19 : Addr} {oc19 : Value} {od19 an19 : Option Addr} {sl19 : Array (Option Value)} {kV19 dc19 pm19 cd19 ct19 : Value}
    {f20 : Addr} {oc20 : Value} {od20 an20 : Option Addr} {sl20 : Array (Option Value)} {kV20 dc20 pm20 cd20 ct20 : Value}
    {f21 : Addr} {oc21 : Value} {od21 an21 : Option Addr} {sl21 : Array (Option Value)} {kV21 dc21 pm21 cd21 ct21 : Value}
    {f22 : Addr} {oc22 : Value} {od22 an22 : Option Addr} {sl22 : Array (Option Value)} {kV22 dc22 pm22 cd22 ct22 : Value}
    {f23 : Addr} {oc23 : Value} {od23 an23 : Option Addr} {sl23 : Array (Option Value)} {kV23 dc23 pm23 cd23 ct23 : Value}
    {f24 : Addr} {oc24 : Value} {od24 an24 : Option Addr} {sl24 : Array (Option Value)} {kV24 dc24 pm24 cd24 ct24 : Value}
    {C_BadMove : Addr}
    (a0 : PySem.W.nsIn K mainGlobals "is_number" = some (some (.ref f0))) (l0 : K.lookup f0 = some ⟨oc0, od0, .func (PySem.W.fnOf "is_number" "is_number" (defArgs st_is_number) (defBody st_is_number) (defScope st_is_number) .none kV0 dc0 pm0 an0 cd0 ct0), sl0⟩) (c0 : PySem.W.codeIn K cd0 "is_number" = true) (k0 : PySem.W.keepIn K (.ref f0) = true)
    (a1 : PySem.W.nsIn K mainGlobals "is_pair" = some (some (.ref f1))) (l1 : K.lookup f1 = some ⟨oc1, od1, .func (PySem.W.fnOf "is_pair" "is_pair" (defArgs st_is_pair) (defBody st_is_pair) (defScope st_is_pair) .none kV1 dc1 pm1 an1 cd1 ct1), sl1⟩) (c1 : PySem.W.codeIn K cd1 "is_pair" = true) (k1 : PySem.W.keepIn K (.ref f1) = true)
    (a2 : PySem.W.nsIn K mainGlobals "is_fraction" = some (some (.ref f2))) (l2 : K.lookup f2 = some ⟨oc2, od2, .func (PySem.W.fnOf "is_fraction" "is_fraction" (defArgs st_is_fraction) (defBody st_is_fraction) (defScope st_is_fraction) .none kV2 dc2 pm2 an2 cd2 ct2), sl2⟩) (c2 : PySem.W.codeIn K cd2 "is_fraction" = true) (k2 : PySem.W.keepIn K (.ref f2) = true)
    (a3 : PySem.W.nsIn K mainGlobals "scaled" = some (some (.ref f3))) (l3 : K.lookup f3 = some ⟨oc3, od3, .func (PySem.W.fnOf "scaled" "scaled" (defArgs st_scaled) (defBody st_scaled) (defScope st_scaled) .none kV3 dc3 pm3 an3 cd3 ct3), sl3⟩) (c3 : PySem.W.codeIn K cd3 "scaled" = true) (k3 : PySem.W.keepIn K (.ref f3) = true)
    (a4 : PySem.W.nsIn K mainGlobals "as_fraction" = some (some (.ref f4))) (l4 : K.lookup f4 = some ⟨oc4, od4, .func (PySem.W.fnOf "as_fraction" "as_fraction" (defArgs st_as_fraction) (defBody st_as_fraction) (defScope st_as_fraction) .none kV4 dc4 pm4 an4 cd4 ct4), sl4⟩) (c4 : PySem.W.codeIn K cd4 "as_fraction" = true) (k4 : PySem.W.keepIn K (.ref f4) = true)
    (a5 : PySem.W.nsIn K mainGlobals "move" = some (some (.ref f5))) (l5 : K.lookup f5 = some ⟨oc5, od5, .func (PySem.W.fnOf "move" "move" (defArgs st_move) (defBody st_move) (defScope st_move) .none kV5 dc5 pm5 an5 cd5 ct5), sl5⟩) (c5 : PySem.W.codeIn K cd5 "move" = true) (k5 : PySem.W.keepIn K (.ref f5) = true)
    (a6 : PySem.W.nsIn K mainGlobals "is_move" = some (some (.ref f6))) (l6 : K.lookup f6 = some ⟨oc6, od6, .func (PySem.W.fnOf "is_move" "is_move" (defArgs st_is_move) (defBody st_is_move) (defScope st_is_move) .none kV6 dc6 pm6 an6 cd6 ct6), sl6⟩) (c6 : PySem.W.codeIn K cd6 "is_move" = true) (k6 : PySem.W.keepIn K (.ref f6) = true)
    (a7 : PySem.W.nsIn K mainGlobals "size" = some (some (.ref f7))) (l7 : K.lookup f7 = some ⟨oc7, od7, .func (PySem.W.fnOf "size" "size" (defArgs st_size) (defBody st_size) (defScope st_size) .none kV7 dc7 pm7 an7 cd7 ct7), sl7⟩) (c7 : PySem.W.codeIn K cd7 "size" = true) (k7 : PySem.W.keepIn K (.ref f7) = true)
    (a8 : PySem.W.nsIn K mainGlobals "sum_of" = some (some (.ref f8))) (l8 : K.lookup f8 = some ⟨oc8, od8, .func (PySem.W.fnOf "sum_of" "sum_of" (defArgs st_sum_of) (defBody st_sum_of) (defScope st_sum_of) .none kV8 dc8 pm8 an8 cd8 ct8), sl8⟩) (c8 : PySem.W.codeIn K cd8 "sum_of" = true) (k8 : PySem.W.keepIn K (.ref f8) = true)
    (a9 : PySem.W.nsIn K mainGlobals "_law_open_cells" = some (some (.ref f9))) (l9 : K.lookup f9 = some ⟨oc9, od9, .func (PySem.W.fnOf "_law_open_cells" "_law_open_cells" (defArgs st__law_open_cells) (defBody st__law_open_cells) (defScope st__law_open_cells) .none kV9 dc9 pm9 an9 cd9 ct9), sl9⟩) (c9 : PySem.W.codeIn K cd9 "_law_open_cells" = true) (k9 : PySem.W.keepIn K (.ref f9) = true)
    (a10 : PySem.W.nsIn K mainGlobals "_law_pick" = some (some (.ref f10))) (l10 : K.lookup f10 = some ⟨oc10, od10, .func (PySem.W.fnOf "_law_pick" "_law_pick" (defArgs st__law_pick) (defBody st__law_pick) (defScope st__law_pick) .none kV10 dc10 pm10 an10 cd10 ct10), sl10⟩) (c10 : PySem.W.codeIn K cd10 "_law_pick" = true) (k10 : PySem.W.keepIn K (.ref f10) = true)
    (a11 : PySem.W.nsIn K mainGlobals "_law_common" = some (some (.ref f11))) (l11 : K.lookup f11 = some ⟨oc11, od11, .func (PySem.W.fnOf "_law_common" "_law_common" (defArgs st__law_common) (defBody st__law_common) (defScope st__law_common) .none kV11 dc11 pm11 an11 cd11 ct11), sl11⟩) (c11 : PySem.W.codeIn K cd11 "_law_common" = true) (k11 : PySem.W.keepIn K (.ref f11) = true)
    (a12 : PySem.W.nsIn K mainGlobals "_law_fraction" = some (some (.ref f12))) (l12 : K.lookup f12 = some ⟨oc12, od12, .func (PySem.W.fnOf "_law_fraction" "_law_fraction" (defArgs st__law_fraction) (defBody st__law_fraction) (defScope st__law_fraction) .none kV12 dc12 pm12 an12 cd12 ct12), sl12⟩) (c12 : PySem.W.codeIn K cd12 "_law_fraction" = true) (k12 : PySem.W.keepIn K (.ref f12) = true)
    (a13 : PySem.W.nsIn K mainGlobals "_law_move" = some (some (.ref f13))) (l13 : K.lookup f13 = some ⟨oc13, od13, .func (PySem.W.fnOf "_law_move" "_law_move" (defArgs st__law_move) (defBody st__law_move) (defScope st__law_move) .none kV13 dc13 pm13 an13 cd13 ct13), sl13⟩) (c13 : PySem.W.codeIn K cd13 "_law_move" = true) (k13 : PySem.W.keepIn K (.ref f13) = true)
    (a14 : PySem.W.nsIn K mainGlobals "_law_size" = some (some (.ref f14))) (l14 : K.lookup f14 = some ⟨oc14, od14, .func (PySem.W.fnOf "_law_size" "_law_size" (defArgs st__law_size) (defBody st__law_size) (defScope st__law_size) .none kV14 dc14 pm14 an14 cd14 ct14), sl14⟩) (c14 : PySem.W.codeIn K cd14 "_law_size" = true) (k14 : PySem.W.keepIn K (.ref f14) = true)
    (a15 : PySem.W.nsIn K mainGlobals "_law_product" = some (some (.ref f15))) (l15 : K.lookup f15 = some ⟨oc15, od15, .func (PySem.W.fnOf "_law_product" "_law_product" (defArgs st__law_product) (defBody st__law_product) (defScope st__law_product) .none kV15 dc15 pm15 an15 cd15 ct15), sl15⟩) (c15 : PySem.W.codeIn K cd15 "_law_product" = true) (k15 : PySem.W.keepIn K (.ref f15) = true)
    (a16 : PySem.W.nsIn K mainGlobals "_law_draw_prime" = some (some (.ref f16))) (l16 : K.lookup f16 = some ⟨oc16, od16, .func (PySem.W.fnOf "_law_draw_prime" "_law_draw_prime" (defArgs st__law_draw_prime) (defBody st__law_draw_prime) (defScope st__law_draw_prime) .none kV16 dc16 pm16 an16 cd16 ct16), sl16⟩) (c16 : PySem.W.codeIn K cd16 "_law_draw_prime" = true) (k16 : PySem.W.keepIn K (.ref f16) = true)
    (a17 : PySem.W.nsIn K mainGlobals "_law_draw_fraction" = some (some (.ref f17))) (l17 : K.lookup f17 = some ⟨oc17, od17, .func (PySem.W.fnOf "_law_draw_fraction" "_law_draw_fraction" (defArgs st__law_draw_fraction) (defBody st__law_draw_fraction) (defScope st__law_draw_fraction) .none kV17 dc17 pm17 an17 cd17 ct17), sl17⟩) (c17 : PySem.W.codeIn K cd17 "_law_draw_fraction" = true) (k17 : PySem.W.keepIn K (.ref f17) = true)
    (a18 : PySem.W.nsIn K mainGlobals "_law_choice_of" = some (some (.ref f18))) (l18 : K.lookup f18 = some ⟨oc18, od18, .func (PySem.W.fnOf "_law_choice_of" "_law_choice_of" (defArgs st__law_choice_of) (defBody st__law_choice_of) (defScope st__law_choice_of) .none kV18 dc18 pm18 an18 cd18 ct18), sl18⟩) (c18 : PySem.W.codeIn K cd18 "_law_choice_of" = true) (k18 : PySem.W.keepIn K (.ref f18) = true)
    (a19 : PySem.W.nsIn K mainGlobals "_law_number" = some (some (.ref f19))) (l19 : K.lookup f19 = some ⟨oc19, od19, .func (PySem.W.fnOf "_law_number" "_law_number" (defArgs st__law_number) (defBody st__law_number) (defScope st__law_number) .none kV19 dc19 pm19 an19 cd19 ct19), sl19⟩) (c19 : PySem.W.codeIn K cd19 "_law_number" = true) (k19 : PySem.W.keepIn K (.ref f19) = true)
    (a20 : PySem.W.nsIn K mainGlobals "_law_no_fraction" = some (some (.ref f20))) (l20 : K.lookup f20 = some ⟨oc20, od20, .func (PySem.W.fnOf "_law_no_fraction" "_law_no_fraction" (defArgs st__law_no_fraction) (defBody st__law_no_fraction) (defScope st__law_no_fraction) .none kV20 dc20 pm20 an20 cd20 ct20), sl20⟩) (c20 : PySem.W.codeIn K cd20 "_law_no_fraction" = true) (k20 : PySem.W.keepIn K (.ref f20) = true)
    (a21 : PySem.W.nsIn K mainGlobals "_law_due" = some (some (.ref f21))) (l21 : K.lookup f21 = some ⟨oc21, od21, .func (PySem.W.fnOf "_law_due" "_law_due" (defArgs st__law_due) (defBody st__law_due) (defScope st__law_due) .none kV21 dc21 pm21 an21 cd21 ct21), sl21⟩) (c21 : PySem.W.codeIn K cd21 "_law_due" = true) (k21 : PySem.W.keepIn K (.ref f21) = true)
    (a22 : PySem.W.nsIn K mainGlobals "_law_told" = some (some (.ref f22))) (l22 : K.lookup f22 = some ⟨oc22, od22, .func (PySem.W.fnOf "_law_told" "_law_told" (defArgs st__law_told) (defBody st__law_told) (defScope st__law_told) .none kV22 dc22 pm22 an22 cd22 ct22), sl22⟩) (c22 : PySem.W.codeIn K cd22 "_law_told" = true) (k22 : PySem.W.keepIn K (.ref f22) = true)
    (a23 : PySem.W.nsIn K mainGlobals "_law_draw_row" = some (some (.ref f23))) (l23 : K.lookup f23 = some ⟨oc23, od23, .func (PySem.W.fnOf "_law_draw_row" "_law_draw_row" (defArgs st__law_draw_row) (defBody st__law_draw_row) (defScope st__law_draw_row) .none kV23 dc23 pm23 an23 cd23 ct23), sl23⟩) (c23 : PySem.W.codeIn K cd23 "_law_draw_row" = true) (k23 : PySem.W.keepIn K (.ref f23) = true)
    (a24 : PySem.W.nsIn K mainGlobals "law" = some (some (.ref f24))) (l24 : K.lookup f24 = some ⟨oc24, od24, .func (PySem.W.fnOf "law" "law" (defArgs st_law) (defBody st_law) (defScope st_law) .none kV24 dc24 pm24 an24 cd24 ct24), sl24⟩) (c24 : PySem.W.codeIn K cd24 "law" = true) (k24 : PySem.W.keepIn K (.ref f24) = true)
    (z_abs : PySem.W.nsIn K mainGlobals "abs" = some none)
    (z_all : PySem.W.nsIn K mainGlobals "all" = some none)
    (z_bool : PySem.W.nsIn K mainGlobals "bool" = some none)
    (z_int : PySem.W.nsIn K mainGlobals "int" = some none)
    (z_isinstance : PySem.W.nsIn K mainGlobals "isinstance" = some none)
    (z_len : PySem.W.nsIn K mainGlobals "len" = some none)
    (z_range : PySem.W.nsIn K mainGlobals "range" = some none)
    (z_repr : PySem.W.nsIn K mainGlobals "repr" = some none)
    (z_tuple : PySem.W.nsIn K mainGlobals "tuple" = some none)
    (y_gcd : PySem.W.nsIn K mainGlobals "gcd" = some (some (.builtin "math.gcd")))
    (y_lcm : PySem.W.nsIn K mainGlobals "lcm" = some (some (.builtin "math.lcm")))
    (xa_BadMove : PySem.W.nsIn K mainGlobals "BadMove" = some (some (.ref C_BadMove))) (xx_BadMove : PySem.W.excIn K C_BadMove [.type "ValueError", .type "Exception", .type "BaseException", .type "object"] "ValueError.__new__" = true) (xk_BadMove : PySem.W.keepIn K (.ref C_BadMove) = true) (xb_BadMove : PySem.W.subIn K (.ref C_BadMove) (.type "BaseException") = some true) (xt_BadMove : PySem.W.typeIn K (.ref C_BadMove) = some (.type "type")) (xi_BadMove : PySem.W.isClsIn K C_BadMove = true)
    (xs_BadMove_BadMove : PySem.W.subIn K (.ref C_BadMove) (.ref C_BadMove) = some true) :
    ∃ fd : FuncData, (∀ (s : Shared) (v : Value), BindsTo s fd ⟨[v], []⟩ [("_law_script", v)]) ∧ ∀ base : Heap, K.In base → base.Ns mainGlobals mg → FnG l.prog w K mg base (L2.CX l.prog w) 7 fa fd ["_law_script"] (spD K mg 1 m_law) := by
  have e := hfa.symm.trans (PySem.W.mg_of X G a24)
  cases e
  exact ⟨_, fun s v => .of_eq rfl, fun base _ _ => ok_law (P := l.prog) (w := w) (base := base) (K := K) (mg := mg)
    ⟨defAt X G ["value"] a0 l0 c0 k0 (fun _ _ _ _ _ _ us hl => match us, hl with | [_], _ => rfl),
     defAt X G ["value"] a1 l1 c1 k1 (fun _ _ _ _ _ _ us hl => match us, hl with | [_], _ => rfl),
     defAt X G ["value"] a2 l2 c2 k2 (fun _ _ _ _ _ _ us hl => match us, hl with | [_], _ => rfl),
     defAt X G ["a", "b", "c", "d"] a3 l3 c3 k3 (fun _ _ _ _ _ _ us hl => match us, hl with | [_, _, _, _], _ => rfl),
     defAt X G ["value"] a4 l4 c4 k4 (fun _ _ _ _ _ _ us hl => match us, hl with | [_], _ => rfl),
     defAt X G ["a", "b", "c", "d"] a5 l5 c5 k5 (fun _ _ _ _ _ _ us hl => match us, hl with | [_, _, _, _], _ => rfl),
     defAt X G ["value"] a6 l6 c6 k6 (fun _ _ _ _ _ _ us hl => match us, hl with | [_], _ => rfl),
     defAt X G ["m"] a7 l7 c7 k7 (fun _ _ _ _ _ _ us hl => match us, hl with | [_], _ => rfl),
     defAt X G ["m"] a8 l8 c8 k8 (fun _ _ _ _ _ _ us hl => match us, hl with | [_], _ => rfl),
     defAt X G ["_law_script"] a9 l9 c9 k9 (fun _ _ _ _ _ _ us hl => match us, hl with | [_], _ => rfl),
     defAt X G ["_law_source", "_law_most"] a10 l10 c10 k10 (fun _ _ _ _ _ _ us hl => match us, hl with | [_, _], _ => rfl),
     defAt X G ["_law_a", "_law_b"] a11 l11 c11 k11 (fun _ _ _ _ _ _ us hl => match us, hl with | [_, _], _ => rfl),
     defAt X G ["_law_n", "_law_d"] a12 l12 c12 k12 (fun _ _ _ _ _ _ us hl => match us, hl with | [_, _], _ => rfl),
     defAt X G ["_law_a", "_law_b", "_law_c", "_law_d"] a13 l13 c13 k13 (fun _ _ _ _ _ _ us hl => match us, hl with | [_, _, _, _], _ => rfl),
     defAt X G ["_law_m"] a14 l14 c14 k14 (fun _ _ _ _ _ _ us hl => match us, hl with | [_], _ => rfl),
     defAt X G ["_law_x", "_law_y"] a15 l15 c15 k15 (fun _ _ _ _ _ _ us hl => match us, hl with | [_, _], _ => rfl),
     defAt X G ["_law_source"] a16 l16 c16 k16 (fun _ _ _ _ _ _ us hl => match us, hl with | [_], _ => rfl),
     defAt X G ["_law_source", "_law_p", "_law_wide"] a17 l17 c17 k17 (fun _ _ _ _ _ _ us hl => match us, hl with | [_, _, _], _ => rfl),
     defAt X G ["_law_source", "_law_things"] a18 l18 c18 k18 (fun _ _ _ _ _ _ us hl => match us, hl with | [_, _], _ => rfl),
     defAt X G ["_law_source"] a19 l19 c19 k19 (fun _ _ _ _ _ _ us hl => match us, hl with | [_], _ => rfl),
     defAt X G ["_law_source"] a20 l20 c20 k20 (fun _ _ _ _ _ _ us hl => match us, hl with | [_], _ => rfl),
     defAt X G ["_law_row"] a21 l21 c21 k21 (fun _ _ _ _ _ _ us hl => match us, hl with | [_], _ => rfl),
     defAt X G ["_law_row"] a22 l22 c22 k22 (fun _ _ _ _ _ _ us hl => match us, hl with | [_], _ => rfl),
     defAt X G ["_law_source", "_law_p"] a23 l23 c23 k23 (fun _ _ _ _ _ _ us hl => match us, hl with | [_, _], _ => rfl),
     defAt X G ["_law_script"] a24 l24 c24 k24 (fun _ _ _ _ _ _ us hl => match us, hl with | [_], _ => rfl),
     PySem.W.mg_none_of X G z_abs,
     PySem.W.mg_none_of X G z_all,
     PySem.W.mg_none_of X G z_bool,
     PySem.W.mg_none_of X G z_int,
     PySem.W.mg_none_of X G z_isinstance,
     PySem.W.mg_none_of X G z_len,
     PySem.W.mg_none_of X G z_range,
     PySem.W.mg_none_of X G z_repr,
     PySem.W.mg_none_of X G z_tuple,
     PySem.W.mg_of X G y_gcd,
     PySem.W.mg_of X G y_lcm,
     ⟨C_BadMove, "ValueError", _, _, _, PySem.F.excBase_ValueError, xx_BadMove, PySem.W.mg_of X G xa_BadMove, xk_BadMove, xb_BadMove, xt_BadMove⟩,
     exm_mk xi_BadMove xb_BadMove xt_BadMove xs_BadMove_BadMove⟩⟩
end Law
set_option Elab.async false
set_option linter.all false
set_option maxRecDepth 100000
set_option maxHeartbeats 400000
set_option exponentiation.threshold 30000
namespace Mi
namespace T4
/-! # powers of tables -/
def pw (x : T4) : Nat → T4
  | 0 => one
  | n + 1 => mul (pw x n) x
theorem pw_zero (x : T4) : pw x 0 = one := rfl
theorem pw_succ (x : T4) (n : Nat) : pw x (n + 1) = mul (pw x n) x := rfl
theorem pw_one (x : T4) : pw x 1 = x := one_mul x
theorem pw_add (x : T4) (m : Nat) : ∀ n, pw x (m + n) = mul (pw x m) (pw x n)
  | 0 => (mul_one _).symm
  | n + 1 => by rw [← Nat.add_assoc, pw_succ, pw_add x m n, pw_succ, mul_assoc]
theorem pw_sq (x : T4) : ∀ j, pw (mul x x) j = pw x (2 * j)
  | 0 => rfl
  | j + 1 => by rw [pw_succ, pw_sq x j, show 2 * (j + 1) = 2 * j + 1 + 1 from by omega, pw_succ, pw_succ, mul_assoc]
theorem pw_pred (x : T4) (n : Nat) : pw x (n + 1) = mul x (pw x n) := by rw [Nat.add_comm, pw_add, pw_one]
theorem det_pw {x : T4} (h : x.det ≠ 0) : ∀ n, (pw x n).det ≠ 0
  | 0 => show one.det ≠ 0 by decide
  | n + 1 => det_mul_ne (det_pw h n) h
theorem Sim.pw {x y : T4} (h : Sim x y) : ∀ n, Sim (pw x n) (T4.pw y n)
  | 0 => Sim.refl _
  | n + 1 => (Sim.pw h n).mul h
theorem adj_pw (x : T4) : ∀ n, adj (pw x n) = pw (adj x) n
  | 0 => rfl
  | n + 1 => by rw [pw_succ, adj_mul, adj_pw x n, pw_pred]
/-- told about another one -/
theorem pw_conj {t m : T4} (h : t.det ≠ 0) : ∀ n, Sim (T4.pw (mul t (mul m (adj t))) n) (mul t (mul (T4.pw m n) (adj t)))
  | 0 => by
    rw [pw_zero, pw_zero, one_mul, mul_adj]
    exact (Sim.sc h).symm
  | n + 1 => by
    rw [pw_succ, pw_succ]
    refine ((pw_conj h n).mul (Sim.refl _)).trans ?_
    have e : mul (mul t (mul (T4.pw m n) (adj t))) (mul t (mul m (adj t))) = mul t (mul (mul (T4.pw m n) (mul (mul (adj t) t) m)) (adj t)) := by simp only [mul_assoc]
    rw [e, adj_mul_self, sc_mul_l, one_mul, sc_mul_r, sc_mul_l, sc_mul_r]
    exact Sim.sc h
/-! # which powers do nothing -/
def U (t s : Int) : Nat → Int
  | 0 => 0
  | 1 => 1
  | n + 2 => t * U t s (n + 1) - s * U t s n
theorem pw_U (x : T4) : ∀ n, pw x (n + 1) = ⟨U x.tr x.det (n + 1) * x.a - x.det * U x.tr x.det n, U x.tr x.det (n + 1) * x.b, U x.tr x.det (n + 1) * x.c, U x.tr x.det (n + 1) * x.d - x.det * U x.tr x.det n⟩
  | 0 => by rw [pw_one]; unfold U; ext <;> simp
  | n + 1 => by
    rw [pw_succ, pw_U x n]
    have e : U x.tr x.det (n + 2) = x.tr * U x.tr x.det (n + 1) - x.det * U x.tr x.det n := rfl
    rw [e]
    generalize U x.tr x.det (n + 1) = u
    generalize U x.tr x.det n = v
    unfold mul tr det
    ext <;> simp only <;> grind
def Scal (x : T4) : Prop := x.b = 0 ∧ x.c = 0 ∧ x.a = x.d
/-- as one -/
def S1 (x : T4) : Prop := Sim x one
theorem s1_iff {x : T4} (h : x.det ≠ 0) : S1 x ↔ Scal x := by
  constructor
  · rintro ⟨k, l, a, b, e⟩
    have h2 : k * x.b = l * 0 := congrArg T4.b e
    have h3 : k * x.c = l * 0 := congrArg T4.c e
    have h1 : k * x.a = l * 1 := congrArg T4.a e
    have h4 : k * x.d = l * 1 := congrArg T4.d e
    rw [Int.mul_zero] at h2 h3
    exact ⟨(Int.mul_eq_zero.mp h2).resolve_left a, (Int.mul_eq_zero.mp h3).resolve_left a, Int.eq_of_mul_eq_mul_left a (h1.trans h4.symm)⟩
  · rintro ⟨h1, h2, h3⟩
    have h0 : x.a ≠ 0 := fun z => h (by unfold det; rw [h1, z]; omega)
    refine ⟨1, x.a, by decide, h0, ?_⟩
    unfold sc one
    ext <;> simp only [Int.mul_one, Int.one_mul, Int.mul_zero]
    · exact h1
    · exact h2
    · exact h3.symm
theorem s1_pw {x : T4} (h : x.det ≠ 0) (n : Nat) : S1 (pw x (n + 1)) ↔ Scal x ∨ U x.tr x.det (n + 1) = 0 := by
  rw [s1_iff (det_pw h _), pw_U]
  unfold Scal
  simp only
  constructor
  · rintro ⟨h1, h2, h3⟩
    by_cases u : U x.tr x.det (n + 1) = 0
    · exact .inr u
    · refine .inl ⟨(Int.mul_eq_zero.mp h1).resolve_left u, (Int.mul_eq_zero.mp h2).resolve_left u, Int.eq_of_mul_eq_mul_left u (by omega)⟩
  · rintro (⟨h1, h2, h3⟩ | u)
    · rw [h1, h2, h3]; simp
    · rw [u]; simp
theorem U2 (t s : Int) : U t s 2 = t := by simp [U]
theorem U3 (t s : Int) : U t s 3 = t * t - s := by simp [U]
theorem U4 (t s : Int) : U t s 4 = t * (t * t - 2 * s) := by simp only [U]; grind
theorem U5 (t s : Int) : U t s 5 = (t * t) * (t * t) - 3 * (t * t) * s + s * s := by simp only [U]; grind
theorem U6 (t s : Int) : U t s 6 = t * ((t * t - s) * (t * t - 3 * s)) := by simp only [U]; grind
theorem U7 (t s : Int) : U t s 7 = (t * t) * (t * t) * (t * t) - 5 * ((t * t) * (t * t)) * s + 6 * (t * t) * (s * s) - s * s * s := by simp only [U]; grind
theorem U8 (t s : Int) : U t s 8 = t * ((t * t - 2 * s) * ((t * t) * (t * t) - 4 * (t * t) * s + 2 * (s * s))) := by simp only [U]; grind
theorem U9 (t s : Int) : U t s 9 = (t * t - s) * ((t * t) * (t * t) * (t * t) - 6 * ((t * t) * (t * t)) * s + 9 * (t * t) * (s * s) - s * s * s) := by simp only [U]; grind
theorem U10 (t s : Int) : U t s 10 = t * (((t * t) * (t * t) - 3 * (t * t) * s + s * s) * ((t * t) * (t * t) - 5 * (t * t) * s + 5 * (s * s))) := by simp only [U]; grind
theorem U11 (t s : Int) : U t s 11 = (t * t) * (t * t) * (t * t) * (t * t) * (t * t) - 9 * ((t * t) * (t * t) * (t * t) * (t * t)) * s + 28 * ((t * t) * (t * t) * (t * t)) * (s * s) - 35 * ((t * t) * (t * t)) * (s * s * s) + 15 * (t * t) * (s * s * s * s) - s * s * s * s * s := by simp only [U]; grind
theorem U12 (t s : Int) : U t s 12 = t * ((t * t - s) * ((t * t - 2 * s) * ((t * t - 3 * s) * ((t * t) * (t * t) - 4 * (t * t) * s + s * s)))) := by simp only [U]; grind
/-- what is even again and again is 0 -/
theorem desc (P : Int → Int → Prop) (h : ∀ x s, P x s → ∃ x' s', x = 2 * x' ∧ s = 2 * s' ∧ P x' s') : ∀ (n : Nat) (x s : Int), s.natAbs ≤ n → P x s → s = 0
  | 0, x, s, hn, _ => by omega
  | n + 1, x, s, hn, p => by
    obtain ⟨x', s', rfl, rfl, p'⟩ := h x s p
    by_cases z : s' = 0
    · omega
    · have := desc P h n x' s' (by omega) p'
      exact absurd this z
theorem eo (x : Int) : ∃ y, x = 2 * y ∨ x = 2 * y + 1 := ⟨x / 2, by omega⟩
theorem even_of {a b : Int} (h : a * b = 0) (ha : a ≠ 0) : b = 0 := (Int.mul_eq_zero.mp h).resolve_left ha
theorem no5 {x s : Int} (h : x * x - 3 * x * s + s * s = 0) : s = 0 := by
  refine desc (fun x s => x * x - 3 * x * s + s * s = 0) (fun x s h => ?_) s.natAbs x s (Nat.le_refl _) h
  obtain ⟨y, rfl | rfl⟩ := eo x <;> obtain ⟨u, rfl | rfl⟩ := eo s
  · exact ⟨y, u, rfl, rfl, even_of (a := 4) (by grind) (by decide)⟩
  · exfalso; grind
  · exfalso; grind
  · exfalso; grind
theorem no7 {x s : Int} (h : x * x * x - 5 * (x * x) * s + 6 * x * (s * s) - s * s * s = 0) : s = 0 := by
  refine desc (fun x s => x * x * x - 5 * (x * x) * s + 6 * x * (s * s) - s * s * s = 0) (fun x s h => ?_) s.natAbs x s (Nat.le_refl _) h
  obtain ⟨y, rfl | rfl⟩ := eo x <;> obtain ⟨u, rfl | rfl⟩ := eo s
  · exact ⟨y, u, rfl, rfl, even_of (a := 8) (by grind) (by decide)⟩
  · exfalso; grind
  · exfalso; grind
  · exfalso; grind
theorem no8 {x s : Int} (h : x * x - 4 * x * s + 2 * (s * s) = 0) : s = 0 := by
  refine desc (fun x s => x * x - 4 * x * s + 2 * (s * s) = 0) (fun x s h => ?_) s.natAbs x s (Nat.le_refl _) h
  obtain ⟨y, rfl | rfl⟩ := eo x <;> obtain ⟨u, rfl | rfl⟩ := eo s
  · exact ⟨y, u, rfl, rfl, even_of (a := 4) (by grind) (by decide)⟩
  · exfalso; grind
  · exfalso; grind
  · exfalso; grind
theorem no9 {x s : Int} (h : x * x * x - 6 * (x * x) * s + 9 * x * (s * s) - s * s * s = 0) : s = 0 := by
  refine desc (fun x s => x * x * x - 6 * (x * x) * s + 9 * x * (s * s) - s * s * s = 0) (fun x s h => ?_) s.natAbs x s (Nat.le_refl _) h
  obtain ⟨y, rfl | rfl⟩ := eo x <;> obtain ⟨u, rfl | rfl⟩ := eo s
  · exact ⟨y, u, rfl, rfl, even_of (a := 8) (by grind) (by decide)⟩
  · exfalso; grind
  · exfalso; grind
  · exfalso; grind
theorem no10 {x s : Int} (h : x * x - 5 * x * s + 5 * (s * s) = 0) : s = 0 := by
  refine desc (fun x s => x * x - 5 * x * s + 5 * (s * s) = 0) (fun x s h => ?_) s.natAbs x s (Nat.le_refl _) h
  obtain ⟨y, rfl | rfl⟩ := eo x <;> obtain ⟨u, rfl | rfl⟩ := eo s
  · exact ⟨y, u, rfl, rfl, even_of (a := 4) (by grind) (by decide)⟩
  · exfalso; grind
  · exfalso; grind
  · exfalso; grind
theorem no11 {x s : Int} (h : x * x * x * x * x - 9 * (x * x * x * x) * s + 28 * (x * x * x) * (s * s) - 35 * (x * x) * (s * s * s) + 15 * x * (s * s * s * s) - s * s * s * s * s = 0) : s = 0 := by
  refine desc (fun x s => x * x * x * x * x - 9 * (x * x * x * x) * s + 28 * (x * x * x) * (s * s) - 35 * (x * x) * (s * s * s) + 15 * x * (s * s * s * s) - s * s * s * s * s = 0) (fun x s h => ?_) s.natAbs x s (Nat.le_refl _) h
  obtain ⟨y, rfl | rfl⟩ := eo x <;> obtain ⟨u, rfl | rfl⟩ := eo s
  · exact ⟨y, u, rfl, rfl, even_of (a := 32) (by grind) (by decide)⟩
  · exfalso; grind
  · exfalso; grind
  · exfalso; grind
theorem no12 {x s : Int} (h : x * x - 4 * x * s + s * s = 0) : s = 0 := by
  refine desc (fun x s => x * x - 4 * x * s + s * s = 0) (fun x s h => ?_) s.natAbs x s (Nat.le_refl _) h
  obtain ⟨y, rfl | rfl⟩ := eo x <;> obtain ⟨u, rfl | rfl⟩ := eo s
  · exact ⟨y, u, rfl, rfl, even_of (a := 4) (by grind) (by decide)⟩
  · exfalso; grind
  · exfalso; grind
  · exfalso; grind
/-! ## the first power that does nothing -/
def isOne (x : T4) : Bool := decide (x.a = 1) && (decide (x.b = 0) && (decide (x.c = 0) && decide (x.d = 1)))
theorem isOne_iff {x : T4} : isOne x = true ↔ x = one := by
  unfold isOne
  simp only [Bool.and_eq_true, decide_eq_true_eq]
  constructor
  · rintro ⟨h1, h2, h3, h4⟩; exact ext' h1 h2 h3 h4
  · rintro rfl; exact ⟨rfl, rfl, rfl, rfl⟩
theorem one_ok : one.Ok := ⟨rfl, rfl⟩
theorem isOne_nm {x : T4} (h : x.det ≠ 0) : isOne x.nm = true ↔ S1 x := by
  rw [isOne_iff]
  constructor
  · intro e
    have := (Sim.nm h).symm
    rw [e] at this
    exact this
  · intro s
    exact uniq (ok_nm h) one_ok (det_nm h) ((Sim.nm h).trans s)
def e1 (x : T4) (n : Nat) : Bool := isOne (pw x n).nm
theorem e1_iff {x : T4} (h : x.det ≠ 0) (n : Nat) : e1 x n = true ↔ S1 (pw x n) := isOne_nm (det_pw h n)
theorem e1_sim {x y : T4} (h : x.det ≠ 0) (s : Sim x y) (n : Nat) : e1 x n = e1 y n := by
  unfold e1
  rw [nm_eq_of (det_pw h n) (s.pw n)]
theorem e1_adj {x : T4} (h : x.det ≠ 0) (n : Nat) : e1 (adj x) n = e1 x n := by
  have h' := det_adj_ne h
  have e : ∀ {x : T4}, S1 (pw x n) → S1 (pw (adj x) n) := fun {x} s => by
    rw [← adj_pw]
    have := Sim.adj s
    exact this
  have : (e1 (adj x) n = true ↔ e1 x n = true) := by
    rw [e1_iff h, e1_iff h']
    exact ⟨fun s => by have := e s; rw [adj_adj] at this; exact this, e⟩
  cases a : e1 (adj x) n <;> cases b : e1 x n <;> first | rfl | (rw [a, b] at this; exact absurd (this.mp rfl) (by decide)) | (rw [a, b] at this; exact absurd (this.mpr rfl) (by decide))
theorem e1_conj {t m : T4} (h : t.det ≠ 0) (g : m.det ≠ 0) (n : Nat) : e1 (mul t (mul m (adj t))) n = e1 m n := by
  have h2 := det_mul_ne h (det_mul_ne g (det_adj_ne h))
  have : (e1 (mul t (mul m (adj t))) n = true ↔ e1 m n = true) := by
    rw [e1_iff h2, e1_iff g]
    have c := pw_conj (m := m) h n
    constructor
    · intro s
      have s2 : Sim (mul t (mul (pw m n) (adj t))) one := c.symm.trans s
      have s3 : Sim (mul (adj t) (mul (mul t (mul (pw m n) (adj t))) t)) (mul (adj t) (mul one t)) := (Sim.refl _).mul (s2.mul (Sim.refl t))
      have e : mul (adj t) (mul (mul t (mul (pw m n) (adj t))) t) = mul (mul (adj t) t) (mul (pw m n) (mul (adj t) t)) := by simp only [mul_assoc]
      rw [e, one_mul, adj_mul_self, sc_mul_l, one_mul, sc_mul_r, mul_one] at s3
      exact ((Sim.sc h).symm.trans (Sim.sc h).symm).trans (s3.trans (Sim.sc h)) |> fun s => s
    · intro s
      refine c.trans (((Sim.refl t).mul (Sim.mul s (Sim.refl (adj t)))).trans ?_)
      rw [one_mul, mul_adj]
      exact Sim.sc h
  cases a : e1 (mul t (mul m (adj t))) n <;> cases b : e1 m n <;> first | rfl | (rw [a, b] at this; exact absurd (this.mp rfl) (by decide)) | (rw [a, b] at this; exact absurd (this.mpr rfl) (by decide))
/-- none but these -/
theorem few {x : T4} (h : x.det ≠ 0) : (e1 x 5 = true → e1 x 1 = true) ∧ (e1 x 7 = true → e1 x 1 = true) ∧ (e1 x 8 = true → e1 x 1 = true ∨ e1 x 2 = true ∨ e1 x 4 = true) ∧ (e1 x 9 = true → e1 x 1 = true ∨ e1 x 3 = true) ∧ (e1 x 10 = true → e1 x 1 = true ∨ e1 x 2 = true) ∧ (e1 x 11 = true → e1 x 1 = true) ∧ (e1 x 12 = true → e1 x 1 = true ∨ e1 x 2 = true ∨ e1 x 3 = true ∨ e1 x 4 = true ∨ e1 x 6 = true) := by
  have i : ∀ n, e1 x (n + 1) = true ↔ Scal x ∨ U x.tr x.det (n + 1) = 0 := fun n => (e1_iff h (n + 1)).trans (s1_pw h n)
  have i1 := i 0
  have u1 : U x.tr x.det (0 + 1) = 1 := rfl
  rw [u1] at i1
  simp only [Int.one_ne_zero, or_false, Nat.zero_add] at i1
  have i2 := i 1
  have i3 := i 2
  have i4 := i 3
  have i6 := i 5
  have hz : ∀ {a b : Int}, a * b = 0 → a = 0 ∨ b = 0 := fun h => Int.mul_eq_zero.mp h
  refine ⟨fun z => ?_, fun z => ?_, fun z => ?_, fun z => ?_, fun z => ?_, fun z => ?_, fun z => ?_⟩
  · rcases (i 4).mp z with s | u
    · exact i1.mpr s
    · exact absurd (no5 (by rw [U5] at u; exact u)) h
  · rcases (i 6).mp z with s | u
    · exact i1.mpr s
    · exact absurd (no7 (by rw [U7] at u; exact u)) h
  · rcases (i 7).mp z with s | u
    · exact .inl (i1.mpr s)
    · rw [U8] at u
      rcases hz u with u | u
      · exact .inr (.inl (i2.mpr (.inr (by rw [U2]; exact u))))
      · rcases hz u with u | u
        · exact .inr (.inr (i4.mpr (.inr (by rw [U4, u, Int.mul_zero]))))
        · exact absurd (no8 u) h
  · rcases (i 8).mp z with s | u
    · exact .inl (i1.mpr s)
    · rw [U9] at u
      rcases hz u with u | u
      · exact .inr (i3.mpr (.inr (by rw [U3]; exact u)))
      · exact absurd (no9 u) h
  · rcases (i 9).mp z with s | u
    · exact .inl (i1.mpr s)
    · rw [U10] at u
      rcases hz u with u | u
      · exact .inr (i2.mpr (.inr (by rw [U2]; exact u)))
      · rcases hz u with u | u
        · exact absurd (no5 u) h
        · exact absurd (no10 u) h
  · rcases (i 10).mp z with s | u
    · exact i1.mpr s
    · exact absurd (no11 (by rw [U11] at u; exact u)) h
  · rcases (i 11).mp z with s | u
    · exact .inl (i1.mpr s)
    · rw [U12] at u
      rcases hz u with u | u
      · exact .inr (.inl (i2.mpr (.inr (by rw [U2]; exact u))))
      · rcases hz u with u | u
        · exact .inr (.inr (.inl (i3.mpr (.inr (by rw [U3]; exact u)))))
        · rcases hz u with u | u
          · exact .inr (.inr (.inr (.inl (i4.mpr (.inr (by rw [U4, u, Int.mul_zero]))))))
          · rcases hz u with u | u
            · exact .inr (.inr (.inr (.inr (i6.mpr (.inr (by rw [U6, u, Int.mul_zero, Int.mul_zero]))))))
            · exact absurd (no12 u) h
def f5 (f : Nat → Bool) : Option Nat := if f 1 = true then some 1 else if f 2 = true then some 2 else if f 3 = true then some 3 else if f 4 = true then some 4 else if f 6 = true then some 6 else none
def f12 (f : Nat → Bool) : Option Nat := if f 1 = true then some 1 else if f 2 = true then some 2 else if f 3 = true then some 3 else if f 4 = true then some 4 else if f 5 = true then some 5 else if f 6 = true then some 6 else if f 7 = true then some 7 else if f 8 = true then some 8 else if f 9 = true then some 9 else if f 10 = true then some 10 else if f 11 = true then some 11 else if f 12 = true then some 12 else none
theorem f12_f5 {x : T4} (h : x.det ≠ 0) : f12 (e1 x) = f5 (e1 x) := by
  obtain ⟨a5, a7, a8, a9, a10, a11, a12⟩ := few h
  unfold f12 f5
  split
  · rfl
  · rename_i n1
    split
    · rfl
    · rename_i n2
      split
      · rfl
      · rename_i n3
        split
        · rfl
        · rename_i n4
          rw [if_neg fun z => n1 (a5 z)]
          split
          · rfl
          · rename_i n6
            have b8 : ¬ e1 x 8 = true := fun z => (a8 z).elim n1 fun y => y.elim n2 n4
            have b9 : ¬ e1 x 9 = true := fun z => (a9 z).elim n1 n3
            have b10 : ¬ e1 x 10 = true := fun z => (a10 z).elim n1 n2
            have b12 : ¬ e1 x 12 = true := fun z => (a12 z).elim n1 fun y => y.elim n2 fun y => y.elim n3 fun y => y.elim n4 n6
            rw [if_neg fun z => n1 (a7 z), if_neg b8, if_neg b9, if_neg b10, if_neg fun z => n1 (a11 z), if_neg b12]
theorem f5_iff {x : T4} (h : x.det ≠ 0) (hn : ¬ Scal x) : (f5 (e1 x)).isSome = true ↔ x.tr * x.tr = 0 ∨ x.tr * x.tr = x.det ∨ x.tr * x.tr = 2 * x.det ∨ x.tr * x.tr = 3 * x.det := by
  have i : ∀ n, e1 x (n + 1) = true ↔ U x.tr x.det (n + 1) = 0 := fun n => ((e1_iff h (n + 1)).trans (s1_pw h n)).trans ⟨fun z => z.resolve_left hn, .inr⟩
  have i1 : ¬ e1 x 1 = true := fun z => by have := (i 0).mp z; rw [show U x.tr x.det (0 + 1) = 1 from rfl] at this; exact absurd this (by decide)
  have i2 : e1 x 2 = true ↔ x.tr = 0 := (i 1).trans (by rw [U2])
  have i3 : e1 x 3 = true ↔ x.tr * x.tr = x.det := (i 2).trans (by rw [U3]; omega)
  have i4 : e1 x 4 = true ↔ x.tr = 0 ∨ x.tr * x.tr = 2 * x.det := (i 3).trans (by rw [U4, Int.mul_eq_zero]; omega)
  have i6 : e1 x 6 = true ↔ x.tr = 0 ∨ x.tr * x.tr = x.det ∨ x.tr * x.tr = 3 * x.det := (i 5).trans (by rw [U6, Int.mul_eq_zero, Int.mul_eq_zero]; omega)
  have z : x.tr * x.tr = 0 ↔ x.tr = 0 := by rw [Int.mul_eq_zero, or_self]
  rw [z]
  unfold f5
  rw [if_neg i1]
  constructor
  · intro s
    split at s
    · rename_i y; exact .inl (i2.mp y)
    · split at s
      · rename_i y; exact .inr (.inl (i3.mp y))
      · split at s
        · rename_i y; rcases i4.mp y with y | y
          · exact .inl y
          · exact .inr (.inr (.inl y))
        · split at s
          · rename_i y; rcases i6.mp y with y | y | y
            · exact .inl y
            · exact .inr (.inl y)
            · exact .inr (.inr (.inr y))
          · cases s
  · rintro (y | y | y | y)
    · rw [if_pos (i2.mpr y)]; rfl
    · split
      · rfl
      · rw [if_pos (i3.mpr y)]; rfl
    · split
      · rfl
      · split
        · rfl
        · rw [if_pos (i4.mpr (.inr y))]; rfl
    · split
      · rfl
      · split
        · rfl
        · split
          · rfl
          · rw [if_pos (i6.mpr (.inr (.inr y)))]; rfl
end T4
end Mi
set_option Elab.async false
set_option linter.all false
set_option maxRecDepth 100000
set_option maxHeartbeats 400000
set_option exponentiation.threshold 30000
namespace Mi
/-! # points -/
def pn (u v : Int) : Int × Int := if v = 0 then (1, 0) else nf u v
def Pt (x : Int × Int) : Prop := x = (1, 0) ∨ Nf x
def nz2 (u v : Int) : Prop := ¬ (u = 0 ∧ v = 0)
theorem pn_pt (u v : Int) : Pt (pn u v) := by
  unfold pn
  split
  · exact .inl rfl
  · rename_i h; exact .inr (nf_spec u v h).1
theorem Pt.nz {x : Int × Int} (h : Pt x) : nz2 x.1 x.2 := by
  rcases h with rfl | h
  · exact fun z => absurd z.1 (by decide)
  · have := h.pos; exact fun z => by omega
/-- the point tells what it was made of, but for a factor -/
theorem pn_of {u v : Int} (h : nz2 u v) : ∃ k : Int, k ≠ 0 ∧ u = k * (pn u v).1 ∧ v = k * (pn u v).2 := by
  unfold pn
  split
  · rename_i z
    exact ⟨u, fun y => h ⟨y, z⟩, by show u = u * 1; omega, by show v = u * 0; omega⟩
  · rename_i z
    exact (nf_spec u v z).2
theorem pn_eq {u v u' v' : Int} (h : nz2 u v) (g : nz2 u' v') (e : u * v' = u' * v) : pn u v = pn u' v' := by
  unfold pn
  by_cases z : v = 0
  · have hu : u ≠ 0 := fun y => h ⟨y, z⟩
    have : v' = 0 := by
      rw [z, Int.mul_zero] at e
      exact (Int.mul_eq_zero.mp e).resolve_left hu
    rw [if_pos z, if_pos this]
  · have : v' ≠ 0 := fun y => by
      rw [y, Int.mul_zero] at e
      have := (Int.mul_eq_zero.mp e.symm).resolve_right z
      exact g ⟨this, y⟩
    rw [if_neg z, if_neg this]
    exact nf_eq z this e
theorem pn_cross {u v u' v' : Int} (h : nz2 u v) (g : nz2 u' v') (e : pn u v = pn u' v') : u * v' = u' * v := by
  obtain ⟨k, k0, e1, e2⟩ := pn_of h
  obtain ⟨l, l0, f1, f2⟩ := pn_of g
  rw [← e] at f1 f2
  rw [f1, f2]
  generalize (pn u v).1 = a at *
  generalize (pn u v).2 = b at *
  subst e1; subst e2
  grind
theorem Pt.self {x : Int × Int} (h : Pt x) : pn x.1 x.2 = x := by
  rcases h with rfl | h
  · rfl
  · unfold pn
    rw [if_neg (by have := h.pos; omega)]
    exact h.nf
theorem Pt.eq {x y : Int × Int} (h : Pt x) (g : Pt y) (e : x.1 * y.2 = y.1 * x.2) : x = y := by
  rw [← h.self, ← g.self]
  exact pn_eq h.nz g.nz e
namespace T4
def au (m : T4) (x : Int × Int) : Int := m.a * x.1 + m.b * x.2
def av (m : T4) (x : Int × Int) : Int := m.c * x.1 + m.d * x.2
/-- the led point -/
def lp (m : T4) (x : Int × Int) : Int × Int := pn (m.au x) (m.av x)
theorem ap_nz {m : T4} {x : Int × Int} (h : m.det ≠ 0) (hx : nz2 x.1 x.2) : nz2 (m.au x) (m.av x) := fun ⟨h1, h2⟩ => by
  unfold au at h1
  unfold av at h2
  have e1 : m.det * x.1 = 0 := by unfold det; grind
  have e2 : m.det * x.2 = 0 := by unfold det; grind
  exact hx ⟨(Int.mul_eq_zero.mp e1).resolve_left h, (Int.mul_eq_zero.mp e2).resolve_left h⟩
theorem lp_pt (m : T4) (x : Int × Int) : Pt (lp m x) := pn_pt _ _
theorem lp_mul {m n : T4} {x : Int × Int} (h : m.det ≠ 0) (g : n.det ≠ 0) (hx : nz2 x.1 x.2) : lp (mul m n) x = lp m (lp n x) := by
  have hn := ap_nz g hx
  have hm := ap_nz h (lp_pt n x).nz
  refine pn_eq (ap_nz (det_mul_ne h g) hx) hm ?_
  obtain ⟨k, k0, e1, e2⟩ := pn_of hn
  unfold lp
  generalize hp : pn (n.au x) (n.av x) = p at *
  unfold au av at *
  unfold mul
  simp only
  grind
theorem lp_sim {m n : T4} (s : Sim m n) (h : m.det ≠ 0) {x : Int × Int} (hx : nz2 x.1 x.2) : lp m x = lp n x := by
  have g := s.det h
  obtain ⟨k, l, k0, l0, e⟩ := s
  refine pn_eq (ap_nz h hx) (ap_nz g hx) ?_
  have h1 : k * m.a = l * n.a := congrArg T4.a e
  have h2 : k * m.b = l * n.b := congrArg T4.b e
  have h3 : k * m.c = l * n.c := congrArg T4.c e
  have h4 : k * m.d = l * n.d := congrArg T4.d e
  have e1 : k * m.au x = l * n.au x := by unfold au; grind
  have e2 : k * m.av x = l * n.av x := by unfold av; grind
  have : (k * l) * (m.au x * n.av x) = (k * l) * (n.au x * m.av x) := by grind
  exact Int.eq_of_mul_eq_mul_left (mne k0 l0) this
theorem lp_one {x : Int × Int} (hx : Pt x) : lp one x = x := by
  unfold lp au av one
  simp only [Int.one_mul, Int.zero_mul, Int.add_zero, Int.zero_add]
  exact hx.self
theorem lp_back {m : T4} (h : m.det ≠ 0) {x : Int × Int} (hx : Pt x) : lp m.adj (lp m x) = x := by
  rw [← lp_mul (det_adj_ne h) h hx.nz, adj_mul_self]
  rw [lp_sim (Sim.sc h) (by rw [det_sc]; exact mne (mne h h) (by decide)) hx.nz]
  exact lp_one hx
theorem lp_inj {m : T4} (h : m.det ≠ 0) {x y : Int × Int} (hx : Pt x) (hy : Pt y) : lp m x = lp m y ↔ x = y :=
  ⟨fun e => by rw [← lp_back h hx, e, lp_back h hy], fun e => by rw [e]⟩
theorem lp_far (m : T4) : lp m (1, 0) = (1, 0) ↔ m.c = 0 := by
  unfold lp au av pn
  simp only [Int.mul_one, Int.mul_zero, Int.add_zero]
  split
  · rename_i z; exact ⟨fun _ => z, fun _ => rfl⟩
  · rename_i z
    refine ⟨fun e => ?_, fun y => absurd y z⟩
    have := (nf_spec m.a m.c z).1.pos
    rw [e] at this
    exact absurd this (by decide)
theorem lp_to_far {m : T4} (hc : m.c ≠ 0) : lp m (nf (0 - m.d) m.c) = (1, 0) := by
  obtain ⟨_, k, k0, e1, e2⟩ := nf_spec (0 - m.d) m.c hc
  unfold lp pn av
  rw [if_pos]
  generalize (nf (0 - m.d) m.c).1 = a at *
  generalize (nf (0 - m.d) m.c).2 = b at *
  have : k * (m.c * a + m.d * b) = 0 := by grind
  exact (Int.mul_eq_zero.mp this).resolve_left k0
end T4
end Mi
set_option Elab.async false
set_option linter.all false
set_option maxRecDepth 100000
set_option maxHeartbeats 400000
set_option exponentiation.threshold 30000
namespace Mi
/-! # fractions that are near by a prime, and the one that stands for a ball -/
/-- the difference of two fractions is 0 or has at least n parts -/
def Near (p n : Int) (x y : Int × Int) : Prop := ∀ v w : Nat, Vl p x.2 v → Vl p y.2 w → p ^ (n + v + w).toNat ∣ x.1 * y.2 - y.1 * x.2
theorem pow_dvd (p : Int) {a b : Nat} (h : a ≤ b) : p ^ a ∣ p ^ b := ⟨p ^ (b - a), by rw [← Int.pow_add]; congr 1; omega⟩
section
variable {p : Int} (P : Pr p)
include P
theorem near_iff {n : Int} {x y : Int × Int} {v w : Nat} (hv : Vl p x.2 v) (hw : Vl p y.2 w) : Near p n x y ↔ p ^ (n + v + w).toNat ∣ x.1 * y.2 - y.1 * x.2 :=
  ⟨fun h => h v w hv hw, fun h v' w' hv' hw' => by rw [hv'.uniq P hv, hw'.uniq P hw]; exact h⟩
omit P in
theorem Near.refl (n : Int) (x : Int × Int) : Near p n x x := fun v w _ _ => by rw [Int.sub_self]; exact Int.dvd_zero _
omit P in
theorem Near.symm {n : Int} {x y : Int × Int} (h : Near p n x y) : Near p n y x := fun v w hv hw => by
  have := h w v hw hv
  rw [show (n + v + w) = n + w + v by omega]
  have e : y.1 * x.2 - x.1 * y.2 = -(x.1 * y.2 - y.1 * x.2) := by omega
  rw [e]
  exact Int.dvd_neg.mpr this
omit P in
theorem Near.le {m n : Int} {x y : Int × Int} (h : Near p n x y) (l : m ≤ n) : Near p m x y := fun v w hv hw =>
  Int.dvd_trans (pow_dvd p (by omega)) (h v w hv hw)
/-- what divides a product of a power and something -/
theorem dvd_cancel {k j : Nat} {d N : Int} (hd : Vl p d j) (h : p ^ (k + j) ∣ N * d) : p ^ k ∣ N := by
  by_cases z : N = 0
  · rw [z]; exact Int.dvd_zero _
  obtain ⟨v, hv⟩ := Vl.ex P z
  have := ((hv.mul P hd).dvd P).mp h
  exact (hv.dvd P).mpr (by omega)
theorem Near.trans {n : Int} {x y z : Int × Int} (h : Near p n x y) (g : Near p n y z) (hx : x.2 ≠ 0) (hy : y.2 ≠ 0) (hz : z.2 ≠ 0) : Near p n x z := by
  obtain ⟨v, hv⟩ := Vl.ex P hx
  obtain ⟨w, hw⟩ := Vl.ex P hy
  obtain ⟨u, hu⟩ := Vl.ex P hz
  rw [near_iff P hv hu]
  have h1 := h v w hv hw
  have g1 := g w u hw hu
  by_cases c : n + v + u ≤ 0
  · rw [show (n + v + u).toNat = 0 by omega, Int.pow_zero]; exact Int.one_dvd _
  refine dvd_cancel P hw ?_
  have e : (x.1 * z.2 - z.1 * x.2) * y.2 = z.2 * (x.1 * y.2 - y.1 * x.2) + x.2 * (y.1 * z.2 - z.1 * y.2) := by grind
  rw [e]
  have a : p ^ ((n + v + u).toNat + w) ∣ z.2 * (x.1 * y.2 - y.1 * x.2) := by
    have : p ^ (u + (n + v + w).toNat) ∣ z.2 * (x.1 * y.2 - y.1 * x.2) := by
      rw [Int.pow_add]
      exact Int.mul_dvd_mul ((hu.dvd P).mpr (Nat.le_refl _)) h1
    exact Int.dvd_trans (pow_dvd p (by omega)) this
  have b : p ^ ((n + v + u).toNat + w) ∣ x.2 * (y.1 * z.2 - z.1 * y.2) := by
    have : p ^ (v + (n + w + u).toNat) ∣ x.2 * (y.1 * z.2 - z.1 * y.2) := by
      rw [Int.pow_add]
      exact Int.mul_dvd_mul ((hv.dvd P).mpr (Nat.le_refl _)) g1
    exact Int.dvd_trans (pow_dvd p (by omega)) this
  exact Int.dvd_add a b
end
/-- as the q of a ball is: from 0 on, below p ^ n, a power of p below -/
structure Can (p n : Int) (q : Int × Int) : Prop where
  nf : Nf q
  pos : 0 ≤ q.1
  low : ∃ j : Nat, q.2 = p ^ j ∧ (q.1 = 0 ∨ (0 < n + j ∧ q.1 < p ^ (n + j).toNat))
section
variable {p : Int} (P : Pr p)
include P
theorem Can.uniq {n : Int} {x y : Int × Int} (h : Can p n x) (g : Can p n y) (e : Near p n x y) : x = y := by
  obtain ⟨j, ej, hj⟩ := h.low
  obtain ⟨k, ek, hk⟩ := g.low
  refine h.nf.uniq g.nf ?_
  have hv : Vl p x.2 j := by rw [ej]; exact Vl.pw P j
  have hw : Vl p y.2 k := by rw [ek]; exact Vl.pw P k
  have d := e j k hv hw
  rw [ej, ek] at d ⊢
  have pj := P.pos j
  have pk := P.pos k
  -- both products are below p ^ (n + j + k)
  have up : ∀ {a : Int} {i l : Nat}, (a = 0 ∨ (0 < n + i ∧ a < p ^ (n + i).toNat)) → 0 ≤ a → a * p ^ l < p ^ (n + i + l).toNat := by
    intro a i l ha a0
    have pl := P.pos l
    rcases ha with z | ⟨h1, h2⟩
    · rw [z, Int.zero_mul]; exact P.pos _
    · have : (n + i + l).toNat = (n + i).toNat + l := by omega
      rw [this, Int.pow_add]
      exact Int.mul_lt_mul_of_pos_right h2 pl
  have b1 := up (l := k) hj h.pos
  have b2 := up (l := j) hk g.pos
  rw [show (n + k + j) = n + j + k by omega] at b2
  have c1 : 0 ≤ x.1 * p ^ k := Int.mul_nonneg h.pos (by omega)
  have c2 : 0 ≤ y.1 * p ^ j := Int.mul_nonneg g.pos (by omega)
  obtain ⟨t, ht⟩ := d
  have pp := P.pos (n + j + k).toNat
  generalize p ^ (n + j + k).toNat = M at *
  have : t = 0 := by
    rcases Int.lt_trichotomy t 0 with z | z | z
    · have : M * t ≤ M * (-1) := Int.mul_le_mul_of_nonneg_left (by omega) (by omega)
      omega
    · exact z
    · have : M * 1 ≤ M * t := Int.mul_le_mul_of_nonneg_left (by omega) (by omega)
      omega
  rw [this, Int.mul_zero] at ht
  omega
end
end Mi
namespace Mi
section
variable {p : Int} (P : Pr p)
include P
/-- divisors of a power of a prime -/
theorem pow_split {w : Nat} {κ q2 : Int} (e : p ^ w = κ * q2) (h : 0 < q2) : ∃ i j : Nat, w = i + j ∧ q2 = p ^ j ∧ κ = p ^ i := by
  have hk : κ ≠ 0 := fun z => by rw [z, Int.zero_mul] at e; exact absurd e (P.pw w)
  obtain ⟨j, hj⟩ := Vl.ex P (show q2 ≠ 0 by omega)
  obtain ⟨i, hi⟩ := Vl.ex P hk
  have hw := hi.mul P hj
  rw [← e] at hw
  have ew : w = i + j := (Vl.pw P w).uniq P hw
  obtain ⟨m, em, nm⟩ := hj
  obtain ⟨m', em', nm'⟩ := hi
  have e2 : p ^ w = p ^ w * (m' * m) := by
    have : p ^ w = p ^ i * p ^ j := by rw [ew, Int.pow_add]
    rw [e, em, em']
    rw [em, em'] at e
    grind
  have e3 : m' * m = 1 := by
    have : p ^ w * 1 = p ^ w * (m' * m) := by rw [Int.mul_one]; exact e2
    exact (Int.eq_of_mul_eq_mul_left (P.pw w) this).symm
  have mp : 0 < m := by
    have := P.pos j
    rcases Int.lt_trichotomy m 0 with z | z | z
    · have := Int.mul_neg_of_pos_of_neg this z; omega
    · rw [z] at e3; omega
    · exact z
  have m1 : m = 1 := Int.eq_one_of_dvd_one (by omega) ⟨m', by rw [Int.mul_comm]; exact e3.symm⟩
  have m2 : m' = 1 := by rw [m1, Int.mul_one] at e3; exact e3
  exact ⟨i, j, ew, by rw [em, m1, Int.mul_one], by rw [em', m2, Int.mul_one]⟩
/-- the number that stands for a ball, from a rest -/
theorem can_of {n : Int} {x : Int × Int} {w k : Nat} {u t : Int} (ex : x.2 = p ^ w * u) (hu : ¬ p ∣ u) (hk : n + w = k) (k0 : 0 < k) (t0 : 0 ≤ t) (t1 : t < p ^ k) (ht : p ^ k ∣ x.1 - t * u) : Can p n (nf t (p ^ w)) ∧ Near p n x (nf t (p ^ w)) ∧ ∃ j : Nat, j ≤ w ∧ (nf t (p ^ w)).2 = p ^ j := by
  obtain ⟨hq, κ, k1, e1, e2⟩ := nf_spec t (p ^ w) (P.pw w)
  obtain ⟨i, j, ew, ej, ei⟩ := pow_split P e2 hq.pos
  generalize nf t (p ^ w) = q at *
  have pi := P.pos i
  have pj := P.pos j
  have hv : Vl p x.2 w := ⟨u, ex, hu⟩
  have hw : Vl p q.2 j := by rw [ej]; exact Vl.pw P j
  have q0 : 0 ≤ q.1 := by
    rcases Int.lt_or_le q.1 0 with z | z
    · rw [ei] at e1
      have := Int.mul_neg_of_pos_of_neg pi z
      omega
    · exact z
  refine ⟨⟨hq, q0, j, ej, ?_⟩, ?_, j, by omega, ej⟩
  · by_cases z : q.1 = 0
    · exact .inl z
    · refine .inr ?_
      have q1 : 1 ≤ q.1 := by omega
      rw [ei] at e1
      have hn : 0 < n + j := by
        rcases Int.lt_or_le 0 (n + j) with y | y
        · exact y
        · exfalso
          have hki : k ≤ i := by omega
          have h1 : p ^ k ≤ p ^ i := Int.le_of_dvd pi (pow_dvd p hki)
          have h2 : p ^ i * 1 ≤ p ^ i * q.1 := Int.mul_le_mul_of_nonneg_left q1 (by omega)
          omega
      refine ⟨hn, ?_⟩
      have hk2 : k = i + (n + j).toNat := by omega
      rw [hk2, Int.pow_add, e1] at t1
      exact Int.lt_of_mul_lt_mul_left t1 (by omega)
  · rw [near_iff P hv hw]
    refine dvd_cancel P (d := κ) (j := i) (by rw [ei]; exact Vl.pw P i) ?_
    have e : (x.1 * q.2 - q.1 * x.2) * κ = p ^ w * (x.1 - t * u) := by
      rw [ex]
      have a : κ * q.2 = p ^ w := e2.symm
      have b : κ * q.1 = t := e1.symm
      grind
    rw [e]
    have : (n + w + j).toNat + i = w + k := by omega
    rw [this, Int.pow_add]
    exact Int.mul_dvd_mul (Int.dvd_refl _) ht
/-- nought -/
theorem can_nil (n : Int) : Can p n (0, 1) := ⟨⟨by decide, by decide⟩, Int.le_refl 0, 0, (Int.pow_zero p).symm, .inl rfl⟩
theorem near_nil {n : Int} {x : Int × Int} {w : Nat} (hv : Vl p x.2 w) (h : n + w ≤ 0) : Near p n x (0, 1) := by
  rw [near_iff P hv (Vl.one P)]
  rw [show (n + w + (0 : Nat)).toNat = 0 by omega, Int.pow_zero]
  exact Int.one_dvd _
omit P in
theorem near_zero {n : Int} {x : Int × Int} (h : x.1 = 0) : Near p n x (0, 1) := fun v w _ _ => by
  rw [h, Int.zero_mul, Int.zero_mul]
  exact Int.dvd_zero _
end
end Mi
set_option Elab.async false
set_option linter.all false
set_option maxRecDepth 100000
set_option maxHeartbeats 400000
namespace Mi
/-! ## steps between balls, as a tree has them -/
abbrev Ball := Int × (Int × Int)
structure Cn (p : Int) (a b : Ball) (c : Int) : Prop where
  l : c ≤ a.1
  r : c ≤ b.1
  near : Near p c a.2 b.2
  no : c < a.1 → c < b.1 → ¬ Near p (c + 1) a.2 b.2
section
variable {p : Int} (P : Pr p)
include P
theorem Cn.symm {a b : Ball} {c : Int} (h : Cn p a b c) : Cn p b a c := ⟨h.r, h.l, h.near.symm, fun x y z => h.no y x z.symm⟩
theorem Cn.uniq {a b : Ball} {c d : Int} (h : Cn p a b c) (g : Cn p a b d) : c = d := by
  rcases Int.lt_trichotomy c d with l | e | l
  · exact absurd (g.near.le (show c + 1 ≤ d by omega)) (h.no (by have := g.l; omega) (by have := g.r; omega))
  · exact e
  · exact absurd (h.near.le (show d + 1 ≤ c by omega)) (g.no (by have := h.l; omega) (by have := h.r; omega))
theorem Cn.max {a b : Ball} {c m : Int} (h : Cn p a b c) (l : m ≤ a.1) (r : m ≤ b.1) (n : Near p m a.2 b.2) : m ≤ c := by
  refine Int.not_lt.mp fun k => h.no (by omega) (by omega) (n.le (by omega))
theorem Cn.ultra {a b c : Ball} {x y z : Int} (ha : a.2.2 ≠ 0) (hb : b.2.2 ≠ 0) (hc : c.2.2 ≠ 0) (h : Cn p a b x) (g : Cn p b c y) (k : Cn p a c z) : min x y ≤ z := by
  refine k.max P (by have := h.l; omega) (by have := g.r; omega) ?_
  exact (h.near.le (by omega)).trans P (g.near.le (by omega)) ha hb hc
end
open Classical in
noncomputable def cN (p : Int) (a b : Ball) : Int := if h : ∃ c, Cn p a b c then Classical.choose h else 0
theorem cN_of {p : Int} (P : Pr p) {a b : Ball} {c : Int} (h : Cn p a b c) : cN p a b = c := by
  have e : ∃ c, Cn p a b c := ⟨c, h⟩
  unfold cN
  rw [dif_pos e]
  exact (Classical.choose_spec e).uniq P h
/-- how many steps -/
noncomputable def dst (p : Int) (a b : Ball) : Int := a.1 + b.1 - 2 * cN p a b
/-- a set of balls of which each two have a common number -/
structure Good (p : Int) (S : Ball → Prop) : Prop where
  z : ∀ a, S a → a.2.2 ≠ 0
  c : ∀ a b, S a → S b → Cn p a b (cN p a b)
section
variable {p : Int} (P : Pr p) {S : Ball → Prop} (G : Good p S)
include P G
theorem cN_symm {a b : Ball} (ha : S a) (hb : S b) : cN p a b = cN p b a := (G.c a b ha hb).symm P |>.uniq P (G.c b a hb ha) |> fun h => h
theorem cN_self {a : Ball} (ha : S a) : cN p a a = a.1 := (G.c a a ha ha).uniq P ⟨Int.le_refl _, Int.le_refl _, Near.refl _ _, fun l => absurd l (Int.lt_irrefl _)⟩
theorem cN_ultra {a b c : Ball} (ha : S a) (hb : S b) (hc : S c) : min (cN p a b) (cN p b c) ≤ cN p a c := Cn.ultra P (G.z a ha) (G.z b hb) (G.z c hc) (G.c a b ha hb) (G.c b c hb hc) (G.c a c ha hc)
theorem dst_symm {a b : Ball} (ha : S a) (hb : S b) : dst p a b = dst p b a := by unfold dst; rw [cN_symm P G ha hb]; omega
theorem dst_self {a : Ball} (ha : S a) : dst p a a = 0 := by unfold dst; rw [cN_self P G ha]; omega
/-- a ball has one step more to one of two neighbours -/
theorem dst_ne {u v x : Ball} (hu : S u) (hv : S v) (hx : S x) (h : dst p u v = 1) : dst p u x = dst p v x + 1 ∨ dst p v x = dst p u x + 1 := by
  have a1 := (G.c u v hu hv).l
  have a2 := (G.c u v hu hv).r
  have b1 := (G.c u x hu hx).l
  have b2 := (G.c u x hu hx).r
  have c1 := (G.c v x hv hx).l
  have c2 := (G.c v x hv hx).r
  have u1 := cN_ultra P G hu hv hx
  have u2 := cN_ultra P G hv hu hx
  have s1 := cN_symm P G hu hv
  unfold dst at *
  omega
theorem dst_pos {a b : Ball} (ha : S a) (hb : S b) : 0 ≤ dst p a b := by
  have := (G.c a b ha hb).l
  have := (G.c a b ha hb).r
  unfold dst
  omega
omit P G in
theorem four_int {na nb nc nd ab ac ad bc bd cd : Int} (t1 : min ab bc ≤ ac) (t2 : min ab ac ≤ bc) (t3 : min ac bc ≤ ab) (t4 : min ab bd ≤ ad) (t5 : min ab ad ≤ bd) (t6 : min ad bd ≤ ab)
    (t7 : min ac cd ≤ ad) (t8 : min ac ad ≤ cd) (t9 : min ad cd ≤ ac) (t10 : min bc cd ≤ bd) (t11 : min bc bd ≤ cd) (t12 : min bd cd ≤ bc) :
    na + nb - 2 * ab + (nc + nd - 2 * cd) ≤ max (na + nc - 2 * ac + (nb + nd - 2 * bd)) (na + nd - 2 * ad + (nb + nc - 2 * bc)) := by
  omega
/-- four balls: of the three sums the two greater ones are equal -/
theorem four {a b c d : Ball} (ha : S a) (hb : S b) (hc : S c) (hd : S d) : dst p a b + dst p c d ≤ max (dst p a c + dst p b d) (dst p a d + dst p b c) := by
  have s : ∀ {x y : Ball}, S x → S y → cN p x y = cN p y x := fun hx hy => cN_symm P G hx hy
  have t : ∀ {x y z : Ball}, S x → S y → S z → min (cN p x y) (cN p y z) ≤ cN p x z := fun hx hy hz => cN_ultra P G hx hy hz
  have t2 : ∀ {x y z : Ball}, S x → S y → S z → min (cN p x y) (cN p x z) ≤ cN p y z := fun hx hy hz => by rw [s hx hy]; exact t hy hx hz
  have t3 : ∀ {x y z : Ball}, S x → S y → S z → min (cN p x z) (cN p y z) ≤ cN p x y := fun hx hy hz => by rw [s hy hz]; exact t hx hz hy
  unfold dst
  exact four_int (t ha hb hc) (t2 ha hb hc) (t3 ha hb hc) (t ha hb hd) (t2 ha hb hd) (t3 ha hb hd) (t ha hc hd) (t2 ha hc hd) (t3 ha hc hd) (t hb hc hd) (t2 hb hc hd) (t3 hb hc hd)
/-- on a side -/
theorem no_both {u v u' v' x : Ball} (hu : S u) (hv : S v) (hu' : S u') (hv' : S v') (hx : S x) (h : dst p u v = 1) (h' : dst p u' v' = 1) (n1 : ¬ dst p v v' < dst p u v') (n2 : ¬ dst p v' v < dst p u' v) : ¬ (dst p v x < dst p u x ∧ dst p v' x < dst p u' x) := by
  rintro ⟨o1, o2⟩
  have a1 := dst_ne P G hu hv hx h
  have a2 := dst_ne P G hu' hv' hx h'
  have a3 := dst_ne P G hu hv hv' h
  have a4 := dst_ne P G hu' hv' hv h'
  have s1 := dst_symm P G hv hv'
  have s2 := dst_symm P G hu' hv
  have s3 := dst_symm P G hv hx
  have s4 := dst_symm P G hv' hx
  have s5 := dst_symm P G hu hv
  have s6 := dst_symm P G hu' hv'
  have f1 := four P G hu hx hv hv'
  have f2 := four P G hu' hx hv' hv
  have p1 := dst_pos P G hu hv'
  have p2 := dst_pos P G hu' hv
  have s7 := dst_symm P G hx hv'
  have s8 := dst_symm P G hx hv
  omega
end
end Mi
set_option Elab.async false
set_option linter.all false
set_option maxRecDepth 100000
set_option maxHeartbeats 400000
namespace Mi
/-! # balls as tables, but for what is no part of p -/
namespace T4
theorem one_det : one.det = 1 := by decide
section
variable {p : Int} (P : Pr p)
def Eqp (p : Int) (x y : T4) : Prop := ∃ u : T4, ¬ p ∣ u.det ∧ Sim x (mul y u)
theorem nd_det {u : T4} (h : ¬ p ∣ u.det) : u.det ≠ 0 := fun z => h ⟨0, by rw [z]; omega⟩
include P
theorem nd_mul {a b : Int} (h : ¬ p ∣ a) (g : ¬ p ∣ b) : ¬ p ∣ a * b := fun z => by
  have h1 := Vl.zero_iff P h
  have h2 := Vl.zero_iff P g
  have := ((h1.mul P h2).dvd P (k := 1)).mp (by rw [Int.pow_one]; exact z)
  omega
theorem nd_one : ¬ p ∣ (1 : Int) := fun z => by
  have := Int.le_of_dvd (by decide) z
  have := P.two
  omega
theorem Eqp.sim {x y : T4} (h : Sim x y) : Eqp p x y := ⟨one, by rw [one_det]; exact nd_one P, by rw [mul_one]; exact h⟩
theorem Eqp.refl (x : T4) : Eqp p x x := Eqp.sim P (Sim.refl x)
omit P in
theorem Eqp.symm {x y : T4} (h : Eqp p x y) : Eqp p y x := by
  obtain ⟨u, hu, s⟩ := h
  refine ⟨adj u, by rw [det_adj]; exact hu, ?_⟩
  have e := Sim.mul s (Sim.refl (adj u))
  rw [mul_assoc, mul_adj, sc_mul_r, mul_one] at e
  exact (e.trans (Sim.sc (nd_det hu))).symm
theorem Eqp.trans {x y z : T4} (h : Eqp p x y) (g : Eqp p y z) : Eqp p x z := by
  obtain ⟨u, hu, s⟩ := h
  obtain ⟨v, hv, r⟩ := g
  refine ⟨mul v u, by rw [det_mul]; exact nd_mul P hv hu, s.trans ?_⟩
  rw [← mul_assoc]
  exact Sim.mul r (Sim.refl u)
omit P in
theorem Eqp.left (m : T4) {x y : T4} (h : Eqp p x y) : Eqp p (mul m x) (mul m y) := by
  obtain ⟨u, hu, s⟩ := h
  refine ⟨u, hu, ?_⟩
  rw [mul_assoc]
  exact Sim.mul (Sim.refl m) s
omit P in
theorem Eqp.det {x y : T4} (h : Eqp p x y) (hy : y.det ≠ 0) : x.det ≠ 0 := by
  obtain ⟨u, hu, s⟩ := h
  exact s.symm.det (det_mul_ne hy (nd_det hu))
omit P in
/-- a way to see it: the one's adjoint times the other is a multiple of such a table -/
theorem eqp_of {x y u : T4} {k l : Int} (hy : y.det ≠ 0) (hk : k ≠ 0) (hl : l ≠ 0) (hu : ¬ p ∣ u.det) (e : sc k (mul (adj y) x) = sc l u) : Eqp p x y := by
  refine ⟨u, hu, ?_⟩
  have e2 : mul y (sc k (mul (adj y) x)) = mul y (sc l u) := by rw [e]
  rw [sc_mul_r, sc_mul_r, ← mul_assoc, mul_adj, sc_mul_l, one_mul, sc_sc] at e2
  exact ⟨k * y.det, l, mne hk hy, hl, e2⟩
/-! ## upper tables -/
def up (a b d : Int) : T4 := ⟨a, b, 0, d⟩
omit P in
theorem det_up (a b d : Int) : (up a b d).det = a * d := by unfold up det; simp
/-- n and the fraction that an upper table tells -/
theorem up_uniq {a b d a' b' d' : Int} {i j i' j' : Nat} (ha : Vl p a i) (hd : Vl p d j) (ha' : Vl p a' i') (hd' : Vl p d' j') (h : Eqp p (up a b d) (up a' b' d')) : (i : Int) - j = (i' : Int) - j' ∧ Near p ((i : Int) - j) (b, d) (b', d') := by
  obtain ⟨u, hu, k, l, hk, hl, e⟩ := h
  have ea : k * a = l * (a' * u.a + b' * u.c) := congrArg T4.a e
  have eb : k * b = l * (a' * u.b + b' * u.d) := congrArg T4.b e
  have ec : k * 0 = l * (0 * u.a + d' * u.c) := congrArg T4.c e
  have ed : k * d = l * (0 * u.b + d' * u.d) := congrArg T4.d e
  have uc : u.c = 0 := by
    rw [Int.mul_zero, Int.zero_mul, Int.zero_add] at ec
    rcases Int.mul_eq_zero.mp ec.symm with z | z
    · exact absurd z hl
    · exact (Int.mul_eq_zero.mp z).resolve_left (hd'.ne P)
  rw [uc, Int.mul_zero, Int.add_zero] at ea
  rw [Int.zero_mul, Int.zero_add] at ed
  have hdu : u.det = u.a * u.d := by unfold det; rw [uc, Int.mul_zero, Int.sub_zero]
  rw [hdu] at hu
  have na : ¬ p ∣ u.a := fun z => hu (Int.dvd_mul_of_dvd_left z)
  have nd : ¬ p ∣ u.d := fun z => hu (Int.dvd_mul_of_dvd_right z)
  obtain ⟨vk, hvk⟩ := Vl.ex P hk
  obtain ⟨vl, hvl⟩ := Vl.ex P hl
  have v1 : vk + i = vl + (i' + 0) := (hvk.mul P ha).uniq P (by rw [ea]; exact hvl.mul P (ha'.mul P (Vl.zero_iff P na)))
  have v2 : vk + j = vl + (j' + 0) := (hvk.mul P hd).uniq P (by rw [ed]; exact hvl.mul P (hd'.mul P (Vl.zero_iff P nd)))
  refine ⟨by omega, (near_iff P hd hd').mpr ?_⟩
  have e3 : k * (b * d' - b' * d) = l * (a' * u.b) * d' := by
    have : k * (b * d' - b' * d) = (k * b) * d' - b' * (k * d) := by grind
    rw [this, eb, ed]; grind
  show p ^ ((i : Int) - j + j + j').toNat ∣ b * d' - b' * d
  rw [show ((i : Int) - j + j + j').toNat = i + j' by omega]
  by_cases z : b * d' - b' * d = 0
  · rw [z]; exact Int.dvd_zero _
  · obtain ⟨s, hs⟩ := Vl.ex P z
    refine (hs.dvd P).mpr ?_
    have ub : u.b ≠ 0 := fun q => by
      rw [q, Int.mul_zero, Int.mul_zero, Int.zero_mul] at e3
      exact mne hk z e3
    obtain ⟨r, hr⟩ := Vl.ex P ub
    have := (hvk.mul P hs).uniq P (by rw [e3]; exact (hvl.mul P (ha'.mul P hr)).mul P hd')
    omega
theorem up_eqp {a b d a' b' d' : Int} {i j i' j' : Nat} (ha : Vl p a i) (hd : Vl p d j) (ha' : Vl p a' i') (hd' : Vl p d' j') (e : (i : Int) - j = (i' : Int) - j') (h : Near p ((i : Int) - j) (b, d) (b', d')) : Eqp p (up a b d) (up a' b' d') := by
  have h := (near_iff P (x := (b, d)) (y := (b', d')) hd hd').mp h
  rw [show ((i : Int) - j + j + j').toNat = i + j' by omega] at h
  obtain ⟨c, hc⟩ := h
  have hc : b * d' - b' * d = p ^ (i + j') * c := hc
  obtain ⟨s, es, ns⟩ := hd'.mul P ha
  obtain ⟨t, et, nt⟩ := ha'.mul P hd
  refine eqp_of (u := ⟨s, c, 0, t⟩) (k := 1) (l := p ^ (i + j')) (by rw [det_up]; exact mne (ha'.ne P) (hd'.ne P)) (by decide) (P.pw _) ?_ ?_
  · have : (T4.mk s c 0 t).det = s * t := by unfold det; simp
    rw [this]
    exact nd_mul P ns nt
  · rw [sc_one]
    refine ext' ?_ ?_ ?_ ?_
    · show d' * a + -b' * 0 = p ^ (i + j') * s
      rw [es, Nat.add_comm]; omega
    · show d' * b + -b' * d = p ^ (i + j') * c
      rw [← hc]; grind
    · show -0 * a + a' * 0 = p ^ (i + j') * 0
      simp
    · show -0 * b + a' * d = p ^ (i + j') * t
      rw [et, show i' + j = i + j' by omega]; simp
/-! ## tables made upper -/
omit P in
/-- the first column's lower number has as few parts as the second one's -/
theorem low_first {x : T4} (h0 : x.det ≠ 0) (hc : x.c ≠ 0) {r s : Int} (hs : ¬ p ∣ s) (P' : Pr p) (e : x.d * s = x.c * r) : Eqp p x (up x.det (x.a * x.c) (x.c * x.c)) := by
  have s0 : s ≠ 0 := fun z => hs ⟨0, by rw [z]; omega⟩
  refine eqp_of (u := ⟨0, -s, s, r⟩) (k := s) (l := x.det * x.c) (by rw [det_up]; exact mne h0 (mne hc hc)) s0 (mne h0 hc) ?_ ?_
  · have : (T4.mk 0 (-s) s r).det = s * s := by unfold det; simp only; grind
    rw [this]
    exact nd_mul P' hs hs
  · have hd : x.det = x.a * x.d - x.b * x.c := rfl
    refine ext' ?_ ?_ ?_ ?_
    · show s * (x.c * x.c * x.a + -(x.a * x.c) * x.c) = x.det * x.c * 0
      grind
    · show s * (x.c * x.c * x.b + -(x.a * x.c) * x.d) = x.det * x.c * -s
      rw [hd]; grind
    · show s * (-0 * x.a + x.det * x.c) = x.det * x.c * s
      grind
    · show s * (-0 * x.b + x.det * x.d) = x.det * x.c * r
      have : s * (-0 * x.b + x.det * x.d) = x.det * (x.d * s) := by grind
      rw [this, e]; grind
omit P in
theorem low_second {x : T4} (h0 : x.det ≠ 0) (hd : x.d ≠ 0) {r s : Int} (hs : ¬ p ∣ s) (P' : Pr p) (e : x.c * s = x.d * r) : Eqp p x (up x.det (x.b * x.d) (x.d * x.d)) := by
  have s0 : s ≠ 0 := fun z => hs ⟨0, by rw [z]; omega⟩
  refine eqp_of (u := ⟨s, 0, r, s⟩) (k := s) (l := x.det * x.d) (by rw [det_up]; exact mne h0 (mne hd hd)) s0 (mne h0 hd) ?_ ?_
  · have : (T4.mk s 0 r s).det = s * s := by unfold det; simp
    rw [this]
    exact nd_mul P' hs hs
  · have hdt : x.det = x.a * x.d - x.b * x.c := rfl
    refine ext' ?_ ?_ ?_ ?_
    · show s * (x.d * x.d * x.a + -(x.b * x.d) * x.c) = x.det * x.d * s
      rw [hdt]; grind
    · show s * (x.d * x.d * x.b + -(x.b * x.d) * x.d) = x.det * x.d * 0
      grind
    · show s * (-0 * x.a + x.det * x.c) = x.det * x.d * r
      have : s * (-0 * x.a + x.det * x.c) = x.det * (x.c * s) := by grind
      rw [this, e]; grind
    · show s * (-0 * x.b + x.det * x.d) = x.det * x.d * s
      grind
/-! ## balls -/
/-- a ball's table -/
def gr (p n : Int) (q : Int × Int) : T4 := if 0 ≤ n then up (p ^ n.toNat * q.2) q.1 q.2 else up q.2 (q.1 * p ^ (-n).toNat) (q.2 * p ^ (-n).toNat)
theorem gr_up {n : Int} {q : Int × Int} {w : Nat} (hq : Vl p q.2 w) : ∃ a b d i j, gr p n q = up a b d ∧ Vl p a i ∧ Vl p d j ∧ (i : Int) - j = n ∧ ∀ m x, Near p m (b, d) x ↔ Near p m q x := by
  unfold gr
  by_cases c : 0 ≤ n
  · rw [if_pos c]
    exact ⟨_, _, _, _, _, rfl, (Vl.pw P n.toNat).mul P hq, hq, by omega, fun m x => Iff.rfl⟩
  · rw [if_neg c]
    refine ⟨_, _, _, _, _, rfl, hq, hq.mul P (Vl.pw P (-n).toNat), by omega, fun m x => ?_⟩
    have hT := Vl.pw P (-n).toNat
    generalize (-n).toNat = e at *
    have hTe : p ^ e ∣ p ^ e := Int.dvd_refl _
    have e1 : ∀ T : Int, q.1 * T * x.2 - x.1 * (q.2 * T) = (q.1 * x.2 - x.1 * q.2) * T := fun T => by grind
    constructor
    · intro h v w' hv hw'
      have h1 : p ^ (m + ((v + e : Nat) : Int) + w').toNat ∣ q.1 * p ^ e * x.2 - x.1 * (q.2 * p ^ e) := h (v + e) w' (hv.mul P hT) hw'
      rw [e1] at h1
      by_cases c0 : 0 ≤ m + v + w'
      · refine dvd_cancel P (j := e) hT ?_
        rw [show (m + v + w').toNat + e = (m + ((v + e : Nat) : Int) + w').toNat by omega]
        exact h1
      · rw [show (m + v + w').toNat = 0 by omega, Int.pow_zero]
        exact Int.one_dvd _
    · intro h v' w' hv' hw'
      have ev : v' = w + e := hv'.uniq P (hq.mul P hT)
      subst ev
      show p ^ (m + ((w + e : Nat) : Int) + w').toNat ∣ q.1 * p ^ e * x.2 - x.1 * (q.2 * p ^ e)
      rw [e1]
      by_cases c0 : 0 ≤ m + w + w'
      · rw [show (m + ((w + e : Nat) : Int) + w').toNat = (m + w + w').toNat + e by omega, Int.pow_add]
        exact Int.mul_dvd_mul (h w w' hq hw') hTe
      · exact Int.dvd_mul_of_dvd_right (Int.dvd_trans (pow_dvd p (by omega)) hTe)
theorem gr_det {n : Int} {q : Int × Int} (hq : q.2 ≠ 0) : (gr p n q).det ≠ 0 := by
  unfold gr
  split
  · rw [det_up]; exact mne (mne (P.pw _) hq) hq
  · rw [det_up]; exact mne hq (mne hq (P.pw _))
/-- the ball that a table tells -/
def BT (p : Int) (x : T4) (n : Int) (q : Int × Int) : Prop := Can p n q ∧ Eqp p x (gr p n q)
theorem can_vl {n : Int} {q : Int × Int} (h : Can p n q) : ∃ w, Vl p q.2 w := Vl.ex P (by have := h.nf.pos; omega)
theorem gr_uniq {n m : Int} {q r : Int × Int} (hq : Can p n q) (hr : Can p m r) (h : Eqp p (gr p n q) (gr p m r)) : n = m ∧ q = r := by
  obtain ⟨w, hw⟩ := can_vl P hq
  obtain ⟨v, hv⟩ := can_vl P hr
  obtain ⟨a, b, d, i, j, e1, ha, hd, en, nr⟩ := gr_up P (n := n) hw
  obtain ⟨a', b', d', i', j', e2, ha', hd', em, mr⟩ := gr_up P (n := m) hv
  rw [e1, e2] at h
  obtain ⟨k1, k2⟩ := up_uniq P ha hd ha' hd' h
  have e3 : n = m := by omega
  subst e3
  refine ⟨rfl, hq.uniq P hr ?_⟩
  rw [en] at k2
  exact ((mr n q).mp ((nr n (b', d')).mp k2).symm).symm
theorem BT.uniq {x : T4} {n m : Int} {q r : Int × Int} (h : BT p x n q) (g : BT p x m r) : n = m ∧ q = r :=
  gr_uniq P h.1 g.1 (h.2.symm.trans P g.2)
omit P in
theorem BT.eqp {x y : T4} {n : Int} {q : Int × Int} (P' : Pr p) (h : BT p x n q) (e : Eqp p y x) : BT p y n q := ⟨h.1, e.trans P' h.2⟩
/-- the ball of an upper table -/
theorem bt_up {a b d : Int} {i j : Nat} (ha : Vl p a i) (hd : Vl p d j) {n : Int} (en : (i : Int) - j = n) {q : Int × Int} (hc : Can p n q) (h : Near p n (b, d) q) : BT p (up a b d) n q := by
  refine ⟨hc, ?_⟩
  obtain ⟨w, hw⟩ := can_vl P hc
  obtain ⟨a', b', d', i', j', e2, ha', hd', em, mr⟩ := gr_up P (n := n) hw
  rw [e2]
  refine up_eqp P ha hd ha' hd' (by omega) ?_
  rw [en]
  exact ((mr n (b, d)).mpr h.symm).symm
theorem bt_gr {n : Int} {q : Int × Int} (hc : Can p n q) : BT p (gr p n q) n q := ⟨hc, Eqp.refl P _⟩
/-- what one table leads to -/
theorem bt_first {x : T4} (h0 : x.det ≠ 0) {i k : Nat} (hd : Vl p x.det k) (hc : Vl p x.c i) (hl : x.d = 0 ∨ ∃ l, Vl p x.d l ∧ i ≤ l) {n : Int} (en : (k : Int) - (i + i) = n) {q : Int × Int} (hcan : Can p n q) (h : Near p n (x.a, x.c) q) : BT p x n q := by
  have c0 := hc.ne P
  obtain ⟨cu, ecu, ncu⟩ := hc
  have e : ∃ r s, ¬ p ∣ s ∧ x.d * s = x.c * r := by
    rcases hl with z | ⟨l, ⟨du, edu, _⟩, il⟩
    · exact ⟨0, 1, nd_one P, by rw [z]; omega⟩
    · refine ⟨p ^ (l - i) * du, cu, ncu, ?_⟩
      rw [edu, ecu, show p ^ l = p ^ i * p ^ (l - i) by rw [← Int.pow_add, show i + (l - i) = l by omega]]
      grind
  obtain ⟨r, s, hs, e⟩ := e
  have hc : Vl p x.c i := ⟨cu, ecu, ncu⟩
  refine BT.eqp P (bt_up P (i := k) (j := i + i) hd (hc.mul P hc) (by omega) hcan ?_) (low_first h0 c0 hs P e)
  refine fun v w hv hw => ?_
  have ev : v = i + i := hv.uniq P (hc.mul P hc)
  subst ev
  have h1 := h i w hc hw
  show p ^ (n + ((i + i : Nat) : Int) + w).toNat ∣ x.a * x.c * q.2 - q.1 * (x.c * x.c)
  have e2 : x.a * x.c * q.2 - q.1 * (x.c * x.c) = (x.a * q.2 - q.1 * x.c) * x.c := by grind
  rw [e2]
  by_cases c1 : 0 ≤ n + i + w
  · rw [show (n + ((i + i : Nat) : Int) + w).toNat = (n + i + w).toNat + i by omega, Int.pow_add]
    exact Int.mul_dvd_mul h1 ((hc.dvd P).mpr (Nat.le_refl _))
  · exact Int.dvd_mul_of_dvd_right (Int.dvd_trans (pow_dvd p (by omega)) ((hc.dvd P).mpr (Nat.le_refl _)))
theorem bt_second {x : T4} (h0 : x.det ≠ 0) {i k : Nat} (hd : Vl p x.det k) (hc : Vl p x.d i) (hl : x.c = 0 ∨ ∃ l, Vl p x.c l ∧ i ≤ l) {n : Int} (en : (k : Int) - (i + i) = n) {q : Int × Int} (hcan : Can p n q) (h : Near p n (x.b, x.d) q) : BT p x n q := by
  have c0 := hc.ne P
  obtain ⟨cu, ecu, ncu⟩ := hc
  have e : ∃ r s, ¬ p ∣ s ∧ x.c * s = x.d * r := by
    rcases hl with z | ⟨l, ⟨du, edu, _⟩, il⟩
    · exact ⟨0, 1, nd_one P, by rw [z]; omega⟩
    · refine ⟨p ^ (l - i) * du, cu, ncu, ?_⟩
      rw [edu, ecu, show p ^ l = p ^ i * p ^ (l - i) by rw [← Int.pow_add, show i + (l - i) = l by omega]]
      grind
  obtain ⟨r, s, hs, e⟩ := e
  have hc : Vl p x.d i := ⟨cu, ecu, ncu⟩
  refine BT.eqp P (bt_up P (i := k) (j := i + i) hd (hc.mul P hc) (by omega) hcan ?_) (low_second h0 c0 hs P e)
  refine fun v w hv hw => ?_
  have ev : v = i + i := hv.uniq P (hc.mul P hc)
  subst ev
  have h1 := h i w hc hw
  show p ^ (n + ((i + i : Nat) : Int) + w).toNat ∣ x.b * x.d * q.2 - q.1 * (x.d * x.d)
  have e2 : x.b * x.d * q.2 - q.1 * (x.d * x.d) = (x.b * q.2 - q.1 * x.d) * x.d := by grind
  rw [e2]
  by_cases c1 : 0 ≤ n + i + w
  · rw [show (n + ((i + i : Nat) : Int) + w).toNat = (n + i + w).toNat + i by omega, Int.pow_add]
    exact Int.mul_dvd_mul h1 ((hc.dvd P).mpr (Nat.le_refl _))
  · exact Int.dvd_mul_of_dvd_right (Int.dvd_trans (pow_dvd p (by omega)) ((hc.dvd P).mpr (Nat.le_refl _)))
/-! a common factor -/
theorem near_scale {n k a c : Int} {y : Int × Int} (hk : k ≠ 0) (hc : c ≠ 0) : Near p n (a * k, c * k) y ↔ Near p n (a, c) y := by
  obtain ⟨e, T⟩ := Vl.ex P hk
  obtain ⟨w, hw⟩ := Vl.ex P hc
  have e1 : a * k * y.2 - y.1 * (c * k) = (a * y.2 - y.1 * c) * k := by grind
  have hTe : p ^ e ∣ k := (T.dvd P).mpr (Nat.le_refl _)
  constructor
  · intro h v w' hv hw'
    have hv : Vl p c v := hv
    have h1 : p ^ (n + ((v + e : Nat) : Int) + w').toNat ∣ a * k * y.2 - y.1 * (c * k) := h (v + e) w' (hv.mul P T) hw'
    rw [e1] at h1
    by_cases c0 : 0 ≤ n + v + w'
    · refine dvd_cancel P (j := e) T ?_
      rw [show (n + v + w').toNat + e = (n + ((v + e : Nat) : Int) + w').toNat by omega]
      exact h1
    · rw [show (n + v + w').toNat = 0 by omega, Int.pow_zero]
      exact Int.one_dvd _
  · intro h v' w' hv' hw'
    have ev : v' = w + e := hv'.uniq P (hw.mul P T)
    subst ev
    show p ^ (n + ((w + e : Nat) : Int) + w').toNat ∣ a * k * y.2 - y.1 * (c * k)
    rw [e1]
    by_cases c0 : 0 ≤ n + w + w'
    · rw [show (n + ((w + e : Nat) : Int) + w').toNat = (n + w + w').toNat + e by omega, Int.pow_add]
      exact Int.mul_dvd_mul (h w w' hw hw') hTe
    · exact Int.dvd_mul_of_dvd_right (Int.dvd_trans (pow_dvd p (by omega)) hTe)
theorem near_nf {n a c : Int} {y : Int × Int} (hc : c ≠ 0) : Near p n (nf a c) y ↔ Near p n (a, c) y := by
  obtain ⟨h1, k, hk, e1, e2⟩ := nf_spec a c hc
  have hp := h1.pos
  have := near_scale P (n := n) (k := k) (a := (nf a c).1) (c := (nf a c).2) (y := y) hk (by omega)
  rw [Int.mul_comm k] at e1 e2
  rw [← e1, ← e2] at this
  exact this.symm
omit P in
theorem gr_eq (n : Int) (q : Int × Int) : gr p n q = up (p ^ n.toNat * q.2) (q.1 * p ^ (-n).toNat) (q.2 * p ^ (-n).toNat) := by
  unfold gr
  split
  · rw [show (-n).toNat = 0 by omega, Int.pow_zero, Int.mul_one, Int.mul_one]
  · rw [show n.toNat = 0 by omega, Int.pow_zero, Int.one_mul]
/-- a ball led: which of two columns tells it -/
theorem led_x (m : T4) (n : Int) (q : Int × Int) : (mul m (gr p n q)).a = m.a * (p ^ n.toNat * q.2) ∧ (mul m (gr p n q)).b = (m.a * q.1 + m.b * q.2) * p ^ (-n).toNat ∧ (mul m (gr p n q)).c = m.c * (p ^ n.toNat * q.2) ∧ (mul m (gr p n q)).d = (m.c * q.1 + m.d * q.2) * p ^ (-n).toNat ∧ (mul m (gr p n q)).det = m.det * (p ^ n.toNat * q.2 * (q.2 * p ^ (-n).toNat)) := by
  rw [gr_eq]
  refine ⟨?_, ?_, ?_, ?_, by rw [det_mul, det_up]⟩
  · show m.a * (p ^ n.toNat * q.2) + m.b * 0 = _
    omega
  · show m.a * (q.1 * p ^ (-n).toNat) + m.b * (q.2 * p ^ (-n).toNat) = _
    grind
  · show m.c * (p ^ n.toNat * q.2) + m.d * 0 = _
    omega
  · show m.c * (q.1 * p ^ (-n).toNat) + m.d * (q.2 * p ^ (-n).toNat) = _
    grind
theorem led_first {m : T4} {n : Int} {q : Int × Int} (hm : m.det ≠ 0) {s v w : Nat} (hs : Vl p m.det s) (hc : Vl p m.c v) (hw : Vl p q.2 w)
    (hl : m.c * q.1 + m.d * q.2 = 0 ∨ ∃ l : Nat, Vl p (m.c * q.1 + m.d * q.2) l ∧ (v : Int) + n ≤ (l : Int) - w) {n' : Int} (en : (s : Int) - 2 * v - n = n') {r : Int × Int} (hcan : Can p n' r) (h : Near p n' (m.a, m.c) r) : BT p (mul m (gr p n q)) n' r := by
  have hN := Vl.pw P n.toNat
  have hE := Vl.pw P (-n).toNat
  have hEN : ((n.toNat : Nat) : Int) - ((-n).toNat : Nat) = n := by omega
  obtain ⟨xa, xb, xc, xd, xdet⟩ := led_x P m n q
  generalize n.toNat = N at *
  generalize (-n).toNat = E at *
  have hk : p ^ N * q.2 ≠ 0 := mne (P.pw _) (hw.ne P)
  have hd := hs.mul P ((hN.mul P hw).mul P (hw.mul P hE))
  rw [← xdet] at hd
  have hcc := hc.mul P (hN.mul P hw)
  rw [← xc] at hcc
  refine bt_first P (hd.ne P) hd hcc ?_ (by omega) hcan ?_
  · rw [xd]
    rcases hl with z | ⟨l, hl, il⟩
    · left; rw [z, Int.zero_mul]
    · exact .inr ⟨l + E, hl.mul P hE, by omega⟩
  · rw [xa, xc]
    exact (near_scale P hk (hc.ne P)).mpr h
theorem led_second {m : T4} {n : Int} {q : Int × Int} (hm : m.det ≠ 0) {s l w : Nat} (hs : Vl p m.det s) (hw : Vl p q.2 w) (hl : Vl p (m.c * q.1 + m.d * q.2) l)
    (hc : m.c = 0 ∨ ∃ v : Nat, Vl p m.c v ∧ (l : Int) - w ≤ (v : Int) + n) {n' : Int} (en : (s : Int) + n - 2 * ((l : Int) - w) = n') {r : Int × Int} (hcan : Can p n' r) (h : Near p n' (m.a * q.1 + m.b * q.2, m.c * q.1 + m.d * q.2) r) : BT p (mul m (gr p n q)) n' r := by
  have hN := Vl.pw P n.toNat
  have hE := Vl.pw P (-n).toNat
  have hEN : ((n.toNat : Nat) : Int) - ((-n).toNat : Nat) = n := by omega
  obtain ⟨xa, xb, xc, xd, xdet⟩ := led_x P m n q
  generalize n.toNat = N at *
  generalize (-n).toNat = E at *
  have hd := hs.mul P ((hN.mul P hw).mul P (hw.mul P hE))
  rw [← xdet] at hd
  have hdd := hl.mul P hE
  rw [← xd] at hdd
  refine bt_second P (hd.ne P) hd hdd ?_ (by omega) hcan ?_
  · rw [xc]
    rcases hc with z | ⟨v, hv, il⟩
    · left; rw [z, Int.zero_mul]
    · exact .inr ⟨v + (N + w), hv.mul P (hN.mul P hw), by omega⟩
  · rw [xb, xd]
    exact (near_scale P (P.pw _) (hl.ne P)).mpr h
end
end T4
end Mi
set_option Elab.async false
set_option linter.all false
set_option maxRecDepth 100000
set_option maxHeartbeats 400000
namespace Mi
namespace T4
section
variable {p : Int} (P : Pr p)
include P
/-! # what a table's ball tells of its columns -/
theorem bt_up_tells {x : T4} {n : Int} {r : Int × Int} (h : BT p x n r) {a b d : Int} {i j : Nat} (ha : Vl p a i) (hd : Vl p d j) (e : Eqp p x (up a b d)) : (i : Int) - j = n ∧ Near p n (b, d) r := by
  obtain ⟨w, hw⟩ := can_vl P h.1
  obtain ⟨a', b', d', i', j', e2, ha', hd', em, mr⟩ := gr_up P (n := n) hw
  have e3 := e.symm.trans P h.2
  rw [e2] at e3
  obtain ⟨k1, k2⟩ := up_uniq P ha hd ha' hd' e3
  have en : (i : Int) - j = n := by omega
  refine ⟨en, ?_⟩
  rw [en] at k2
  exact ((mr n (b, d)).mp k2.symm).symm
omit P in
theorem lift_eq {c d : Int} {p : Int} (P : Pr p) {i : Nat} (hc : Vl p c i) (hl : d = 0 ∨ ∃ l, Vl p d l ∧ i ≤ l) : ∃ r s, ¬ p ∣ s ∧ d * s = c * r := by
  obtain ⟨cu, ecu, ncu⟩ := hc
  rcases hl with z | ⟨l, ⟨du, edu, _⟩, il⟩
  · exact ⟨0, 1, nd_one P, by rw [z]; omega⟩
  · refine ⟨p ^ (l - i) * du, cu, ncu, ?_⟩
    rw [edu, ecu, show p ^ l = p ^ i * p ^ (l - i) by rw [← Int.pow_add, show i + (l - i) = l by omega]]
    grind
theorem tells_first {x : T4} (h0 : x.det ≠ 0) {n : Int} {r : Int × Int} (h : BT p x n r) {i k : Nat} (hd : Vl p x.det k) (hc : Vl p x.c i) (hl : x.d = 0 ∨ ∃ l, Vl p x.d l ∧ i ≤ l) : (k : Int) - (i + i) = n ∧ Near p n (x.a, x.c) r := by
  obtain ⟨u, s, hs, e⟩ := lift_eq P hc hl
  obtain ⟨e1, e2⟩ := bt_up_tells P h hd (hc.mul P hc) (low_first h0 (hc.ne P) hs P e)
  exact ⟨by omega, (near_scale P (hc.ne P) (hc.ne P)).mp e2⟩
theorem tells_second {x : T4} (h0 : x.det ≠ 0) {n : Int} {r : Int × Int} (h : BT p x n r) {i k : Nat} (hd : Vl p x.det k) (hc : Vl p x.d i) (hl : x.c = 0 ∨ ∃ l, Vl p x.c l ∧ i ≤ l) : (k : Int) - (i + i) = n ∧ Near p n (x.b, x.d) r := by
  obtain ⟨u, s, hs, e⟩ := lift_eq P hc hl
  obtain ⟨e1, e2⟩ := bt_up_tells P h hd (hc.mul P hc) (low_second h0 (hc.ne P) hs P e)
  exact ⟨by omega, (near_scale P (hc.ne P) (hc.ne P)).mp e2⟩
/-! ## led there and back -/
omit P in
theorem mul_cancel (m g : T4) (x : T4) (h : x = mul m g) : mul (adj m) x = sc m.det g := by
  rw [h, ← mul_assoc, adj_mul_self, sc_mul_l, one_mul]
theorem bt_back {m : T4} (hm : m.det ≠ 0) {n n' : Int} {q r : Int × Int} (hq : Can p n q) (h : BT p (mul m (gr p n q)) n' r) {m' : T4} (s : Sim m' (adj m)) : BT p (mul m' (gr p n' r)) n q := by
  refine ⟨hq, ?_⟩
  have e1 : Eqp p (mul m' (gr p n' r)) (mul (adj m) (gr p n' r)) := Eqp.sim P (Sim.mul s (Sim.refl _))
  have e2 : Eqp p (mul (adj m) (gr p n' r)) (mul (adj m) (mul m (gr p n q))) := Eqp.left _ h.2.symm
  rw [mul_cancel m (gr p n q) _ rfl] at e2
  exact (e1.trans P e2).trans P (Eqp.sim P (Sim.sc hm))
theorem bt_one {n : Int} {q : Int × Int} (hq : Can p n q) : BT p (mul one (gr p n q)) n q := by
  rw [one_mul]
  exact bt_gr P hq
theorem bt_sim {m m' g : T4} (s : Sim m m') {n : Int} {q : Int × Int} (h : BT p (mul m g) n q) : BT p (mul m' g) n q := h.eqp P (Eqp.sim P (Sim.mul s.symm (Sim.refl g)))
/-! ## three ways that part at a ball -/
/-- one of the vectors that a table's columns make, seen from the ball's table -/
structure Vec (p k l a b d : Int) (X Z s t : Int) : Prop where
  x : k * X = l * (a * s + b * t)
  z : k * Z = l * (d * t)
theorem vec_near {k l a b d X Z s t : Int} (hk : k ≠ 0) (hl : l ≠ 0) {i j : Nat} (ha : Vl p a i) (hd : Vl p d j) (h : Vec p k l a b d X Z s t) (ht : ¬ p ∣ t) : Z ≠ 0 ∧ Near p ((i : Int) - j) (X, Z) (b, d) := by
  have t0 : t ≠ 0 := fun z => ht ⟨0, by rw [z]; omega⟩
  have hZ : Z ≠ 0 := fun z => by
    have := h.z
    rw [z, Int.mul_zero] at this
    exact mne hl (mne (hd.ne P) t0) this.symm
  refine ⟨hZ, ?_⟩
  obtain ⟨vk, hvk⟩ := Vl.ex P hk
  obtain ⟨vl, hvl⟩ := Vl.ex P hl
  obtain ⟨vz, hvz⟩ := Vl.ex P hZ
  have e1 : vk + vz = vl + (j + 0) := (hvk.mul P hvz).uniq P (by rw [h.z]; exact hvl.mul P (hd.mul P (Vl.zero_iff P ht)))
  refine (near_iff P (x := (X, Z)) (y := (b, d)) hvz hd).mpr ?_
  show p ^ ((i : Int) - j + vz + j).toNat ∣ X * d - b * Z
  rw [show ((i : Int) - j + vz + j).toNat = i + vz by omega]
  have e2 : k * (X * d - b * Z) = l * (a * s) * d := by
    have : k * (X * d - b * Z) = (k * X) * d - b * (k * Z) := by grind
    rw [this, h.x, h.z]; grind
  by_cases z : X * d - b * Z = 0
  · rw [z]; exact Int.dvd_zero _
  · obtain ⟨g, hg⟩ := Vl.ex P z
    refine (hg.dvd P).mpr ?_
    have s0 : s ≠ 0 := fun q => by
      rw [q, Int.mul_zero, Int.mul_zero, Int.zero_mul] at e2
      exact mne hk z e2
    obtain ⟨vs, hvs⟩ := Vl.ex P s0
    have := (hvk.mul P hg).uniq P (by rw [e2]; exact (hvl.mul P (ha.mul P hvs)).mul P hd)
    omega
theorem vec_gap {k l a b d X Z s t X' Z' s' t' : Int} (hk : k ≠ 0) (hl : l ≠ 0) {i j : Nat} (ha : Vl p a i) (hd : Vl p d j) (h : Vec p k l a b d X Z s t) (h' : Vec p k l a b d X' Z' s' t') {u u' : Nat} (ht : Vl p t u) (ht' : Vl p t' u') (hu : ¬ p ∣ s * t' - s' * t) :
    ∃ g z z' : Nat, Vl p (X * Z' - X' * Z) g ∧ Vl p Z z ∧ Vl p Z' z' ∧ (g : Int) - (z + z') = (i : Int) - j - u - u' := by
  obtain ⟨vk, hvk⟩ := Vl.ex P hk
  obtain ⟨vl, hvl⟩ := Vl.ex P hl
  have nz : ∀ {Z t : Int} {u : Nat}, Vl p t u → k * Z = l * (d * t) → Z ≠ 0 := fun ht e z => by
    rw [z, Int.mul_zero] at e
    exact mne hl (mne (hd.ne P) (ht.ne P)) e.symm
  obtain ⟨vz, hvz⟩ := Vl.ex P (nz ht h.z)
  obtain ⟨vz', hvz'⟩ := Vl.ex P (nz ht' h'.z)
  have e1 : vk + vz = vl + (j + u) := (hvk.mul P hvz).uniq P (by rw [h.z]; exact hvl.mul P (hd.mul P ht))
  have e1' : vk + vz' = vl + (j + u') := (hvk.mul P hvz').uniq P (by rw [h'.z]; exact hvl.mul P (hd.mul P ht'))
  have e2 : k * k * (X * Z' - X' * Z) = l * l * (a * d * (s * t' - s' * t)) := by
    have : k * k * (X * Z' - X' * Z) = (k * X) * (k * Z') - (k * X') * (k * Z) := by grind
    rw [this, h.x, h.z, h'.x, h'.z]; grind
  have r0 : X * Z' - X' * Z ≠ 0 := fun z => by
    rw [z, Int.mul_zero] at e2
    exact mne (mne hl hl) (mne (mne (ha.ne P) (hd.ne P)) (fun q => hu ⟨0, by rw [q]; omega⟩)) e2.symm
  obtain ⟨g, hg⟩ := Vl.ex P r0
  have e3 : vk + vk + g = vl + vl + (i + j + 0) := ((hvk.mul P hvk).mul P hg).uniq P (by rw [e2]; exact (hvl.mul P hvl).mul P ((ha.mul P hd).mul P (Vl.zero_iff P hu)))
  exact ⟨g, vz, vz', hg, hvz, hvz', by omega⟩
/-- three vectors, their parts -/
structure Mid (p n : Int) (r : Int × Int) (x1 z1 x2 z2 x3 z3 : Int) (f1 f2 f3 : Option Nat) : Prop where
  far : (f1 = none → z1 = 0) ∧ (f2 = none → z2 = 0) ∧ (f3 = none → z3 = 0)
  not : (∀ u, f1 = some u → z1 ≠ 0) ∧ (∀ u, f2 = some u → z2 ≠ 0) ∧ (∀ u, f3 = some u → z3 ≠ 0)
  near : (f1 = some 0 → Near p n (x1, z1) r) ∧ (f2 = some 0 → Near p n (x2, z2) r) ∧ (f3 = some 0 → Near p n (x3, z3) r)
  g13 : ∀ u v, f1 = some u → f3 = some v → ∃ g z z' : Nat, Vl p (x1 * z3 - x3 * z1) g ∧ Vl p z1 z ∧ Vl p z3 z' ∧ (g : Int) - (z + z') = n - u - v
  g21 : ∀ u v, f2 = some u → f1 = some v → ∃ g z z' : Nat, Vl p (x2 * z1 - x1 * z2) g ∧ Vl p z2 z ∧ Vl p z1 z' ∧ (g : Int) - (z + z') = n - u - v
  g32 : ∀ u v, f3 = some u → f2 = some v → ∃ g z z' : Nat, Vl p (x3 * z2 - x2 * z3) g ∧ Vl p z3 z ∧ Vl p z2 z' ∧ (g : Int) - (z + z') = n - u - v
  two : (f1 = some 0 ∧ f2 = some 0) ∨ (f1 = some 0 ∧ f3 = some 0) ∨ (f2 = some 0 ∧ f3 = some 0)
theorem mid_of {x : T4} {n : Int} {r : Int × Int} (h : BT p x n r) : ∃ f1 f2 f3, Mid p n r x.b x.d (x.a + x.b) (x.c + x.d) x.a x.c f1 f2 f3 := by
  obtain ⟨w, hw⟩ := can_vl P h.1
  obtain ⟨a, b, d, i, j, e2, ha, hd, en, mr⟩ := gr_up P (n := n) hw
  obtain ⟨u, hu, k, l, hk, hl, e⟩ := h.2
  rw [e2] at e
  have ea : k * x.a = l * (a * u.a + b * u.c) := congrArg T4.a e
  have eb : k * x.b = l * (a * u.b + b * u.d) := congrArg T4.b e
  have ec : k * x.c = l * (0 * u.a + d * u.c) := congrArg T4.c e
  have ed : k * x.d = l * (0 * u.b + d * u.d) := congrArg T4.d e
  have v3 : Vec p k l a b d x.a x.c u.a u.c := ⟨ea, by rw [ec]; grind⟩
  have v1 : Vec p k l a b d x.b x.d u.b u.d := ⟨eb, by rw [ed]; grind⟩
  have v2 : Vec p k l a b d (x.a + x.b) (x.c + x.d) (u.a + u.b) (u.c + u.d) := ⟨by rw [Int.mul_add, ea, eb]; grind, by rw [Int.mul_add, ec, ed]; grind⟩
  have hdt : u.det = u.a * u.d - u.b * u.c := rfl
  have d13 : ¬ p ∣ u.b * u.c - u.a * u.d := fun z => hu (by rw [hdt]; have := Int.dvd_neg.mpr z; rwa [Int.neg_sub] at this)
  have q21 : (u.a + u.b) * u.d - u.b * (u.c + u.d) = u.a * u.d - u.b * u.c := by grind
  have q32 : u.a * (u.c + u.d) - (u.a + u.b) * u.c = u.a * u.d - u.b * u.c := by grind
  have d21 : ¬ p ∣ (u.a + u.b) * u.d - u.b * (u.c + u.d) := by rw [q21, ← hdt]; exact hu
  have d32 : ¬ p ∣ u.a * (u.c + u.d) - (u.a + u.b) * u.c := by rw [q32, ← hdt]; exact hu
  have fl : ∀ t : Int, ∃ f : Option Nat, (f = none → t = 0) ∧ ∀ v, f = some v → Vl p t v := fun t => by
    by_cases z : t = 0
    · exact ⟨none, (fun _ => z), fun _ h => by cases h⟩
    · obtain ⟨v, hv⟩ := Vl.ex P z
      exact ⟨some v, (fun h => by cases h), fun v' h => by cases h; exact hv⟩
  obtain ⟨f1, n1, s1⟩ := fl u.d
  obtain ⟨f2, n2, s2⟩ := fl (u.c + u.d)
  obtain ⟨f3, n3, s3⟩ := fl u.c
  have far : ∀ {X Z s t : Int}, Vec p k l a b d X Z s t → t = 0 → Z = 0 := fun v z => by
    have := v.z
    rw [z, Int.mul_zero, Int.mul_zero] at this
    exact (Int.mul_eq_zero.mp this).resolve_left hk
  have nfar : ∀ {X Z s t : Int} {q : Nat}, Vec p k l a b d X Z s t → Vl p t q → Z ≠ 0 := fun v ht z => by
    have := v.z
    rw [z, Int.mul_zero] at this
    exact mne hl (mne (hd.ne P) (ht.ne P)) this.symm
  have un : ∀ {t : Int}, Vl p t 0 → ¬ p ∣ t := fun ht z => by
    have := (ht.dvd P (k := 1)).mp (by rw [Int.pow_one]; exact z)
    omega
  have near : ∀ {X Z s t : Int}, Vec p k l a b d X Z s t → Vl p t 0 → Near p n (X, Z) r := fun v ht => by
    have := (vec_near P hk hl ha hd v (un ht)).2
    rw [en] at this
    exact ((mr n _).mp this.symm).symm
  have z0 : ∀ {f : Option Nat} {t : Int}, (f = none → t = 0) → (∀ v, f = some v → Vl p t v) → f = some 0 ∨ p ∣ t := fun {f t} h g => by
    cases f with
    | none => exact .inr ⟨0, by rw [h rfl]; omega⟩
    | some v =>
      cases v with
      | zero => exact .inl rfl
      | succ v => exact .inr (by have := ((g _ rfl).dvd P (k := 1)).mpr (by omega); rwa [Int.pow_one] at this)
  refine ⟨f1, f2, f3, ⟨⟨fun z => far v1 (n1 z), fun z => far v2 (n2 z), fun z => far v3 (n3 z)⟩, ⟨fun v z => nfar v1 (s1 v z), fun v z => nfar v2 (s2 v z), fun v z => nfar v3 (s3 v z)⟩, ⟨fun z => near v1 (s1 0 z), fun z => near v2 (s2 0 z), fun z => near v3 (s3 0 z)⟩, ?_, ?_, ?_, ?_⟩⟩
  · intro q q' h1 h2
    rw [← en]
    exact vec_gap P hk hl ha hd v1 v3 (s1 q h1) (s3 q' h2) d13
  · intro q q' h1 h2
    rw [← en]
    exact vec_gap P hk hl ha hd v2 v1 (s2 q h1) (s1 q' h2) d21
  · intro q q' h1 h2
    rw [← en]
    exact vec_gap P hk hl ha hd v3 v2 (s3 q h1) (s2 q' h2) d32
  · rcases z0 n1 s1 with a1 | a1
    · rcases z0 n2 s2 with a2 | a2
      · exact .inl ⟨a1, a2⟩
      · rcases z0 n3 s3 with a3 | a3
        · exact .inr (.inl ⟨a1, a3⟩)
        · exfalso
          have : p ∣ u.d := by have := Int.dvd_sub a2 a3; rwa [show u.c + u.d - u.c = u.d by omega] at this
          exact un (s1 0 a1) this
    · rcases z0 n2 s2 with a2 | a2
      · rcases z0 n3 s3 with a3 | a3
        · exact .inr (.inr ⟨a2, a3⟩)
        · exfalso
          exact un (s2 0 a2) (Int.dvd_add a3 a1)
      · exfalso
        refine hu ?_
        rw [hdt]
        have c1 : p ∣ u.c := by have := Int.dvd_sub a2 a1; rwa [show u.c + u.d - u.d = u.c by omega] at this
        exact Int.dvd_sub (Int.dvd_mul_of_dvd_right a1) (Int.dvd_mul_of_dvd_right c1)
end
end T4
end Mi
set_option Elab.async false
set_option linter.all false
set_option maxRecDepth 100000
set_option maxHeartbeats 400000
namespace Mi
namespace T4
section
variable {p : Int} (P : Pr p)
include P
/-! ## so many steps towards a point, by tables -/
def cols (w1 w2 u1 u2 K : Int) : T4 := ⟨w1, K * u1, w2, K * u2⟩
omit P in
def Lt (p : Int) (x : T4) (X Z : Int) (k : Nat) (n : Int) (q : Int × Int) : Prop :=
  ∃ w1 w2 u1 u2 : Int, ¬ p ∣ w1 * u2 - u1 * w2 ∧ (x.a * w1 + x.b * w2) * Z = (x.c * w1 + x.d * w2) * X ∧ BT p (mul x (cols w1 w2 u1 u2 (p ^ k))) n q
theorem nd_cross {w1 w2 u1 u2 v1 v2 t1 t2 : Int} (hw : ¬ p ∣ w1 * u2 - u1 * w2) (hv : ¬ p ∣ v1 * t2 - t1 * v2) (e : w1 * v2 = w2 * v1) : ¬ p ∣ w1 * t2 - w2 * t1 := by
  intro h
  have h1 : p ∣ w1 * (v1 * t2 - t1 * v2) := by
    have : w1 * (v1 * t2 - t1 * v2) = v1 * (w1 * t2 - w2 * t1) := by grind
    rw [this]
    exact Int.dvd_mul_of_dvd_right h
  have h2 : p ∣ w2 * (v1 * t2 - t1 * v2) := by
    have : w2 * (v1 * t2 - t1 * v2) = v2 * (w1 * t2 - w2 * t1) := by grind
    rw [this]
    exact Int.dvd_mul_of_dvd_right h
  have d1 := (P.pr _ _ h1).resolve_right hv
  have d2 := (P.pr _ _ h2).resolve_right hv
  exact hw (Int.dvd_sub (Int.dvd_mul_of_dvd_left d1) (Int.dvd_mul_of_dvd_right d2))
theorem Lt.uniq {x : T4} (h0 : x.det ≠ 0) {X Z : Int} (hp : ¬ (X = 0 ∧ Z = 0)) {k : Nat} {n m : Int} {q r : Int × Int} (h : Lt p x X Z k n q) (g : Lt p x X Z k m r) : n = m ∧ q = r := by
  obtain ⟨w1, w2, u1, u2, hw, dw, bw⟩ := h
  obtain ⟨v1, v2, t1, t2, hv, dv, bv⟩ := g
  have e0 : (x.a * w1 + x.b * w2) * (x.c * v1 + x.d * v2) = (x.c * w1 + x.d * w2) * (x.a * v1 + x.b * v2) := by
    by_cases z : Z = 0
    · have hx : X ≠ 0 := fun c => hp ⟨c, z⟩
      rw [z, Int.mul_zero] at dw dv
      have a := (Int.mul_eq_zero.mp dw.symm).resolve_right hx
      have b := (Int.mul_eq_zero.mp dv.symm).resolve_right hx
      rw [a, b, Int.mul_zero, Int.zero_mul]
    · refine Int.eq_of_mul_eq_mul_right (mne z z) ?_
      grind
  have e1 : w1 * v2 = w2 * v1 := by
    have : x.det * (w1 * v2) = x.det * (w2 * v1) := by unfold det; grind
    exact Int.eq_of_mul_eq_mul_left h0 this
  have n1 := nd_cross P hw hv e1
  have n2 := nd_cross P hv hw (w1 := v1) (w2 := v2) (u1 := t1) (u2 := t2) (v1 := w1) (v2 := w2) (t1 := u1) (t2 := u2) (by rw [Int.mul_comm v1, Int.mul_comm v2]; exact e1.symm)
  have pk := P.pw k
  have hy : (cols v1 v2 t1 t2 (p ^ k)).det ≠ 0 := by
    unfold cols det
    have : v1 * (p ^ k * t2) - p ^ k * t1 * v2 = p ^ k * (v1 * t2 - t1 * v2) := by grind
    simp only
    rw [this]
    exact mne pk (fun z => hv (by rw [z]; exact Int.dvd_zero _))
  have eq : Eqp p (cols w1 w2 u1 u2 (p ^ k)) (cols v1 v2 t1 t2 (p ^ k)) := by
    refine eqp_of (u := ⟨w1 * t2 - w2 * t1, p ^ k * (u1 * t2 - u2 * t1), 0, v1 * u2 - v2 * u1⟩) (k := 1) (l := p ^ k) hy (by decide) pk ?_ ?_
    · unfold det
      simp only [Int.mul_zero, Int.sub_zero]
      exact nd_mul P n1 n2
    · unfold cols sc mul adj
      generalize p ^ k = K
      ext <;> simp only <;> grind
  exact (bw.uniq P (bv.eqp P (Eqp.left x eq)))
omit P in
theorem led_comb {l c ga gb ua ub uc ud ma mb xa xb xc xd w1 w2 : Int} (e1 : c * (ma * xa + mb * xc) = l * (ga * ua + gb * uc)) (e2 : c * (ma * xb + mb * xd) = l * (ga * ub + gb * ud)) :
    l * (ga * (ua * w1 + ub * w2) + gb * (uc * w1 + ud * w2)) = c * (ma * (xa * w1 + xb * w2) + mb * (xc * w1 + xd * w2)) := by
  have h1 : l * (ga * (ua * w1 + ub * w2) + gb * (uc * w1 + ud * w2)) = (l * (ga * ua + gb * uc)) * w1 + (l * (ga * ub + gb * ud)) * w2 := by clear e1 e2; grind
  have h2 : c * (ma * (xa * w1 + xb * w2) + mb * (xc * w1 + xd * w2)) = (c * (ma * xa + mb * xc)) * w1 + (c * (ma * xb + mb * xd)) * w2 := by clear h1 e1 e2; grind
  rw [h1, h2, e1, e2]
omit P in
theorem led_cross {ma mb mc md A C X Z : Int} (d : A * Z = C * X) : (ma * A + mb * C) * (mc * X + md * Z) = (mc * A + md * C) * (ma * X + mb * Z) := by
  have h1 : (ma * A + mb * C) * (mc * X + md * Z) = ma * md * (A * Z) + mb * mc * (C * X) + (ma * mc * (A * X) + mb * md * (C * Z)) := by clear d; grind
  have h2 : (mc * A + md * C) * (ma * X + mb * Z) = ma * md * (C * X) + mb * mc * (A * Z) + (ma * mc * (A * X) + mb * md * (C * Z)) := by clear d h1; grind
  rw [h1, h2, d]
omit P in
theorem led_dir {l c ga gb gc gd ua ub uc ud ma mb mc md xa xb xc xd w1 w2 X Z : Int} (l0 : l ≠ 0) (e1 : c * (ma * xa + mb * xc) = l * (ga * ua + gb * uc)) (e2 : c * (ma * xb + mb * xd) = l * (ga * ub + gb * ud))
    (e3 : c * (mc * xa + md * xc) = l * (gc * ua + gd * uc)) (e4 : c * (mc * xb + md * xd) = l * (gc * ub + gd * ud)) (dw : (xa * w1 + xb * w2) * Z = (xc * w1 + xd * w2) * X) :
    (ga * (ua * w1 + ub * w2) + gb * (uc * w1 + ud * w2)) * (mc * X + md * Z) = (gc * (ua * w1 + ub * w2) + gd * (uc * w1 + ud * w2)) * (ma * X + mb * Z) := by
  refine Int.eq_of_mul_eq_mul_left l0 ?_
  rw [← Int.mul_assoc, ← Int.mul_assoc, led_comb e1 e2, led_comb e3 e4, Int.mul_assoc, Int.mul_assoc, led_cross dw]
theorem Lt.led {x m g : T4} (m0 : m.det ≠ 0) {X Z : Int} {k : Nat} {n n' : Int} {q q' : Int × Int} (h : Lt p x X Z k n q) (e : Eqp p (mul m x) g) (b : BT p (mul m (gr p n q)) n' q') : Lt p g (m.a * X + m.b * Z) (m.c * X + m.d * Z) k n' q' := by
  obtain ⟨w1, w2, u1, u2, hw, dw, bw⟩ := h
  obtain ⟨u, hu, s⟩ := e
  have eu : mul u (cols w1 w2 u1 u2 (p ^ k)) = cols (u.a * w1 + u.b * w2) (u.c * w1 + u.d * w2) (u.a * u1 + u.b * u2) (u.c * u1 + u.d * u2) (p ^ k) := by
    unfold cols mul
    generalize p ^ k = K
    ext <;> simp only <;> grind
  refine ⟨u.a * w1 + u.b * w2, u.c * w1 + u.d * w2, u.a * u1 + u.b * u2, u.c * u1 + u.d * u2, ?_, ?_, ?_⟩
  · have := nd_mul P hu hw
    have e : (u.a * w1 + u.b * w2) * (u.c * u1 + u.d * u2) - (u.a * u1 + u.b * u2) * (u.c * w1 + u.d * w2) = u.det * (w1 * u2 - u1 * w2) := by unfold det; grind
    rwa [e]
  · obtain ⟨c, l, c0, l0, e⟩ := s
    have e1 : c * (m.a * x.a + m.b * x.c) = l * (g.a * u.a + g.b * u.c) := congrArg T4.a e
    have e2 : c * (m.a * x.b + m.b * x.d) = l * (g.a * u.b + g.b * u.d) := congrArg T4.b e
    have e3 : c * (m.c * x.a + m.d * x.c) = l * (g.c * u.a + g.d * u.c) := congrArg T4.c e
    have e4 : c * (m.c * x.b + m.d * x.d) = l * (g.c * u.b + g.d * u.d) := congrArg T4.d e
    exact led_dir l0 e1 e2 e3 e4 dw
  · rw [← eu]
    refine b.eqp P ?_
    rw [← mul_assoc]
    have s1 : Eqp p (mul (mul g u) (cols w1 w2 u1 u2 (p ^ k))) (mul (mul m x) (cols w1 w2 u1 u2 (p ^ k))) := Eqp.sim P (s.symm.mul (Sim.refl _))
    rw [mul_assoc m] at s1
    exact s1.trans P (Eqp.left m bw.2)
theorem Lt.par {x : T4} {X Z X' Z' : Int} (e : X * Z' = X' * Z) (hp : ¬ (X = 0 ∧ Z = 0)) {k : Nat} {n : Int} {q : Int × Int} (h : Lt p x X Z k n q) : Lt p x X' Z' k n q := by
  obtain ⟨w1, w2, u1, u2, hw, dw, bw⟩ := h
  refine ⟨w1, w2, u1, u2, hw, ?_, bw⟩
  generalize x.a * w1 + x.b * w2 = a at *
  generalize x.c * w1 + x.d * w2 = c at *
  by_cases z : Z = 0
  · have hx : X ≠ 0 := fun y => hp ⟨y, z⟩
    rw [z, Int.mul_zero] at dw e
    have c0 := (Int.mul_eq_zero.mp dw.symm).resolve_right hx
    have z0 := (Int.mul_eq_zero.mp e).resolve_left hx
    rw [c0, z0, Int.mul_zero, Int.zero_mul]
  · refine Int.eq_of_mul_eq_mul_left z ?_
    grind
theorem near_par {n a c X Z : Int} {y : Int × Int} (hc : c ≠ 0) (hz : Z ≠ 0) (e : a * Z = c * X) : Near p n (a, c) y ↔ Near p n (X, Z) y := by
  have h1 := near_scale P (n := n) (y := y) hz hc (a := a)
  have h2 := near_scale P (n := n) (y := y) hc hz (a := X)
  rw [e, Int.mul_comm c X, Int.mul_comm c Z] at h1
  exact h1.symm.trans h2
/-- towards far -/
theorem lt_far {n0 : Int} {q0 : Int × Int} (hc : Can p n0 q0) {k : Nat} {q : Int × Int} (hq : Can p (n0 - k) q) (h : Near p (n0 - k) q0 q) : Lt p (gr p n0 q0) 1 0 k (n0 - k) q := by
  obtain ⟨w, hw⟩ := can_vl P hc
  obtain ⟨a, b, d, i, j, e, ha, hd, en, hn⟩ := gr_up P (n := n0) hw
  refine ⟨1, 0, 0, 1, ?_, ?_, ?_⟩
  · rw [Int.mul_one, Int.zero_mul, Int.sub_zero]; exact nd_one P
  · rw [e]; unfold up; simp
  · have e2 : mul (gr p n0 q0) (cols 1 0 0 1 (p ^ k)) = up a (b * p ^ k) (d * p ^ k) := by
      rw [e]
      unfold cols mul up
      generalize p ^ k = K
      ext <;> simp only <;> grind
    rw [e2]
    refine bt_up P ha (hd.mul P (Vl.pw P k)) (by omega) hq ?_
    exact (near_scale P (P.pw k) (hd.ne P)).mpr ((hn _ _).mpr h)
/-- towards a fraction that is in the ball -/
theorem lt_in {n0 : Int} {q0 : Int × Int} (hc : Can p n0 q0) {X Z : Int} (hz : Z ≠ 0) (hx : Near p n0 q0 (X, Z)) {k : Nat} {q : Int × Int} (hq : Can p (n0 + k) q) (h : Near p (n0 + k) (X, Z) q) : Lt p (gr p n0 q0) X Z k (n0 + k) q := by
  obtain ⟨w, hw⟩ := can_vl P hc
  obtain ⟨a, b, d, i, j, e, ha, hd, en, hn⟩ := gr_up P (n := n0) hw
  obtain ⟨z, hvz⟩ := Vl.ex P hz
  have hb := (hn _ _).mpr hx
  have dv : p ^ (i + z) ∣ b * Z - X * d := by
    have := hb j z hd hvz
    rwa [show (n0 + (j : Int) + (z : Int)).toNat = i + z by omega] at this
  obtain ⟨s, hs⟩ := dv
  obtain ⟨y, hy, ny⟩ := ha.mul P hvz
  have pk := P.pw (i + z)
  have a0 := ha.ne P
  have d0 := hd.ne P
  have dir : (a * (-s) + b * y) * Z = d * y * X := by
    refine Int.eq_of_mul_eq_mul_left pk ?_
    have h1 : p ^ (i + z) * ((a * (-s) + b * y) * Z) = (-(a * (p ^ (i + z) * s)) + b * (p ^ (i + z) * y)) * Z := by grind
    have h2 : p ^ (i + z) * (d * y * X) = d * (p ^ (i + z) * y) * X := by grind
    rw [h1, h2, ← hs, ← hy]
    grind
  have vy := Vl.zero_iff P ny
  have y0 := vy.ne P
  refine ⟨-s, y, 1, 0, ?_, ?_, ?_⟩
  · rw [Int.mul_zero, Int.zero_sub, Int.one_mul]
    exact fun z => ny (Int.dvd_neg.mp z)
  · rw [e]
    show (a * (-s) + b * y) * Z = (0 * (-s) + d * y) * X
    rw [Int.zero_mul, Int.zero_add]
    exact dir
  · have e2 : mul (gr p n0 q0) (cols (-s) y 1 0 (p ^ k)) = ⟨a * (-s) + b * y, a * p ^ k, d * y, 0⟩ := by
      rw [e]
      unfold cols mul up
      generalize p ^ k = K
      ext <;> simp only <;> grind
    rw [e2]
    have c0 : d * y ≠ 0 := mne d0 y0
    have vd : Vl p (T4.mk (a * (-s) + b * y) (a * p ^ k) (d * y) 0).det (i + k + (j + 0)) := by
      unfold det
      have : (a * (-s) + b * y) * 0 - a * p ^ k * (d * y) = -(a * p ^ k * (d * y)) := by omega
      simp only
      rw [this]
      exact ((ha.mul P (Vl.pw P k)).mul P (hd.mul P vy)).neg P
    refine bt_first P (vd.ne P) vd (hd.mul P vy) (.inl rfl) (by omega) hq ?_
    exact (near_par P c0 hz dir).mpr h
/-- towards a fraction that is not in the ball: t is the number of the ball about both -/
theorem lt_out {n0 t : Int} {q0 : Int × Int} (hc : Can p n0 q0) {X Z : Int} (hz : Z ≠ 0) (tl : t < n0) (hx : Near p t q0 (X, Z)) (no : ¬ Near p (t + 1) q0 (X, Z)) {k : Nat} {n : Int} {q : Int × Int} (hq : Can p n q)
    (h : ((k : Int) ≤ n0 - t ∧ n = n0 - k ∧ Near p n q0 q) ∨ (n0 - t < (k : Int) ∧ n = 2 * t - n0 + k ∧ Near p n (X, Z) q)) : Lt p (gr p n0 q0) X Z k n q := by
  obtain ⟨w, hw⟩ := can_vl P hc
  obtain ⟨a, b, d, i, j, e, ha, hd, en, hn⟩ := gr_up P (n := n0) hw
  obtain ⟨z, hvz⟩ := Vl.ex P hz
  have hb := (hn _ _).mpr hx
  have nb : ¬ Near p (t + 1) (b, d) (X, Z) := fun c => no ((hn _ _).mp c)
  have dv := hb j z hd hvz
  have nd : ¬ p ^ (t + 1 + (j : Int) + (z : Int)).toNat ∣ b * Z - X * d := fun c => nb fun v' w' hv hw => by
    rw [hv.uniq P hd, hw.uniq P hvz]
    exact c
  have pos : 0 ≤ t + j + z := by
    refine Int.not_lt.mp fun l => nd ?_
    rw [show (t + 1 + (j : Int) + (z : Int)).toNat = 0 by omega, Int.pow_zero]
    exact Int.one_dvd _
  obtain ⟨E, hE⟩ : ∃ E : Nat, t + j + z = (E : Nat) := ⟨(t + j + z).toNat, by omega⟩
  rw [show (t + (j : Int) + (z : Int)).toNat = E by omega] at dv
  rw [show (t + 1 + (j : Int) + (z : Int)).toNat = E + 1 by omega] at nd
  obtain ⟨s, hs⟩ := dv
  have ns : ¬ p ∣ s := fun ⟨c, hc⟩ => nd ⟨c, by rw [hs, hc, Int.pow_succ, Int.mul_assoc]⟩
  obtain ⟨f, hf⟩ : ∃ f : Nat, n0 - t = (f : Nat) := ⟨(n0 - t).toNat, by omega⟩
  obtain ⟨y, hy, ny⟩ := ha.mul P hvz
  have pE := P.pw E
  have ez : i + z = E + f := by omega
  rw [ez, Int.pow_add, Int.mul_assoc] at hy
  have a0 := ha.ne P
  have d0 := hd.ne P
  have vy := Vl.zero_iff P ny
  have vs := Vl.zero_iff P ns
  have vl2 : Vl p (d * (p ^ f * y)) (j + (f + 0)) := hd.mul P ((Vl.pw P f).mul P vy)
  generalize hF : p ^ f * y = F at *
  have dir : (a * (-s) + b * F) * Z = d * F * X := by
    refine Int.eq_of_mul_eq_mul_left pE ?_
    have h1 : p ^ E * ((a * (-s) + b * F) * Z) = (-(a * (p ^ E * s)) + b * (p ^ E * F)) * Z := by grind
    have h2 : p ^ E * (d * F * X) = d * (p ^ E * F) * X := by grind
    rw [h1, h2, ← hs, ← hy]
    grind
  refine ⟨-s, F, 0, 1, ?_, ?_, ?_⟩
  · rw [Int.mul_one, Int.zero_mul, Int.sub_zero]
    exact fun z => ns (Int.dvd_neg.mp z)
  · rw [e]
    show (a * (-s) + b * F) * Z = (0 * (-s) + d * F) * X
    rw [Int.zero_mul, Int.zero_add]
    exact dir
  · have e2 : mul (gr p n0 q0) (cols (-s) F 0 1 (p ^ k)) = ⟨a * (-s) + b * F, b * p ^ k, d * F, d * p ^ k⟩ := by
      rw [e]
      unfold cols mul up
      generalize p ^ k = K
      ext <;> simp only <;> grind
    rw [e2]
    have c0 : d * F ≠ 0 := vl2.ne P
    have vd : Vl p (T4.mk (a * (-s) + b * F) (b * p ^ k) (d * F) (d * p ^ k)).det (i + (j + (k + 0))) := by
      unfold det
      have : (a * (-s) + b * F) * (d * p ^ k) - b * p ^ k * (d * F) = -(a * (d * (p ^ k * s))) := by generalize p ^ k = K; grind
      simp only
      rw [this]
      exact (ha.mul P (hd.mul P ((Vl.pw P k).mul P vs))).neg P
    have vk : Vl p (d * p ^ k) (j + k) := hd.mul P (Vl.pw P k)
    rcases h with ⟨l, rfl, h⟩ | ⟨l, rfl, h⟩
    · refine bt_second P (vd.ne P) vd vk (.inr ⟨_, vl2, by omega⟩) (by omega) hq ?_
      exact (near_scale P (P.pw k) d0).mpr ((hn _ _).mpr h)
    · refine bt_first P (vd.ne P) vd vl2 (.inr ⟨_, vk, by omega⟩) (by omega) hq ?_
      exact (near_par P c0 hz dir).mpr h
end
end T4
end Mi
set_option Elab.async false
set_option linter.all false
set_option maxRecDepth 100000
set_option maxHeartbeats 400000
namespace Mi
namespace T4
section
variable {p : Int} (P : Pr p)
include P
/-! ## steps by tables -/
/-- p to the k divides all four numbers -/
def Dv (p : Int) (k : Nat) (x : T4) : Prop := p ^ k ∣ x.a ∧ p ^ k ∣ x.b ∧ p ^ k ∣ x.c ∧ p ^ k ∣ x.d
/-- just so often does p divide all of them -/
def Ct (p : Int) (x : T4) (k : Nat) : Prop := Dv p k x ∧ ¬ Dv p (k + 1) x
omit P in
theorem Dv.le {j k : Nat} {x : T4} (h : Dv p k x) (l : j ≤ k) : Dv p j x :=
  ⟨Int.dvd_trans (pow_dvd p l) h.1, Int.dvd_trans (pow_dvd p l) h.2.1, Int.dvd_trans (pow_dvd p l) h.2.2.1, Int.dvd_trans (pow_dvd p l) h.2.2.2⟩
omit P in
theorem Ct.uniq {j k : Nat} {x : T4} (h : Ct p x j) (g : Ct p x k) : j = k := by
  rcases Nat.lt_trichotomy j k with l | e | l
  · exact absurd (g.1.le l) h.2
  · exact e
  · exact absurd (h.1.le l) g.2
theorem dvd_scale {k l : Int} {v w : Nat} (hk : Vl p k v) (hl : Vl p l w) {j : Nat} {x y : Int} (e : k * x = l * y) (h : p ^ j ∣ x) : p ^ (j + v - w) ∣ y := by
  by_cases y0 : y = 0
  · rw [y0]; exact Int.dvd_zero _
  have k0 := hk.ne P
  have x0 : x ≠ 0 := fun z => by
    rw [z, Int.mul_zero] at e
    exact (mne (hl.ne P) y0) e.symm
  obtain ⟨a, ha⟩ := Vl.ex P x0
  obtain ⟨b, hb⟩ := Vl.ex P y0
  have v1 := hk.mul P ha
  rw [e] at v1
  have v2 := v1.uniq P (hl.mul P hb)
  have := (ha.dvd P).mp h
  exact (hb.dvd P).mpr (by omega)
theorem ct_sc {k l : Int} {v w : Nat} (hk : Vl p k v) (hl : Vl p l w) {x y : T4} (e : sc k x = sc l y) {i j : Nat} (hx : Ct p x i) (hy : Ct p y j) : v + i = w + j := by
  have e1 : k * x.a = l * y.a := congrArg T4.a e
  have e2 : k * x.b = l * y.b := congrArg T4.b e
  have e3 : k * x.c = l * y.c := congrArg T4.c e
  have e4 : k * x.d = l * y.d := congrArg T4.d e
  have d1 : Dv p (i + v - w) y := ⟨dvd_scale P hk hl e1 hx.1.1, dvd_scale P hk hl e2 hx.1.2.1, dvd_scale P hk hl e3 hx.1.2.2.1, dvd_scale P hk hl e4 hx.1.2.2.2⟩
  have d2 : Dv p (j + w - v) x := ⟨dvd_scale P hl hk e1.symm hy.1.1, dvd_scale P hl hk e2.symm hy.1.2.1, dvd_scale P hl hk e3.symm hy.1.2.2.1, dvd_scale P hl hk e4.symm hy.1.2.2.2⟩
  have l1 : i + v - w ≤ j := Nat.not_lt.mp fun l => hy.2 (d1.le l)
  have l2 : j + w - v ≤ i := Nat.not_lt.mp fun l => hx.2 (d2.le l)
  omega
theorem ct_ok {x : T4} (h : x.Ok) : Ct p x 0 := by
  refine ⟨⟨?_, ?_, ?_, ?_⟩, fun d => ?_⟩
  · rw [Int.pow_zero]; exact Int.one_dvd _
  · rw [Int.pow_zero]; exact Int.one_dvd _
  · rw [Int.pow_zero]; exact Int.one_dvd _
  · rw [Int.pow_zero]; exact Int.one_dvd _
  · have g := dvd_g4 d.1 d.2.1 d.2.2.1 d.2.2.2
    rw [h.g, Int.pow_one] at g
    exact nd_one P g
/-- what the size of a table is divided by, when no number divides all of it -/
theorem det_nm_vl {x : T4} (h0 : x.det ≠ 0) {k e : Nat} (hc : Ct p x k) (hd : Vl p x.det e) : ∃ f : Nat, Vl p x.nm.det f ∧ (f : Int) = e - 2 * k := by
  obtain ⟨c, l, c0, l0, s⟩ := Sim.nm h0
  obtain ⟨v, hv⟩ := Vl.ex P c0
  obtain ⟨w, hw⟩ := Vl.ex P l0
  obtain ⟨f, hf⟩ := Vl.ex P (det_nm h0)
  refine ⟨f, hf, ?_⟩
  have h1 := ct_sc P hv hw s (ct_ok P (ok_nm h0)) hc
  have ed : c * c * x.nm.det = l * l * x.det := by
    have := congrArg T4.det s
    rwa [det_sc, det_sc] at this
  have v1 := (hv.mul P hv).mul P hf
  rw [ed] at v1
  have v2 := v1.uniq P ((hw.mul P hw).mul P hd)
  omega
theorem ct_mul {x u : T4} (hu : ¬ p ∣ u.det) {k : Nat} (h : Ct p x k) : Ct p (mul x u) k := by
  have dm : ∀ {j : Nat} {x u : T4}, Dv p j x → Dv p j (mul x u) := fun {j x u} d =>
    ⟨Int.dvd_add (Int.dvd_mul_of_dvd_left d.1) (Int.dvd_mul_of_dvd_left d.2.1), Int.dvd_add (Int.dvd_mul_of_dvd_left d.1) (Int.dvd_mul_of_dvd_left d.2.1),
     Int.dvd_add (Int.dvd_mul_of_dvd_left d.2.2.1) (Int.dvd_mul_of_dvd_left d.2.2.2), Int.dvd_add (Int.dvd_mul_of_dvd_left d.2.2.1) (Int.dvd_mul_of_dvd_left d.2.2.2)⟩
  refine ⟨dm h.1, fun d => h.2 ?_⟩
  have d2 := dm (u := u.adj) d
  rw [mul_assoc, mul_adj, sc_mul_r, mul_one] at d2
  have hz := Vl.zero_iff P hu
  have one := Vl.one P
  have f : ∀ {y : Int}, p ^ (k + 1) ∣ u.det * y → p ^ (k + 1) ∣ y := fun {y} h => by
    have := dvd_scale P one hz (j := k + 1) (x := u.det * y) (y := y) (by rw [Int.one_mul]) h
    rwa [show k + 1 + 0 - 0 = k + 1 by omega] at this
  exact ⟨f d2.1, f d2.2.1, f d2.2.2.1, f d2.2.2.2⟩
/-- tables that are alike at p have sizes alike -/
theorem eqp_det {x y : T4} (hx : x.det ≠ 0) (hy : y.det ≠ 0) (h : Eqp p x y) {e : Nat} (he : Vl p x.nm.det e) : Vl p y.nm.det e := by
  obtain ⟨u, hu, s⟩ := h
  have u0 := nd_det hu
  have s2 : Sim x.nm (mul y.nm u) := (Sim.nm hx).trans (s.trans ((Sim.nm hy).symm.mul (Sim.refl u)))
  obtain ⟨c, l, c0, l0, e2⟩ := s2
  obtain ⟨v, hv⟩ := Vl.ex P c0
  obtain ⟨w, hw⟩ := Vl.ex P l0
  have h1 := ct_sc P hv hw e2 (ct_ok P (ok_nm hx)) (ct_mul P hu (ct_ok P (ok_nm hy)))
  obtain ⟨f, hf⟩ := Vl.ex P (det_nm hy)
  have ed : c * c * x.nm.det = l * l * (y.nm.det * u.det) := by
    have := congrArg T4.det e2
    rwa [det_sc, det_sc, det_mul] at this
  have v1 := (hv.mul P hv).mul P he
  rw [ed] at v1
  have v2 := v1.uniq P ((hw.mul P hw).mul P (hf.mul P (Vl.zero_iff P hu)))
  have : f = e := by omega
  rw [← this]
  exact hf
end
end T4
end Mi
set_option Elab.async false
set_option linter.all false
set_option maxRecDepth 100000
set_option maxHeartbeats 400000
namespace Mi
namespace T4
section
variable {p : Int} (P : Pr p)
include P
/-- the steps between two balls, by what leads the one's grid to the other's -/
theorem dst_tab {n m : Int} {q r : Int × Int} (hq : Can p n q) (hr : Can p m r) {c : Int} (hc : Cn p (n, q) (m, r) c) {e : Nat} (he : Vl p (mul (gr p n q).adj (gr p m r)).nm.det e) : n + m - 2 * c = e := by
  obtain ⟨w, hw⟩ := can_vl P hq
  obtain ⟨w', hw'⟩ := can_vl P hr
  obtain ⟨a, b, d, i, j, e1, ha, hd, en, hn⟩ := gr_up P (n := n) hw
  obtain ⟨a', b', d', i', j', e2, ha', hd', em, hm⟩ := gr_up P (n := m) hw'
  have ez : mul (gr p n q).adj (gr p m r) = ⟨d * a', d * b' - b * d', 0, a * d'⟩ := by
    rw [e1, e2]
    unfold mul up adj
    ext <;> simp only <;> grind
  rw [ez] at he
  have cl : c ≤ n := hc.l
  have cr : c ≤ m := hc.r
  have tr : ∀ {k : Int}, Near p k q r ↔ Near p k (b, d) (b', d') := fun {k} => by
    rw [hn]
    exact ⟨fun h => ((hm _ _).mpr h.symm).symm, fun h => ((hm _ _).mp h.symm).symm⟩
  have ni : ∀ {k : Int}, Near p k (b, d) (b', d') ↔ p ^ (k + j + j').toNat ∣ b * d' - b' * d := fun {k} => near_iff P hd hd'
  have pos : 0 ≤ c + j + j' := by
    refine Int.not_lt.mp fun l => hc.no (show c < n by omega) (show c < m by omega) (tr.mpr (ni.mpr ?_))
    rw [show (c + 1 + (j : Int) + (j' : Int)).toNat = 0 by omega, Int.pow_zero]
    exact Int.one_dvd _
  obtain ⟨k, hk⟩ : ∃ k : Nat, c + j + j' = (k : Nat) := ⟨(c + j + j').toNat, by omega⟩
  have ec : d * b' - b * d' = -(b * d' - b' * d) := by grind
  have v1 := hd.mul P ha'
  have v2 := ha.mul P hd'
  have ct : Ct p (T4.mk (d * a') (d * b' - b * d') 0 (a * d')) k := by
    refine ⟨⟨(v1.dvd P).mpr (by omega), ?_, Int.dvd_zero _, (v2.dvd P).mpr (by omega)⟩, fun h => ?_⟩
    · show p ^ k ∣ d * b' - b * d'
      rw [ec]
      refine Int.dvd_neg.mpr ?_
      have := ni.mp (tr.mp hc.near)
      rwa [show (c + (j : Int) + (j' : Int)).toNat = k by omega] at this
    · have l1 := (v1.dvd P).mp h.1
      have l2 := (v2.dvd P).mp h.2.2.2
      refine hc.no (show c < n by omega) (show c < m by omega) (tr.mpr (ni.mpr ?_))
      have := h.2.1
      rw [show (c + 1 + (j : Int) + (j' : Int)).toNat = k + 1 by omega]
      have h2 : p ^ (k + 1) ∣ d * b' - b * d' := this
      rw [ec] at h2
      exact Int.dvd_neg.mp h2
  have vd : Vl p (T4.mk (d * a') (d * b' - b * d') 0 (a * d')).det (j + i' + (i + j')) := by
    unfold det
    simp only [Int.mul_zero, Int.sub_zero]
    exact v1.mul P v2
  obtain ⟨f, hf, ef⟩ := det_nm_vl P (vd.ne P) ct vd
  have : f = e := hf.uniq P he
  omega
/-- the steps from a ball to the one to which a move leads it, by the move told at the ball -/
theorem dst_led {n n' : Int} {q r : Int × Int} {m : T4} (m0 : m.det ≠ 0) (hq : Can p n q) (h : BT p (mul m (gr p n q)) n' r) {c : Int} (hc : Cn p (n, q) (n', r) c) {e : Nat} (he : Vl p (mul (gr p n q).adj (mul m (gr p n q))).nm.det e) : n + n' - 2 * c = e := by
  have q0 : q.2 ≠ 0 := by have := hq.nf.pos; omega
  have r0 : r.2 ≠ 0 := by have := h.1.nf.pos; omega
  have g0 := T4.gr_det (n := n) P q0
  have g1 := T4.gr_det (n := n') P r0
  have a0 := det_adj_ne g0
  exact dst_tab P hq h.1 hc (eqp_det P (det_mul_ne a0 (det_mul_ne m0 g0)) (det_mul_ne a0 g1) (Eqp.left _ h.2) he)
end
end T4
end Mi
set_option Elab.async false
set_option linter.all false
set_option maxRecDepth 100000
set_option maxHeartbeats 400000
namespace Mi
namespace T4
section
variable {p : Int} (P : Pr p)
include P
/-- towards far -/
theorem ex_far {n0 : Int} {q0 : Int × Int} (hc : Can p n0 q0) : ∃ w1 w2 u1 u2 : Int, ¬ p ∣ w1 * u2 - u1 * w2 ∧ ∀ (k : Nat) (q : Int × Int), Can p (n0 - k) q → Near p (n0 - k) q0 q → BT p (mul (gr p n0 q0) (cols w1 w2 u1 u2 (p ^ k))) (n0 - k) q := by
  obtain ⟨w, hw⟩ := can_vl P hc
  obtain ⟨a, b, d, i, j, e, ha, hd, en, hn⟩ := gr_up P (n := n0) hw
  refine ⟨1, 0, 0, 1, ?_, fun k q hq h => ?_⟩
  · rw [Int.mul_one, Int.zero_mul, Int.sub_zero]; exact nd_one P
  · have e2 : mul (gr p n0 q0) (cols 1 0 0 1 (p ^ k)) = up a (b * p ^ k) (d * p ^ k) := by
      rw [e]
      unfold cols mul up
      generalize p ^ k = K
      ext <;> simp only <;> grind
    rw [e2]
    refine bt_up P ha (hd.mul P (Vl.pw P k)) (by omega) hq ?_
    exact (near_scale P (P.pw k) (hd.ne P)).mpr ((hn _ _).mpr h)
/-- towards a fraction that is in the ball -/
theorem ex_in {n0 : Int} {q0 : Int × Int} (hc : Can p n0 q0) {X Z : Int} (hz : Z ≠ 0) (hx : Near p n0 q0 (X, Z)) : ∃ w1 w2 u1 u2 : Int, ¬ p ∣ w1 * u2 - u1 * w2 ∧ ∀ (k : Nat) (q : Int × Int), Can p (n0 + k) q → Near p (n0 + k) (X, Z) q → BT p (mul (gr p n0 q0) (cols w1 w2 u1 u2 (p ^ k))) (n0 + k) q := by
  obtain ⟨w, hw⟩ := can_vl P hc
  obtain ⟨a, b, d, i, j, e, ha, hd, en, hn⟩ := gr_up P (n := n0) hw
  obtain ⟨z, hvz⟩ := Vl.ex P hz
  have hb := (hn _ _).mpr hx
  have dv : p ^ (i + z) ∣ b * Z - X * d := by
    have := hb j z hd hvz
    rwa [show (n0 + (j : Int) + (z : Int)).toNat = i + z by omega] at this
  obtain ⟨s, hs⟩ := dv
  obtain ⟨y, hy, ny⟩ := ha.mul P hvz
  have pk := P.pw (i + z)
  have a0 := ha.ne P
  have d0 := hd.ne P
  have dir : (a * (-s) + b * y) * Z = d * y * X := by
    refine Int.eq_of_mul_eq_mul_left pk ?_
    have h1 : p ^ (i + z) * ((a * (-s) + b * y) * Z) = (-(a * (p ^ (i + z) * s)) + b * (p ^ (i + z) * y)) * Z := by grind
    have h2 : p ^ (i + z) * (d * y * X) = d * (p ^ (i + z) * y) * X := by grind
    rw [h1, h2, ← hs, ← hy]
    grind
  have vy := Vl.zero_iff P ny
  have y0 := vy.ne P
  refine ⟨-s, y, 1, 0, ?_, fun k q hq h => ?_⟩
  · rw [Int.mul_zero, Int.zero_sub, Int.one_mul]
    exact fun z => ny (Int.dvd_neg.mp z)
  · have e2 : mul (gr p n0 q0) (cols (-s) y 1 0 (p ^ k)) = ⟨a * (-s) + b * y, a * p ^ k, d * y, 0⟩ := by
      rw [e]
      unfold cols mul up
      generalize p ^ k = K
      ext <;> simp only <;> grind
    rw [e2]
    have c0 : d * y ≠ 0 := mne d0 y0
    have vd : Vl p (T4.mk (a * (-s) + b * y) (a * p ^ k) (d * y) 0).det (i + k + (j + 0)) := by
      unfold det
      have : (a * (-s) + b * y) * 0 - a * p ^ k * (d * y) = -(a * p ^ k * (d * y)) := by omega
      simp only
      rw [this]
      exact ((ha.mul P (Vl.pw P k)).mul P (hd.mul P vy)).neg P
    refine bt_first P (vd.ne P) vd (hd.mul P vy) (.inl rfl) (by omega) hq ?_
    exact (near_par P c0 hz dir).mpr h
/-- towards a fraction that is not in the ball: t is the number of the ball about both -/
theorem ex_out {n0 t : Int} {q0 : Int × Int} (hc : Can p n0 q0) {X Z : Int} (hz : Z ≠ 0) (tl : t < n0) (hx : Near p t q0 (X, Z)) (no : ¬ Near p (t + 1) q0 (X, Z)) : ∃ w1 w2 u1 u2 : Int, ¬ p ∣ w1 * u2 - u1 * w2 ∧ ∀ (k : Nat) (n : Int) (q : Int × Int), Can p n q →
    ((k : Int) ≤ n0 - t ∧ n = n0 - k ∧ Near p n q0 q) ∨ (n0 - t < (k : Int) ∧ n = 2 * t - n0 + k ∧ Near p n (X, Z) q) → BT p (mul (gr p n0 q0) (cols w1 w2 u1 u2 (p ^ k))) n q := by
  obtain ⟨w, hw⟩ := can_vl P hc
  obtain ⟨a, b, d, i, j, e, ha, hd, en, hn⟩ := gr_up P (n := n0) hw
  obtain ⟨z, hvz⟩ := Vl.ex P hz
  have hb := (hn _ _).mpr hx
  have nb : ¬ Near p (t + 1) (b, d) (X, Z) := fun c => no ((hn _ _).mp c)
  have dv := hb j z hd hvz
  have nd : ¬ p ^ (t + 1 + (j : Int) + (z : Int)).toNat ∣ b * Z - X * d := fun c => nb fun v' w' hv hw => by
    rw [hv.uniq P hd, hw.uniq P hvz]
    exact c
  have pos : 0 ≤ t + j + z := by
    refine Int.not_lt.mp fun l => nd ?_
    rw [show (t + 1 + (j : Int) + (z : Int)).toNat = 0 by omega, Int.pow_zero]
    exact Int.one_dvd _
  obtain ⟨E, hE⟩ : ∃ E : Nat, t + j + z = (E : Nat) := ⟨(t + j + z).toNat, by omega⟩
  rw [show (t + (j : Int) + (z : Int)).toNat = E by omega] at dv
  rw [show (t + 1 + (j : Int) + (z : Int)).toNat = E + 1 by omega] at nd
  obtain ⟨s, hs⟩ := dv
  have ns : ¬ p ∣ s := fun ⟨c, hc⟩ => nd ⟨c, by rw [hs, hc, Int.pow_succ, Int.mul_assoc]⟩
  obtain ⟨f, hf⟩ : ∃ f : Nat, n0 - t = (f : Nat) := ⟨(n0 - t).toNat, by omega⟩
  obtain ⟨y, hy, ny⟩ := ha.mul P hvz
  have pE := P.pw E
  have ez : i + z = E + f := by omega
  rw [ez, Int.pow_add, Int.mul_assoc] at hy
  have a0 := ha.ne P
  have d0 := hd.ne P
  have vy := Vl.zero_iff P ny
  have vs := Vl.zero_iff P ns
  have vl2 : Vl p (d * (p ^ f * y)) (j + (f + 0)) := hd.mul P ((Vl.pw P f).mul P vy)
  generalize hF : p ^ f * y = F at *
  have dir : (a * (-s) + b * F) * Z = d * F * X := by
    refine Int.eq_of_mul_eq_mul_left pE ?_
    have h1 : p ^ E * ((a * (-s) + b * F) * Z) = (-(a * (p ^ E * s)) + b * (p ^ E * F)) * Z := by grind
    have h2 : p ^ E * (d * F * X) = d * (p ^ E * F) * X := by grind
    rw [h1, h2, ← hs, ← hy]
    grind
  refine ⟨-s, F, 0, 1, ?_, fun k n q hq h => ?_⟩
  · rw [Int.mul_one, Int.zero_mul, Int.sub_zero]
    exact fun z => ns (Int.dvd_neg.mp z)
  · have e2 : mul (gr p n0 q0) (cols (-s) F 0 1 (p ^ k)) = ⟨a * (-s) + b * F, b * p ^ k, d * F, d * p ^ k⟩ := by
      rw [e]
      unfold cols mul up
      generalize p ^ k = K
      ext <;> simp only <;> grind
    rw [e2]
    have c0 : d * F ≠ 0 := vl2.ne P
    have vd : Vl p (T4.mk (a * (-s) + b * F) (b * p ^ k) (d * F) (d * p ^ k)).det (i + (j + (k + 0))) := by
      unfold det
      have : (a * (-s) + b * F) * (d * p ^ k) - b * p ^ k * (d * F) = -(a * (d * (p ^ k * s))) := by generalize p ^ k = K; grind
      simp only
      rw [this]
      exact (ha.mul P (hd.mul P ((Vl.pw P k).mul P vs))).neg P
    have vk : Vl p (d * p ^ k) (j + k) := hd.mul P (Vl.pw P k)
    rcases h with ⟨l, rfl, h⟩ | ⟨l, rfl, h⟩
    · refine bt_second P (vd.ne P) vd vk (.inr ⟨_, vl2, by omega⟩) (by omega) hq ?_
      exact (near_scale P (P.pw k) d0).mpr ((hn _ _).mpr h)
    · refine bt_first P (vd.ne P) vd vl2 (.inr ⟨_, vk, by omega⟩) (by omega) hq ?_
      exact (near_par P c0 hz dir).mpr h
/-- the balls on the road from one ball to another one, by tables -/
theorem road_of {n0 n1 c : Int} {q0 q1 : Int × Int} (hc : Can p n0 q0) (hd : Can p n1 q1) (C : Cn p (n0, q0) (n1, q1) c) : ∃ w1 w2 u1 u2 : Int, ¬ p ∣ w1 * u2 - u1 * w2 ∧ ∀ (k : Nat) (n : Int) (q : Int × Int), Can p n q →
    ((k : Int) ≤ n0 - c ∧ n = n0 - k ∧ Near p n q0 q) ∨ (n0 - c < (k : Int) ∧ (k : Int) ≤ n0 + n1 - 2 * c ∧ n = 2 * c - n0 + k ∧ Near p n q1 q) → BT p (mul (gr p n0 q0) (cols w1 w2 u1 u2 (p ^ k))) n q := by
  have z0 : q0.2 ≠ 0 := by have := hc.nf.pos; omega
  have z1 : q1.2 ≠ 0 := by have := hd.nf.pos; omega
  have l0 : c ≤ n0 := C.l
  have l1 : c ≤ n1 := C.r
  have near : Near p c q0 q1 := C.near
  by_cases a : c = n1
  · obtain ⟨w1, w2, u1, u2, nd, f⟩ := ex_far P hc
    refine ⟨w1, w2, u1, u2, nd, fun k n q hq h => ?_⟩
    rcases h with ⟨x, rfl, y⟩ | ⟨x, y, _⟩
    · exact f k q hq y
    · omega
  · by_cases b : c = n0
    · subst b
      obtain ⟨w1, w2, u1, u2, nd, f⟩ := ex_in P hc (X := q1.1) (Z := q1.2) z1 near
      refine ⟨w1, w2, u1, u2, nd, fun k n q hq h => ?_⟩
      rcases h with ⟨x, rfl, y⟩ | ⟨x, _, rfl, y⟩
      · have k0 : k = 0 := by omega
        subst k0
        have q2 : q.2 ≠ 0 := by have := hq.nf.pos; omega
        rw [show c - ((0 : Nat) : Int) = c + ((0 : Nat) : Int) by omega] at hq y ⊢
        refine f 0 q hq ?_
        rw [show c + ((0 : Nat) : Int) = c by omega] at y ⊢
        exact near.symm.trans P y z1 z0 q2
      · rw [show 2 * c - c + (k : Int) = c + k by omega] at hq y ⊢
        exact f k q hq y
    · obtain ⟨w1, w2, u1, u2, nd, f⟩ := ex_out P hc (t := c) (X := q1.1) (Z := q1.2) z1 (by omega) near (C.no (show c < n0 by omega) (show c < n1 by omega))
      refine ⟨w1, w2, u1, u2, nd, fun k n q hq h => f k n q hq ?_⟩
      rcases h with h | ⟨x, _, y, z⟩
      · exact .inl h
      · exact .inr ⟨x, y, z⟩
end
end T4
end Mi
set_option Elab.async false
set_option linter.all false
set_option maxRecDepth 100000
set_option maxHeartbeats 400000
namespace Mi
namespace T4
section
variable {p : Int} (P : Pr p)
include P
theorem ct_mulL {x u : T4} (hu : ¬ p ∣ u.det) {k : Nat} (h : Ct p x k) : Ct p (mul u x) k := by
  have dm : ∀ {j : Nat} {x u : T4}, Dv p j x → Dv p j (mul u x) := fun {j x u} d =>
    ⟨Int.dvd_add (Int.dvd_mul_of_dvd_right d.1) (Int.dvd_mul_of_dvd_right d.2.2.1), Int.dvd_add (Int.dvd_mul_of_dvd_right d.2.1) (Int.dvd_mul_of_dvd_right d.2.2.2),
     Int.dvd_add (Int.dvd_mul_of_dvd_right d.1) (Int.dvd_mul_of_dvd_right d.2.2.1), Int.dvd_add (Int.dvd_mul_of_dvd_right d.2.1) (Int.dvd_mul_of_dvd_right d.2.2.2)⟩
  refine ⟨dm h.1, fun d => h.2 ?_⟩
  have d2 := dm (u := u.adj) d
  rw [← mul_assoc, adj_mul_self, sc_mul_l, one_mul] at d2
  have hz := Vl.zero_iff P hu
  have one := Vl.one P
  have f : ∀ {y : Int}, p ^ (k + 1) ∣ u.det * y → p ^ (k + 1) ∣ y := fun {y} h => by
    have := dvd_scale P one hz (j := k + 1) (x := u.det * y) (y := y) (by rw [Int.one_mul]) h
    rwa [show k + 1 + 0 - 0 = k + 1 by omega] at this
  exact ⟨f d2.1, f d2.2.1, f d2.2.2.1, f d2.2.2.2⟩
/-- the size of a table told at another grid of the same ball -/
theorem told_alike {x y m : T4} (m0 : m.det ≠ 0) (hx : x.det ≠ 0) (hy : y.det ≠ 0) (h : Eqp p x y) {e : Nat} (he : Vl p (mul x.adj (mul m x)).nm.det e) : Vl p (mul y.adj (mul m y)).nm.det e := by
  obtain ⟨u, hu, s⟩ := h
  have u0 := nd_det hu
  have zx : (mul x.adj (mul m x)).det ≠ 0 := det_mul_ne (det_adj_ne hx) (det_mul_ne m0 hx)
  have zy : (mul y.adj (mul m y)).det ≠ 0 := det_mul_ne (det_adj_ne hy) (det_mul_ne m0 hy)
  have hu' : ¬ p ∣ u.adj.det := by rw [det_adj]; exact hu
  have s1 : Sim (mul x.adj (mul m x)) (mul u.adj (mul (mul y.adj (mul m y)) u)) := by
    have := s.adj.mul ((Sim.refl m).mul s)
    rw [adj_mul, mul_assoc, ← mul_assoc m, ← mul_assoc y.adj] at this
    exact this
  have s2 : Sim (mul x.adj (mul m x)).nm (mul u.adj (mul (mul y.adj (mul m y)).nm u)) :=
    (Sim.nm zx).trans (s1.trans ((Sim.refl _).mul ((Sim.nm zy).symm.mul (Sim.refl u))))
  obtain ⟨c, l, c0, l0, e2⟩ := s2
  obtain ⟨v, hv⟩ := Vl.ex P c0
  obtain ⟨w, hw⟩ := Vl.ex P l0
  have h1 := ct_sc P hv hw e2 (ct_ok P (ok_nm zx)) (ct_mulL P hu' (ct_mul P hu (ct_ok P (ok_nm zy))))
  obtain ⟨f, hf⟩ := Vl.ex P (det_nm zy)
  have ed : c * c * (mul x.adj (mul m x)).nm.det = l * l * (u.adj.det * ((mul y.adj (mul m y)).nm.det * u.det)) := by
    have := congrArg T4.det e2
    rwa [det_sc, det_sc, det_mul, det_mul] at this
  have v1 := (hv.mul P hv).mul P he
  rw [ed] at v1
  have v2 := v1.uniq P ((hw.mul P hw).mul P ((Vl.zero_iff P hu').mul P (hf.mul P (Vl.zero_iff P hu))))
  have : f = e := by omega
  rw [← this]
  exact hf
omit P in
def Sk (p : Int) (Y : T4) (D k : Nat) : T4 := ⟨p ^ k * Y.a, p ^ (k + k) * Y.b, p ^ D * Y.c, p ^ (D + k) * Y.d⟩
theorem sk_ct {Y : T4} (hY : ¬ p ∣ Y.det) {D k : Nat} (h : k = 0 ∨ (2 * k ≤ D ∧ p ^ k ∣ Y.a)) : Ct p (Sk p Y D k) (k + k) := by
  rcases Nat.eq_zero_or_pos k with rfl | kp
  · refine ⟨⟨?_, ?_, ?_, ?_⟩, fun d => hY ?_⟩
    · rw [Int.pow_zero]; exact Int.one_dvd _
    · rw [Int.pow_zero]; exact Int.one_dvd _
    · rw [Int.pow_zero]; exact Int.one_dvd _
    · rw [Int.pow_zero]; exact Int.one_dvd _
    · have d1 : p ^ (0 + 0 + 1) ∣ p ^ 0 * Y.a := d.1
      have d2 : p ^ (0 + 0 + 1) ∣ p ^ (0 + 0) * Y.b := d.2.1
      rw [Int.pow_zero, Int.one_mul, Int.pow_succ, Int.pow_zero, Int.one_mul] at d1
      rw [Int.pow_zero, Int.one_mul, Int.pow_succ, Int.pow_zero, Int.one_mul] at d2
      exact Int.dvd_sub (Int.dvd_mul_of_dvd_left d1) (Int.dvd_mul_of_dvd_left d2)
  · rcases h with rfl | ⟨h1, h2⟩
    · omega
    refine ⟨⟨?_, ?_, ?_, ?_⟩, fun d => hY ?_⟩
    · show p ^ (k + k) ∣ p ^ k * Y.a
      rw [Int.pow_add]
      exact Int.mul_dvd_mul (Int.dvd_refl _) h2
    · exact Int.dvd_mul_right _ _
    · exact Int.dvd_mul_of_dvd_left (pow_dvd p (by omega))
    · exact Int.dvd_mul_of_dvd_left (pow_dvd p (by omega))
    · have d2 : p ^ (k + k + 1) ∣ p ^ (k + k) * Y.b := d.2.1
      rw [Int.pow_succ] at d2
      have b : p ∣ Y.b := Int.dvd_of_mul_dvd_mul_left (P.pw _) d2
      have a : p ∣ Y.a := by
        refine Int.dvd_trans ?_ h2
        have := pow_dvd p (a := 1) (b := k) kp
        rwa [Int.pow_one] at this
      exact Int.dvd_sub (Int.dvd_mul_of_dvd_left a) (Int.dvd_mul_of_dvd_left b)
theorem sk_vl {Y : T4} (hY : ¬ p ∣ Y.det) (D k : Nat) : Vl p (Sk p Y D k).det (k + k + D) := by
  have e : (Sk p Y D k).det = p ^ (k + k + D) * Y.det := by
    unfold Sk det
    rw [Int.pow_add p (k + k) D, Int.pow_add p k k, Int.pow_add p D k]
    simp only
    generalize p ^ k = A
    generalize p ^ D = B
    grind
  rw [e]
  have := (Vl.pw P (k + k + D)).mul P (Vl.zero_iff P hY)
  exact this
end
end T4
end Mi
set_option Elab.async false
set_option linter.all false
set_option maxRecDepth 100000
set_option maxHeartbeats 400000
namespace Mi
namespace T4
section
variable {p : Int} (P : Pr p)
include P
omit P in
theorem key_mul (w1 w2 u1 u2 : Int) (U : T4) (D k : Nat) : mul (cols w1 w2 u1 u2 (p ^ k)).adj (mul (mul (cols w1 w2 u1 u2 (p ^ D)) U) (cols w1 w2 u1 u2 (p ^ k))) =
    sc (w1 * u2 - u1 * w2) (Sk p ⟨U.a * w1 + U.b * w2, U.a * u1 + U.b * u2, U.c * w1 + U.d * w2, U.c * u1 + U.d * u2⟩ D k) := by
  unfold cols Sk mul sc adj
  rw [Int.pow_add p k k, Int.pow_add p D k]
  generalize p ^ k = A
  generalize p ^ D = B
  ext <;> simp only <;> grind
omit P in
theorem tr_told (g m : T4) : (mul g.adj (mul m g)).tr = g.det * m.tr := by
  unfold tr det mul adj
  grind
omit P in
theorem tr_cols (w1 w2 u1 u2 : Int) (U : T4) (K : Int) : (mul (cols w1 w2 u1 u2 K) U).tr = (U.a * w1 + U.b * w2) + K * (U.c * u1 + U.d * u2) := by
  unfold tr mul cols
  grind
omit P in
theorem tr_sc (k : Int) (x : T4) : (sc k x).tr = k * x.tr := by
  unfold tr sc
  grind
/-- how far the balls on the road from a ball to where a move leads it are led -/
theorem disp_road {n0 n1 c : Int} {q0 q1 : Int × Int} {m : T4} (m0 : m.det ≠ 0) (hc : Can p n0 q0) (h : BT p (mul m (gr p n0 q0)) n1 q1) (C : Cn p (n0, q0) (n1, q1) c) {D : Nat} (eD : n0 + n1 - 2 * c = D) :
    ∃ w1 w2 u1 u2 : Int, ¬ p ∣ w1 * u2 - u1 * w2 ∧
      (∀ (k : Nat) (n : Int) (q : Int × Int), Can p n q → ((k : Int) ≤ n0 - c ∧ n = n0 - k ∧ Near p n q0 q) ∨ (n0 - c < (k : Int) ∧ (k : Int) ≤ n0 + n1 - 2 * c ∧ n = 2 * c - n0 + k ∧ Near p n q1 q) → BT p (mul (gr p n0 q0) (cols w1 w2 u1 u2 (p ^ k))) n q) ∧
      ∀ (k : Nat), (k = 0 ∨ (2 * k ≤ D ∧ (m.tr = 0 ∨ ∃ vd vt : Nat, Vl p m.det vd ∧ Vl p m.tr vt ∧ 2 * (k : Int) ≤ D - ((vd : Int) - 2 * vt)))) →
        ∀ (n n' c' : Int) (q r' : Int × Int), BT p (mul (gr p n0 q0) (cols w1 w2 u1 u2 (p ^ k))) n q → BT p (mul m (gr p n q)) n' r' → Cn p (n, q) (n', r') c' → n + n' - 2 * c' = D - 2 * k := by
  obtain ⟨w1, w2, u1, u2, nd, f⟩ := road_of P hc h.1 C
  refine ⟨w1, w2, u1, u2, nd, f, fun k hk n n' c' q r' hb h' C' => ?_⟩
  have q00 : q0.2 ≠ 0 := by have := hc.nf.pos; omega
  have g0 := T4.gr_det (n := n0) P q00
  have l1 : c ≤ n1 := C.r
  have near : Near p c q0 q1 := C.near
  have bD : BT p (mul (gr p n0 q0) (cols w1 w2 u1 u2 (p ^ D))) n1 q1 := by
    refine f D n1 q1 h.1 ?_
    by_cases a : c = n1
    · exact .inl ⟨by omega, by omega, by rw [← a]; exact near⟩
    · exact .inr ⟨by omega, by omega, by omega, Near.refl _ _⟩
  generalize eg : gr p n0 q0 = g at *
  have et : Eqp p (mul g.adj (mul m g)) (cols w1 w2 u1 u2 (p ^ D)) := by
    have e1 : Eqp p (mul m g) (mul g (cols w1 w2 u1 u2 (p ^ D))) := h.2.trans P bD.2.symm
    have e2 := Eqp.left g.adj e1
    rw [← mul_assoc g.adj g, adj_mul_self, sc_mul_l, one_mul] at e2
    exact e2.trans P (Eqp.sim P (Sim.sc g0))
  obtain ⟨U, hU, κ, lam, κ0, lam0, e⟩ := et
  have Δ0 : w1 * u2 - u1 * w2 ≠ 0 := fun z => nd (by rw [z]; exact Int.dvd_zero _)
  have hY : ¬ p ∣ (T4.mk (U.a * w1 + U.b * w2) (U.a * u1 + U.b * u2) (U.c * w1 + U.d * w2) (U.c * u1 + U.d * u2)).det := by
    have := nd_mul P hU nd
    have e2 : (T4.mk (U.a * w1 + U.b * w2) (U.a * u1 + U.b * u2) (U.c * w1 + U.d * w2) (U.c * u1 + U.d * u2)).det = U.det * (w1 * u2 - u1 * w2) := by unfold det; grind
    rwa [e2]
  have sim : Sim (mul (mul g (cols w1 w2 u1 u2 (p ^ k))).adj (mul m (mul g (cols w1 w2 u1 u2 (p ^ k))))) (Sk p ⟨U.a * w1 + U.b * w2, U.a * u1 + U.b * u2, U.c * w1 + U.d * w2, U.c * u1 + U.d * u2⟩ D k) := by
    refine ⟨κ, lam * (w1 * u2 - u1 * w2), κ0, mne lam0 Δ0, ?_⟩
    have as : mul (mul g (cols w1 w2 u1 u2 (p ^ k))).adj (mul m (mul g (cols w1 w2 u1 u2 (p ^ k)))) = mul (cols w1 w2 u1 u2 (p ^ k)).adj (mul (mul g.adj (mul m g)) (cols w1 w2 u1 u2 (p ^ k))) := by
      rw [adj_mul, mul_assoc, mul_assoc g.adj, mul_assoc m]
    have s1 : sc κ (mul (cols w1 w2 u1 u2 (p ^ k)).adj (mul (mul g.adj (mul m g)) (cols w1 w2 u1 u2 (p ^ k)))) = mul (cols w1 w2 u1 u2 (p ^ k)).adj (mul (sc κ (mul g.adj (mul m g))) (cols w1 w2 u1 u2 (p ^ k))) := by
      rw [sc_mul_l, sc_mul_r]
    rw [as, s1, e, sc_mul_l, sc_mul_r, key_mul, sc_sc]
  have cond : k = 0 ∨ (2 * k ≤ D ∧ p ^ k ∣ U.a * w1 + U.b * w2) := by
    rcases hk with hk | ⟨k2, ht⟩
    · exact .inl hk
    refine .inr ⟨k2, ?_⟩
    have et : κ * (g.det * m.tr) = lam * ((U.a * w1 + U.b * w2) + p ^ D * (U.c * u1 + U.d * u2)) := by
      have := congrArg T4.tr e
      rwa [tr_sc, tr_sc, tr_told, tr_cols] at this
    have hs : p ^ k ∣ p ^ D * (U.c * u1 + U.d * u2) := Int.dvd_mul_of_dvd_left (pow_dvd p (by omega))
    have ds : p ^ k ∣ (U.a * w1 + U.b * w2) + p ^ D * (U.c * u1 + U.d * u2) := by
      rcases ht with z | ⟨vd, vt, hvd, hvt, l⟩
      · rw [z, Int.mul_zero, Int.mul_zero] at et
        rw [(Int.mul_eq_zero.mp et.symm).resolve_left lam0]
        exact Int.dvd_zero _
      · obtain ⟨a, ha⟩ := Vl.ex P κ0
        obtain ⟨b, hb'⟩ := Vl.ex P lam0
        obtain ⟨gg, hg⟩ := Vl.ex P g0
        have v1 := ha.mul P (hg.mul P hvt)
        rw [et] at v1
        have s0 : (U.a * w1 + U.b * w2) + p ^ D * (U.c * u1 + U.d * u2) ≠ 0 := fun z => v1.ne P (by rw [z, Int.mul_zero])
        obtain ⟨τ, hτ⟩ := Vl.ex P s0
        have v2 := v1.uniq P (hb'.mul P hτ)
        have ed : κ * κ * (g.det * (m.det * g.det)) = lam * lam * (p ^ D * (w1 * u2 - u1 * w2) * U.det) := by
          have := congrArg T4.det e
          rw [det_sc, det_sc, det_mul, det_mul, det_mul, det_adj] at this
          rw [this]
          unfold cols det
          simp only
          generalize p ^ D = B
          grind
        have v3 := (ha.mul P ha).mul P (hg.mul P (hvd.mul P hg))
        rw [ed] at v3
        have v4 := v3.uniq P ((hb'.mul P hb').mul P (((Vl.pw P D).mul P (Vl.zero_iff P nd)).mul P (Vl.zero_iff P hU)))
        exact (hτ.dvd P).mpr (by omega)
    have : U.a * w1 + U.b * w2 = ((U.a * w1 + U.b * w2) + p ^ D * (U.c * u1 + U.d * u2)) - p ^ D * (U.c * u1 + U.d * u2) := by omega
    rw [this]
    exact Int.dvd_sub ds hs
  have vl := sk_vl P hY D k
  obtain ⟨e', he', ee⟩ := det_nm_vl P (vl.ne P) (sk_ct P hY cond) vl
  have V0 : (mul g (cols w1 w2 u1 u2 (p ^ k))).det ≠ 0 := by
    have : (cols w1 w2 u1 u2 (p ^ k)).det = p ^ k * (w1 * u2 - u1 * w2) := by unfold cols det; simp only; generalize p ^ k = A; grind
    refine det_mul_ne g0 ?_
    rw [this]
    exact mne (P.pw k) Δ0
  have X0 : (mul (mul g (cols w1 w2 u1 u2 (p ^ k))).adj (mul m (mul g (cols w1 w2 u1 u2 (p ^ k))))).det ≠ 0 := det_mul_ne (det_adj_ne V0) (det_mul_ne m0 V0)
  rw [← nm_eq_of X0 sim] at he'
  have q20 : q.2 ≠ 0 := by have := hb.1.nf.pos; omega
  have := dst_led P m0 hb.1 h' C' (told_alike P m0 V0 (T4.gr_det P q20) hb.2 he')
  omega
end
end T4
end Mi
set_option Elab.async false
set_option linter.all false
set_option maxRecDepth 100000
set_option maxHeartbeats 400000
namespace Mi
namespace T4
section
variable {p : Int} (P : Pr p)
include P
/-- a ball is led by an even or an odd number of steps as p divides the size -/
theorem par_led {n n' : Int} {q r : Int × Int} {m : T4} (m0 : m.det ≠ 0) (hq : Can p n q) (h : BT p (mul m (gr p n q)) n' r) {c : Int} (hc : Cn p (n, q) (n', r) c) {vd : Nat} (hd : Vl p m.det vd) : ∃ D : Nat, n + n' - 2 * c = D ∧ D % 2 = vd % 2 ∧ ∀ vt : Nat, Vl p m.tr vt → (vd : Int) - 2 * vt ≤ D := by
  have q0 : q.2 ≠ 0 := by have := hq.nf.pos; omega
  have g0 := T4.gr_det (n := n) P q0
  have z0 : (mul (gr p n q).adj (mul m (gr p n q))).det ≠ 0 := det_mul_ne (det_adj_ne g0) (det_mul_ne m0 g0)
  obtain ⟨e, he⟩ := Vl.ex P (det_nm z0)
  refine ⟨e, dst_led P m0 hq h hc he, ?_⟩
  obtain ⟨k, l, k0, l0, s⟩ := Sim.nm z0
  obtain ⟨a, ha⟩ := Vl.ex P k0
  obtain ⟨b, hb⟩ := Vl.ex P l0
  obtain ⟨g, hg⟩ := Vl.ex P g0
  have ed : k * k * (mul (gr p n q).adj (mul m (gr p n q))).nm.det = l * l * ((gr p n q).det * (m.det * (gr p n q).det)) := by
    have := congrArg T4.det s
    rwa [det_sc, det_sc, det_mul (gr p n q).adj, det_mul m, det_adj] at this
  have v1 := (ha.mul P ha).mul P he
  rw [ed] at v1
  have v2 := v1.uniq P ((hb.mul P hb).mul P (hg.mul P (hd.mul P hg)))
  refine ⟨by omega, fun vt ht => ?_⟩
  have et : k * (mul (gr p n q).adj (mul m (gr p n q))).nm.tr = l * ((gr p n q).det * m.tr) := by
    have := congrArg T4.tr s
    rwa [tr_sc, tr_sc, tr_told] at this
  have v3 := hb.mul P (hg.mul P ht)
  rw [← et] at v3
  have t0 : (mul (gr p n q).adj (mul m (gr p n q))).nm.tr ≠ 0 := fun z => v3.ne P (by rw [z, Int.mul_zero])
  obtain ⟨τ, hτ⟩ := Vl.ex P t0
  have v4 := v3.uniq P (ha.mul P hτ)
  omega
/-- the gate: the ball half of (D - s) steps on; s by which the move stretches -/
theorem gate_disp {n0 n1 c : Int} {q0 q1 : Int × Int} {m : T4} (m0 : m.det ≠ 0) (hc : Can p n0 q0) (h : BT p (mul m (gr p n0 q0)) n1 q1) (C : Cn p (n0, q0) (n1, q1) c) {D : Nat} (eD : n0 + n1 - 2 * c = D) {vd : Nat} (hd : Vl p m.det vd) {s : Int}
    (hs : (m.tr = 0 ∧ s = 0) ∨ ∃ vt : Nat, Vl p m.tr vt ∧ s = if (vd : Int) - 2 * vt > 0 then (vd : Int) - 2 * vt else 0) :
    ∃ K : Nat, ((D : Int) - s) / 2 = K ∧ (K : Int) ≤ D ∧ (D : Int) - 2 * K = (if 0 < s then s else (vd : Int) % 2) ∧ ∀ k : Nat, k ≤ K → ∀ (n n' c' : Int) (q r' : Int × Int), Can p n q →
      ((k : Int) ≤ n0 - c ∧ n = n0 - k ∧ Near p n q0 q) ∨ (n0 - c < (k : Int) ∧ (k : Int) ≤ n0 + n1 - 2 * c ∧ n = 2 * c - n0 + k ∧ Near p n q1 q) →
      BT p (mul m (gr p n q)) n' r' → Cn p (n, q) (n', r') c' → n + n' - 2 * c' = D - 2 * k := by
  obtain ⟨w1, w2, u1, u2, nd, f, g⟩ := disp_road P m0 hc h C eD
  obtain ⟨D', e1, e2, e3⟩ := par_led P m0 hc h C hd
  have eDD : D' = D := by omega
  subst eDD
  have s0 : 0 ≤ s := by
    rcases hs with ⟨_, z⟩ | ⟨vt, _, z⟩
    · omega
    · rw [z]; split <;> omega
  have sD : s ≤ D' := by
    rcases hs with ⟨_, z⟩ | ⟨vt, hv, z⟩
    · omega
    · have := e3 vt hv
      rw [z]; split <;> omega
  have par : 0 < s → ((D' : Int) - s) % 2 = 0 := fun h0 => by
    rcases hs with ⟨_, z⟩ | ⟨vt, hv, z⟩
    · omega
    · split at z <;> omega
  obtain ⟨K, hK⟩ : ∃ K : Nat, ((D' : Int) - s) / 2 = K := ⟨(((D' : Int) - s) / 2).toNat, by omega⟩
  refine ⟨K, hK, by omega, ?_, fun k hk n n' c' q r' hq hr h' C' => ?_⟩
  · by_cases z : 0 < s
    · have := par z
      rw [if_pos z]
      omega
    · rw [if_neg z]
      omega
  · refine g k ?_ n n' c' q r' (f k n q hq hr) h' C'
    refine .inr ⟨by omega, ?_⟩
    rcases hs with ⟨t, _⟩ | ⟨vt, hv, z⟩
    · exact .inl t
    · refine .inr ⟨vd, vt, hd, hv, ?_⟩
      split at z <;> omega
end
end T4
end Mi
set_option Elab.async false
set_option linter.all false
set_option maxRecDepth 100000
set_option maxHeartbeats 400000
namespace Mi
namespace T4
section
variable {p : Int} (P : Pr p)
include P
/-- a move without stretch that leads a ball to a neighbour leads this one back -/
theorem led_swap {n n' : Int} {q r : Int × Int} {m : T4} (m0 : m.det ≠ 0) (hq : Can p n q) (h : BT p (mul m (gr p n q)) n' r) {c : Int} (hc : Cn p (n, q) (n', r) c) (h1 : n + n' - 2 * c = 1) (hs : m.tr = 0 ∨ ∃ vd vt : Nat, Vl p m.det vd ∧ Vl p m.tr vt ∧ vd ≤ 2 * vt) : BT p (mul m (gr p n' r)) n q := by
  have q0 : q.2 ≠ 0 := by have := hq.nf.pos; omega
  have g0 := T4.gr_det (n := n) P q0
  have z0 : (mul (gr p n q).adj (mul m (gr p n q))).det ≠ 0 := det_mul_ne (det_adj_ne g0) (det_mul_ne m0 g0)
  obtain ⟨e, he⟩ := Vl.ex P (det_nm z0)
  have e1 : e = 1 := by
    have := dst_led P m0 hq h hc he
    omega
  subst e1
  obtain ⟨k, l, k0, l0, s⟩ := Sim.nm z0
  obtain ⟨a, ha⟩ := Vl.ex P k0
  obtain ⟨b, hb⟩ := Vl.ex P l0
  obtain ⟨g, hg⟩ := Vl.ex P g0
  have ed : k * k * (mul (gr p n q).adj (mul m (gr p n q))).nm.det = l * l * ((gr p n q).det * (m.det * (gr p n q).det)) := by
    have := congrArg T4.det s
    rwa [det_sc, det_sc, det_mul (gr p n q).adj, det_mul m, det_adj] at this
  have et : k * (mul (gr p n q).adj (mul m (gr p n q))).nm.tr = l * ((gr p n q).det * m.tr) := by
    have := congrArg T4.tr s
    rwa [tr_sc, tr_sc, tr_told] at this
  have v1 := (ha.mul P ha).mul P he
  rw [ed] at v1
  have pt : p ∣ (mul (gr p n q).adj (mul m (gr p n q))).nm.tr := by
    rcases hs with z | ⟨vd, vt, hd, ht, lv⟩
    · rw [z, Int.mul_zero, Int.mul_zero] at et
      rw [(Int.mul_eq_zero.mp et).resolve_left k0]
      exact Int.dvd_zero _
    · have v2 := v1.uniq P ((hb.mul P hb).mul P (hg.mul P (hd.mul P hg)))
      have v3 := hb.mul P (hg.mul P ht)
      rw [← et] at v3
      have t0 : (mul (gr p n q).adj (mul m (gr p n q))).nm.tr ≠ 0 := fun z => v3.ne P (by rw [z, Int.mul_zero])
      obtain ⟨τ, hτ⟩ := Vl.ex P t0
      have v4 := v3.uniq P (ha.mul P hτ)
      have := (hτ.dvd P (k := 1)).mpr (by omega)
      rwa [Int.pow_one] at this
  have st : Sim (mul (gr p n q).adj (mul m (gr p n q))).nm (mul (gr p n q).adj (mul m (gr p n q))) := Sim.nm z0
  generalize (mul (gr p n q).adj (mul m (gr p n q))).nm = t at *
  obtain ⟨α, eα⟩ := pt
  obtain ⟨β, eβ, nβ⟩ := he
  rw [Int.pow_one] at eβ
  have hU : sc p ⟨α * t.a - β, α * t.b, α * t.c, α * t.d - β⟩ = mul t t := by
    unfold tr at eα
    unfold det at eβ
    unfold sc mul
    ext <;> simp only <;> grind
  have dU : (T4.mk (α * t.a - β) (α * t.b) (α * t.c) (α * t.d - β)).det = β * β := by
    have := congrArg T4.det hU
    rw [det_sc, det_mul, eβ] at this
    have p0 : p * p ≠ 0 := mne P.ne P.ne
    refine Int.eq_of_mul_eq_mul_left p0 ?_
    rw [this]
    grind
  have nU : ¬ p ∣ (T4.mk (α * t.a - β) (α * t.b) (α * t.c) (α * t.d - β)).det := by
    rw [dU]
    exact nd_mul P nβ nβ
  generalize T4.mk (α * t.a - β) (α * t.b) (α * t.c) (α * t.d - β) = U at *
  refine ⟨hq, ?_⟩
  refine (Eqp.left m h.2.symm).trans P ⟨U, nU, ?_⟩
  have s1 : Sim (mul (gr p n q) (mul t t)) (mul m (mul m (gr p n q))) := by
    refine ((Sim.refl _).mul (st.mul st)).trans ?_
    have e : mul (gr p n q) (mul (mul (gr p n q).adj (mul m (gr p n q))) (mul (gr p n q).adj (mul m (gr p n q)))) = sc ((gr p n q).det * (gr p n q).det) (mul m (mul m (gr p n q))) := by
      generalize gr p n q = x
      unfold mul adj sc det
      ext <;> simp only <;> grind
    rw [e]
    exact Sim.sc (mne g0 g0)
  refine s1.symm.trans ((Sim.refl _).mul ?_)
  rw [← hU]
  exact Sim.sc P.ne
end
end T4
end Mi
set_option Elab.async false
set_option linter.all false
set_option maxRecDepth 100000
set_option maxHeartbeats 400000
namespace Mi
namespace T4
section
variable {p : Int} (P : Pr p)
include P
/-! ## moves keep the steps -/
/-- tables that are alike but for units on both sides have sizes alike -/
theorem unit_det {x y a b : T4} (hx : x.det ≠ 0) (hy : y.det ≠ 0) (ha : ¬ p ∣ a.det) (hb : ¬ p ∣ b.det) (s : Sim x (mul (mul a y) b)) {e : Nat} (he : Vl p x.nm.det e) : Vl p y.nm.det e := by
  have a0 := nd_det ha
  have b0 := nd_det hb
  have s2 : Sim x.nm (mul (mul a y.nm) b) := (Sim.nm hx).trans (s.trans (((Sim.refl a).mul (Sim.nm hy).symm).mul (Sim.refl b)))
  obtain ⟨c, l, c0, l0, e2⟩ := s2
  obtain ⟨v, hv⟩ := Vl.ex P c0
  obtain ⟨w, hw⟩ := Vl.ex P l0
  have h1 := ct_sc P hv hw e2 (ct_ok P (ok_nm hx)) (ct_mul P hb (ct_mulL P ha (ct_ok P (ok_nm hy))))
  obtain ⟨f, hf⟩ := Vl.ex P (det_nm hy)
  have ed : c * c * x.nm.det = l * l * (a.det * y.nm.det * b.det) := by
    have := congrArg T4.det e2
    rwa [det_sc, det_sc, det_mul, det_mul] at this
  have v1 := (hv.mul P hv).mul P he
  rw [ed] at v1
  have v2 := v1.uniq P ((hw.mul P hw).mul P (((Vl.zero_iff P ha).mul P hf).mul P (Vl.zero_iff P hb)))
  have : f = e := by omega
  rw [← this]
  exact hf
/-- a move keeps the steps between two balls -/
theorem dst_iso {n m' n1 n2 : Int} {q r q1 q2 : Int × Int} {m : T4} (m0 : m.det ≠ 0) (hq : Can p n q) (hr : Can p m' r) (h1 : BT p (mul m (gr p n q)) n1 q1) (h2 : BT p (mul m (gr p m' r)) n2 q2) {c c' : Int} (C : Cn p (n, q) (m', r) c) (C' : Cn p (n1, q1) (n2, q2) c') : n1 + n2 - 2 * c' = n + m' - 2 * c := by
  have q0 : q.2 ≠ 0 := by have := hq.nf.pos; omega
  have r0 : r.2 ≠ 0 := by have := hr.nf.pos; omega
  have q10 : q1.2 ≠ 0 := by have := h1.1.nf.pos; omega
  have q20 : q2.2 ≠ 0 := by have := h2.1.nf.pos; omega
  have gq := T4.gr_det (n := n) P q0
  have gr' := T4.gr_det (n := m') P r0
  have g1 := T4.gr_det (n := n1) P q10
  have g2 := T4.gr_det (n := n2) P q20
  have z0 : (mul (gr p n q).adj (gr p m' r)).det ≠ 0 := det_mul_ne (det_adj_ne gq) gr'
  have z1 : (mul (gr p n1 q1).adj (gr p n2 q2)).det ≠ 0 := det_mul_ne (det_adj_ne g1) g2
  obtain ⟨e, he⟩ := Vl.ex P (det_nm z0)
  rw [dst_tab P hq hr C he]
  obtain ⟨u, hu, su⟩ := h1.2
  obtain ⟨v, hv, sv⟩ := h2.2
  refine dst_tab P h1.1 h2.1 C' (unit_det P (a := u.adj) (b := v) z0 z1 (by rw [det_adj]; exact hu) hv ?_ he)
  have s := su.adj.mul sv
  have e1 : mul (mul m (gr p n q)).adj (mul m (gr p m' r)) = sc m.det (mul (gr p n q).adj (gr p m' r)) := by
    generalize gr p n q = x
    generalize gr p m' r = y
    unfold mul adj sc det
    ext <;> simp only <;> grind
  have e2 : mul (mul (gr p n1 q1) u).adj (mul (gr p n2 q2) v) = mul (mul u.adj (mul (gr p n1 q1).adj (gr p n2 q2))) v := by
    rw [adj_mul]
    simp only [mul_assoc]
  rw [e1, e2] at s
  exact (Sim.sc m0).symm.trans s
end
end T4
/-! ## roads -/
section
variable {p : Int} (P : Pr p)
include P
/-- the k-th ball of the road from b to (n1, q1) -/
def Onr (p : Int) (b : Ball) (n1 : Int) (q1 : Int × Int) (c : Int) (G : Nat) (n : Int) (q : Int × Int) : Prop :=
  ((G : Int) ≤ b.1 - c ∧ n = b.1 - G ∧ Near p n b.2 q) ∨ (b.1 - c < (G : Int) ∧ (G : Int) ≤ b.1 + n1 - 2 * c ∧ n = 2 * c - b.1 + G ∧ Near p n q1 q)
theorem Onr.cn {b : Ball} {n1 n c : Int} {q1 q : Int × Int} {k : Nat} (bz : b.2.2 ≠ 0) (z1 : q1.2 ≠ 0) (qz : q.2 ≠ 0) (C : Cn p b (n1, q1) c) (h : Onr p b n1 q1 c k n q) : ∃ α β, Cn p b (n, q) α ∧ Cn p (n, q) (n1, q1) β ∧ b.1 + n - 2 * α = k ∧ n + n1 - 2 * β = b.1 + n1 - 2 * c - k := by
  have cl : c ≤ b.1 := C.l
  have cr : c ≤ n1 := C.r
  have cn : Near p c b.2 q1 := C.near
  rcases h with ⟨x, e, y⟩ | ⟨x, x', e, y⟩
  · refine ⟨n, c, ⟨by omega, Int.le_refl _, y, fun _ l => absurd l (Int.lt_irrefl _)⟩, ⟨show c ≤ n by omega, cr, (y.symm.le (by omega)).trans P cn qz bz z1, fun l m z => ?_⟩, by omega, by omega⟩
    have l' : c < n := l
    exact C.no (show c < b.1 by omega) m ((y.le (by omega)).trans P z bz qz z1)
  · refine ⟨c, n, ⟨cl, show c ≤ n by omega, cn.trans P (y.le (by omega)) bz z1 qz, fun l m z => ?_⟩, ⟨Int.le_refl _, show n ≤ n1 by omega, y.symm, fun l => absurd l (Int.lt_irrefl _)⟩, by omega, by omega⟩
    have m' : c < n := m
    exact C.no l (show c < n1 by omega) (Near.trans P z (y.symm.le (by omega)) bz qz z1)
omit P in
theorem Onr.c {b : Ball} {n1 n c : Int} {q1 q : Int × Int} {G : Nat} (h : Onr p b n1 q1 c G n q) : c ≤ n ∧ (n ≤ b.1 ∨ n ≤ n1) := by
  rcases h with ⟨x, e, _⟩ | ⟨x, y, e, _⟩
  · exact ⟨by omega, .inl (by omega)⟩
  · exact ⟨by omega, .inr (by omega)⟩
/-- a ball is on a road where its steps to both ends are no more than the road has -/
theorem Onr.of {b : Ball} {n1 n c α β : Int} {q1 q : Int × Int} (bz : b.2.2 ≠ 0) (z1 : q1.2 ≠ 0) (qz : q.2 ≠ 0) (C : Cn p b (n1, q1) c) (A : Cn p b (n, q) α) (B : Cn p (n, q) (n1, q1) β) {k : Nat} (ha : b.1 + n - 2 * α = k) (hb : n + n1 - 2 * β = b.1 + n1 - 2 * c - k) : Onr p b n1 q1 c k n q := by
  have a1 : α ≤ b.1 := A.l
  have a2 : α ≤ n := A.r
  have b1 : β ≤ n := B.l
  have b2 : β ≤ n1 := B.r
  have cl : c ≤ b.1 := C.l
  have cr : c ≤ n1 := C.r
  have u := Cn.ultra P bz qz z1 A B C
  by_cases z : α = n
  · left
    refine ⟨by omega, by omega, ?_⟩
    have := A.near
    rw [z] at this
    exact this
  · right
    have eb : β = n := by omega
    refine ⟨by omega, by omega, by omega, ?_⟩
    have := B.near
    rw [eb] at this
    exact Near.symm this
/-- no ball is farther than by way of another one -/
theorem tri {a b d : Ball} {α β γ : Int} (az : a.2.2 ≠ 0) (bz : b.2.2 ≠ 0) (dz : d.2.2 ≠ 0) (A : Cn p a b α) (B : Cn p b d β) (C : Cn p a d γ) : a.1 + d.1 - 2 * γ ≤ (a.1 + b.1 - 2 * α) + (b.1 + d.1 - 2 * β) := by
  have u := Cn.ultra P az bz dz A B C
  have := A.r
  have := B.l
  omega
end
end Mi
set_option Elab.async false
set_option linter.all false
set_option maxRecDepth 100000
set_option maxHeartbeats 1000000
namespace Mi
section
variable {p : Int} (P : Pr p)
include P
/-! ## a pair of neighbours that is exchanged is the only one -/
theorem cn_zero {a b : Ball} (ha : Can p a.1 a.2) (hb : Can p b.1 b.2) {c : Int} (C : Cn p a b c) (z : a.1 + b.1 - 2 * c = 0) : a = b := by
  have l1 := C.l
  have l2 := C.r
  obtain ⟨n, q⟩ := a
  obtain ⟨n', q'⟩ := b
  have l1' : c ≤ n := l1
  have l2' : c ≤ n' := l2
  have z' : n + n' - 2 * c = 0 := z
  have e1 : n' = n := by omega
  have e2 : c = n := by omega
  have y := C.near
  subst e1
  subst e2
  have e : q = q' := ha.uniq P hb (show Near p c q q' from y)
  rw [e]
theorem swap_uniq {a a' c c' : Ball} (ha : Can p a.1 a.2) (ha' : Can p a'.1 a'.2) (hc : Can p c.1 c.2) (hc' : Can p c'.1 c'.2) {α γ x x' y y' : Int} (A : Cn p a a' α) (G : Cn p c c' γ) (X : Cn p a c x) (X' : Cn p a' c' x') (Y : Cn p a c' y) (Y' : Cn p a' c y') (hA : a.1 + a'.1 - 2 * α = 1) (hG : c.1 + c'.1 - 2 * γ = 1) (iX : a.1 + c.1 - 2 * x = a'.1 + c'.1 - 2 * x') (iY : a.1 + c'.1 - 2 * y = a'.1 + c.1 - 2 * y') : (a = c ∧ a' = c') ∨ (a = c' ∧ a' = c) := by
  have az : a.2.2 ≠ 0 := by have := ha.nf.pos; omega
  have az' : a'.2.2 ≠ 0 := by have := ha'.nf.pos; omega
  have cz : c.2.2 ≠ 0 := by have := hc.nf.pos; omega
  have cz' : c'.2.2 ≠ 0 := by have := hc'.nf.pos; omega
  have u1 := Cn.ultra P az az' cz A Y' X
  have u2 := Cn.ultra P az' az cz (A.symm P) X Y'
  have u3 := Cn.ultra P az cz az' X (Y'.symm P) A
  have u4 := Cn.ultra P az az' cz' A X' Y
  have u5 := Cn.ultra P az' az cz' (A.symm P) Y X'
  have u6 := Cn.ultra P az cz' az' Y (X'.symm P) A
  have u7 := Cn.ultra P az cz cz' X G Y
  have u8 := Cn.ultra P az cz' cz Y (G.symm P) X
  have u9 := Cn.ultra P cz az cz' (X.symm P) Y G
  have v1 := Cn.ultra P az' cz cz' Y' G X'
  have v2 := Cn.ultra P az' cz' cz X' (G.symm P) Y'
  have v3 := Cn.ultra P cz az' cz' (Y'.symm P) X' G
  have l1 := X.l
  have l2 := X.r
  have l3 := Y.l
  have l4 := Y.r
  have l5 := X'.l
  have l6 := X'.r
  have l7 := Y'.l
  have l8 := Y'.r
  have : a.1 + c.1 - 2 * x = 0 ∨ a.1 + c'.1 - 2 * y = 0 := by
    clear A G X X' Y Y' ha ha' hc hc' az az' cz cz'
    omega
  rcases this with z | z
  · exact .inl ⟨cn_zero P ha hc X z, cn_zero P ha' hc' X' (by omega)⟩
  · exact .inr ⟨cn_zero P ha hc' Y z, cn_zero P ha' hc Y' (by omega)⟩
end
end Mi
set_option Elab.async false
set_option linter.all false
set_option maxRecDepth 100000
set_option maxHeartbeats 4000000
set_option exponentiation.threshold 30000
namespace Mi
open PySem PySem.Spec PyProof.Rows L2
/-! ## what may be shown, with greater numbers -/
mutual
def D.sb : D → Bool
  | .non => true
  | .bl _ => true
  | .int i => decide (i.natAbs < 2 ^ 900)
  | .str x => x.cps.toList.all fun c => decide (c < 16 ^ 8)
  | .tup xs => D.sbs xs
  | .lst xs => D.sbs xs
  | .fro xs => D.sbs xs
  | .emp => true
  | .ref _ => true
  | .oth _ => true
def D.sbs : List D → Bool
  | [] => true
  | x :: xs => D.sb x && D.sbs xs
end
mutual
def D.wb : D → Nat
  | .non => 0
  | .bl _ => 0
  | .int _ => 900
  | .str x => x.cps.size
  | .tup xs => D.wbs xs
  | .lst xs => D.wbs xs
  | .fro xs => D.wbs xs
  | .emp => 0
  | .ref _ => 0
  | .oth _ => 0
def D.wbs : List D → Nat
  | [] => 0
  | x :: xs => D.wb x + 1 + D.wbs xs
end
theorem log900 {i : Int} (h : i.natAbs < 2 ^ 900) : i.natAbs.log2 < 900 := log_lt h (by decide)
mutual
theorem D.sb_ok : ∀ d : D, d.sb = true → d.p.leavesShort 1000 = true ∧ d.p.showable = true ∧ d.p.weight ≤ d.wb
  | .non, _ => ⟨rfl, rfl, Nat.le_refl _⟩
  | .bl _, _ => ⟨rfl, rfl, Nat.le_refl _⟩
  | .int i, h => by
    have h := of_decide_eq_true h
    have l := log900 h
    refine ⟨?_, ?_, ?_⟩
    · show decide ((PyData.shown (.int i)).length ≤ 1000) = true
      refine decide_eq_true ?_
      have := int_text_length_le (a := i) (k := 900) (by decide) l
      refine Nat.le_trans ?_ (Nat.le_trans this (by decide))
      show (Str.ofString (toString i)).length ≤ _
      rw [PyProof.Rows.ofString_len]
      exact Nat.le_refl _
    · show decide (i.natAbs.log2 < 1920) = true
      exact decide_eq_true (by omega)
    · show (if i == 0 then 0 else i.natAbs.log2 + 1) ≤ 900
      split <;> omega
  | .str x, h => ⟨h, rfl, Nat.le_refl _⟩
  | .tup xs, h => by
    obtain ⟨a, b, c⟩ := D.sbs_ok xs h
    exact ⟨a, b, c⟩
  | .lst xs, h => by
    obtain ⟨a, b, c⟩ := D.sbs_ok xs h
    exact ⟨a, b, c⟩
  | .fro xs, h => by
    obtain ⟨a, b, c⟩ := D.sbs_ok xs h
    exact ⟨a, b, c⟩
  | .emp, _ => ⟨rfl, rfl, Nat.le_refl _⟩
  | .ref _, _ => ⟨rfl, rfl, Nat.le_refl _⟩
  | .oth _, _ => ⟨rfl, rfl, Nat.le_refl _⟩
theorem D.sbs_ok : ∀ ds : List D, D.sbs ds = true → PyData.leavesShortAll 1000 (D.ps ds) = true ∧ PyData.showableAll (D.ps ds) = true ∧ PyData.weightAll (D.ps ds) ≤ D.wbs ds
  | [], _ => ⟨rfl, rfl, Nat.le_refl _⟩
  | x :: xs, h => by
    have h' := Bool.and_eq_true_iff.mp h
    obtain ⟨a, b, c⟩ := D.sb_ok x h'.1
    obtain ⟨a2, b2, c2⟩ := D.sbs_ok xs h'.2
    refine ⟨?_, ?_, ?_⟩
    · show (PyData.leavesShort 1000 x.p && PyData.leavesShortAll 1000 (D.ps xs)) = true
      rw [a, a2]; rfl
    · show (PyData.showable x.p && PyData.showableAll (D.ps xs)) = true
      rw [b, b2]; rfl
    · show PyData.weight x.p + 1 + PyData.weightAll (D.ps xs) ≤ D.wb x + 1 + D.wbs xs
      omega
end
structure ShB (d : D) : Prop where
  f : (d.flat || d.shw) = true
  s : d.sb = true
  w : decide (d.wb ≤ 16000) = true
  t : decide (d.dpt ≤ 60) = true
theorem ShB.ok {d : D} (h : ShB d) : okShow d = true := by
  obtain ⟨a, b, c⟩ := D.sb_ok d h.s
  have l := PyData.shown_le 1000 (by decide) d.p a
  have w := of_decide_eq_true h.w
  have t := of_decide_eq_true h.t
  have t2 := D.dpt_ok d
  have l2 : d.p.shown.length ≤ sizeLine := by
    rw [sl]
    have : (1000 + 2) * d.p.weight ≤ (1000 + 2) * 16000 := Nat.mul_le_mul_left _ (by omega)
    omega
  unfold okShow
  rw [h.f, b, decide_eq_true l2, decide_eq_true (show d.p.depth ≤ 60 by omega)]
  rfl
end Mi
set_option Elab.async false
set_option linter.all false
set_option maxRecDepth 100000
set_option maxHeartbeats 400000
namespace Mi
namespace T4
section
variable {p : Int} (P : Pr p)
include P
/-! ## balls about the first one -/
/-- the move is a number but for what p to the n divides, and p does not divide its size -/
structure Deep (p : Int) (m : T4) (n : Nat) : Prop where
  det : ¬ p ∣ m.det
  b : p ^ n ∣ m.b
  c : p ^ n ∣ m.c
  d : p ^ n ∣ m.a - m.d
theorem gr_first : gr p 0 (0, 1) = one := by
  rw [gr_eq]
  unfold up one
  simp
/-- such a move keeps all balls at most n steps from the first one -/
theorem deep_keeps {m : T4} {n : Nat} (h : Deep p m n) {x : Int} {q : Int × Int} (hq : Can p x q) {c : Int} (C : Cn p (0, (0, 1)) (x, q) c) (hk : x - 2 * c ≤ n) : Eqp p (mul m (gr p x q)) (gr p x q) := by
  have c1 : c ≤ 0 := C.l
  have c2 : c ≤ x := C.r
  have near : Near p c (0, 1) q := C.near
  obtain ⟨w1, w2, u1, u2, nd, f⟩ := road_of P (can_nil P 0) hq C
  obtain ⟨k, ek⟩ : ∃ k : Nat, x - 2 * c = (k : Nat) := ⟨(x - 2 * c).toNat, by omega⟩
  have bt : BT p (mul (gr p 0 (0, 1)) (cols w1 w2 u1 u2 (p ^ k))) x q := by
    refine f k x q hq ?_
    by_cases a : c = x
    · exact .inl ⟨by omega, by omega, by rw [← a]; exact near⟩
    · exact .inr ⟨by omega, by omega, by omega, Near.refl _ _⟩
  rw [gr_first P, one_mul] at bt
  have e := bt.2
  generalize gr p x q = g at *
  have key : Eqp p (mul m (cols w1 w2 u1 u2 (p ^ k))) (cols w1 w2 u1 u2 (p ^ k)) := by
    obtain ⟨b', hb⟩ := h.b
    obtain ⟨c', hc⟩ := h.c
    obtain ⟨d', hd⟩ := h.d
    have kn : k ≤ n := by omega
    have en : p ^ n = p ^ k * p ^ (n - k) := by rw [← Int.pow_add, show k + (n - k) = n by omega]
    have Δ0 : w1 * u2 - u1 * w2 ≠ 0 := fun z => nd (by rw [z]; exact Int.dvd_zero _)
    have hy : (cols w1 w2 u1 u2 (p ^ k)).det ≠ 0 := by
      have : (cols w1 w2 u1 u2 (p ^ k)).det = p ^ k * (w1 * u2 - u1 * w2) := by unfold cols det; simp only; generalize p ^ k = A; grind
      rw [this]
      exact mne (P.pw k) Δ0
    have pk := P.pw k
    refine eqp_of (u := ⟨u2 * (m.a * w1 + m.b * w2) - u1 * (m.c * w1 + m.d * w2), p ^ k * (u2 * (m.a * u1 + m.b * u2) - u1 * (m.c * u1 + m.d * u2)), p ^ (n - k) * (w1 * (c' * w1 - d' * w2) - w2 * (b' * w2)), w1 * (m.c * u1 + m.d * u2) - w2 * (m.a * u1 + m.b * u2)⟩) (k := 1) (l := p ^ k) hy (by decide) pk ?_ ?_
    · have ed : (T4.mk (u2 * (m.a * w1 + m.b * w2) - u1 * (m.c * w1 + m.d * w2)) (p ^ k * (u2 * (m.a * u1 + m.b * u2) - u1 * (m.c * u1 + m.d * u2))) (p ^ (n - k) * (w1 * (c' * w1 - d' * w2) - w2 * (b' * w2))) (w1 * (m.c * u1 + m.d * u2) - w2 * (m.a * u1 + m.b * u2))).det = (w1 * u2 - u1 * w2) * (w1 * u2 - u1 * w2) * m.det := by
        have e1 : p ^ k * (u2 * (m.a * u1 + m.b * u2) - u1 * (m.c * u1 + m.d * u2)) * (p ^ (n - k) * (w1 * (c' * w1 - d' * w2) - w2 * (b' * w2))) = (u2 * (m.a * u1 + m.b * u2) - u1 * (m.c * u1 + m.d * u2)) * (w1 * (m.c * w1 - (m.a - m.d) * w2) - w2 * (m.b * w2)) := by
          rw [hb, hc, hd, en]
          generalize p ^ k = A
          generalize p ^ (n - k) = B
          grind
        unfold det
        simp only
        rw [e1]
        grind
      rw [ed]
      exact nd_mul P (nd_mul P nd nd) h.det
    · have e3 : w1 * (m.c * w1 + m.d * w2) - w2 * (m.a * w1 + m.b * w2) = p ^ k * (p ^ (n - k) * (w1 * (c' * w1 - d' * w2) - w2 * (b' * w2))) := by
        have e4 : w1 * (m.c * w1 + m.d * w2) - w2 * (m.a * w1 + m.b * w2) = w1 * (m.c * w1) - w1 * ((m.a - m.d) * w2) - w2 * (m.b * w2) := by grind
        rw [e4, hb, hc, hd, en]
        generalize p ^ k = A
        generalize p ^ (n - k) = B
        grind
      unfold cols sc mul adj
      simp only [T4.mk.injEq]
      refine ⟨?_, ?_, ?_, ?_⟩
      · generalize p ^ k = A; grind
      · generalize p ^ k = A; grind
      · rw [← e3]; grind
      · generalize p ^ k = A; grind
  have m1 : Eqp p (mul m g) (mul m (cols w1 w2 u1 u2 (p ^ k))) := Eqp.left m e.symm
  exact m1.trans P (key.trans P e)
end
end T4
end Mi
set_option Elab.async false
set_option linter.all false
set_option maxRecDepth 100000
set_option maxHeartbeats 400000
namespace Mi
namespace T4
section
variable {p : Int} (P : Pr p)
include P
theorem fac_eq {m x u : T4} (h0 : ¬ p ∣ m.det) (hu : ¬ p ∣ u.det) (hx : x.det ≠ 0) {k l : Int} (k0 : k ≠ 0) (l0 : l ≠ 0) (e : sc k (mul m x) = sc l (mul x u)) {v w : Nat} (hv : Vl p k v) (hw : Vl p l w) : v = w := by
  have ed : k * k * (m.det * x.det) = l * l * (x.det * u.det) := by
    have := congrArg T4.det e
    rwa [det_sc, det_sc, det_mul, det_mul] at this
  obtain ⟨d, hd⟩ := Vl.ex P hx
  have v1 := (hv.mul P hv).mul P ((Vl.zero_iff P h0).mul P hd)
  rw [ed] at v1
  have := v1.uniq P ((hw.mul P hw).mul P (hd.mul P (Vl.zero_iff P hu)))
  omega
/-- a move that keeps the balls n steps up and down, towards 0 and towards 1, and the first one, is such a one -/
theorem deep_of {m : T4} {n : Nat} (h0 : ¬ p ∣ m.det) (h1 : Eqp p (mul m (up (p ^ n) 0 1)) (up (p ^ n) 0 1)) (h2 : Eqp p (mul m (up 1 0 (p ^ n))) (up 1 0 (p ^ n))) (h3 : Eqp p (mul m (up (p ^ n) 1 1)) (up (p ^ n) 1 1)) : Deep p m n := by
  have pn := P.pw n
  have nz : ∀ {a b d : Int}, a ≠ 0 → d ≠ 0 → (up a b d).det ≠ 0 := fun ha hd => by rw [det_up]; exact mne ha hd
  have red : ∀ {k l x y : Int} {v : Nat}, Vl p k v → Vl p l v → k * x = l * (p ^ n * y) → p ^ n ∣ x := fun {k l x y v} hk hl e => by
    have := dvd_scale P hl hk (j := n) (x := p ^ n * y) (y := x) e.symm (Int.dvd_mul_right _ _)
    rwa [show n + v - v = n by omega] at this
  have hb : p ^ n ∣ m.b := by
    obtain ⟨u, hu, k, l, k0, l0, e⟩ := h1
    obtain ⟨v, hv⟩ := Vl.ex P k0
    obtain ⟨w, hw⟩ := Vl.ex P l0
    have := fac_eq P h0 hu (nz pn (by decide)) k0 l0 e hv hw
    subst this
    have e2 : k * (m.a * 0 + m.b * 1) = l * (p ^ n * u.b + 0 * u.d) := congrArg T4.b e
    rw [Int.mul_zero, Int.zero_add, Int.mul_one, Int.zero_mul, Int.add_zero] at e2
    exact red hv hw e2
  have hc : p ^ n ∣ m.c := by
    obtain ⟨u, hu, k, l, k0, l0, e⟩ := h2
    obtain ⟨v, hv⟩ := Vl.ex P k0
    obtain ⟨w, hw⟩ := Vl.ex P l0
    have := fac_eq P h0 hu (nz (by decide) pn) k0 l0 e hv hw
    subst this
    have e2 : k * (m.c * 1 + m.d * 0) = l * (0 * u.a + p ^ n * u.c) := congrArg T4.c e
    rw [Int.mul_zero, Int.add_zero, Int.mul_one, Int.zero_mul, Int.zero_add] at e2
    exact red hv hw e2
  refine ⟨h0, hb, hc, ?_⟩
  have hs : p ^ n ∣ m.a + m.b - (m.c + m.d) := by
    obtain ⟨u, hu, k, l, k0, l0, e⟩ := h3
    obtain ⟨v, hv⟩ := Vl.ex P k0
    obtain ⟨w, hw⟩ := Vl.ex P l0
    have := fac_eq P h0 hu (nz pn (by decide)) k0 l0 e hv hw
    subst this
    have e2 : k * (m.a * 1 + m.b * 1) = l * (p ^ n * u.b + 1 * u.d) := congrArg T4.b e
    have e3 : k * (m.c * 1 + m.d * 1) = l * (0 * u.b + 1 * u.d) := congrArg T4.d e
    have e4 : k * (m.a + m.b - (m.c + m.d)) = l * (p ^ n * u.b) := by
      rw [Int.mul_sub, show m.a + m.b = m.a * 1 + m.b * 1 by omega, show m.c + m.d = m.c * 1 + m.d * 1 by omega, e2, e3]
      generalize p ^ n = A
      grind
    exact red hv hw e4
  have : m.a - m.d = (m.a + m.b - (m.c + m.d)) - m.b + m.c := by omega
  rw [this]
  exact Int.dvd_add (Int.dvd_sub hs hb) hc
end
end T4
end Mi
set_option Elab.async false
set_option linter.all false
set_option maxRecDepth 100000
set_option maxHeartbeats 400000
namespace Mi
namespace T4
section
variable {p : Int} (P : Pr p)
include P
/-- such a move keeps what lies k steps on some road from the first ball -/
theorem deep_cols {m : T4} {n : Nat} (h : Deep p m n) {w1 w2 u1 u2 : Int} (nd : ¬ p ∣ w1 * u2 - u1 * w2) {k : Nat} (kn : k ≤ n) : Eqp p (mul m (cols w1 w2 u1 u2 (p ^ k))) (cols w1 w2 u1 u2 (p ^ k)) := by
  obtain ⟨b', hb⟩ := h.b
  obtain ⟨c', hc⟩ := h.c
  obtain ⟨d', hd⟩ := h.d
  have en : p ^ n = p ^ k * p ^ (n - k) := by rw [← Int.pow_add, show k + (n - k) = n by omega]
  have Δ0 : w1 * u2 - u1 * w2 ≠ 0 := fun z => nd (by rw [z]; exact Int.dvd_zero _)
  have hy : (cols w1 w2 u1 u2 (p ^ k)).det ≠ 0 := by
    have : (cols w1 w2 u1 u2 (p ^ k)).det = p ^ k * (w1 * u2 - u1 * w2) := by unfold cols det; simp only; generalize p ^ k = A; grind
    rw [this]
    exact mne (P.pw k) Δ0
  have pk := P.pw k
  refine eqp_of (u := ⟨u2 * (m.a * w1 + m.b * w2) - u1 * (m.c * w1 + m.d * w2), p ^ k * (u2 * (m.a * u1 + m.b * u2) - u1 * (m.c * u1 + m.d * u2)), p ^ (n - k) * (w1 * (c' * w1 - d' * w2) - w2 * (b' * w2)), w1 * (m.c * u1 + m.d * u2) - w2 * (m.a * u1 + m.b * u2)⟩) (k := 1) (l := p ^ k) hy (by decide) pk ?_ ?_
  · have ed : (T4.mk (u2 * (m.a * w1 + m.b * w2) - u1 * (m.c * w1 + m.d * w2)) (p ^ k * (u2 * (m.a * u1 + m.b * u2) - u1 * (m.c * u1 + m.d * u2))) (p ^ (n - k) * (w1 * (c' * w1 - d' * w2) - w2 * (b' * w2))) (w1 * (m.c * u1 + m.d * u2) - w2 * (m.a * u1 + m.b * u2))).det = (w1 * u2 - u1 * w2) * (w1 * u2 - u1 * w2) * m.det := by
      have e1 : p ^ k * (u2 * (m.a * u1 + m.b * u2) - u1 * (m.c * u1 + m.d * u2)) * (p ^ (n - k) * (w1 * (c' * w1 - d' * w2) - w2 * (b' * w2))) = (u2 * (m.a * u1 + m.b * u2) - u1 * (m.c * u1 + m.d * u2)) * (w1 * (m.c * w1 - (m.a - m.d) * w2) - w2 * (m.b * w2)) := by
        rw [hb, hc, hd, en]
        generalize p ^ k = A
        generalize p ^ (n - k) = B
        grind
      unfold det
      simp only
      rw [e1]
      grind
    rw [ed]
    exact nd_mul P (nd_mul P nd nd) h.det
  · have e3 : w1 * (m.c * w1 + m.d * w2) - w2 * (m.a * w1 + m.b * w2) = p ^ k * (p ^ (n - k) * (w1 * (c' * w1 - d' * w2) - w2 * (b' * w2))) := by
      have e4 : w1 * (m.c * w1 + m.d * w2) - w2 * (m.a * w1 + m.b * w2) = w1 * (m.c * w1) - w1 * ((m.a - m.d) * w2) - w2 * (m.b * w2) := by grind
      rw [e4, hb, hc, hd, en]
      generalize p ^ k = A
      generalize p ^ (n - k) = B
      grind
    unfold cols sc mul adj
    simp only [T4.mk.injEq]
    refine ⟨?_, ?_, ?_, ?_⟩
    · generalize p ^ k = A; grind
    · generalize p ^ k = A; grind
    · rw [← e3]; grind
    · generalize p ^ k = A; grind
/-- a move told at a ball as t, which is deep by v, keeps all balls at most v steps from it -/
theorem deep_near {m t : T4} {n0 : Int} {q0 : Int × Int} (hb : Can p n0 q0) (s : Sim (mul (gr p n0 q0) t) (mul m (gr p n0 q0))) {v : Nat} (h : Deep p t v) {x : Int} {q : Int × Int} (hq : Can p x q) {c : Int} (C : Cn p (n0, q0) (x, q) c) (hk : n0 + x - 2 * c ≤ v) : Eqp p (mul m (gr p x q)) (gr p x q) := by
  have c1 : c ≤ n0 := C.l
  have c2 : c ≤ x := C.r
  have near : Near p c q0 q := C.near
  obtain ⟨w1, w2, u1, u2, nd, f⟩ := road_of P hb hq C
  obtain ⟨k, ek⟩ : ∃ k : Nat, n0 + x - 2 * c = (k : Nat) := ⟨(n0 + x - 2 * c).toNat, by omega⟩
  have bt : BT p (mul (gr p n0 q0) (cols w1 w2 u1 u2 (p ^ k))) x q := by
    refine f k x q hq ?_
    by_cases a : c = x
    · exact .inl ⟨by omega, by omega, by rw [← a]; exact near⟩
    · exact .inr ⟨by omega, by omega, by omega, Near.refl _ _⟩
  have e := bt.2
  have key := deep_cols P h nd (k := k) (by omega)
  have m1 : Eqp p (mul m (gr p x q)) (mul m (mul (gr p n0 q0) (cols w1 w2 u1 u2 (p ^ k)))) := Eqp.left m e.symm
  refine m1.trans P ?_
  rw [← mul_assoc]
  have s2 : Sim (mul (mul m (gr p n0 q0)) (cols w1 w2 u1 u2 (p ^ k))) (mul (mul (gr p n0 q0) t) (cols w1 w2 u1 u2 (p ^ k))) := Sim.mul s.symm (Sim.refl _)
  refine (Eqp.sim P s2).trans P ?_
  rw [mul_assoc]
  exact (Eqp.left _ key).trans P e
/-- and one that keeps the three balls v steps away is deep by v -/
theorem deep_back {m t : T4} {n0 : Int} {q0 : Int × Int} (q00 : q0.2 ≠ 0) (s : Sim (mul (gr p n0 q0) t) (mul m (gr p n0 q0))) (ht : ¬ p ∣ t.det) {v : Nat} (h : ∀ u, (u = up (p ^ v) 0 1 ∨ u = up 1 0 (p ^ v) ∨ u = up (p ^ v) 1 1) → Eqp p (mul m (mul (gr p n0 q0) u)) (mul (gr p n0 q0) u)) : Deep p t v := by
  have g0 : (gr p n0 q0).det ≠ 0 := gr_det P q00
  have a0 : (gr p n0 q0).adj.det ≠ 0 := det_adj_ne g0
  have one : ∀ u, (u = up (p ^ v) 0 1 ∨ u = up 1 0 (p ^ v) ∨ u = up (p ^ v) 1 1) → Eqp p (mul t u) u := fun u hu => by
    have e := h u hu
    generalize gr p n0 q0 = g at *
    have can : ∀ y : T4, Sim (mul g.adj (mul g y)) y := fun y => by
      have e1 : mul g.adj (mul g y) = sc g.det y := by rw [← mul_assoc, adj_mul_self, sc_mul_l, one_mul]
      rw [e1]
      exact Sim.sc g0
    have e2 := Eqp.left g.adj e
    have s2 : Sim (mul t u) (mul g.adj (mul m (mul g u))) := by
      refine (can (mul t u)).symm.trans ?_
      refine Sim.mul (Sim.refl _) ?_
      rw [← mul_assoc, ← mul_assoc]
      exact Sim.mul s (Sim.refl _)
    exact (Eqp.sim P s2).trans P (e2.trans P (Eqp.sim P (can u)))
  exact deep_of P ht (one _ (.inl rfl)) (one _ (.inr (.inl rfl))) (one _ (.inr (.inr rfl)))
end
end T4
section
variable {p : Int} (P : Pr p)
include P
/-- of a fraction with a power of p below there is a ball with any number -/
theorem can_any {m n : Int} {q : Int × Int} (h : Can p m q) : ∃ r, Can p n r ∧ Near p n q r := by
  obtain ⟨j, ej, _⟩ := h.low
  have hv : Vl p q.2 j := by rw [ej]; exact Vl.pw P j
  by_cases l : n + j ≤ 0
  · exact ⟨(0, 1), can_nil P n, near_nil P hv l⟩
  · obtain ⟨k, ek⟩ : ∃ k : Nat, n + j = (k : Nat) := ⟨(n + j).toNat, by omega⟩
    have c := can_of P (n := n) (x := q) (w := j) (k := k) (u := 1) (t := q.1 % p ^ k) (by rw [ej, Int.mul_one]) (T4.nd_one P) ek (by omega) (Int.emod_nonneg _ (P.pw k)) (Int.emod_lt_of_pos _ (P.pos k)) (by rw [Int.mul_one]; exact ⟨q.1 / p ^ k, by have := Int.mul_ediv_add_emod q.1 (p ^ k); omega⟩)
    exact ⟨_, c.1, c.2.1⟩
end
end Mi
set_option Elab.async false
set_option linter.all false
set_option maxRecDepth 100000
namespace Mi
open PySem PySem.Spec PyProof.Rows L2
/-! ## balls shown alike are alike -/
theorem split_at {c : Nat} : ∀ {A A' B B' : List Nat}, c ∉ A → c ∉ A' → A ++ c :: B = A' ++ c :: B' → A = A' ∧ B = B'
  | [], [], B, B', _, _, h => by
    injection h with _ h
    exact ⟨rfl, h⟩
  | [], x :: A', B, B', _, n, h => by
    injection h with h _
    exact absurd (h ▸ List.mem_cons_self ..) n
  | x :: A, [], B, B', n, _, h => by
    injection h with h _
    exact absurd (h ▸ List.mem_cons_self ..) n
  | x :: A, y :: A', B, B', n, n', h => by
    injection h with h1 h2
    obtain ⟨e1, e2⟩ := split_at (fun m => n (List.mem_cons_of_mem _ m)) (fun m => n' (List.mem_cons_of_mem _ m)) h2
    exact ⟨by rw [h1, e1], e2⟩
abbrev txt (i : Int) : List Nat := (Str.ofString (toString i)).cps.toList
theorem txt_inj {a b : Int} (ha : 0 ≤ a) (hb : 0 ≤ b) (h : txt a = txt b) : a = b := by
  obtain ⟨m, rfl⟩ := Int.eq_ofNat_of_zero_le ha
  obtain ⟨k, rfl⟩ := Int.eq_ofNat_of_zero_le hb
  have h' := h
  unfold txt at h'
  rw [PySem.W.KIN.signs_num, PySem.W.KIN.signs_num] at h'
  have := congrArg (PySem.NumText.digitsVal) h'
  rw [PySem.W.KIN.val_back, PySem.W.KIN.val_back] at this
  rw [this]
theorem pair_text (x y : PyData) : (PyData.tuple [x, y]).shown.cps.toList = 40 :: (x.shown.cps.toList ++ 44 :: 32 :: (y.shown.cps.toList ++ [41])) := by
  rw [PyData.shown_tuple]
  show (("(" : Str) ++ (x.shown ++ (", " : Str) ++ y.shown) ++ (")" : Str)).cps.toList = _
  rw [Str.cps_append, Array.toList_append, Str.cps_append, Array.toList_append, Str.cps_append, Array.toList_append, Str.cps_append, Array.toList_append]
  show [40] ++ (x.shown.cps.toList ++ [44, 32] ++ y.shown.cps.toList) ++ [41] = _
  simp only [List.append_assoc, List.cons_append, List.nil_append]
theorem shown_bl {n a b a' b' : Int} (ha : 0 ≤ a) (ha' : 0 ≤ a') (hb : 0 ≤ b) (hb' : 0 ≤ b') (h : (D.tup [.int n, .tup [.int a, .int b]]).p.shown = (D.tup [.int n, .tup [.int a', .int b']]).p.shown) : a = a' ∧ b = b' := by
  have h1 : (PyData.tuple [.int n, .tuple [.int a, .int b]]).shown.cps.toList = (PyData.tuple [.int n, .tuple [.int a', .int b']]).shown.cps.toList := congrArg (fun s : Str => s.cps.toList) h
  rw [pair_text, pair_text, pair_text, pair_text] at h1
  injection h1 with _ h1
  have h2 := List.append_cancel_left h1
  injection h2 with _ h2
  injection h2 with _ h2
  have h3 := List.append_cancel_right h2
  injection h3 with _ h3
  have h4 : txt a ++ 44 :: 32 :: (txt b ++ [41]) = txt a' ++ 44 :: 32 :: (txt b' ++ [41]) := h3
  obtain ⟨e1, e2⟩ := split_at (fun m => (intText_free_44 a).mp m) (fun m => (intText_free_44 a').mp m) h4
  injection e2 with _ e2
  exact ⟨txt_inj ha ha' e1, txt_inj hb hb' (List.append_cancel_right e2)⟩
end Mi
set_option Elab.async false
set_option linter.all false
set_option maxRecDepth 100000
set_option maxHeartbeats 400000
set_option exponentiation.threshold 30000
namespace Law
open PySem PySem.Spec PyProof.Rows L2 Mi
local macro_rules | `(tactic| array_get_dec) => `(tactic| first
  | (with_reducible refine wq_sPs ?_)
  | ((with_reducible refine wq_eV (d := ?d) ?e ?_); (case e => exact rfl))
  | (with_reducible refine wq_eC ?_)
  | (with_reducible refine wq_e2 ?_)
  | (with_reducible refine wq_eL ?_)
  | (with_reducible refine wq_esC ?_)
  | (with_reducible refine wq_esN ?_)
  | (with_reducible refine wq_e1 ?_)
  | (with_reducible refine wq_eCall ?_)
  | (with_reducible refine KS.nx ?_; (try simp only [List.set_cons_succ, List.set_cons_zero]))
  | (with_reducible refine KS.rt ?_)
  | (with_reducible refine wq_sSet ?_)
  | (with_reducible refine wq_sIf ?_)
  | (with_reducible refine wq_sRt ?_)
  | (with_reducible refine wq_tV ?_)
  | (with_reducible refine wq_tN ?_)
  | (with_reducible refine wq_tA ?_)
  | (with_reducible refine wq_tO ?_)
  | (with_reducible refine wq_tI ?_)
  | (with_reducible refine wq_tYs ?_)
  | (with_reducible refine wq_eI ?_)
  | (with_reducible refine wq_eA ?_)
  | (with_reducible refine wq_eO ?_)
  | (with_reducible refine wq_eCh ?_)
  | (with_reducible refine wq_add ?_)
  | (with_reducible refine wq_sub ?_)
  | (with_reducible refine wq_lt ?_)
  | (with_reducible refine wq_le ?_)
  | (with_reducible refine wq_gt ?_)
  | (with_reducible refine wq_ge ?_)
  | (with_reducible refine wq_eqI ?_)
  | (with_reducible refine wq_neI ?_)
  | (with_reducible refine wq_neSame ?_)
  | (with_reducible refine wq_neg ?_)
  | (with_reducible refine wq_not ?_)
  | (with_reducible refine wq_and ?_)
  | (with_reducible refine wq_tupD (le5 rfl) ?_)
  | (with_reducible refine wq_lstD (le5 rfl) ?_)
  | ((with_reducible refine wq_ixT (d := ?d) ?e ?_); (case e => exact rfl))
  | ((with_reducible refine wq_ixL (d := ?d) ?e ?_); (case e => exact rfl))
  | (with_reducible refine wq_lenT ?_)
  | (with_reducible refine wq_lenL ?_)
  | (with_reducible refine wq_int ?_)
  | (with_reducible refine wq_gcd ?_)
  | (with_reducible refine wq_gcd4 ?_)
  | (with_reducible refine wq_tupT ?_)
  | (with_reducible refine wq_tupL ?_)
  | (with_reducible refine wq_lstT ?_)
  | (with_reducible refine wq_lstL ?_)
  | (with_reducible refine wq_revL ?_)
  | (with_reducible refine wq_sNx ?_)
  | (with_reducible refine wq_sEx ?_)
  | (with_reducible refine wq_sRtN ?_)
  | (with_reducible refine wq_sAsg ?_)
  | (with_reducible refine wq_sPar2 ?_)
  | (with_reducible refine wq_sPar3 ?_)
  | (with_reducible refine wq_gN ?_)
  | (with_reducible refine wq_gsN ?_)
  | (with_reducible refine wq_gsC ?_)
  | (with_reducible refine wq_gT rfl ?_)
  | (with_reducible refine wq_gLs rfl ?_)
  | (with_reducible refine wq_iOf ?_)
  | (with_reducible refine wq_iOfs ?_)
  | (with_reducible refine wq_itL ?_)
  | (with_reducible refine wq_itT ?_)
  | (with_reducible refine wq_itAL ?_)
  | (with_reducible refine wq_itAT ?_)
  | (with_reducible refine wq_itR1 rfl ?_)
  | (with_reducible refine wq_itR2 rfl ?_)
  | (with_reducible refine wq_sFo ?_)
  | (with_reducible refine wq_fo_nil ?_)
  | (with_reducible refine wq_eLc ?_)
  | (with_reducible refine wq_eSl ?_)
  | (with_reducible refine wq_partN ?_)
  | (with_reducible refine wq_partI ?_)
  | (with_reducible refine wq_slT ?_)
  | (with_reducible refine wq_slL ?_)
  | (with_reducible refine wq_isiI ?_)
  | (with_reducible refine wq_isiB ?_)
  | (with_reducible refine wq_isiT ?_)
  | (with_reducible refine wq_eqF ?_)
  | (with_reducible refine wq_neF2 ?_)
  | (with_reducible refine wq_eCallS ?_)
  | (with_reducible refine wq_mv0 ?_)
  | (with_reducible refine wq_mv1 ?_)
  | (with_reducible refine wq_mv2 ?_)
  | (with_reducible refine wq_mv3 ?_)
  | (with_reducible refine wq_fr0 ?_)
  | (with_reducible refine wq_fr1 ?_)
  | (with_reducible refine wq_ret ?_)
  | (with_reducible refine ⟨_, rfl, ?_⟩)
  | (with_reducible refine ⟨rfl, ?_⟩)
  | (with_reducible refine KB.f (by decide) ?_)
  | (with_reducible refine KB.t rfl ?_)
  | (with_reducible refine KI.t rfl ?_)
  | (with_reducible refine KI.f rfl ?_)
  | (with_reducible refine KT.t rfl ?_)
  | (with_reducible refine KT.f (by decide) ?_))
section
section
section
section
section
section
section
section
theorem pick {most : Int} (h0 : 0 < most) (h1 : most < 2 ^ 64) (q : Q) (hq : q.ok) (rest : AH) : ∃ k q', q'.ok ∧ 0 ≤ k ∧ k < most ∧ m__law_pick [.ref 0, .int most] (SRC q rest) = .ok (.int k) (SRC q' rest) := pick_ok h0 h1 q hq rest
theorem lfrac {n d : Int} (h : B 9000 d) (hd : d ≠ 0) (ah : AH) : m__law_fraction [.int n, .int d] ah = .ok (fr (nf n d)) ah := lfrac_ok h hd ah (com_ok n d ah (h.mono (by decide)))
structure Fb (k : Nat) (x : Int × Int) : Prop where
  n : B k x.1
  d : B k x.2
  z : x.2 ≠ 0
theorem Fb.nf {k : Nat} {n d : Int} (h : B k n) (l : B k d) (hd : d ≠ 0) : Fb k (nf n d) := ⟨h.nf1 hd, l.nf2 hd, by have := (nf_spec n d hd).1.pos; omega⟩
theorem Fb.mono {j k : Nat} {x : Int × Int} (h : Fb j x) (l : j ≤ k) : Fb k x := ⟨h.n.mono l, h.d.mono l, h.z⟩
theorem mul_ne {a b : Int} (h : a ≠ 0) (l : b ≠ 0) : a * b ≠ 0 := fun z => (Int.mul_eq_zero.mp z).elim h l
theorem ix0 (x : Int × Int) : gIx (fr x) (.int 0) = M.ret (.int x.1) := rfl
theorem ix1 (x : Int × Int) : gIx (fr x) (.int 1) = M.ret (.int x.2) := rfl
theorem eq_int (i j : Int) (ah : AH) : gEq (.int i) (.int j) ah = .ok (.bl (decide (i = j))) ah := rfl
end
section
structure Pq (p : Int) : Prop where
  P : Pr p
  b : B 7 p
  inv : ∀ n : Int, ¬ p ∣ n → ∃ r : Int, 1 ≤ r ∧ r < p ∧ (n * r).fmod p = 1
theorem inv_of {p : Nat} (h2 : 2 ≤ p) (h : ∀ a, a < p → a ≠ 0 → ∃ r, r < p ∧ a * r % p = 1) (n : Int) (hn : ¬ (p : Int) ∣ n) : ∃ r : Int, 1 ≤ r ∧ r < (p : Int) ∧ (n * r).fmod p = 1 := by
  have h0 : 0 ≤ n % (p : Int) := Int.emod_nonneg _ (by omega)
  have h1 : n % (p : Int) < p := Int.emod_lt_of_pos _ (by omega)
  have h3 : n % (p : Int) ≠ 0 := fun z => hn (Int.dvd_of_emod_eq_zero z)
  obtain ⟨a, ha⟩ := Int.eq_ofNat_of_zero_le h0
  obtain ⟨r, hr, e⟩ := h a (by omega) (by omega)
  refine ⟨r, ?_, by omega, ?_⟩
  · by_cases z : r = 0
    · subst z
      rw [Nat.mul_zero, Nat.zero_mod] at e
      omega
    · omega
  · rw [Int.fmod_eq_emod_of_nonneg _ (by omega), Int.mul_emod, ha]
    have e2 : ((a * (r % p) % p : Nat) : Int) = 1 := by
      rw [Nat.mod_eq_of_lt hr, e]; rfl
    rw [← e2]
    norm_cast
end
section
def ti (x y : Int × Int) : Int × Int := nf (x.1 * y.1) (x.2 * y.2)
section
variable {x y : Int × Int} (hx : Fb 4000 x) (hy : Fb 4000 y) (ah : AH)
include hx hy
omit hx hy in
theorem om4 {m n : Int} (h : B 4400 m) (l : B 4400 n) : okMul m n = true := okMul_B h l (by decide) (by decide) (by decide)
theorem o5 : okMul x.1 y.2 = true ∧ okMul y.1 x.2 = true ∧ okMul x.2 y.2 = true ∧ okMul x.1 y.1 = true := ⟨om4 (hx.n.mono (by decide)) (hy.d.mono (by decide)), om4 (hy.n.mono (by decide)) (hx.d.mono (by decide)), om4 (hx.d.mono (by decide)) (hy.d.mono (by decide)), om4 (hx.n.mono (by decide)) (hy.n.mono (by decide))⟩
theorem lprod_ok : m__law_product [fr x, fr y] ah = .ok (fr (ti x y)) ah := by
  have h := lfrac (n := x.1 * y.1) (d := x.2 * y.2) ((hx.d.mul hy.d).mono (by decide)) (mul_ne hx.z hy.z) ah
  obtain ⟨a, b, c, d⟩ := o5 hx hy
  unfold m__law_product b__law_product
  simp only [def0, sPs, sSet, sIf, sRt, sNx, sEx, sRtN, sPar2, sPar3, tV, tA, tO, tN, Mi.e2, Mi.e1, eL, eI, eA, eO, eCall, esC, esN, eC, M.andThen, eV, M.lift, M.ret, M.when, gI, gCmp, gLt, gLe, gGt, gGe, Mi.gSub, gMul, gAdd, gFdiv, gMod, gNeg, gNot, gGcd, gTupD, gLstD, gInt, gAbs, List.map_cons, List.map_nil, List.cons_append, List.nil_append, List.length_cons, List.length_nil, List.replicate, List.set_cons_zero, List.set_cons_succ, List.getElem?_cons_zero, List.getElem?_cons_succ, Option.join_some, if_true, Bool.false_eq_true, if_false, Nat.zero_add, decide_true, Nat.reduceAdd, Nat.reduceSub, ix0, ix1, c, d, h]
  rfl
end
/-- what p makes of a fraction that is not 0 -/
theorem vfrac {p n d : Int} (P : Pr p) (hn : n ≠ 0) (hd : d ≠ 0) : ∃ v w a b : Nat, Vl p n v ∧ Vl p d w ∧ Vl p (nf n d).1 a ∧ Vl p (nf n d).2 b ∧ (v : Int) - w = (a : Int) - b := by
  obtain ⟨v, hv⟩ := Vl.ex P hn
  obtain ⟨w, hw⟩ := Vl.ex P hd
  have z := (nf_spec n d hd).1.pos
  have y : (nf n d).1 ≠ 0 := by
    intro h
    have c := nf_cross n d hd
    rw [h, Int.zero_mul] at c
    rcases Int.mul_eq_zero.mp c.symm with c | c
    · exact hn c
    · omega
  obtain ⟨a, ha⟩ := Vl.ex P y
  obtain ⟨b, hb⟩ := Vl.ex P (show (nf n d).2 ≠ 0 by omega)
  exact ⟨v, w, a, b, hv, hw, ha, hb, Vl.nf P hd hv hw ha hb⟩
end
section
/-- what p makes of a fraction, as an int -/
def Vf (p : Int) (x : Int × Int) (m : Int) : Prop := ∃ v w : Nat, Vl p x.1 v ∧ Vl p x.2 w ∧ m = (v : Int) - w
theorem Vf.ex {p : Int} (P : Pr p) {x : Int × Int} (h1 : x.1 ≠ 0) (h2 : x.2 ≠ 0) : ∃ m, Vf p x m := by
  obtain ⟨v, a⟩ := Vl.ex P h1
  obtain ⟨w, b⟩ := Vl.ex P h2
  exact ⟨_, v, w, a, b, rfl⟩
theorem Vf.nf {p n d : Int} (P : Pr p) {v w : Nat} (hv : Vl p n v) (hw : Vl p d w) : Vf p (nf n d) ((v : Int) - w) := by
  obtain ⟨v', w', a, b, h1, h2, h3, h4, e⟩ := vfrac P (hv.ne P) (hw.ne P)
  have e1 := h1.uniq P hv
  have e2 := h2.uniq P hw
  subst e1 e2
  exact ⟨a, b, h3, h4, e⟩
theorem q_of {p : Nat} (h2 : 2 ≤ p) (h3 : p < 128) (h : ∀ d, d ≤ p → d ∣ p → d = 1 ∨ d = p) (h4 : ∀ a, a < p → a ≠ 0 → ∃ r, r < p ∧ a * r % p = 1) : Pq (p : Int) := ⟨pr_of h2 h, (by unfold B; omega), inv_of h2 h4⟩
theorem q2 : Pq 2 := q_of (p := 2) (by decide) (by decide) (by decide +kernel) (by decide +kernel)
theorem q3 : Pq 3 := q_of (p := 3) (by decide) (by decide) (by decide +kernel) (by decide +kernel)
end
section
theorem om2 {m n : Int} (h : B 3000 m) (l : B 3000 n) : okMul m n = true := okMul_B h l (by decide) (by decide) (by decide)
end
section
theorem wq_pick {most : Int} {q : Q} {rest : AH} {K : D → AH → Prop} (hq : q.ok) (h0 : 0 < most) (h1 : most < 2 ^ 64) (h : ∀ k q', q'.ok → 0 ≤ k → k < most → K (.int k) (SRC q' rest)) : W (m__law_pick [.ref 0, .int most] (SRC q rest)) K := by
  obtain ⟨k, q', a, b, c, e⟩ := pick h0 h1 q hq rest
  exact wq_eq e (h k q' a b c)
end
section
/-- a drawn move -/
structure Dm (k : Nat) (x : T4) : Prop where
  ok : x.Ok
  det : x.det ≠ 0
  bd : T4.Bd k x
theorem Dm.mono {j k : Nat} {x : T4} (h : Dm j x) (l : j ≤ k) : Dm k x := ⟨h.ok, h.det, h.bd.mono l⟩
instance decB {k : Nat} {n : Int} : Decidable (B k n) := inferInstanceAs (Decidable (n.natAbs < 2 ^ k))
/-- 2, 3, 5, 7 -/
def Pz (p : Int) : Prop := p = 2 ∨ p = 3 ∨ p = 5 ∨ p = 7
theorem Pz.b {p : Int} (h : Pz p) : B 3 p := by rcases h with rfl | rfl | rfl | rfl <;> decide
theorem Pz.ne {p : Int} (h : Pz p) : p ≠ 0 := by rcases h with rfl | rfl | rfl | rfl <;> decide
def Pn (p : Int) : Prop := p = 2 ∨ p = 3 ∨ p = 5 ∨ p = 7 ∨ p = 11 ∨ p = 13 ∨ p = 97
theorem Pn.b {p : Int} (h : Pn p) : B 7 p := by rcases h with rfl | rfl | rfl | rfl | rfl | rfl | rfl <;> decide
theorem Pn.ne {p : Int} (h : Pn p) : p ≠ 0 := by rcases h with rfl | rfl | rfl | rfl | rfl | rfl | rfl <;> decide
variable {q : Q} {rest : AH} {K : D → AH → Prop}
theorem wq_prime (hq : q.ok) (h : ∀ p q', q'.ok → Pz p → K (.int p) (SRC q' rest)) : W (m__law_draw_prime [.ref 0] (SRC q rest)) K := by
  refine wq_def0 ?_
  unfold b__law_draw_prime
  simp only [List.map_cons, List.map_nil, List.cons_append, List.nil_append, List.length_cons, List.length_nil, List.replicate, Nat.zero_add, Nat.reduceAdd, Nat.reduceSub]
  repeat array_get_dec
  refine wq_pick hq (by decide) (by decide) fun k q1 o1 k0 k1 => ?_
  repeat array_get_dec
  refine wq_ixI (is := [2, 3, 2, 5, 7]) k0 k1 fun p hp => ?_
  refine h p q1 o1 ?_
  simp only [List.mem_cons, List.not_mem_nil, or_false] at hp
  unfold Pz
  omega
end
section
structure Dp (k : Nat) (x : Int × Int) : Prop where
  pt : Pt x
  b1 : B k x.1
  b2 : B k x.2
theorem Dp.mono {j k : Nat} {x : Int × Int} (h : Dp j x) (l : j ≤ k) : Dp k x := ⟨h.pt, h.b1.mono l, h.b2.mono l⟩
theorem Dp.nf {k : Nat} {n d : Int} (h : B k n) (g : B k d) (hd : d ≠ 0) : Dp k (nf n d) := ⟨.inr (nf_spec n d hd).1, h.nf1 hd, g.nf2 hd⟩
variable {q : Q} {rest : AH} {K : D → AH → Prop}
end
section
/-- a ball -/
def bl (n : Int) (q : Int × Int) : D := .tup [.int n, fr q]
theorem pow3 {p : Int} (h : B 3 p) : ∀ j : Nat, B (3 * j + 1) (p ^ j)
  | 0 => by rw [Int.pow_zero]; decide
  | j + 1 => by rw [Int.pow_succ]; exact ((pow3 h j).mul h).mono (by omega)
end
section
/-- what ball_at and the law's own ball tell -/
structure Bo (p n : Int) (x q : Int × Int) : Prop where
  can : Can p n q
  near : Near p n x q
  j : ∃ j : Nat, q.2 = p ^ j ∧ ∀ w : Nat, Vl p x.2 w → j ≤ w
theorem Bo.uniq {p n : Int} (P : Pr p) {x q r : Int × Int} (h : Bo p n x q) (g : Bo p n x r) (hx : x.2 ≠ 0) : q = r := by
  have hq : q.2 ≠ 0 := by have := h.can.nf.pos; omega
  have hr : r.2 ≠ 0 := by have := g.can.nf.pos; omega
  exact h.can.uniq P g.can (h.near.symm.trans P g.near hq hx hr)
theorem Bo.b {p n : Int} (P : Pr p) (b : B 3 p) {x q : Int × Int} (h : Bo p n x q) {w : Nat} (hw : Vl p x.2 w) (hk : n + w ≤ 22) (w22 : w ≤ 22) : Fb 70 q := by
  obtain ⟨j, ej, hj⟩ := h.j
  have hj' := hj w hw
  obtain ⟨i, ei, hi⟩ := h.can.low
  refine ⟨?_, by rw [ej]; exact (pow3 b j).mono (by omega), by have := h.can.nf.pos; omega⟩
  rcases hi with z | ⟨h1, h2⟩
  · rw [z]; exact (by decide : B 70 0)
  · have ij : i = j := (Vl.pw P i).uniq P (by rw [← ei, ej]; exact Vl.pw P j)
    have b1 : B 70 (p ^ (n + i).toNat) := (pow3 b (n + i).toNat).mono (by omega)
    have := h.can.pos
    generalize p ^ (n + i).toNat = M at *
    unfold B at *
    generalize (2 : Nat) ^ 70 = N at *
    omega
variable {p : Int} (Qp : Pq p) (b3 : B 7 p)
include Qp b3
end
/-- a fraction of so many bits, with at most so many parts below -/
structure Gb (k w : Nat) (p : Int) (x : Int × Int) : Prop where
  fb : Fb k x
  pos : 0 < x.2
  v : ∃ v : Nat, Vl p x.2 v ∧ v ≤ w
theorem Gb.z {k w : Nat} {p : Int} {x : Int × Int} (h : Gb k w p x) : x.2 ≠ 0 := by have := h.pos; omega
theorem Gb.mono {k w k' w' : Nat} {p : Int} {x : Int × Int} (h : Gb k w p x) (hk : k ≤ k') (hw : w ≤ w') : Gb k' w' p x := by
  obtain ⟨v, hv, l⟩ := h.v
  exact ⟨h.fb.mono hk, h.pos, v, hv, by omega⟩
end
section
variable {q : Q} {rest : AH} {K : D → AH → Prop}
variable {q : Q} {rest : AH} {K : D → AH → Prop}
def Un (x : T4) : Prop := x.det = 1 ∨ x.det = -1
theorem Un.ne {x : T4} (h : Un x) : x.det ≠ 0 := by rcases h with h | h <;> rw [h] <;> decide
theorem Un.mul {x y : T4} (h : Un x) (g : Un y) : Un (x.mul y) := by
  unfold Un
  rw [T4.det_mul]
  rcases h with h | h <;> rcases g with g | g <;> rw [h, g] <;> decide
variable {q : Q} {rest : AH} {K : D → AH → Prop}
variable {q : Q} {rest : AH} {K : D → AH → Prop}
variable {q : Q} {rest : AH} {K : D → AH → Prop}
end
end
section
/-- the primes that are drawn -/
def Pm (p : Int) : Prop := p = 2 ∨ p = 3 ∨ p = 5 ∨ p = 7 ∨ p = 13 ∨ p = 97 ∨ p = 11 ∨ p = 53 ∨ p = 11
theorem Pm.b {p : Int} (h : Pm p) : B 7 p := by
  rcases h with rfl | rfl | rfl | rfl | rfl | rfl | rfl | rfl | rfl <;> decide
theorem Pm.ne {p : Int} (h : Pm p) : p ≠ 0 := by
  rcases h with rfl | rfl | rfl | rfl | rfl | rfl | rfl | rfl | rfl <;> decide
abbrev bd (b : Ball) : D := bl b.1 b.2
end
section
open Mi.T4 (BT gr Eqp cols)
/-- by how many steps a move stretches -/
def StrP (p : Int) (m : T4) (s : Int) : Prop := (m.tr = 0 ∧ s = 0) ∨ (m.tr ≠ 0 ∧ ∃ vd vt : Nat, Vl p m.det vd ∧ Vl p m.tr vt ∧ s = if (vd : Int) - 2 * vt > 0 then (vd : Int) - 2 * vt else 0)
section
variable {p : Int} (Qp : Pq p)
include Qp
theorem StrP.uniq {m : T4} {s t : Int} (h : StrP p m s) (g : StrP p m t) : s = t := by
  rcases h with ⟨a, b⟩ | ⟨a, vd, vt, b, c, d⟩ <;> rcases g with ⟨a', b'⟩ | ⟨a', vd', vt', b', c', d'⟩
  · omega
  · exact absurd a a'
  · exact absurd a' a
  · rw [b.uniq Qp.P b', c.uniq Qp.P c'] at d
    omega
/-- what is due of a ball that rests -/
def due (s : Int) (vd : Nat) : Int := if 0 < s then s else (vd : Int) % 2
end
end
section
open Mi.T4 (BT gr Eqp)
structure St (f : Int × Int) (X Y : Int) : Prop where
  z : f.2 ≠ 0
  y : Y ≠ 0
  e : f.1 * Y = X * f.2
theorem St.int (c : Int) : St (c, 1) c 1 := ⟨show (1 : Int) ≠ 0 by decide, by decide, rfl⟩
theorem St.nf {N Dn X Y : Int} (hd : Dn ≠ 0) (hy : Y ≠ 0) (e : N * Y = X * Dn) : St (Mi.nf N Dn) X Y := by
  have c := nf_cross N Dn hd
  have p := (nf_spec N Dn hd).1.pos
  refine ⟨by omega, hy, ?_⟩
  refine Int.eq_of_mul_eq_mul_left hd ?_
  have : Dn * ((Mi.nf N Dn).1 * Y) = ((Mi.nf N Dn).1 * Dn) * Y := by grind
  rw [this, c]
  have : N * (Mi.nf N Dn).2 * Y = (N * Y) * (Mi.nf N Dn).2 := by grind
  rw [this, e]
  grind
theorem St.near {p : Int} (P : Pr p) {f : Int × Int} {X Y : Int} (h : St f X Y) {n : Int} {y : Int × Int} : Near p n f y ↔ Near p n (X, Y) y := by
  have e1 := T4.near_scale P (n := n) (k := Y) (a := f.1) (c := f.2) (y := y) h.y h.z
  have e2 := T4.near_scale P (n := n) (k := f.2) (a := X) (c := Y) (y := y) h.z h.y
  rw [h.e, Int.mul_comm f.2 Y] at e1
  exact e1.symm.trans e2
end
section
open Mi.T4 (BT gr Eqp cols)
theorem lst (ah : AH) (o o' : Option AO) : (ah ++ [o]).set ah.length o' = ah ++ [o'] := by simp
end
section
open Mi.T4 (BT gr Eqp cols)
/-- a ball, with the bits of its numbers -/
structure Bb (p : Int) (kn kw : Nat) (n : Int) (q : Int × Int) : Prop where
  can : Can p n q
  lo : B kw q.2
  po : B kn (p ^ n.natAbs)
section
variable {p : Int} (Qp : Pq p)
include Qp
structure Gt (p : Int) (m : T4) (b : Ball) (s : Int) (n1 : Int) (q1 : Int × Int) (c : Int) (D G : Nat) (n : Int) (q : Int × Int) : Prop where
  bt : BT p (T4.mul m (gr p b.1 b.2)) n1 q1
  str : StrP p m s
  cn : Cn p b (n1, q1) c
  eD : b.1 + n1 - 2 * c = D
  eG : ((D : Int) - s) / 2 = G
  GD : (G : Int) ≤ D
  can : Can p n q
  on : Onr p b n1 q1 c G n q
theorem Gt.uniq {m : T4} {b : Ball} {s s' n1 n1' c c' n n' : Int} {q1 q1' q q' : Int × Int} {D G D' G' : Nat} (bz : b.2.2 ≠ 0) (h : Gt p m b s n1 q1 c D G n q) (g : Gt p m b s' n1' q1' c' D' G' n' q') : n = n' ∧ q = q' := by
  have P := Qp.P
  obtain ⟨a1, a2, a3, a4, a5, _, a6, a7⟩ := h
  obtain ⟨b1, b2, b3, b4, b5, _, b6, b7⟩ := g
  obtain ⟨e1, e2⟩ := BT.uniq P a1 b1
  subst e1
  subst e2
  have e3 := a3.uniq P b3
  subst e3
  have e4 := a2.uniq Qp b2
  subst e4
  have e5 : D = D' := by omega
  subst e5
  have e6 : G = G' := by omega
  subst e6
  have qz : q.2 ≠ 0 := by have := a6.nf.pos; omega
  have qz' : q'.2 ≠ 0 := by have := b6.nf.pos; omega
  have z1 : q1.2 ≠ 0 := by have := a1.1.nf.pos; omega
  rcases a7 with ⟨x, e, y⟩ | ⟨x, _, e, y⟩ <;> rcases b7 with ⟨x', e', y'⟩ | ⟨x', _, e', y'⟩
  · have en : n = n' := by omega
    subst en
    exact ⟨rfl, a6.uniq P b6 (y.symm.trans P y' qz bz qz')⟩
  · omega
  · omega
  · have en : n = n' := by omega
    subst en
    exact ⟨rfl, a6.uniq P b6 (y.symm.trans P y' qz z1 qz')⟩
end
end
section
open Mi.T4 (BT gr Eqp cols)
/-- what the kind of a move is told by -/
structure Kd (p : Int) (m : T4) (s : Int) (vd : Nat) (n : Int) (q : Int × Int) (n3 : Int) (q3 : Int × Int) : Prop where
  dm : Dm 53 m
  str : StrP p m s
  hd : Vl p m.det vd
  g : ∃ (n1 : Int) (q1 : Int × Int) (c : Int) (D G : Nat), Gt p m (0, (0, 1)) s n1 q1 c D G n q
  bg : Bb p 115 56 n q
  n1 : n ≤ 109
  h3 : BT p (T4.mul m (gr p n q)) n3 q3
  b3 : Bb p 677 225 n3 q3
  l3 : n3 ≤ 334
  f3 : Fb 559 q3
  d3 : dst p (n, q) (n3, q3) = due s vd
end
end
section
section
def isI : D → Bool
  | .int _ => true
  | _ => false
def pln : D → Bool
  | .ref _ => false
  | .oth _ => false
  | _ => true
theorem k_ii : kitB "int" "int" = some true := by decide +kernel
theorem k_ib : kitB "int" "bool" = some false := by decide +kernel
theorem k_bi : kitB "bool" "int" = some true := by decide +kernel
theorem k_bb : kitB "bool" "bool" = some true := by decide +kernel
theorem k_ni : kitB "NoneType" "int" = some false := by decide +kernel
theorem k_si : kitB "str" "int" = some false := by decide +kernel
theorem k_ti : kitB "tuple" "int" = some false := by decide +kernel
theorem k_li : kitB "list" "int" = some false := by decide +kernel
theorem k_di : kitB "dict" "int" = some false := by decide +kernel
theorem k_it : kitB "int" "tuple" = some false := by decide +kernel
theorem k_bt : kitB "bool" "tuple" = some false := by decide +kernel
theorem k_nt : kitB "NoneType" "tuple" = some false := by decide +kernel
theorem k_st : kitB "str" "tuple" = some false := by decide +kernel
theorem k_tt : kitB "tuple" "tuple" = some true := by decide +kernel
theorem k_lt : kitB "list" "tuple" = some false := by decide +kernel
theorem k_dt : kitB "dict" "tuple" = some false := by decide +kernel
def isT : D → Bool
  | .tup _ => true
  | _ => false
def isIB : D → Bool
  | .int _ => true
  | .bl _ => true
  | _ => false
theorem isi_int (d : D) (h : pln d = true) (ah : AH) : gIsi [d, .oth (.ty "int")] ah = .ok (.bl (isIB d)) ah := by
  cases d with
  | ref _ => nomatch h
  | oth _ => nomatch h
  | _ => simp only [gIsi, D.ty, Option.bind_some, k_ii, k_bi, k_ni, k_si, k_ti, k_li, k_di, isIB]
theorem isi_bool (d : D) (h : isIB d = true) (ah : AH) : gIsi [d, .oth (.ty "bool")] ah = .ok (.bl (!isI d)) ah := by
  cases d with
  | int _ => simp only [gIsi, D.ty, Option.bind_some, k_ib, isI, Bool.not_true]
  | bl _ => simp only [gIsi, D.ty, Option.bind_some, k_bb, isI, Bool.not_false]
  | _ => nomatch h
theorem isi_tup (d : D) (h : pln d = true) (ah : AH) : gIsi [d, .oth (.ty "tuple")] ah = .ok (.bl (isT d)) ah := by
  cases d with
  | ref _ => nomatch h
  | oth _ => nomatch h
  | _ => simp only [gIsi, D.ty, Option.bind_some, k_it, k_bt, k_nt, k_st, k_tt, k_lt, k_dt, isT]
theorem isnum_ok (d : D) (h : pln d = true) (ah : AH) : m_is_number [d] ah = .ok (.bl (isI d)) ah := by
  have a := isi_int d h ah
  unfold m_is_number b_is_number
  cases d with
  | int i => simp only [def0, sPs, sSet, sIf, sRt, sNx, sEx, sRtN, sPar2, sPar3, tV, tA, tO, tN, Mi.e2, Mi.e1, eL, eI, eA, eO, eCall, esC, esN, eC, M.andThen, eV, M.lift, M.ret, M.when, gI, gCmp, gLt, gLe, gGt, gGe, Mi.gSub, gMul, gAdd, gFdiv, gMod, gNeg, gNot, gGcd, gTupD, gLstD, gInt, gAbs, List.map_cons, List.map_nil, List.cons_append, List.nil_append, List.length_cons, List.length_nil, List.replicate, List.set_cons_zero, List.set_cons_succ, List.getElem?_cons_zero, List.getElem?_cons_succ, Option.join_some, if_true, Bool.false_eq_true, if_false, Nat.zero_add, decide_true, Nat.reduceAdd, Nat.reduceSub, a, isIB, isI, isi_bool (.int i) rfl, Bool.not_true, Bool.not_false]
  | bl i => simp only [def0, sPs, sSet, sIf, sRt, sNx, sEx, sRtN, sPar2, sPar3, tV, tA, tO, tN, Mi.e2, Mi.e1, eL, eI, eA, eO, eCall, esC, esN, eC, M.andThen, eV, M.lift, M.ret, M.when, gI, gCmp, gLt, gLe, gGt, gGe, Mi.gSub, gMul, gAdd, gFdiv, gMod, gNeg, gNot, gGcd, gTupD, gLstD, gInt, gAbs, List.map_cons, List.map_nil, List.cons_append, List.nil_append, List.length_cons, List.length_nil, List.replicate, List.set_cons_zero, List.set_cons_succ, List.getElem?_cons_zero, List.getElem?_cons_succ, Option.join_some, if_true, Bool.false_eq_true, if_false, Nat.zero_add, decide_true, Nat.reduceAdd, Nat.reduceSub, a, isIB, isI, isi_bool (.bl i) rfl, Bool.not_true, Bool.not_false]
  | _ => simp only [def0, sPs, sSet, sIf, sRt, sNx, sEx, sRtN, sPar2, sPar3, tV, tA, tO, tN, Mi.e2, Mi.e1, eL, eI, eA, eO, eCall, esC, esN, eC, M.andThen, eV, M.lift, M.ret, M.when, gI, gCmp, gLt, gLe, gGt, gGe, Mi.gSub, gMul, gAdd, gFdiv, gMod, gNeg, gNot, gGcd, gTupD, gLstD, gInt, gAbs, List.map_cons, List.map_nil, List.cons_append, List.nil_append, List.length_cons, List.length_nil, List.replicate, List.set_cons_zero, List.set_cons_succ, List.getElem?_cons_zero, List.getElem?_cons_succ, Option.join_some, if_true, Bool.false_eq_true, if_false, Nat.zero_add, decide_true, Nat.reduceAdd, Nat.reduceSub, a, isIB, isI]
/-- a fraction in its one form -/
def frB : D → Bool
  | .tup [.int n, .int d] => decide (0 < d) && decide (((Nat.gcd n.natAbs d.natAbs : Nat) : Int) = 1)
  | _ => false
def prB : D → Bool
  | .tup [a, b] => isI a && isI b
  | _ => false
def plns : D → Bool
  | .tup xs => xs.all pln
  | d => pln d
theorem plns_pln {d : D} (h : plns d = true) : pln d = true := by
  cases d with
  | tup _ => rfl
  | _ => exact h
theorem len_tup (xs : List D) (ah : AH) : gLen [.tup xs] ah = .ok (.int xs.length) ah := rfl
theorem pair_ok (d : D) (h : plns d = true) (ah : AH) : m_is_pair [d] ah = .ok (.bl (prB d)) ah := by
  have a := isi_tup d (plns_pln h) ah
  unfold m_is_pair b_is_pair
  cases d with
  | tup xs =>
    match xs, h with
    | [], _ => simp only [def0, sPs, sSet, sIf, sRt, sNx, sEx, sRtN, sPar2, sPar3, tV, tA, tO, tN, Mi.e2, Mi.e1, eL, eI, eA, eO, eCall, esC, esN, eC, M.andThen, eV, M.lift, M.ret, M.when, gI, gCmp, gLt, gLe, gGt, gGe, Mi.gSub, gMul, gAdd, gFdiv, gMod, gNeg, gNot, gGcd, gTupD, gLstD, gInt, gAbs, List.map_cons, List.map_nil, List.cons_append, List.nil_append, List.length_cons, List.length_nil, List.replicate, List.set_cons_zero, List.set_cons_succ, List.getElem?_cons_zero, List.getElem?_cons_succ, Option.join_some, if_true, Bool.false_eq_true, if_false, Nat.zero_add, decide_true, Nat.reduceAdd, Nat.reduceSub, a, isT, len_tup, eq_int]; rfl
    | [_], _ => simp only [def0, sPs, sSet, sIf, sRt, sNx, sEx, sRtN, sPar2, sPar3, tV, tA, tO, tN, Mi.e2, Mi.e1, eL, eI, eA, eO, eCall, esC, esN, eC, M.andThen, eV, M.lift, M.ret, M.when, gI, gCmp, gLt, gLe, gGt, gGe, Mi.gSub, gMul, gAdd, gFdiv, gMod, gNeg, gNot, gGcd, gTupD, gLstD, gInt, gAbs, List.map_cons, List.map_nil, List.cons_append, List.nil_append, List.length_cons, List.length_nil, List.replicate, List.set_cons_zero, List.set_cons_succ, List.getElem?_cons_zero, List.getElem?_cons_succ, Option.join_some, if_true, Bool.false_eq_true, if_false, Nat.zero_add, decide_true, Nat.reduceAdd, Nat.reduceSub, a, isT, len_tup, eq_int]; rfl
    | [x, y], h =>
      have h1 := Bool.and_eq_true_iff.mp h
      have h2 := Bool.and_eq_true_iff.mp h1.2
      have e1 : gIx (.tup [x, y]) (.int 0) = M.ret x := rfl
      have e2 : gIx (.tup [x, y]) (.int 1) = M.ret y := rfl
      have e3 : decide (((0 + 1 + 1 : Nat) : Int) = 2) = true := rfl
      simp only [def0, sPs, sSet, sIf, sRt, sNx, sEx, sRtN, sPar2, sPar3, tV, tA, tO, tN, Mi.e2, Mi.e1, eL, eI, eA, eO, eCall, esC, esN, eC, M.andThen, eV, M.lift, M.ret, M.when, gI, gCmp, gLt, gLe, gGt, gGe, Mi.gSub, gMul, gAdd, gFdiv, gMod, gNeg, gNot, gGcd, gTupD, gLstD, gInt, gAbs, List.map_cons, List.map_nil, List.cons_append, List.nil_append, List.length_cons, List.length_nil, List.replicate, List.set_cons_zero, List.set_cons_succ, List.getElem?_cons_zero, List.getElem?_cons_succ, Option.join_some, if_true, Bool.false_eq_true, if_false, Nat.zero_add, decide_true, Nat.reduceAdd, Nat.reduceSub, a, isT, len_tup, eq_int, e1, e2, isnum_ok x h1.1, isnum_ok y h2.1, prB, (by decide : decide (((2 : Nat) : Int) = 2) = true)]
      cases isI x <;> simp only [def0, sPs, sSet, sIf, sRt, sNx, sEx, sRtN, sPar2, sPar3, tV, tA, tO, tN, Mi.e2, Mi.e1, eL, eI, eA, eO, eCall, esC, esN, eC, M.andThen, eV, M.lift, M.ret, M.when, gI, gCmp, gLt, gLe, gGt, gGe, Mi.gSub, gMul, gAdd, gFdiv, gMod, gNeg, gNot, gGcd, gTupD, gLstD, gInt, gAbs, List.map_cons, List.map_nil, List.cons_append, List.nil_append, List.length_cons, List.length_nil, List.replicate, List.set_cons_zero, List.set_cons_succ, List.getElem?_cons_zero, List.getElem?_cons_succ, Option.join_some, if_true, Bool.false_eq_true, if_false, Nat.zero_add, decide_true, Nat.reduceAdd, Nat.reduceSub, e1, e2, isnum_ok x h1.1, isnum_ok y h2.1, Bool.true_and, Bool.false_and]
    | x :: y :: z :: l, h =>
      simp only [def0, sPs, sSet, sIf, sRt, sNx, sEx, sRtN, sPar2, sPar3, tV, tA, tO, tN, Mi.e2, Mi.e1, eL, eI, eA, eO, eCall, esC, esN, eC, M.andThen, eV, M.lift, M.ret, M.when, gI, gCmp, gLt, gLe, gGt, gGe, Mi.gSub, gMul, gAdd, gFdiv, gMod, gNeg, gNot, gGcd, gTupD, gLstD, gInt, gAbs, List.map_cons, List.map_nil, List.cons_append, List.nil_append, List.length_cons, List.length_nil, List.replicate, List.set_cons_zero, List.set_cons_succ, List.getElem?_cons_zero, List.getElem?_cons_succ, Option.join_some, if_true, Bool.false_eq_true, if_false, Nat.zero_add, decide_true, Nat.reduceAdd, Nat.reduceSub, a, isT, len_tup, eq_int]
      rw [decide_eq_false (by omega)]
      rfl
  | _ => simp only [def0, sPs, sSet, sIf, sRt, sNx, sEx, sRtN, sPar2, sPar3, tV, tA, tO, tN, Mi.e2, Mi.e1, eL, eI, eA, eO, eCall, esC, esN, eC, M.andThen, eV, M.lift, M.ret, M.when, gI, gCmp, gLt, gLe, gGt, gGe, Mi.gSub, gMul, gAdd, gFdiv, gMod, gNeg, gNot, gGcd, gTupD, gLstD, gInt, gAbs, List.map_cons, List.map_nil, List.cons_append, List.nil_append, List.length_cons, List.length_nil, List.replicate, List.set_cons_zero, List.set_cons_succ, List.getElem?_cons_zero, List.getElem?_cons_succ, Option.join_some, if_true, Bool.false_eq_true, if_false, Nat.zero_add, decide_true, Nat.reduceAdd, Nat.reduceSub, a, isT, prB]
theorem prB_of {d : D} (h : prB d = true) : ∃ n m, d = .tup [.int n, .int m] := by
  unfold prB at h
  split at h
  · rename_i a b
    have h1 := Bool.and_eq_true_iff.mp h
    unfold isI at h1
    obtain ⟨ha, hb⟩ := h1
    split at ha
    · split at hb
      · exact ⟨_, _, rfl⟩
      · exact nomatch hb
    · exact nomatch ha
  · exact nomatch h
theorem frB_np {d : D} (h : prB d = false) : frB d = false := by
  unfold frB
  split
  · exact nomatch h
  · rfl
theorem isfrac_ok (d : D) (h : plns d = true) (ah : AH) : m_is_fraction [d] ah = .ok (.bl (frB d)) ah := by
  have a := pair_ok d h ah
  unfold m_is_fraction b_is_fraction
  cases hp : prB d with
  | false =>
    rw [hp] at a
    simp only [def0, sPs, sSet, sIf, sRt, sNx, sEx, sRtN, sPar2, sPar3, tV, tA, tO, tN, Mi.e2, Mi.e1, eL, eI, eA, eO, eCall, esC, esN, eC, M.andThen, eV, M.lift, M.ret, M.when, gI, gCmp, gLt, gLe, gGt, gGe, Mi.gSub, gMul, gAdd, gFdiv, gMod, gNeg, gNot, gGcd, gTupD, gLstD, gInt, gAbs, List.map_cons, List.map_nil, List.cons_append, List.nil_append, List.length_cons, List.length_nil, List.replicate, List.set_cons_zero, List.set_cons_succ, List.getElem?_cons_zero, List.getElem?_cons_succ, Option.join_some, if_true, Bool.false_eq_true, if_false, Nat.zero_add, decide_true, Nat.reduceAdd, Nat.reduceSub, a, frB_np hp]
  | true =>
    obtain ⟨n, m, rfl⟩ := prB_of hp
    rw [hp] at a
    have e1 : gIx (.tup [.int n, .int m]) (.int 0) = M.ret (.int n) := rfl
    have e2 : gIx (.tup [.int n, .int m]) (.int 1) = M.ret (.int m) := rfl
    cases hm : decide (0 < m) <;> simp only [def0, sPs, sSet, sIf, sRt, sNx, sEx, sRtN, sPar2, sPar3, tV, tA, tO, tN, Mi.e2, Mi.e1, eL, eI, eA, eO, eCall, esC, esN, eC, M.andThen, eV, M.lift, M.ret, M.when, gI, gCmp, gLt, gLe, gGt, gGe, Mi.gSub, gMul, gAdd, gFdiv, gMod, gNeg, gNot, gGcd, gTupD, gLstD, gInt, gAbs, List.map_cons, List.map_nil, List.cons_append, List.nil_append, List.length_cons, List.length_nil, List.replicate, List.set_cons_zero, List.set_cons_succ, List.getElem?_cons_zero, List.getElem?_cons_succ, Option.join_some, if_true, Bool.false_eq_true, if_false, Nat.zero_add, decide_true, Nat.reduceAdd, Nat.reduceSub, a, e1, e2, eq_int, hm, frB, Bool.true_and, Bool.false_and]
end
end
section
open Mi.T4 (BT gr Eqp cols)
/-- a ball near the first one -/
structure Nb (p : Int) (N kw : Nat) (b : Ball) : Prop where
  can : Can p b.1 b.2
  n : b.1.natAbs ≤ N
  lo : B kw b.2.2
theorem Nb.mono {p : Int} {N M kw : Nat} {b : Ball} (h : Nb p N kw b) (l : N ≤ M) : Nb p M kw b := ⟨h.can, by have := h.n; omega, h.lo⟩
end
end
section
/-- balls as they come here -/
structure Bal (p : Int) (j : Nat) (b : Ball) : Prop where
  can : Can p b.1 b.2
  n : b.1.natAbs ≤ 3 + j
  fb : Fb (50 + 60 * j) b.2
section
variable {p : Int} (Qp : Pq p)
include Qp
omit Qp in
theorem Bal.mono {i j : Nat} {b : Ball} (h : Bal p i b) (l : i ≤ j) : Bal p j b := ⟨h.can, by have := h.n; omega, h.fb.mono (by omega)⟩
end
end
end
section
def lapG (env : Lc) (ah : AH) : Prop := ∃ w0 w2 w3 w4 w5 w6 w7 w8 w9 w10 w11 w12 w13 w14 w15 q rest, env = [w0, some (.ref 0), w2, w3, w4, w5, w6, w7, w8, w9, w10, w11, w12, w13, w14, w15] ∧ ah = SRC q rest ∧ q.ok
theorem lapG.mk {w0 w2 w3 w4 w5 w6 w7 w8 w9 w10 w11 w12 w13 w14 w15 : Option D} {q : Q} {rest : AH} (oq : q.ok) : lapG [w0, some (.ref 0), w2, w3, w4, w5, w6, w7, w8, w9, w10, w11, w12, w13, w14, w15] (SRC q rest) :=
  ⟨w0, w2, w3, w4, w5, w6, w7, w8, w9, w10, w11, w12, w13, w14, w15, q, rest, rfl, rfl, oq⟩
end
end
section
section
section
section
section
section
theorem Pz.pn {p : Int} (h : Pz p) : Pn p := by rcases h with rfl | rfl | rfl | rfl <;> simp [Pn]
variable {q : Q} {rest : AH} {K : D → AH → Prop}
end
section
theorem Dp.far {k : Nat} (h : 1 ≤ k) : Dp k (1, 0) := ⟨.inl rfl, (by decide : B 1 1).mono h, (by decide : B 1 0).mono h⟩
theorem Dp.pn {k : Nat} {u v : Int} (hk : 1 ≤ k) (h : B k u) (g : B k v) : Dp k (pn u v) := by
  unfold Mi.pn
  split
  · exact Dp.far hk
  · rename_i c; exact Dp.nf h g c
variable {q : Q} {rest : AH} {K : D → AH → Prop}
end
end
end
section
section
variable {q : Q} {rest : AH} {K : D → AH → Prop}
theorem wq_draw_fracM {p : Int} (hp : Pm p) {w : Int} (w0 : 1 ≤ w) (w1 : w ≤ 1000000) (hq : q.ok) (h : ∀ x q', q'.ok → Nf x → Dp 40 x → ¬ p ^ 3 ∣ x.2 → K (fr x) (SRC q' rest)) : W (m__law_draw_fraction [.ref 0, .int p, .int w] (SRC q rest)) K := by
  have bp := hp.b
  have np := hp.ne
  refine wq_def0 ?_
  unfold b__law_draw_fraction
  simp only [List.map_cons, List.map_nil, List.cons_append, List.nil_append, List.length_cons, List.length_nil, List.replicate, Nat.zero_add, Nat.reduceAdd, Nat.reduceSub]
  repeat array_get_dec
  refine wq_mul (okMul_l (by decide) (by decide)) ?_
  repeat array_get_dec
  refine wq_pick hq (by omega) (by omega) fun n q1 o1 n0 n1 => ?_
  repeat array_get_dec
  refine wq_mul (om2 (bp.mono (by decide)) (bp.mono (by decide))) ?_
  repeat array_get_dec
  refine wq_pick o1 (by decide) (by decide) fun k q2 o2 k0 k1 => ?_
  repeat array_get_dec
  refine wq_ixI (is := [1, 1, p, 2, 3, p * p]) k0 k1 fun d hd => ?_
  have hd' : B 14 d ∧ d ≠ 0 ∧ ¬ p ^ 3 ∣ d := by
    simp only [List.mem_cons, List.not_mem_nil, or_false] at hd
    have lt : ∀ {d : Int}, 0 < d → d < p ^ 3 → ¬ p ^ 3 ∣ d := fun h1 h2 z => by
      have := Int.le_of_dvd h1 z
      omega
    rcases hp with rfl | rfl | rfl | rfl | rfl | rfl | rfl | rfl | rfl <;> rcases hd with rfl | rfl | rfl | rfl | rfl | rfl <;> exact ⟨by decide, by decide, lt (by decide) (by decide)⟩
  obtain ⟨bd, nd, fd⟩ := hd'
  repeat array_get_dec
  refine wq_pick o2 (by decide) (by decide) fun k q3 o3 k0 k1 => ?_
  repeat array_get_dec
  refine wq_ixI (is := [1, 1, p]) k0 k1 fun j hj => ?_
  have bj : B 7 j := by
    simp only [List.mem_cons, List.not_mem_nil, or_false] at hj
    rcases hj with rfl | rfl | rfl
    · decide
    · decide
    · exact bp
  repeat array_get_dec
  have bn : B 22 (n - w) := by unfold B; omega
  refine wq_mul (om2 (bn.mono (by decide)) (bj.mono (by decide))) ?_
  repeat array_get_dec
  refine wq_eq (lfrac (bd.mono (by decide)) nd _) ?_
  refine h _ q3 o3 (nf_spec _ d nd).1 (Dp.nf ((bn.mul bj).mono (by decide)) (bd.mono (by decide)) nd) fun z => fd ?_
  obtain ⟨_, κ, _, _, e2⟩ := nf_spec ((n - w) * j) d nd
  rw [e2]
  exact Int.dvd_mul_of_dvd_right z
end
end
end
end
end
end
section
theorem sPs_ex {g h : MS} {env env' : Lc} {ah ah' : AH} {e : Ex} (q : g env ah = .ex e env' ah') : sPs g h env ah = .ex e env' ah' := by
  unfold sPs
  simp only [M.andThen, q]
theorem sIf_run {t : Lc → M Bool} {g h : MS} {env : Lc} {ah : AH} (w : W (t env ah) fun c ah' => c = true ∧ ah' = ah) : sIf t g h env ah = g env ah := by
  obtain ⟨y, ah', e, rfl, rfl⟩ := w
  unfold sIf
  simp only [M.andThen, e, if_true]
theorem defM_ex {tot : Nat} {g : MS} {ds : List D} {ah ah' : AH} {e : Ex} {env' : Lc} (q : g (ds.map some ++ List.replicate (tot - ds.length) none) ah = .ex e env' ah') : defM tot g ds ah = .ex e [] ah' := by
  unfold defM
  simp only [q]
theorem isi_blB (b : Bool) (ah : AH) : gIsi [.bl b, .oth (.ty "bool")] ah = .ok (.bl true) ah := by
  show (match (some "bool").bind fun t => kitB t "bool" with | some b => R.ok (D.bl b) ah | none => R.no) = _
  have : kitB "bool" "bool" = some true := by decide +kernel
  rw [Option.bind_some, this]
end
section
section
def mv (x : T4) : D := .tup [.int x.a, .int x.b, .int x.c, .int x.d]
theorem wq_mv0 {x : T4} {ah : AH} {K : D → AH → Prop} (k : K (.int x.a) ah) : W (gIx (mv x) (.int 0) ah) K := wq_ixT (xs := [.int x.a, .int x.b, .int x.c, .int x.d]) rfl k
theorem wq_mv1 {x : T4} {ah : AH} {K : D → AH → Prop} (k : K (.int x.b) ah) : W (gIx (mv x) (.int 1) ah) K := wq_ixT (xs := [.int x.a, .int x.b, .int x.c, .int x.d]) rfl k
theorem wq_mv2 {x : T4} {ah : AH} {K : D → AH → Prop} (k : K (.int x.c) ah) : W (gIx (mv x) (.int 2) ah) K := wq_ixT (xs := [.int x.a, .int x.b, .int x.c, .int x.d]) rfl k
theorem wq_mv3 {x : T4} {ah : AH} {K : D → AH → Prop} (k : K (.int x.d) ah) : W (gIx (mv x) (.int 3) ah) K := wq_ixT (xs := [.int x.a, .int x.b, .int x.c, .int x.d]) rfl k
theorem B_gcd {k : Nat} {m : Int} {n : Nat} (h : B k m) (hd : (n : Int) ∣ m) (h0 : m ≠ 0) : B k (n : Int) := by
  obtain ⟨c, e⟩ := hd
  have hc : c ≠ 0 := fun z => h0 (by rw [e, z, Int.mul_zero])
  have h2 := natAbs_le_of_mul (k := c) (x := (n : Int)) hc
  rw [Int.mul_comm, ← e] at h2
  exact Nat.lt_of_le_of_lt h2 h
theorem B_dv {k : Nat} {x : T4} (h : T4.Bd k x) (h0 : x.nz) : B k x.dv := by
  have hg : B k (x.g4 : Int) := by
    obtain ⟨h1, h2, h3, h4⟩ := x.g4_dvd
    by_cases c1 : x.a = 0
    · by_cases c2 : x.b = 0
      · by_cases c3 : x.c = 0
        · exact B_gcd h.d h4 fun z => h0 ⟨c1, c2, c3, z⟩
        · exact B_gcd h.c h3 c3
      · exact B_gcd h.b h2 c2
    · exact B_gcd h.a h1 c1
  unfold T4.dv
  split
  · exact hg.neg
  · exact hg
theorem okd {k : Nat} {x : T4} (h : T4.Bd k x) (hk : k ≤ 8000) (h0 : x.nz) (m : Int) : okDiv m x.dv = true :=
  okDiv_B ((B_dv h h0).mono hk) (by decide) (by decide) (T4.dv_ne h0)
theorem dv_t {x : T4} (h : x.neg = true) : -(((((x.a.natAbs.gcd x.b.natAbs).gcd x.c.natAbs).gcd x.d.natAbs : Nat) : Int)) = x.dv := by unfold T4.dv; rw [if_pos h]; rfl
theorem dv_f {x : T4} (h : x.neg = false) : (((((x.a.natAbs.gcd x.b.natAbs).gcd x.c.natAbs).gcd x.d.natAbs : Nat) : Int)) = x.dv := by unfold T4.dv; rw [if_neg (by rw [h]; decide)]; rfl
theorem scaled_ok {k : Nat} {x : T4} (h : T4.Bd k x) (hk : k ≤ 8000) (h0 : x.nz) (ah : AH) : m_scaled [.int x.a, .int x.b, .int x.c, .int x.d] ah = .ok (mv x.nm) ah := by
  have od := okd h hk h0
  refine wq_get (wq_def0 ?_)
  unfold b_scaled
  simp only [List.map_cons, List.map_nil, List.cons_append, List.nil_append, List.length_cons, List.length_nil, List.replicate, Nat.zero_add, Nat.reduceAdd, Nat.reduceSub]
  repeat array_get_dec
  by_cases c1 : x.a < 0
  · refine KT.f (by simp [c1]) (KI.t (decide_eq_true c1) ?_)
    repeat array_get_dec
    rw [(dv_t (by unfold T4.neg; simp [c1]))]
    refine wq_fdiv (od _) ?_
    repeat array_get_dec
    refine wq_fdiv (od _) ?_
    repeat array_get_dec
    refine wq_fdiv (od _) ?_
    repeat array_get_dec
    refine wq_fdiv (od _) ?_
    repeat array_get_dec
    first | exact rfl | exact ⟨rfl, rfl⟩
  · refine KT.t (by simp [c1]) ?_
    repeat array_get_dec
    by_cases c2 : x.a = 0
    · refine KT.t (by simp [c2]) ?_
      repeat array_get_dec
      by_cases c3 : x.b < 0
      · refine KI.t (decide_eq_true c3) ?_
        repeat array_get_dec
        rw [(dv_t (by unfold T4.neg; simp [c2, c3]))]
        refine wq_fdiv (od _) ?_
        repeat array_get_dec
        refine wq_fdiv (od _) ?_
        repeat array_get_dec
        refine wq_fdiv (od _) ?_
        repeat array_get_dec
        refine wq_fdiv (od _) ?_
        repeat array_get_dec
        first | exact rfl | exact ⟨rfl, rfl⟩
      · refine KI.f (decide_eq_false c3) ?_
        repeat array_get_dec
        rw [(dv_f (by unfold T4.neg; simp [c2]; omega))]
        refine wq_fdiv (od _) ?_
        repeat array_get_dec
        refine wq_fdiv (od _) ?_
        repeat array_get_dec
        refine wq_fdiv (od _) ?_
        repeat array_get_dec
        refine wq_fdiv (od _) ?_
        repeat array_get_dec
        first | exact rfl | exact ⟨rfl, rfl⟩
    · refine KT.f (by simp [c2]) (KI.f (decide_eq_false c2) ?_)
      repeat array_get_dec
      rw [(dv_f (by unfold T4.neg; simp [c2]; omega))]
      refine wq_fdiv (od _) ?_
      repeat array_get_dec
      refine wq_fdiv (od _) ?_
      repeat array_get_dec
      refine wq_fdiv (od _) ?_
      repeat array_get_dec
      refine wq_fdiv (od _) ?_
      repeat array_get_dec
      first | exact rfl | exact ⟨rfl, rfl⟩
theorem size_ok {x : T4} (h : T4.Bd 3000 x) (ah : AH) : m_size [mv x] ah = .ok (.int x.det) ah := by
  refine wq_get (wq_def0 ?_)
  unfold b_size mv
  simp only [List.map_cons, List.map_nil, List.cons_append, List.nil_append, List.length_cons, List.length_nil, List.replicate, Nat.zero_add, Nat.reduceAdd, Nat.reduceSub]
  repeat array_get_dec
  refine wq_mul (om2 h.a h.d) ?_
  repeat array_get_dec
  refine wq_mul (om2 h.b h.c) ?_
  repeat array_get_dec
  first | exact rfl | exact ⟨rfl, rfl⟩
end
section
theorem com {k : Nat} {a b : Int} (h : B k b) (hk : k ≤ 20000) (ah : AH) : m__law_common [.int a, .int b] ah = .ok (.int (Nat.gcd a.natAbs b.natAbs : Nat)) ah := com_ok a b ah (h.mono hk)
def nzB (i : Int) : Bool := !decide (i = 0)
theorem lc_ne (w0 w1 w2 w3 w4 w5 w6 : Option D) (ah : AH) : ∀ xs : List Int, lc (oN 6) (tV (e2 gNe (eV 6) (eC (.int 0)))) (eV 6) [6] [w0, w1, w2, w3, w4, w5, w6] (xs.map D.int) ah = .ok ((xs.filter nzB).map D.int) ah
  | [] => rfl
  | x :: xs => by
    have ih := lc_ne w0 w1 w2 w3 w4 w5 w6 ah xs
    have e1 : M.lift (oN 6 (.int x) (wipeE [w0, w1, w2, w3, w4, w5, w6] [6])) ah = .ok [w0, w1, w2, w3, w4, w5, some (.int x)] ah := rfl
    have e2 : tV (e2 gNe (eV 6) (eC (.int 0))) [w0, w1, w2, w3, w4, w5, some (.int x)] ah = .ok (nzB x) ah := rfl
    have e3 : eV 6 [w0, w1, w2, w3, w4, w5, some (.int x)] ah = .ok (.int x) ah := rfl
    show (M.andThen _ _) ah = _
    simp only [M.andThen, e1, e2]
    cases h : nzB x with
    | true =>
      simp only [if_true, M.andThen, e3, ih, M.ret, List.filter_cons, h, List.map_cons]
    | false =>
      simp only [Bool.false_eq_true, if_false, ih, List.filter_cons, h]
/-- the first number of a table that is not 0 -/
theorem first_nz (x : T4) (h : ¬ (x.a = 0 ∧ x.b = 0)) : ∃ r, [x.a, x.b, x.c, x.d].filter nzB = (if x.a = 0 then x.b else x.a) :: r := by
  by_cases h1 : x.a = 0
  · have h2 : ¬ x.b = 0 := fun z => h ⟨h1, z⟩
    exact ⟨_, by rw [if_pos h1]; simp only [List.filter_cons, nzB, h1, h2, decide_true, decide_false, Bool.not_true, Bool.not_false, if_true, Bool.false_eq_true, if_false]; rfl⟩
  · exact ⟨_, by rw [if_neg h1]; simp only [List.filter_cons, nzB, h1, decide_false, Bool.not_false, if_true]; rfl⟩
theorem lmove_ok {k : Nat} {x : T4} (h : T4.Bd k x) (hk : k ≤ 8000) (h0 : x.det ≠ 0) (ah : AH) : m__law_move [.int x.a, .int x.b, .int x.c, .int x.d] ah = .ok (mv x.nm) ah := by
  have od := okd h hk (T4.nz_of_det h0)
  refine wq_get (wq_def0 ?_)
  unfold b__law_move
  simp only [List.map_cons, List.map_nil, List.cons_append, List.nil_append, List.length_cons, List.length_nil, List.replicate, Nat.zero_add, Nat.reduceAdd, Nat.reduceSub]
  repeat array_get_dec
  refine wq_eq (com h.b (by omega) ah) ?_
  repeat array_get_dec
  refine wq_eq (com h.d (by omega) ah) ?_
  repeat array_get_dec
  have bg : B 8000 ((x.c.natAbs.gcd x.d.natAbs : Nat) : Int) := by
    by_cases c1 : x.c = 0
    · by_cases c2 : x.d = 0
      · rw [c1, c2]; exact (by decide : (0 : Nat) < 2 ^ 8000)
      · exact (B_gcd h.d (Int.natAbs_dvd_natAbs.mp (Nat.gcd_dvd_right _ _)) c2).mono hk
    · exact (B_gcd h.c (Int.natAbs_dvd_natAbs.mp (Nat.gcd_dvd_left _ _)) c1).mono hk
  refine wq_eq (com bg (by decide) ah) ?_
  repeat array_get_dec
  refine ⟨le5 rfl, wq_eq (lc_ne _ _ _ _ _ _ _ ah [x.a, x.b, x.c, x.d]) ?_⟩
  obtain ⟨r, er⟩ := first_nz x (T4.ab_of_det h0)
  rw [er]
  have eg : ((((x.a.natAbs.gcd x.b.natAbs : Nat) : Int).natAbs.gcd ((x.c.natAbs.gcd x.d.natAbs : Nat) : Int).natAbs : Nat) : Int) = (x.g4 : Int) := by
    show (((x.a.natAbs.gcd x.b.natAbs).gcd (x.c.natAbs.gcd x.d.natAbs) : Nat) : Int) = (x.g4 : Int)
    rw [← Nat.gcd_assoc]; rfl
  rw [eg]
  repeat array_get_dec
  refine wq_ixL (d := .int (if x.a = 0 then x.b else x.a)) (L2.atI_nat (j := 0) rfl) ?_
  repeat array_get_dec
  have hz : (if x.a = 0 then x.b else x.a) ≠ 0 := by
    have := T4.ab_of_det h0
    split <;> omega
  refine KI.split (fun c => ?_) (fun c => ?_)
  · have c := of_decide_eq_true c
    have e : (x.g4 : Int) = x.dv := by
      refine dv_f ?_
      unfold T4.neg
      split at c <;> simp <;> omega
    rw [e]
    repeat array_get_dec
    refine wq_fdiv (od _) ?_
    repeat array_get_dec
    refine wq_fdiv (od _) ?_
    repeat array_get_dec
    refine wq_fdiv (od _) ?_
    repeat array_get_dec
    refine wq_fdiv (od _) ?_
    repeat array_get_dec
    first | exact rfl | exact ⟨rfl, rfl⟩
  · have c := of_decide_eq_false c
    have e : 0 - (x.g4 : Int) = x.dv := by
      rw [Int.zero_sub]
      refine dv_t ?_
      unfold T4.neg
      split at c
      · rename_i h1
        rw [if_pos h1] at hz
        simp [h1]; omega
      · rename_i h1
        rw [if_neg h1] at hz
        simp; omega
    repeat array_get_dec
    rw [e]
    refine wq_fdiv (od _) ?_
    repeat array_get_dec
    refine wq_fdiv (od _) ?_
    repeat array_get_dec
    refine wq_fdiv (od _) ?_
    repeat array_get_dec
    refine wq_fdiv (od _) ?_
    repeat array_get_dec
    first | exact rfl | exact ⟨rfl, rfl⟩
end
section
theorem Dm.nm {k : Nat} {x : T4} (h : T4.Bd k x) (h0 : x.det ≠ 0) : Dm k x.nm := ⟨T4.ok_nm h0, T4.det_nm h0, h.nm (T4.nz_of_det h0)⟩
variable {q : Q} {rest : AH} {K : D → AH → Prop}
theorem bd4 {k : Nat} {a b c d : Int} (ha : B k a) (hb : B k b) (hc : B k c) (hd : B k d) : T4.Bd k ⟨a, b, c, d⟩ := ⟨ha, hb, hc, hd⟩
theorem wq_lmove {k : Nat} {a b c d : Int} {ah : AH} (h : T4.Bd k ⟨a, b, c, d⟩) (hk : k ≤ 8000) (h0 : (T4.mk a b c d).det ≠ 0) (q : ∀ x, Dm k x → K (mv x) ah) : W (m__law_move [.int a, .int b, .int c, .int d] ah) K :=
  wq_eq (lmove_ok (x := ⟨a, b, c, d⟩) h hk h0 ah) (q _ (Dm.nm h h0))
end
section
theorem s5 : decide (5 ≤ sizeLine) = true := decide_eq_true (by rw [sl]; omega)
theorem atI_get {xs : List D} {k : Int} (h0 : 0 ≤ k) (h1 : k < xs.length) : ∃ x, x ∈ xs ∧ L2.atI xs k = some x := by
  obtain ⟨j, rfl⟩ := Int.eq_ofNat_of_zero_le h0
  have hk : j < xs.length := by omega
  exact ⟨xs[j], List.getElem_mem hk, L2.atI_nat (List.getElem?_eq_getElem hk)⟩
theorem p109 (ah : AH) : gPow (.int 10) (.int 9) ah = .ok (.int (10 ^ 9)) ah := rfl
theorem p229 (ah : AH) : gPow (.int 2) (.int 29) ah = .ok (.int (2 ^ 29)) ah := rfl
theorem p318 (ah : AH) : gPow (.int 3) (.int 18) ah = .ok (.int (3 ^ 18)) ah := rfl
section
variable {q : Q} (hq : q.ok) (rest : AH)
include hq
theorem choice_ok {xs : List D} (h0 : xs ≠ []) (h1 : xs.length ≤ 1000) : ∃ x q', q'.ok ∧ x ∈ xs ∧ m__law_choice_of [.ref 0, .lst xs] (SRC q rest) = .ok x (SRC q' rest) := by
  have hl : 0 < xs.length := List.length_pos_iff.mpr h0
  obtain ⟨k, q1, o1, a, b, e⟩ := pick (most := xs.length) (by omega) (by omega) q hq rest
  obtain ⟨x, hx, ex⟩ := atI_get (xs := xs) a b
  refine ⟨x, q1, o1, hx, ?_⟩
  unfold m__law_choice_of b__law_choice_of
  simp only [def0, sPs, sSet, sIf, sRt, sNx, sEx, sRtN, sPar2, sPar3, tV, tA, tO, tN, Mi.e2, Mi.e1, eL, eI, eA, eO, eCall, esC, esN, eC, M.andThen, eV, M.lift, M.ret, M.when, gI, gCmp, gLt, gLe, gGt, gGe, Mi.gSub, gMul, gAdd, gFdiv, gMod, gNeg, gNot, gGcd, gTupD, gLstD, gInt, gAbs, List.map_cons, List.map_nil, List.cons_append, List.nil_append, List.length_cons, List.length_nil, List.replicate, List.set_cons_zero, List.set_cons_succ, List.getElem?_cons_zero, List.getElem?_cons_succ, Option.join_some, if_true, Bool.false_eq_true, if_false, Nat.zero_add, decide_true, Nat.reduceAdd, Nat.reduceSub, gLen, e, gIx, ex]
theorem number_ok : ∃ n q', q'.ok ∧ B 30 n ∧ m__law_number [.ref 0] (SRC q rest) = .ok (.int n) (SRC q' rest) := by
  obtain ⟨k, q1, o1, a, b, e⟩ := pick (most := 9) (by decide) (by decide) q hq rest
  by_cases hk : k = 0
  · obtain ⟨j, q2, o2, c, d, f⟩ := pick (most := 5) (by decide) (by decide) q1 o1 rest
    have l : ∃ n, B 30 n ∧ L2.atI [D.int (10 ^ 9 - 1), .int (1 - 10 ^ 9), .int (2 ^ 29), .int (3 ^ 18), .int 360360] j = some (.int n) := by
      have : j = 0 ∨ j = 1 ∨ j = 2 ∨ j = 3 ∨ j = 4 := by omega
      rcases this with rfl | rfl | rfl | rfl | rfl
      · exact ⟨_, B.of (by decide) (by decide), rfl⟩
      · exact ⟨_, B.of (by decide) (by decide), rfl⟩
      · exact ⟨_, B.of (by decide) (by decide), rfl⟩
      · exact ⟨_, B.of (by decide) (by decide), rfl⟩
      · exact ⟨_, B.of (by decide) (by decide), rfl⟩
    obtain ⟨n, hn, en⟩ := l
    refine ⟨n, q2, o2, hn, ?_⟩
    unfold m__law_number b__law_number
    simp only [def0, sPs, sSet, sIf, sRt, sNx, sEx, sRtN, sPar2, sPar3, tV, tA, tO, tN, Mi.e2, Mi.e1, eL, eI, eA, eO, eCall, esC, esN, eC, M.andThen, eV, M.lift, M.ret, M.when, gI, gCmp, gLt, gLe, gGt, gGe, Mi.gSub, gMul, gAdd, gFdiv, gMod, gNeg, gNot, gGcd, gTupD, gLstD, gInt, gAbs, List.map_cons, List.map_nil, List.cons_append, List.nil_append, List.length_cons, List.length_nil, List.replicate, List.set_cons_zero, List.set_cons_succ, List.getElem?_cons_zero, List.getElem?_cons_succ, Option.join_some, if_true, Bool.false_eq_true, if_false, Nat.zero_add, decide_true, Nat.reduceAdd, Nat.reduceSub, e, eq_int, hk, p109, p229, p318, s5, f, gIx, en]
  · have e0 : decide (k = 0) = false := decide_eq_false hk
    by_cases h1 : 1 < k
    · have e1 : decide (1 < k) = true := decide_eq_true h1
      obtain ⟨j, q2, o2, c, d, f⟩ := pick (most := 25) (by decide) (by decide) q1 o1 rest
      refine ⟨j - 12, q2, o2, B.of (by omega) (by omega), ?_⟩
      unfold m__law_number b__law_number
      simp only [def0, sPs, sSet, sIf, sRt, sNx, sEx, sRtN, sPar2, sPar3, tV, tA, tO, tN, Mi.e2, Mi.e1, eL, eI, eA, eO, eCall, esC, esN, eC, M.andThen, eV, M.lift, M.ret, M.when, gI, gCmp, gLt, gLe, gGt, gGe, Mi.gSub, gMul, gAdd, gFdiv, gMod, gNeg, gNot, gGcd, gTupD, gLstD, gInt, gAbs, List.map_cons, List.map_nil, List.cons_append, List.nil_append, List.length_cons, List.length_nil, List.replicate, List.set_cons_zero, List.set_cons_succ, List.getElem?_cons_zero, List.getElem?_cons_succ, Option.join_some, if_true, Bool.false_eq_true, if_false, Nat.zero_add, decide_true, Nat.reduceAdd, Nat.reduceSub, e, eq_int, e0, e1, f]
    · have e1 : decide (1 < k) = false := decide_eq_false h1
      obtain ⟨j, q2, o2, c, d, f⟩ := pick (most := 44721) (by decide) (by decide) q1 o1 rest
      obtain ⟨i, q3, o3, c3, d3, f3⟩ := pick (most := 44721) (by decide) (by decide) q2 o2 rest
      refine ⟨j * 44721 + i - 999999999, q3, o3, B.of (by omega) (by omega), ?_⟩
      have m : okMul j 44721 = true := okMul_r (by decide) (by decide)
      unfold m__law_number b__law_number
      simp only [def0, sPs, sSet, sIf, sRt, sNx, sEx, sRtN, sPar2, sPar3, tV, tA, tO, tN, Mi.e2, Mi.e1, eL, eI, eA, eO, eCall, esC, esN, eC, M.andThen, eV, M.lift, M.ret, M.when, gI, gCmp, gLt, gLe, gGt, gGe, Mi.gSub, gMul, gAdd, gFdiv, gMod, gNeg, gNot, gGcd, gTupD, gLstD, gInt, gAbs, List.map_cons, List.map_nil, List.cons_append, List.nil_append, List.length_cons, List.length_nil, List.replicate, List.set_cons_zero, List.set_cons_succ, List.getElem?_cons_zero, List.getElem?_cons_succ, Option.join_some, if_true, Bool.false_eq_true, if_false, Nat.zero_add, decide_true, Nat.reduceAdd, Nat.reduceSub, e, eq_int, e0, e1, f, m, f3]
end
end
end
section
def quad : D → Option T4
  | .tup [.int a, .int b, .int c, .int d] => some ⟨a, b, c, d⟩
  | _ => none
theorem quad_some {v : D} {x : T4} (h : quad v = some x) : v = mv x := by
  unfold quad at h
  split at h
  · cases h; rfl
  · exact nomatch h
def mvEq (x y : T4) : Bool := (x.a == y.a) && ((x.b == y.b) && ((x.c == y.c) && ((x.d == y.d) && true)))
def mvB (v : D) : Bool := match quad v with
  | some x => !decide (x.det = 0) && mvEq x.nm x
  | none => false
theorem mvB_mv (x : T4) : mvB (mv x) = (!decide (x.det = 0) && mvEq x.nm x) := rfl
theorem mvB_none {v : D} (h : quad v = none) : mvB v = false := by unfold mvB; rw [h]
theorem wq_eqM {x y : T4} {ah : AH} {K : D → AH → Prop} (k : K (.bl (mvEq x y)) ah) : W (gEq (mv x) (mv y) ah) K := by
  refine wq_when (c := okEq (mv x) (mv y)) rfl (wq_ret ?_)
  exact k
theorem quad_ints {p q r s : D} (h : [p, q, r, s].all isI = true) : ∃ x : T4, D.tup [p, q, r, s] = mv x := by
  have h1 := Bool.and_eq_true_iff.mp h
  have h2 := Bool.and_eq_true_iff.mp h1.2
  have h3 := Bool.and_eq_true_iff.mp h2.2
  have h4 := Bool.and_eq_true_iff.mp h3.2
  have e : ∀ {d : D}, isI d = true → ∃ i, d = .int i := fun {d} h => by
    cases d with
    | int i => exact ⟨i, rfl⟩
    | _ => exact nomatch h
  obtain ⟨a, rfl⟩ := e h1.1
  obtain ⟨b, rfl⟩ := e h2.1
  obtain ⟨c, rfl⟩ := e h3.1
  obtain ⟨d, rfl⟩ := e h4.1
  exact ⟨⟨a, b, c, d⟩, rfl⟩
theorem quad_no {p q r s : D} (h : [p, q, r, s].all isI = false) : quad (.tup [p, q, r, s]) = none := by
  cases e : quad (.tup [p, q, r, s]) with
  | none => rfl
  | some x =>
    exfalso
    have z := quad_some e
    unfold mv at z
    cases z
    exact nomatch h
theorem quad_len {xs : List D} (h : xs.length ≠ 4) : quad (.tup xs) = none := by
  cases e : quad (.tup xs) with
  | none => rfl
  | some x =>
    exfalso
    have z := quad_some e
    unfold mv at z
    cases z
    exact h rfl
theorem quad_nt {v : D} (h : isT v = false) : quad v = none := by
  cases e : quad v with
  | none => rfl
  | some x =>
    exfalso
    rw [quad_some e] at h
    exact nomatch h
theorem bd_sm {x : T4} (h : (mv x).sm = true) : T4.Bd 200 x := by
  have h1 : ((decide (x.a.natAbs < 2 ^ 200)) && ((decide (x.b.natAbs < 2 ^ 200)) && ((decide (x.c.natAbs < 2 ^ 200)) && ((decide (x.d.natAbs < 2 ^ 200)) && true)))) = true := h
  have h1 := Bool.and_eq_true_iff.mp h1
  have h2 := Bool.and_eq_true_iff.mp h1.2
  have h3 := Bool.and_eq_true_iff.mp h2.2
  have h4 := Bool.and_eq_true_iff.mp h3.2
  exact bd4 (of_decide_eq_true h1.1) (of_decide_eq_true h2.1) (of_decide_eq_true h3.1) (of_decide_eq_true h4.1)
/-- a list whose length is 4 -/
theorem four {xs : List D} (h : xs.length = 4) : ∃ p q r s, xs = [p, q, r, s] := by
  match xs, h with
  | [p, q, r, s], _ => exact ⟨p, q, r, s, rfl⟩
theorem ne4 {xs : List D} (h : xs.length ≠ 4) : decide ((xs.length : Int) = 4) = false := decide_eq_false (by omega)
theorem wq_isiTy {d : D} {ah : AH} {K : D → AH → Prop} (h : pln d = true) (k : K (.bl (isT d)) ah) : W (gIsi [d, .oth (.ty "tuple")] ah) K := wq_eq (isi_tup d h ah) k
theorem ismove_any (v : D) (h : plns v = true) (hs : v.sm = true) (ah : AH) : m_is_move [v] ah = .ok (.bl (mvB v)) ah := by
  refine wq_get (wq_def0 ?_)
  unfold b_is_move
  simp only [List.map_cons, List.map_nil, List.cons_append, List.nil_append, List.length_cons, List.length_nil, List.replicate, Nat.zero_add, Nat.reduceAdd, Nat.reduceSub]
  cases hT : isT v with
  | false =>
    rw [mvB_none (quad_nt hT)]
    refine wq_sPs (wq_sIf (wq_tO (wq_tN (wq_tV ?_))))
    repeat array_get_dec
    refine wq_isiTy (plns_pln h) ?_
    rw [hT]
    repeat array_get_dec
    first | exact rfl | exact ⟨rfl, rfl⟩
  | true =>
    cases v with
    | tup xs =>
      refine wq_sPs (wq_sIf (wq_tO (wq_tN (wq_tV ?_))))
      repeat array_get_dec
      by_cases hl : xs.length = 4
      · obtain ⟨p, q, r, s, rfl⟩ := four hl
        repeat array_get_dec
        refine ⟨le5 rfl, wq_lc_maps id (fun d => .bl (isI d)) [p, q, r, s] (fun d hd => ⟨_, rfl, ?_⟩) ?_⟩
        · repeat array_get_dec
          exact wq_eq (isnum_ok d (List.all_eq_true.mp h d hd) ah) ⟨rfl, rfl⟩
        repeat array_get_dec
        refine wq_all (f := isI) ?_
        cases hi : [p, q, r, s].all isI with
        | false =>
          rw [mvB_none (quad_no hi)]
          repeat array_get_dec
          first | exact rfl | exact ⟨rfl, rfl⟩
        | true =>
          obtain ⟨x, ex⟩ := quad_ints hi
          rw [ex] at hs ⊢
          have bx := bd_sm hs
          rw [mvB_mv]
          repeat array_get_dec
          refine wq_eq (size_ok (bx.mono (by decide)) ah) ?_
          repeat array_get_dec
          by_cases hd : x.det = 0
          · rw [decide_eq_true hd]
            repeat array_get_dec
            first | exact rfl | exact ⟨rfl, rfl⟩
          · rw [decide_eq_false hd]
            repeat array_get_dec
            refine wq_eq (scaled_ok bx (by decide) (T4.nz_of_det hd) ah) ?_
            repeat array_get_dec
            refine wq_eqM ?_
            first | exact rfl | exact ⟨rfl, rfl⟩
      · rw [mvB_none (quad_len hl), ne4 hl]
        repeat array_get_dec
        first | exact rfl | exact ⟨rfl, rfl⟩
    | _ => exact nomatch hT
theorem mvB_dm {k : Nat} {x : T4} (h : Dm k x) : mvB (mv x) = true := by
  rw [mvB_mv, h.ok.nm h.det, decide_eq_false h.det]
  unfold mvEq
  simp
end
end Law
set_option Elab.async false
set_option linter.all false
set_option maxRecDepth 100000
set_option maxHeartbeats 400000
set_option exponentiation.threshold 30000
namespace Law
open PySem PySem.Spec PyProof.Rows L2 Mi
local macro_rules | `(tactic| array_get_dec) => `(tactic| first
  | (with_reducible refine wq_sPs ?_)
  | ((with_reducible refine wq_eV (d := ?d) ?e ?_); (case e => exact rfl))
  | (with_reducible refine wq_eC ?_)
  | (with_reducible refine wq_e2 ?_)
  | (with_reducible refine wq_eL ?_)
  | (with_reducible refine wq_esC ?_)
  | (with_reducible refine wq_esN ?_)
  | (with_reducible refine wq_e1 ?_)
  | (with_reducible refine wq_eCall ?_)
  | (with_reducible refine KS.nx ?_; (try simp only [List.set_cons_succ, List.set_cons_zero]))
  | (with_reducible refine KS.rt ?_)
  | (with_reducible refine wq_sSet ?_)
  | (with_reducible refine wq_sIf ?_)
  | (with_reducible refine wq_sRt ?_)
  | (with_reducible refine wq_tV ?_)
  | (with_reducible refine wq_tN ?_)
  | (with_reducible refine wq_tA ?_)
  | (with_reducible refine wq_tO ?_)
  | (with_reducible refine wq_tI ?_)
  | (with_reducible refine wq_tYs ?_)
  | (with_reducible refine wq_eI ?_)
  | (with_reducible refine wq_eA ?_)
  | (with_reducible refine wq_eO ?_)
  | (with_reducible refine wq_eCh ?_)
  | (with_reducible refine wq_add ?_)
  | (with_reducible refine wq_sub ?_)
  | (with_reducible refine wq_lt ?_)
  | (with_reducible refine wq_le ?_)
  | (with_reducible refine wq_gt ?_)
  | (with_reducible refine wq_ge ?_)
  | (with_reducible refine wq_eqI ?_)
  | (with_reducible refine wq_neI ?_)
  | (with_reducible refine wq_neSame ?_)
  | (with_reducible refine wq_neg ?_)
  | (with_reducible refine wq_not ?_)
  | (with_reducible refine wq_and ?_)
  | (with_reducible refine wq_tupD (le5 rfl) ?_)
  | (with_reducible refine wq_lstD (le5 rfl) ?_)
  | ((with_reducible refine wq_ixT (d := ?d) ?e ?_); (case e => exact rfl))
  | ((with_reducible refine wq_ixL (d := ?d) ?e ?_); (case e => exact rfl))
  | (with_reducible refine wq_lenT ?_)
  | (with_reducible refine wq_lenL ?_)
  | (with_reducible refine wq_int ?_)
  | (with_reducible refine wq_gcd ?_)
  | (with_reducible refine wq_gcd4 ?_)
  | (with_reducible refine wq_tupT ?_)
  | (with_reducible refine wq_tupL ?_)
  | (with_reducible refine wq_lstT ?_)
  | (with_reducible refine wq_lstL ?_)
  | (with_reducible refine wq_revL ?_)
  | (with_reducible refine wq_sNx ?_)
  | (with_reducible refine wq_sEx ?_)
  | (with_reducible refine wq_sRtN ?_)
  | (with_reducible refine wq_sAsg ?_)
  | (with_reducible refine wq_sPar2 ?_)
  | (with_reducible refine wq_sPar3 ?_)
  | (with_reducible refine wq_gN ?_)
  | (with_reducible refine wq_gsN ?_)
  | (with_reducible refine wq_gsC ?_)
  | (with_reducible refine wq_gT rfl ?_)
  | (with_reducible refine wq_gLs rfl ?_)
  | (with_reducible refine wq_iOf ?_)
  | (with_reducible refine wq_iOfs ?_)
  | (with_reducible refine wq_itL ?_)
  | (with_reducible refine wq_itT ?_)
  | (with_reducible refine wq_itAL ?_)
  | (with_reducible refine wq_itAT ?_)
  | (with_reducible refine wq_itR1 rfl ?_)
  | (with_reducible refine wq_itR2 rfl ?_)
  | (with_reducible refine wq_sFo ?_)
  | (with_reducible refine wq_fo_nil ?_)
  | (with_reducible refine wq_eLc ?_)
  | (with_reducible refine wq_eSl ?_)
  | (with_reducible refine wq_partN ?_)
  | (with_reducible refine wq_partI ?_)
  | (with_reducible refine wq_slT ?_)
  | (with_reducible refine wq_slL ?_)
  | (with_reducible refine wq_isiI ?_)
  | (with_reducible refine wq_isiB ?_)
  | (with_reducible refine wq_isiT ?_)
  | (with_reducible refine wq_eqF ?_)
  | (with_reducible refine wq_neF2 ?_)
  | (with_reducible refine wq_eCallS ?_)
  | (with_reducible refine wq_mv0 ?_)
  | (with_reducible refine wq_mv1 ?_)
  | (with_reducible refine wq_mv2 ?_)
  | (with_reducible refine wq_mv3 ?_)
  | (with_reducible refine wq_fr0 ?_)
  | (with_reducible refine wq_fr1 ?_)
  | (with_reducible refine wq_ret ?_)
  | (with_reducible refine ⟨_, rfl, ?_⟩)
  | (with_reducible refine ⟨rfl, ?_⟩)
  | (with_reducible refine KB.f (by decide) ?_)
  | (with_reducible refine KB.t rfl ?_)
  | (with_reducible refine KI.t rfl ?_)
  | (with_reducible refine KI.f rfl ?_)
  | (with_reducible refine KT.t rfl ?_)
  | (with_reducible refine KT.f (by decide) ?_))
/-! ## what tells a fraction, and what does not -/
def Tl (v : D) (x : Int × Int) : Prop := Nf x ∧ (v = fr x ∨ (x.2 = 1 ∧ v = .int x.1))
theorem frB_fr {x : Int × Int} (h : Nf x) : frB (fr x) = true := by
  show (decide (0 < x.2) && decide (((Nat.gcd x.1.natAbs x.2.natAbs : Nat) : Int) = 1)) = true
  rw [decide_eq_true h.pos, decide_eq_true (by rw [h.one]; rfl)]; rfl
theorem as_ok {v : D} {x : Int × Int} (h : Tl v x) (ah : AH) : m_as_fraction [v] ah = .ok (fr x) ah := by
  refine wq_get (wq_defM ?_)
  unfold b_as_fraction
  simp only [List.map_cons, List.map_nil, List.cons_append, List.nil_append, List.length_cons, List.length_nil, List.replicate, Nat.zero_add, Nat.reduceAdd, Nat.reduceSub]
  repeat array_get_dec
  obtain ⟨nx, rfl | ⟨e, rfl⟩⟩ := h
  · refine wq_eq (isnum_ok (fr x) rfl ah) ?_
    repeat array_get_dec
    refine wq_eq (isfrac_ok (fr x) rfl ah) ?_
    rw [frB_fr nx]
    repeat array_get_dec
    first | exact rfl | exact ⟨rfl, rfl⟩
  · refine wq_eq (isnum_ok (.int x.1) rfl ah) ?_
    repeat array_get_dec
    have : fr x = .tup [.int x.1, .int 1] := by unfold fr; rw [e]
    rw [this]
    first | exact rfl | exact ⟨rfl, rfl⟩
theorem as_x {d : D} (hd : plns d = true) (hi : isI d = false) (hf : frB d = false) (ah : AH) : m_as_fraction [d] ah = .ex ⟨"BadMove", []⟩ [] ah := by
  refine defM_ex (env' := [some d]) ?_
  unfold b_as_fraction
  show sPs _ _ [some d] ah = _
  have e1 : sIf (tV (eCall 1 m_is_number (esC (eV 0) esN))) (sRt (eL gTupD (esC (eV 0) (esC (eC (.int 1)) esN)))) sNx [some d] ah = .ok (.nx, [some d]) ah := by
    refine wq_get ?_
    repeat array_get_dec
    refine wq_eq (isnum_ok d (plns_pln hd) ah) ?_
    rw [hi]
    repeat array_get_dec
    first | exact rfl | exact ⟨rfl, rfl⟩
  have e2 : sIf (tV (eCall 1 m_is_fraction (esC (eV 0) esN))) (sRt (eV 0)) sNx [some d] ah = .ok (.nx, [some d]) ah := by
    refine wq_get ?_
    repeat array_get_dec
    refine wq_eq (isfrac_ok d hd ah) ?_
    rw [hf]
    repeat array_get_dec
    first | exact rfl | exact ⟨rfl, rfl⟩
  simp [sPs, M.andThen, e1, e2, sRaise]
/-! ## the four, each asked -/
def lcE (env : Lc) : List D → M (List D) := lc (oN 6) (fun e1 => hush (tYs e1)) (fun e1 => reEnv env (eCall 1 m_as_fraction (esC (eV 6) esN) e1)) [6] env
theorem lcE_nil (env : Lc) (ah : AH) : lcE env [] ah = .ok [] ah := rfl
theorem lcE_at (env : Lc) (v : D) (vs : List D) (ah : AH) : lcE env (v :: vs) ah = M.andThen (reEnv env (eCall 1 m_as_fraction (esC (eV 6) esN) ((wipeE env [6]).set 6 (some v)))) (fun y => M.andThen (lcE env vs) fun ys => M.ret (y :: ys)) ah := by
  unfold lcE
  rw [lc]
  simp [M.andThen, M.lift, oN, hush, tYs, M.ret]
theorem el_at {env : Lc} {v : D} (h : (((wipeE env [6]).set 6 (some v))[6]?).join = some v) (ah : AH) : eCall 1 m_as_fraction (esC (eV 6) esN) ((wipeE env [6]).set 6 (some v)) ah = (match m_as_fraction [v] ah with
  | .no => .no
  | .ok d ah' => .ok d ah'
  | .ex e _ ah' => .ex e ((wipeE env [6]).set 6 (some v)) ah') := by
  simp only [eCall, esC, esN, eV, M.andThen, M.lift, M.ret, M.when, h]
  rfl
def en4 (a b c d : D) : Lc := [some a, some b, some c, some d, none, none, none, none]
theorem en4_at (a b c d v : D) : (((wipeE (en4 a b c d) [6]).set 6 (some v))[6]?).join = some v := rfl
theorem lcE_ok {a b c d v : D} {x : Int × Int} (h : Tl v x) (vs : List D) (ah : AH) : lcE (en4 a b c d) (v :: vs) ah = M.andThen (lcE (en4 a b c d) vs) (fun ys => M.ret (fr x :: ys)) ah := by
  rw [lcE_at]
  simp only [M.andThen, reEnv, el_at (en4_at a b c d v), as_ok h]
theorem lcE_x {a b c d v : D} (hd : plns v = true) (hi : isI v = false) (hf : frB v = false) (vs : List D) (ah : AH) : lcE (en4 a b c d) (v :: vs) ah = .ex ⟨"BadMove", []⟩ (en4 a b c d) ah := by
  rw [lcE_at]
  simp only [M.andThen, reEnv, el_at (en4_at a b c d v), as_x hd hi hf]
theorem lcE_then {a b c d v : D} {x : Int × Int} (h : Tl v x) {vs : List D} {ah : AH} {e : Ex} {env' : Lc} (q : lcE (en4 a b c d) vs ah = .ex e env' ah) : lcE (en4 a b c d) (v :: vs) ah = .ex e env' ah := by
  rw [lcE_ok h]
  simp only [M.andThen, q]
end Law
set_option Elab.async false
set_option linter.all false
set_option maxRecDepth 100000
set_option maxHeartbeats 400000
set_option exponentiation.threshold 30000
namespace Law
open PySem PySem.Spec PyProof.Rows L2 Mi
local macro_rules | `(tactic| array_get_dec) => `(tactic| first
  | (with_reducible refine wq_sPs ?_)
  | ((with_reducible refine wq_eV (d := ?d) ?e ?_); (case e => exact rfl))
  | (with_reducible refine wq_eC ?_)
  | (with_reducible refine wq_e2 ?_)
  | (with_reducible refine wq_eL ?_)
  | (with_reducible refine wq_esC ?_)
  | (with_reducible refine wq_esN ?_)
  | (with_reducible refine wq_e1 ?_)
  | (with_reducible refine wq_eCall ?_)
  | (with_reducible refine KS.nx ?_; (try simp only [List.set_cons_succ, List.set_cons_zero]))
  | (with_reducible refine KS.rt ?_)
  | (with_reducible refine wq_sSet ?_)
  | (with_reducible refine wq_sIf ?_)
  | (with_reducible refine wq_sRt ?_)
  | (with_reducible refine wq_tV ?_)
  | (with_reducible refine wq_tN ?_)
  | (with_reducible refine wq_tA ?_)
  | (with_reducible refine wq_tO ?_)
  | (with_reducible refine wq_tI ?_)
  | (with_reducible refine wq_tYs ?_)
  | (with_reducible refine wq_eI ?_)
  | (with_reducible refine wq_eA ?_)
  | (with_reducible refine wq_eO ?_)
  | (with_reducible refine wq_eCh ?_)
  | (with_reducible refine wq_add ?_)
  | (with_reducible refine wq_sub ?_)
  | (with_reducible refine wq_lt ?_)
  | (with_reducible refine wq_le ?_)
  | (with_reducible refine wq_gt ?_)
  | (with_reducible refine wq_ge ?_)
  | (with_reducible refine wq_eqI ?_)
  | (with_reducible refine wq_neI ?_)
  | (with_reducible refine wq_neSame ?_)
  | (with_reducible refine wq_neg ?_)
  | (with_reducible refine wq_not ?_)
  | (with_reducible refine wq_and ?_)
  | (with_reducible refine wq_tupD (le5 rfl) ?_)
  | (with_reducible refine wq_lstD (le5 rfl) ?_)
  | ((with_reducible refine wq_ixT (d := ?d) ?e ?_); (case e => exact rfl))
  | ((with_reducible refine wq_ixL (d := ?d) ?e ?_); (case e => exact rfl))
  | (with_reducible refine wq_lenT ?_)
  | (with_reducible refine wq_lenL ?_)
  | (with_reducible refine wq_int ?_)
  | (with_reducible refine wq_gcd ?_)
  | (with_reducible refine wq_gcd4 ?_)
  | (with_reducible refine wq_tupT ?_)
  | (with_reducible refine wq_tupL ?_)
  | (with_reducible refine wq_lstT ?_)
  | (with_reducible refine wq_lstL ?_)
  | (with_reducible refine wq_revL ?_)
  | (with_reducible refine wq_sNx ?_)
  | (with_reducible refine wq_sEx ?_)
  | (with_reducible refine wq_sRtN ?_)
  | (with_reducible refine wq_sAsg ?_)
  | (with_reducible refine wq_sPar2 ?_)
  | (with_reducible refine wq_sPar3 ?_)
  | (with_reducible refine wq_gN ?_)
  | (with_reducible refine wq_gsN ?_)
  | (with_reducible refine wq_gsC ?_)
  | (with_reducible refine wq_gT rfl ?_)
  | (with_reducible refine wq_gLs rfl ?_)
  | (with_reducible refine wq_iOf ?_)
  | (with_reducible refine wq_iOfs ?_)
  | (with_reducible refine wq_itL ?_)
  | (with_reducible refine wq_itT ?_)
  | (with_reducible refine wq_itAL ?_)
  | (with_reducible refine wq_itAT ?_)
  | (with_reducible refine wq_itR1 rfl ?_)
  | (with_reducible refine wq_itR2 rfl ?_)
  | (with_reducible refine wq_sFo ?_)
  | (with_reducible refine wq_fo_nil ?_)
  | (with_reducible refine wq_eLc ?_)
  | (with_reducible refine wq_eSl ?_)
  | (with_reducible refine wq_partN ?_)
  | (with_reducible refine wq_partI ?_)
  | (with_reducible refine wq_slT ?_)
  | (with_reducible refine wq_slL ?_)
  | (with_reducible refine wq_isiI ?_)
  | (with_reducible refine wq_isiB ?_)
  | (with_reducible refine wq_isiT ?_)
  | (with_reducible refine wq_eqF ?_)
  | (with_reducible refine wq_neF2 ?_)
  | (with_reducible refine wq_eCallS ?_)
  | (with_reducible refine wq_mv0 ?_)
  | (with_reducible refine wq_mv1 ?_)
  | (with_reducible refine wq_mv2 ?_)
  | (with_reducible refine wq_mv3 ?_)
  | (with_reducible refine wq_fr0 ?_)
  | (with_reducible refine wq_fr1 ?_)
  | (with_reducible refine wq_ret ?_)
  | (with_reducible refine ⟨_, rfl, ?_⟩)
  | (with_reducible refine ⟨rfl, ?_⟩)
  | (with_reducible refine KB.f (by decide) ?_)
  | (with_reducible refine KB.t rfl ?_)
  | (with_reducible refine KI.t rfl ?_)
  | (with_reducible refine KI.f rfl ?_)
  | (with_reducible refine KT.t rfl ?_)
  | (with_reducible refine KT.f (by decide) ?_))
open Mi.T4 (Sim sc)
/-! ## a row of four in one measure -/
def en (s : Int) (x : Int × Int) : Int := x.1 * s.fdiv x.2
def Rw (s : Int) (x y z w : Int × Int) : T4 := ⟨en s x, en s y, en s z, en s w⟩
/-- s is measured by the four -/
structure Cm (s : Int) (x y z w : Int × Int) : Prop where
  s0 : s ≠ 0
  a : x.2 ∣ s
  b : y.2 ∣ s
  c : z.2 ∣ s
  d : w.2 ∣ s
theorem en_eq {s : Int} {x : Int × Int} (h : x.2 ∣ s) (h0 : x.2 ≠ 0) : en s x * x.2 = x.1 * s := by
  have := T4.mul_fdiv h h0
  unfold en
  rw [Int.mul_assoc, Int.mul_comm (s.fdiv x.2), this]
theorem en_sim {s s' c d : Int} {x x' : Int × Int} (h : x.2 ∣ s) (h' : x'.2 ∣ s') (z : x.2 ≠ 0) (z' : x'.2 ≠ 0) (e : x'.1 * x.2 * c = x.1 * x'.2 * d) : (c * s) * en s' x' = (d * s') * en s x := by
  have e1 := en_eq h z
  have e2 := en_eq h' z'
  have : ((c * s) * en s' x') * (x.2 * x'.2) = ((d * s') * en s x) * (x.2 * x'.2) := by
    have a1 : ((c * s) * en s' x') * (x.2 * x'.2) = c * s * x.2 * (en s' x' * x'.2) := by grind
    have a2 : ((d * s') * en s x) * (x.2 * x'.2) = d * s' * x'.2 * (en s x * x.2) := by grind
    rw [a1, a2, e1, e2]
    have a3 : c * s * x.2 * (x'.1 * s') = s * s' * (x'.1 * x.2 * c) := by grind
    have a4 : d * s' * x'.2 * (x.1 * s) = s * s' * (x.1 * x'.2 * d) := by grind
    rw [a3, a4, e]
  exact Int.eq_of_mul_eq_mul_right (mul_ne z z') this
theorem rw_sim {s s' c d : Int} {x y z w x' y' z' w' : Int × Int} (h : Cm s x y z w) (h' : Cm s' x' y' z' w') (c0 : c ≠ 0) (d0 : d ≠ 0)
    (xz : x.2 ≠ 0) (yz : y.2 ≠ 0) (zz : z.2 ≠ 0) (wz : w.2 ≠ 0) (xz' : x'.2 ≠ 0) (yz' : y'.2 ≠ 0) (zz' : z'.2 ≠ 0) (wz' : w'.2 ≠ 0)
    (ex : x'.1 * x.2 * c = x.1 * x'.2 * d) (ey : y'.1 * y.2 * c = y.1 * y'.2 * d) (ez : z'.1 * z.2 * c = z.1 * z'.2 * d) (ew : w'.1 * w.2 * c = w.1 * w'.2 * d) : Sim (Rw s' x' y' z' w') (Rw s x y z w) := by
  refine ⟨c * s, d * s', mul_ne c0 h.s0, mul_ne d0 h'.s0, ?_⟩
  unfold T4.sc Rw
  simp only
  rw [en_sim h.a h'.a xz xz' ex, en_sim h.b h'.b yz yz' ey, en_sim h.c h'.c zz zz' ez, en_sim h.d h'.d wz wz' ew]
/-- what is due: the table in its one form, or the refusal -/
def REF : D := .tup [.str (Str.ofString "refused")]
def vd (t : T4) : D := if t.det = 0 then REF else mv t.nm
theorem vd_sim {s t : T4} (h : Sim s t) : vd s = vd t := by
  unfold vd
  by_cases e : s.det = 0
  · rw [if_pos e]
    by_cases e2 : t.det = 0
    · rw [if_pos e2]
    · exact absurd e (h.symm.det e2)
  · rw [if_neg e, if_neg (h.det e), T4.nm_eq_of e h]
/-! ## the program's move -/
theorem B_lcm {a b : Int} {j k : Nat} (ha : B j a) (hb : B k b) : B (j + k) ((a.natAbs.lcm b.natAbs : Nat) : Int) := by
  have h := ha.mul hb
  unfold B at *
  refine Nat.lt_of_le_of_lt ?_ h
  rw [Int.natAbs_natCast, Int.natAbs_mul]
  exact Nat.div_le_self _ _
theorem okLcm_B {k : Nat} {a : Int} (h : B k a) (hk : k ≤ 2000) : okLcm a = true := decide_eq_true (Nat.lt_of_lt_of_le h (Nat.pow_le_pow_right (by decide) hk))
def lc4 (a b c d : Int) : Int := ((((a.natAbs.lcm b.natAbs).lcm c.natAbs).lcm d.natAbs : Nat) : Int)
theorem wq_lcm4 {a b c d : Int} {k : Nat} (ha : B k a) (hb : B k b) (hc : B k c) (hd : B k d) (hk : k ≤ 2000) {ah : AH} {K : D → AH → Prop} (q : K (.int (lc4 a b c d)) ah) : W (gLcm4 [.int a, .int b, .int c, .int d] ah) K := by
  refine wq_when ?_ (wq_ret q)
  rw [okLcm_B ha hk, okLcm_B hb hk, okLcm_B hc hk, okLcm_B hd hk]; rfl
theorem lc4_b {a b c d : Int} {k : Nat} (ha : B k a) (hb : B k b) (hc : B k c) (hd : B k d) : B (4 * k) (lc4 a b c d) := by
  have h1 := B_lcm ha hb
  have h2 := B_lcm h1 hc
  have h3 := B_lcm h2 hd
  simp only [Int.natAbs_natCast] at h3
  exact h3.mono (by omega)
theorem lc4_cm {x y z w : Int × Int} (hx : x.2 ≠ 0) (hy : y.2 ≠ 0) (hz : z.2 ≠ 0) (hw : w.2 ≠ 0) : Cm (lc4 x.2 y.2 z.2 w.2) x y z w := by
  have p1 : 0 < x.2.natAbs.lcm y.2.natAbs := Nat.lcm_pos (by omega) (by omega)
  have p2 : 0 < (x.2.natAbs.lcm y.2.natAbs).lcm z.2.natAbs := Nat.lcm_pos p1 (by omega)
  have p3 : 0 < ((x.2.natAbs.lcm y.2.natAbs).lcm z.2.natAbs).lcm w.2.natAbs := Nat.lcm_pos p2 (by omega)
  refine ⟨by unfold lc4; omega, ?_, ?_, ?_, ?_⟩ <;> unfold lc4 <;> refine Int.natAbs_dvd.mp (Int.natCast_dvd_natCast.mpr ?_)
  · exact Nat.dvd_trans (Nat.dvd_trans (Nat.dvd_lcm_left _ _) (Nat.dvd_lcm_left _ _)) (Nat.dvd_lcm_left _ _)
  · exact Nat.dvd_trans (Nat.dvd_trans (Nat.dvd_lcm_right _ _) (Nat.dvd_lcm_left _ _)) (Nat.dvd_lcm_left _ _)
  · exact Nat.dvd_trans (Nat.dvd_lcm_right _ _) (Nat.dvd_lcm_left _ _)
  · exact Nat.dvd_lcm_right _ _
theorem en_b {j k : Nat} {s : Int} {x : Int × Int} (hs : B j s) (hx : B k x.1) (h : x.2 ∣ s) (h0 : x.2 ≠ 0) : B (k + j) (en s x) := hx.mul (T4.B_fdiv hs h h0)
theorem rw_bd {j k : Nat} {s : Int} {x y z w : Int × Int} (hs : B j s) (hx : Fb k x) (hy : Fb k y) (hz : Fb k z) (hw : Fb k w) (h : Cm s x y z w) : T4.Bd (k + j) (Rw s x y z w) :=
  ⟨en_b hs hx.n h.a hx.z, en_b hs hy.n h.b hy.z, en_b hs hz.n h.c hz.z, en_b hs hw.n h.d hw.z⟩
section
variable {v0 v1 v2 v3 : D} {x y z w : Int × Int} {k : Nat}
theorem told_row (h0 : Tl v0 x) (h1 : Tl v1 y) (h2 : Tl v2 z) (h3 : Tl v3 w) (a b c d : D) (ah : AH) : lcE (en4 a b c d) [v0, v1, v2, v3] ah = .ok [fr x, fr y, fr z, fr w] ah := by
  rw [lcE_ok h0]
  simp only [M.andThen, lcE_ok h1, lcE_ok h2, lcE_ok h3, lcE_nil, M.ret]
theorem wq_eLcX {it : Lc → M (List D)} {go : D → Lc → Option Lc} {tt : Lc → M Bool} {el : Lc → M D} {vs : List Nat} {env : Lc} {ah : AH} {Q : D → AH → Prop} (h : W (it env ah) fun ds ah1 => ds.length ≤ 1000 ∧ W (lc go (fun e1 => hush (tt e1)) (fun e1 => reEnv env (el e1)) vs env ds ah1) fun ys ah2 => Q (.lst ys) ah2) : W (eLcX it go tt el vs env ah) Q := by
  unfold eLcX
  refine wq_bind (h.mono fun ds ah1 ⟨hl, q⟩ => wq_when (decide_eq_true (by rw [sl]; omega)) (wq_bind (q.mono fun ys ah2 q => wq_ret q)))
theorem wq_lcF (s : Int) {xs : List (Int × Int)} {a0 a1 a2 a3 a4 a5 a6 a7 : Option D} {ah : AH} {Q : List D → AH → Prop} (hs : a5 = some (.int s)) (h : ∀ x ∈ xs, okDiv s x.2 = true ∧ okMul x.1 (s.fdiv x.2) = true) (q : Q (xs.map fun x => .int (en s x)) ah) :
    W (lc (oN 7) tYs (e2 gMul (e2 gIx (eV 7) (eC (.int 0))) (e2 gFdiv (eV 5) (e2 gIx (eV 7) (eC (.int 1))))) [7] [a0, a1, a2, a3, a4, a5, a6, a7] (xs.map fr) ah) Q := by
  subst hs
  refine wq_lc_maps fr (fun x => D.int (en s x)) xs (fun x hx => ⟨_, rfl, ?_⟩) q
  obtain ⟨h1, h2⟩ := h x hx
  repeat array_get_dec
  refine wq_fdiv h1 (wq_mul h2 ?_)
  exact ⟨rfl, rfl⟩
end
end Law
set_option Elab.async false
set_option linter.all false
set_option maxRecDepth 100000
set_option maxHeartbeats 400000
set_option exponentiation.threshold 30000
namespace Law
open PySem PySem.Spec PyProof.Rows L2 Mi
local macro_rules | `(tactic| array_get_dec) => `(tactic| first
  | (with_reducible refine wq_sPs ?_)
  | ((with_reducible refine wq_eV (d := ?d) ?e ?_); (case e => exact rfl))
  | (with_reducible refine wq_eC ?_)
  | (with_reducible refine wq_e2 ?_)
  | (with_reducible refine wq_eL ?_)
  | (with_reducible refine wq_esC ?_)
  | (with_reducible refine wq_esN ?_)
  | (with_reducible refine wq_e1 ?_)
  | (with_reducible refine wq_eCall ?_)
  | (with_reducible refine KS.nx ?_; (try simp only [List.set_cons_succ, List.set_cons_zero]))
  | (with_reducible refine KS.rt ?_)
  | (with_reducible refine wq_sSet ?_)
  | (with_reducible refine wq_sIf ?_)
  | (with_reducible refine wq_sRt ?_)
  | (with_reducible refine wq_tV ?_)
  | (with_reducible refine wq_tN ?_)
  | (with_reducible refine wq_tA ?_)
  | (with_reducible refine wq_tO ?_)
  | (with_reducible refine wq_tI ?_)
  | (with_reducible refine wq_tYs ?_)
  | (with_reducible refine wq_eI ?_)
  | (with_reducible refine wq_eA ?_)
  | (with_reducible refine wq_eO ?_)
  | (with_reducible refine wq_eCh ?_)
  | (with_reducible refine wq_add ?_)
  | (with_reducible refine wq_sub ?_)
  | (with_reducible refine wq_lt ?_)
  | (with_reducible refine wq_le ?_)
  | (with_reducible refine wq_gt ?_)
  | (with_reducible refine wq_ge ?_)
  | (with_reducible refine wq_eqI ?_)
  | (with_reducible refine wq_neI ?_)
  | (with_reducible refine wq_neSame ?_)
  | (with_reducible refine wq_neg ?_)
  | (with_reducible refine wq_not ?_)
  | (with_reducible refine wq_and ?_)
  | (with_reducible refine wq_tupD (le5 rfl) ?_)
  | (with_reducible refine wq_lstD (le5 rfl) ?_)
  | ((with_reducible refine wq_ixT (d := ?d) ?e ?_); (case e => exact rfl))
  | ((with_reducible refine wq_ixL (d := ?d) ?e ?_); (case e => exact rfl))
  | (with_reducible refine wq_lenT ?_)
  | (with_reducible refine wq_lenL ?_)
  | (with_reducible refine wq_int ?_)
  | (with_reducible refine wq_gcd ?_)
  | (with_reducible refine wq_gcd4 ?_)
  | (with_reducible refine wq_tupT ?_)
  | (with_reducible refine wq_tupL ?_)
  | (with_reducible refine wq_lstT ?_)
  | (with_reducible refine wq_lstL ?_)
  | (with_reducible refine wq_revL ?_)
  | (with_reducible refine wq_sNx ?_)
  | (with_reducible refine wq_sEx ?_)
  | (with_reducible refine wq_sRtN ?_)
  | (with_reducible refine wq_sAsg ?_)
  | (with_reducible refine wq_sPar2 ?_)
  | (with_reducible refine wq_sPar3 ?_)
  | (with_reducible refine wq_gN ?_)
  | (with_reducible refine wq_gsN ?_)
  | (with_reducible refine wq_gsC ?_)
  | (with_reducible refine wq_gT rfl ?_)
  | (with_reducible refine wq_gLs rfl ?_)
  | (with_reducible refine wq_iOf ?_)
  | (with_reducible refine wq_iOfs ?_)
  | (with_reducible refine wq_itL ?_)
  | (with_reducible refine wq_itT ?_)
  | (with_reducible refine wq_itAL ?_)
  | (with_reducible refine wq_itAT ?_)
  | (with_reducible refine wq_itR1 rfl ?_)
  | (with_reducible refine wq_itR2 rfl ?_)
  | (with_reducible refine wq_sFo ?_)
  | (with_reducible refine wq_fo_nil ?_)
  | (with_reducible refine wq_eLc ?_)
  | (with_reducible refine wq_eSl ?_)
  | (with_reducible refine wq_partN ?_)
  | (with_reducible refine wq_partI ?_)
  | (with_reducible refine wq_slT ?_)
  | (with_reducible refine wq_slL ?_)
  | (with_reducible refine wq_isiI ?_)
  | (with_reducible refine wq_isiB ?_)
  | (with_reducible refine wq_isiT ?_)
  | (with_reducible refine wq_eqF ?_)
  | (with_reducible refine wq_neF2 ?_)
  | (with_reducible refine wq_eCallS ?_)
  | (with_reducible refine wq_mv0 ?_)
  | (with_reducible refine wq_mv1 ?_)
  | (with_reducible refine wq_mv2 ?_)
  | (with_reducible refine wq_mv3 ?_)
  | (with_reducible refine wq_fr0 ?_)
  | (with_reducible refine wq_fr1 ?_)
  | (with_reducible refine wq_ret ?_)
  | (with_reducible refine ⟨_, rfl, ?_⟩)
  | (with_reducible refine ⟨rfl, ?_⟩)
  | (with_reducible refine KB.f (by decide) ?_)
  | (with_reducible refine KB.t rfl ?_)
  | (with_reducible refine KI.t rfl ?_)
  | (with_reducible refine KI.f rfl ?_)
  | (with_reducible refine KT.t rfl ?_)
  | (with_reducible refine KT.f (by decide) ?_))
theorem sPs_run {g h : MS} {env env' : Lc} {ah : AH} (w : W (g env ah) fun y ah' => y = (.nx, env') ∧ ah' = ah) : sPs g h env ah = h env' ah := by
  obtain ⟨y, ah', e, rfl, rfl⟩ := w
  unfold sPs
  simp only [M.andThen, e]
/-- what the move reckons with: four fractions of k bits and what tells them -/
structure Q4 (k : Nat) (v0 v1 v2 v3 : D) (x y z w : Int × Int) : Prop where
  a : Tl v0 x
  b : Tl v1 y
  c : Tl v2 z
  d : Tl v3 w
  fa : Fb k x
  fb : Fb k y
  fc : Fb k z
  fd : Fb k w
theorem det_eq (x : T4) : decide (x.a * x.d = x.b * x.c) = decide (x.det = 0) := by
  unfold T4.det
  exact decide_eq_decide.mpr ⟨fun h => by omega, fun h => by omega⟩
section
variable {v0 v1 v2 v3 : D} {x y z w : Int × Int} {k : Nat}
def scl (x y z w : Int × Int) : Int := lc4 x.2 y.2 z.2 w.2
def rw0 (x y z w : Int × Int) : T4 := Rw (scl x y z w) x y z w
theorem Q4.cm (h : Q4 k v0 v1 v2 v3 x y z w) : Cm (scl x y z w) x y z w := lc4_cm h.fa.z h.fb.z h.fc.z h.fd.z
theorem Q4.sb (h : Q4 k v0 v1 v2 v3 x y z w) : B (4 * k) (scl x y z w) := lc4_b h.fa.d h.fb.d h.fc.d h.fd.d
theorem Q4.bd (h : Q4 k v0 v1 v2 v3 x y z w) : T4.Bd (5 * k) (rw0 x y z w) := (rw_bd h.sb h.fa h.fb h.fc h.fd h.cm).mono (by omega)
theorem Q4.div (h : Q4 k v0 v1 v2 v3 x y z w) (hk : k ≤ 400) : ∀ u ∈ [x, y, z, w], okDiv (scl x y z w) u.2 = true ∧ okMul u.1 ((scl x y z w).fdiv u.2) = true := by
  have go : ∀ u : Int × Int, Fb k u → u.2 ∣ scl x y z w → okDiv (scl x y z w) u.2 = true ∧ okMul u.1 ((scl x y z w).fdiv u.2) = true := fun u hu hd =>
    ⟨okDiv_B (k := 400) (hu.d.mono hk) (by decide) (by decide) hu.z, om2 (hu.n.mono (by omega)) ((T4.B_fdiv h.sb hd hu.z).mono (by omega))⟩
  intro u hu
  simp only [List.mem_cons, List.not_mem_nil, or_false] at hu
  rcases hu with rfl | rfl | rfl | rfl
  · exact go _ h.fa h.cm.a
  · exact go _ h.fb h.cm.b
  · exact go _ h.fc h.cm.c
  · exact go _ h.fd h.cm.d
def mvS4 : MS := sIf (tV (e2 gEq (e2 gMul (eV 0) (eV 3)) (e2 gMul (eV 1) (eV 2)))) (sRaise "BadMove") sNx
def mvS5 : MS := sRt (eCall 4 m_scaled (esC (eV 0) (esC (eV 1) (esC (eV 2) (esC (eV 3) esN)))))
def en5 (t : T4) (xs : List D) (s : Int) : Lc := [some (.int t.a), some (.int t.b), some (.int t.c), some (.int t.d), some (.lst xs), some (.int s), none, none]
theorem mv_head (h : Q4 k v0 v1 v2 v3 x y z w) (hk : k ≤ 400) (ah : AH) : b_move (en4 v0 v1 v2 v3) ah = sPs mvS4 mvS5 (en5 (rw0 x y z w) [fr x, fr y, fr z, fr w] (scl x y z w)) ah := by
  unfold b_move
  rw [sPs_run (env' := [some v0, some v1, some v2, some v3, some (.lst [fr x, fr y, fr z, fr w]), none, none, none])]
  · rw [sPs_run (env' := [some v0, some v1, some v2, some v3, some (.lst [fr x, fr y, fr z, fr w]), some (.int (scl x y z w)), none, none])]
    · rw [sPs_run (env' := en5 (rw0 x y z w) [fr x, fr y, fr z, fr w] (scl x y z w))]
      · rfl
      · repeat array_get_dec
        refine ⟨by show 4 ≤ 100000; decide, ?_⟩
        refine wq_lcF (scl x y z w) (xs := [x, y, z, w]) rfl (h.div hk) ?_
        repeat array_get_dec
        show W (gsC (gN 0) (gsC (gN 1) (gsC (gN 2) (gsC (gN 3) gsN))) [D.int (rw0 x y z w).a, D.int (rw0 x y z w).b, D.int (rw0 x y z w).c, D.int (rw0 x y z w).d] _ ah) _
        repeat array_get_dec
        exact rfl
    · repeat array_get_dec
      refine wq_lcm4 h.fa.d h.fb.d h.fc.d h.fd.d (by omega) ?_
      repeat array_get_dec
      exact rfl
  · refine wq_sSet (wq_eLcX ?_)
    repeat array_get_dec
    refine ⟨by show 4 ≤ 1000; decide, ?_⟩
    refine wq_eq (told_row h.a h.b h.c h.d v0 v1 v2 v3 ah) ?_
    exact ⟨rfl, rfl⟩
theorem move_ok (h : Q4 k v0 v1 v2 v3 x y z w) (hk : k ≤ 400) (h0 : (rw0 x y z w).det ≠ 0) (ah : AH) : m_move [v0, v1, v2, v3] ah = .ok (mv (rw0 x y z w).nm) ah := by
  have bd := h.bd
  refine wq_get (wq_defM ?_)
  show W (b_move (en4 v0 v1 v2 v3) ah) _
  rw [mv_head h hk]
  unfold mvS4 mvS5 en5
  repeat array_get_dec
  refine wq_mul (om2 (bd.a.mono (by omega)) (bd.d.mono (by omega))) ?_
  repeat array_get_dec
  refine wq_mul (om2 (bd.b.mono (by omega)) (bd.c.mono (by omega))) ?_
  repeat array_get_dec
  rw [det_eq, decide_eq_false h0]
  repeat array_get_dec
  refine wq_eq (scaled_ok bd (by omega) (T4.nz_of_det h0) ah) ?_
  repeat array_get_dec
  first | exact rfl | exact ⟨rfl, rfl⟩
theorem move_x (h : Q4 k v0 v1 v2 v3 x y z w) (hk : k ≤ 400) (h0 : (rw0 x y z w).det = 0) (ah : AH) : m_move [v0, v1, v2, v3] ah = .ex ⟨"BadMove", []⟩ [] ah := by
  have bd := h.bd
  refine defM_ex (env' := en5 (rw0 x y z w) [fr x, fr y, fr z, fr w] (scl x y z w)) ?_
  show b_move (en4 v0 v1 v2 v3) ah = _
  rw [mv_head h hk]
  refine sPs_ex ?_
  unfold mvS4
  rw [sIf_run]
  · rfl
  · unfold en5
    repeat array_get_dec
    refine wq_mul (om2 (bd.a.mono (by omega)) (bd.d.mono (by omega))) ?_
    repeat array_get_dec
    refine wq_mul (om2 (bd.b.mono (by omega)) (bd.c.mono (by omega))) ?_
    repeat array_get_dec
    rw [det_eq, decide_eq_true h0]
    exact ⟨rfl, rfl⟩
/-- one of the four tells no fraction -/
theorem move_odd {e : Ex} {ah : AH} (q : lcE (en4 v0 v1 v2 v3) [v0, v1, v2, v3] ah = .ex e (en4 v0 v1 v2 v3) ah) : m_move [v0, v1, v2, v3] ah = .ex e [] ah := by
  refine defM_ex (env' := en4 v0 v1 v2 v3) ?_
  show b_move (en4 v0 v1 v2 v3) ah = _
  unfold b_move
  refine sPs_ex ?_
  unfold sSet eLcX
  have : iOf itT (eL gTupD (esC (eV 0) (esC (eV 1) (esC (eV 2) (esC (eV 3) esN))))) (en4 v0 v1 v2 v3) ah = .ok [v0, v1, v2, v3] ah := by
    refine wq_get ?_
    unfold en4
    repeat array_get_dec
    first | exact rfl | exact ⟨rfl, rfl⟩
  simp only [M.andThen, this, M.when]
  have l : decide ([v0, v1, v2, v3].length ≤ sizeLine) = true := decide_eq_true (by rw [sl]; show 4 ≤ _; omega)
  rw [if_pos l]
  have q' : lc (oN 6) (fun e1 => hush (tYs e1)) (fun e1 => reEnv (en4 v0 v1 v2 v3) (eCall 1 m_as_fraction (esC (eV 6) esN) e1)) [6] (en4 v0 v1 v2 v3) [v0, v1, v2, v3] ah = .ex e (en4 v0 v1 v2 v3) ah := q
  simp only [q']
end
/-! ## what the law's try tells -/
theorem sub0_at : sub_0 "BadMove" = some true := if_pos rfl
section
variable {r : D} {v0 v1 v2 v3 d : D} {ah : AH} {K : D → AH → Prop}
/-- what is asked for the four -/
def tdE : Lc → M D := eCall 4 m_move (esC (e2 gIx (eV 0) (eC (.int 0))) (esC (e2 gIx (eV 0) (eC (.int 1))) (esC (e2 gIx (eV 0) (eC (.int 2))) (esC (e2 gIx (eV 0) (eC (.int 3))) esN))))
theorem tdE_at (h0 : gIx r (.int 0) ah = .ok v0 ah) (h1 : gIx r (.int 1) ah = .ok v1 ah) (h2 : gIx r (.int 2) ah = .ok v2 ah) (h3 : gIx r (.int 3) ah = .ok v3 ah) : tdE [some r] ah = (match m_move [v0, v1, v2, v3] ah with
  | .no => .no
  | .ok d ah' => .ok d ah'
  | .ex e _ ah' => .ex e [some r] ah') := by
  unfold tdE
  have e : ([some r] : Lc)[0]?.join = some r := rfl
  simp only [eCall, esC, esN, eV, eC, e2, M.andThen, M.lift, M.ret, M.when, e, h0, h1, h2, h3]
  rfl
theorem wq_told (h0 : gIx r (.int 0) ah = .ok v0 ah) (h1 : gIx r (.int 1) ah = .ok v1 ah) (h2 : gIx r (.int 2) ah = .ok v2 ah) (h3 : gIx r (.int 3) ah = .ok v3 ah) (q : m_move [v0, v1, v2, v3] ah = .ok d ah) (k : K d ah) : W (m__law_told [r] ah) K := by
  refine wq_def0 ?_
  unfold b__law_told
  simp only [List.map_cons, List.map_nil, List.cons_append, List.nil_append, List.length_cons, List.length_nil, List.replicate, Nat.zero_add, Nat.reduceAdd, Nat.reduceSub]
  have e : sRt tdE [some r] ah = .ok (.rt d, [some r]) ah := by
    unfold sRt
    simp only [M.andThen, tdE_at h0 h1 h2 h3, q]
    rfl
  refine ⟨(.rt d, [some r]), ah, ?_, k⟩
  unfold sTry
  show (match sRt tdE [some r] ah with | .no => _ | .ok a ah' => _ | .ex e env' ah' => _) = _
  rw [e]
theorem wq_toldX (h0 : gIx r (.int 0) ah = .ok v0 ah) (h1 : gIx r (.int 1) ah = .ok v1 ah) (h2 : gIx r (.int 2) ah = .ok v2 ah) (h3 : gIx r (.int 3) ah = .ok v3 ah) (q : m_move [v0, v1, v2, v3] ah = .ex ⟨"BadMove", []⟩ [] ah) (k : K REF ah) : W (m__law_told [r] ah) K := by
  refine wq_def0 ?_
  unfold b__law_told
  simp only [List.map_cons, List.map_nil, List.cons_append, List.nil_append, List.length_cons, List.length_nil, List.replicate, Nat.zero_add, Nat.reduceAdd, Nat.reduceSub]
  have e : sRt tdE [some r] ah = .ex ⟨"BadMove", []⟩ [some r] ah := by
    unfold sRt
    simp only [M.andThen, tdE_at h0 h1 h2 h3, q]
  have e2 : sRt (eL gTupD (esC (eC (.str (Str.ofString "refused"))) esN)) [some r] ah = .ok (.rt REF, [some r]) ah := by
    refine wq_get ?_
    repeat array_get_dec
    first | exact rfl | exact ⟨rfl, rfl⟩
  refine ⟨(.rt REF, [some r]), ah, ?_, k⟩
  unfold sTry
  show (match sRt tdE [some r] ah with | .no => _ | .ok a ah' => _ | .ex e env' ah' => _) = _
  rw [e]
  simp only [sub0_at, hush, e2]
end
section
variable {v0 v1 v2 v3 : D} {x y z w : Int × Int} {k : Nat} {ah : AH} {K : D → AH → Prop}
theorem wq_toldV {r : D} (h0 : gIx r (.int 0) ah = .ok v0 ah) (h1 : gIx r (.int 1) ah = .ok v1 ah) (h2 : gIx r (.int 2) ah = .ok v2 ah) (h3 : gIx r (.int 3) ah = .ok v3 ah) (h : Q4 k v0 v1 v2 v3 x y z w) (hk : k ≤ 400) (q : K (vd (rw0 x y z w)) ah) : W (m__law_told [r] ah) K := by
  unfold vd at q
  by_cases e : (rw0 x y z w).det = 0
  · rw [if_pos e] at q
    exact wq_toldX h0 h1 h2 h3 (move_x h hk e ah) q
  · rw [if_neg e] at q
    exact wq_told h0 h1 h2 h3 (move_ok h hk e ah) q
end
end Law
set_option Elab.async false
set_option linter.all false
set_option maxRecDepth 100000
set_option maxHeartbeats 400000
set_option exponentiation.threshold 30000
namespace Law
open PySem PySem.Spec PyProof.Rows L2 Mi
local macro_rules | `(tactic| array_get_dec) => `(tactic| first
  | (with_reducible refine wq_sPs ?_)
  | ((with_reducible refine wq_eV (d := ?d) ?e ?_); (case e => exact rfl))
  | (with_reducible refine wq_eC ?_)
  | (with_reducible refine wq_e2 ?_)
  | (with_reducible refine wq_eL ?_)
  | (with_reducible refine wq_esC ?_)
  | (with_reducible refine wq_esN ?_)
  | (with_reducible refine wq_e1 ?_)
  | (with_reducible refine wq_eCall ?_)
  | (with_reducible refine KS.nx ?_; (try simp only [List.set_cons_succ, List.set_cons_zero]))
  | (with_reducible refine KS.rt ?_)
  | (with_reducible refine wq_sSet ?_)
  | (with_reducible refine wq_sIf ?_)
  | (with_reducible refine wq_sRt ?_)
  | (with_reducible refine wq_tV ?_)
  | (with_reducible refine wq_tN ?_)
  | (with_reducible refine wq_tA ?_)
  | (with_reducible refine wq_tO ?_)
  | (with_reducible refine wq_tI ?_)
  | (with_reducible refine wq_tYs ?_)
  | (with_reducible refine wq_eI ?_)
  | (with_reducible refine wq_eA ?_)
  | (with_reducible refine wq_eO ?_)
  | (with_reducible refine wq_eCh ?_)
  | (with_reducible refine wq_add ?_)
  | (with_reducible refine wq_sub ?_)
  | (with_reducible refine wq_lt ?_)
  | (with_reducible refine wq_le ?_)
  | (with_reducible refine wq_gt ?_)
  | (with_reducible refine wq_ge ?_)
  | (with_reducible refine wq_eqI ?_)
  | (with_reducible refine wq_neI ?_)
  | (with_reducible refine wq_neSame ?_)
  | (with_reducible refine wq_neg ?_)
  | (with_reducible refine wq_not ?_)
  | (with_reducible refine wq_and ?_)
  | (with_reducible refine wq_tupD (le5 rfl) ?_)
  | (with_reducible refine wq_lstD (le5 rfl) ?_)
  | ((with_reducible refine wq_ixT (d := ?d) ?e ?_); (case e => exact rfl))
  | ((with_reducible refine wq_ixL (d := ?d) ?e ?_); (case e => exact rfl))
  | (with_reducible refine wq_lenT ?_)
  | (with_reducible refine wq_lenL ?_)
  | (with_reducible refine wq_int ?_)
  | (with_reducible refine wq_gcd ?_)
  | (with_reducible refine wq_gcd4 ?_)
  | (with_reducible refine wq_tupT ?_)
  | (with_reducible refine wq_tupL ?_)
  | (with_reducible refine wq_lstT ?_)
  | (with_reducible refine wq_lstL ?_)
  | (with_reducible refine wq_revL ?_)
  | (with_reducible refine wq_sNx ?_)
  | (with_reducible refine wq_sEx ?_)
  | (with_reducible refine wq_sRtN ?_)
  | (with_reducible refine wq_sAsg ?_)
  | (with_reducible refine wq_sPar2 ?_)
  | (with_reducible refine wq_sPar3 ?_)
  | (with_reducible refine wq_gN ?_)
  | (with_reducible refine wq_gsN ?_)
  | (with_reducible refine wq_gsC ?_)
  | (with_reducible refine wq_gT rfl ?_)
  | (with_reducible refine wq_gLs rfl ?_)
  | (with_reducible refine wq_iOf ?_)
  | (with_reducible refine wq_iOfs ?_)
  | (with_reducible refine wq_itL ?_)
  | (with_reducible refine wq_itT ?_)
  | (with_reducible refine wq_itAL ?_)
  | (with_reducible refine wq_itAT ?_)
  | (with_reducible refine wq_itR1 rfl ?_)
  | (with_reducible refine wq_itR2 rfl ?_)
  | (with_reducible refine wq_sFo ?_)
  | (with_reducible refine wq_fo_nil ?_)
  | (with_reducible refine wq_eLc ?_)
  | (with_reducible refine wq_eSl ?_)
  | (with_reducible refine wq_partN ?_)
  | (with_reducible refine wq_partI ?_)
  | (with_reducible refine wq_slT ?_)
  | (with_reducible refine wq_slL ?_)
  | (with_reducible refine wq_isiI ?_)
  | (with_reducible refine wq_isiB ?_)
  | (with_reducible refine wq_isiT ?_)
  | (with_reducible refine wq_eqF ?_)
  | (with_reducible refine wq_neF2 ?_)
  | (with_reducible refine wq_eCallS ?_)
  | (with_reducible refine wq_mv0 ?_)
  | (with_reducible refine wq_mv1 ?_)
  | (with_reducible refine wq_mv2 ?_)
  | (with_reducible refine wq_mv3 ?_)
  | (with_reducible refine wq_fr0 ?_)
  | (with_reducible refine wq_fr1 ?_)
  | (with_reducible refine wq_ret ?_)
  | (with_reducible refine ⟨_, rfl, ?_⟩)
  | (with_reducible refine ⟨rfl, ?_⟩)
  | (with_reducible refine KB.f (by decide) ?_)
  | (with_reducible refine KB.t rfl ?_)
  | (with_reducible refine KI.t rfl ?_)
  | (with_reducible refine KI.f rfl ?_)
  | (with_reducible refine KT.t rfl ?_)
  | (with_reducible refine KT.f (by decide) ?_))
open Mi.T4 (Sim sc)
/-! ## what is due -/
theorem wq_lcG (s : Int) {xs : List (Int × Int)} {a0 a1 a2 a3 : Option D} {ah : AH} {Q : List D → AH → Prop} (hs : a1 = some (.int s)) (h : ∀ x ∈ xs, okDiv s x.2 = true ∧ okMul x.1 (s.fdiv x.2) = true) (q : Q (xs.map fun x => .int (en s x)) ah) :
    W (lc (oN 3) tYs (e2 gMul (e2 gIx (eV 3) (eC (.int 0))) (e2 gFdiv (eV 1) (e2 gIx (eV 3) (eC (.int 1))))) [3] [a0, a1, a2, a3] (xs.map fr) ah) Q := by
  subst hs
  refine wq_lc_maps fr (fun x => D.int (en s x)) xs (fun x hx => ⟨_, rfl, ?_⟩) q
  obtain ⟨h1, h2⟩ := h x hx
  repeat array_get_dec
  refine wq_fdiv h1 (wq_mul h2 ?_)
  exact ⟨rfl, rfl⟩
section
variable {v0 v1 v2 v3 : D} {x y z w : Int × Int} {k : Nat} {ah : AH} {K : D → AH → Prop}
def prd (x y z w : Int × Int) : Int := x.2 * y.2 * z.2 * w.2
theorem Q4.pc (h : Q4 k v0 v1 v2 v3 x y z w) : Cm (prd x y z w) x y z w :=
  ⟨mul_ne (mul_ne (mul_ne h.fa.z h.fb.z) h.fc.z) h.fd.z, ⟨y.2 * z.2 * w.2, by unfold prd; grind⟩, ⟨x.2 * z.2 * w.2, by unfold prd; grind⟩, ⟨x.2 * y.2 * w.2, by unfold prd; grind⟩, ⟨x.2 * y.2 * z.2, by unfold prd; grind⟩⟩
theorem Q4.pb (h : Q4 k v0 v1 v2 v3 x y z w) : B (4 * k) (prd x y z w) := (((h.fa.d.mul h.fb.d).mul h.fc.d).mul h.fd.d).mono (by omega)
theorem wq_ldue (h : Q4 k v0 v1 v2 v3 x y z w) (hk : k ≤ 400) (q : K (vd (rw0 x y z w)) ah) : W (m__law_due [.lst [fr x, fr y, fr z, fr w]] ah) K := by
  have cm := h.pc
  have bd : T4.Bd (5 * k) (Rw (prd x y z w) x y z w) := (rw_bd h.pb h.fa h.fb h.fc h.fd cm).mono (by omega)
  have b2 := h.fa.d.mul h.fb.d
  have b3 := b2.mul h.fc.d
  have es : vd (rw0 x y z w) = vd (Rw (prd x y z w) x y z w) := vd_sim (rw_sim cm h.cm (c := 1) (d := 1) (by decide) (by decide) h.fa.z h.fb.z h.fc.z h.fd.z h.fa.z h.fb.z h.fc.z h.fd.z rfl rfl rfl rfl)
  rw [es] at q
  refine wq_def0 ?_
  unfold b__law_due
  simp only [List.map_cons, List.map_nil, List.cons_append, List.nil_append, List.length_cons, List.length_nil, List.replicate, Nat.zero_add, Nat.reduceAdd, Nat.reduceSub]
  repeat array_get_dec
  refine wq_mul (om2 (h.fa.d.mono (by omega)) (h.fb.d.mono (by omega))) ?_
  repeat array_get_dec
  refine wq_mul (om2 (b2.mono (by omega)) (h.fc.d.mono (by omega))) ?_
  repeat array_get_dec
  refine wq_mul (om2 (b3.mono (by omega)) (h.fd.d.mono (by omega))) ?_
  repeat array_get_dec
  refine ⟨by show 4 ≤ 100000; decide, ?_⟩
  have go : ∀ u : Int × Int, Fb k u → u.2 ∣ prd x y z w → okDiv (prd x y z w) u.2 = true ∧ okMul u.1 ((prd x y z w).fdiv u.2) = true := fun u hu hd =>
    ⟨okDiv_B (k := 400) (hu.d.mono hk) (by decide) (by decide) hu.z, om2 (hu.n.mono (by omega)) ((T4.B_fdiv h.pb hd hu.z).mono (by omega))⟩
  refine wq_lcG (prd x y z w) (xs := [x, y, z, w]) rfl (fun u hu => ?_) ?_
  · simp only [List.mem_cons, List.not_mem_nil, or_false] at hu
    rcases hu with rfl | rfl | rfl | rfl
    · exact go _ h.fa cm.a
    · exact go _ h.fb cm.b
    · exact go _ h.fc cm.c
    · exact go _ h.fd cm.d
  · generalize ht : Rw (prd x y z w) x y z w = t at q bd
    have el : [x, y, z, w].map (fun u => D.int (en (prd x y z w) u)) = [.int t.a, .int t.b, .int t.c, .int t.d] := by rw [← ht]; rfl
    rw [el]
    repeat array_get_dec
    refine wq_mul (om2 (bd.a.mono (by omega)) (bd.d.mono (by omega))) ?_
    repeat array_get_dec
    refine wq_mul (om2 (bd.b.mono (by omega)) (bd.c.mono (by omega))) ?_
    repeat array_get_dec
    rw [det_eq]
    unfold vd at q
    by_cases e : t.det = 0
    · rw [if_pos e] at q
      rw [decide_eq_true e]
      repeat array_get_dec
      exact q
    · rw [if_neg e] at q
      rw [decide_eq_false e]
      repeat array_get_dec
      refine wq_eq (lmove_ok bd (by omega) e ah) ?_
      repeat array_get_dec
      exact q
end
/-! ## drawn fractions, few bits -/
section
variable {q : Mi.Q} {rest : AH} {K : D → AH → Prop}
theorem wq_draw6 {p : Int} (hp : Pz p) {w : Int} (w0 : 1 ≤ w) (w1 : w ≤ 6) (hq : q.ok) (h : ∀ x q', q'.ok → Nf x → Fb 6 x → K (fr x) (SRC q' rest)) : W (m__law_draw_fraction [.ref 0, .int p, .int w] (SRC q rest)) K := by
  have bp := hp.b
  have np := hp.ne
  refine wq_def0 ?_
  unfold b__law_draw_fraction
  simp only [List.map_cons, List.map_nil, List.cons_append, List.nil_append, List.length_cons, List.length_nil, List.replicate, Nat.zero_add, Nat.reduceAdd, Nat.reduceSub]
  repeat array_get_dec
  refine wq_mul (okMul_l (by decide) (by decide)) ?_
  repeat array_get_dec
  refine wq_pick hq (by omega) (by omega) fun n q1 o1 n0 n1 => ?_
  repeat array_get_dec
  refine wq_mul (om2 (bp.mono (by decide)) (bp.mono (by decide))) ?_
  repeat array_get_dec
  refine wq_pick o1 (by decide) (by decide) fun k q2 o2 k0 k1 => ?_
  repeat array_get_dec
  refine wq_ixI (is := [1, 1, p, 2, 3, p * p]) k0 k1 fun d hd => ?_
  have hd' : B 6 d ∧ d ≠ 0 := by
    simp only [List.mem_cons, List.not_mem_nil, or_false] at hd
    rcases hp with rfl | rfl | rfl | rfl <;> rcases hd with rfl | rfl | rfl | rfl | rfl | rfl <;> exact ⟨by decide, by decide⟩
  obtain ⟨bd, nd⟩ := hd'
  repeat array_get_dec
  refine wq_pick o2 (by decide) (by decide) fun k q3 o3 k0 k1 => ?_
  repeat array_get_dec
  refine wq_ixI (is := [1, 1, p]) k0 k1 fun j hj => ?_
  have bj : B 3 j := by
    simp only [List.mem_cons, List.not_mem_nil, or_false] at hj
    rcases hj with rfl | rfl | rfl
    · decide
    · decide
    · exact bp
  repeat array_get_dec
  have bn : B 3 (n - w) := by unfold B; omega
  refine wq_mul (om2 (bn.mono (by decide)) (bj.mono (by decide))) ?_
  repeat array_get_dec
  refine wq_eq (lfrac (bd.mono (by decide)) nd _) ?_
  exact h _ q3 o3 (nf_spec _ d nd).1 (Fb.nf (bn.mul bj) bd nd)
theorem fb_ti {j k : Nat} {f g : Int × Int} (h : Fb j f) (l : Fb k g) : Fb (j + k) (ti f g) := Fb.nf (h.n.mul l.n) (h.d.mul l.d) (mul_ne h.z l.z)
theorem nf_ti {j k : Nat} {f g : Int × Int} (h : Fb j f) (l : Fb k g) : Nf (ti f g) := (nf_spec _ _ (mul_ne h.z l.z)).1
/-- the product as a ratio -/
theorem ti_x {j k : Nat} {f g : Int × Int} (h : Fb j f) (l : Fb k g) : (ti f g).1 * f.2 * g.2 = f.1 * (ti f g).2 * g.1 := by
  obtain ⟨_, κ, k0, e1, e2⟩ := nf_spec (f.1 * g.1) (f.2 * g.2) (mul_ne h.z l.z)
  have : κ * ((ti f g).1 * f.2 * g.2) = κ * (f.1 * (ti f g).2 * g.1) := by
    have a1 : κ * ((ti f g).1 * f.2 * g.2) = (κ * (ti f g).1) * (f.2 * g.2) := by grind
    have a2 : κ * (f.1 * (ti f g).2 * g.1) = (f.1 * g.1) * (κ * (ti f g).2) := by grind
    rw [a1, a2]
    show (κ * (nf (f.1 * g.1) (f.2 * g.2)).1) * (f.2 * g.2) = (f.1 * g.1) * (κ * (nf (f.1 * g.1) (f.2 * g.2)).2)
    rw [← e1, ← e2]
  exact Int.eq_of_mul_eq_mul_left k0 this
/-- four drawn fractions -/
structure R4 (k : Nat) (x y z w : Int × Int) : Prop where
  a : Nf x
  b : Nf y
  c : Nf z
  d : Nf w
  fa : Fb k x
  fb : Fb k y
  fc : Fb k z
  fd : Fb k w
theorem R4.q4 {k : Nat} {x y z w : Int × Int} (h : R4 k x y z w) : Q4 k (fr x) (fr y) (fr z) (fr w) x y z w := ⟨⟨h.a, .inl rfl⟩, ⟨h.b, .inl rfl⟩, ⟨h.c, .inl rfl⟩, ⟨h.d, .inl rfl⟩, h.fa, h.fb, h.fc, h.fd⟩
theorem wq_drow {p : Int} (hp : Pz p) (hq : q.ok) (h : ∀ x y z w q', q'.ok → R4 12 x y z w → K (.lst [fr x, fr y, fr z, fr w]) (SRC q' rest)) : W (m__law_draw_row [.ref 0, .int p] (SRC q rest)) K := by
  refine wq_def0 ?_
  unfold b__law_draw_row
  simp only [List.map_cons, List.map_nil, List.cons_append, List.nil_append, List.length_cons, List.length_nil, List.replicate, Nat.zero_add, Nat.reduceAdd, Nat.reduceSub]
  repeat array_get_dec
  refine ⟨by show 4 ≤ 100000; decide, ?_⟩
  refine wq_lc_cons rfl ?_
  repeat array_get_dec
  refine wq_draw6 hp (by decide) (by decide) hq fun x q1 o1 nx fx => ?_
  refine wq_lc_cons rfl ?_
  repeat array_get_dec
  refine wq_draw6 hp (by decide) (by decide) o1 fun y q2 o2 ny fy => ?_
  refine wq_lc_cons rfl ?_
  repeat array_get_dec
  refine wq_draw6 hp (by decide) (by decide) o2 fun z q3 o3 nz fz => ?_
  refine wq_lc_cons rfl ?_
  repeat array_get_dec
  refine wq_draw6 hp (by decide) (by decide) o3 fun w q4 o4 nw fw => ?_
  refine wq_lc_nil ?_
  repeat array_get_dec
  refine wq_pick o4 (by decide) (by decide) fun n q5 o5 n0 n1 => ?_
  repeat array_get_dec
  by_cases e : n = 0
  · refine KI.t (decide_eq_true e) ?_
    repeat array_get_dec
    refine wq_draw6 hp (by decide) (by decide) o5 fun t q6 o6 nt ft => ?_
    repeat array_get_dec
    show W (m__law_product [fr x, fr t] _) _
    refine wq_eq (lprod_ok (fx.mono (by decide)) (ft.mono (by decide)) _) ?_
    repeat array_get_dec
    show W (m__law_product [fr y, fr t] _) _
    refine wq_eq (lprod_ok (fy.mono (by decide)) (ft.mono (by decide)) _) ?_
    repeat array_get_dec
    refine wq_addL (le5 rfl) ?_
    repeat array_get_dec
    exact h x y (ti x t) (ti y t) q6 o6 ⟨nx, ny, nf_ti fx ft, nf_ti fy ft, fx.mono (by decide), fy.mono (by decide), fb_ti fx ft, fb_ti fy ft⟩
  · refine KI.f (decide_eq_false e) ?_
    repeat array_get_dec
    exact h x y z w q5 o5 ⟨nx, ny, nz, nw, fx.mono (by decide), fy.mono (by decide), fz.mono (by decide), fw.mono (by decide)⟩
end
end Law
set_option Elab.async false
set_option linter.all false
set_option maxRecDepth 100000
set_option maxHeartbeats 400000
set_option exponentiation.threshold 30000
namespace Law
open PySem PySem.Spec PyProof.Rows L2 Mi
local macro_rules | `(tactic| array_get_dec) => `(tactic| first
  | (with_reducible refine wq_sPs ?_)
  | ((with_reducible refine wq_eV (d := ?d) ?e ?_); (case e => exact rfl))
  | (with_reducible refine wq_eC ?_)
  | (with_reducible refine wq_e2 ?_)
  | (with_reducible refine wq_eL ?_)
  | (with_reducible refine wq_esC ?_)
  | (with_reducible refine wq_esN ?_)
  | (with_reducible refine wq_e1 ?_)
  | (with_reducible refine wq_eCall ?_)
  | (with_reducible refine KS.nx ?_; (try simp only [List.set_cons_succ, List.set_cons_zero]))
  | (with_reducible refine KS.rt ?_)
  | (with_reducible refine wq_sSet ?_)
  | (with_reducible refine wq_sIf ?_)
  | (with_reducible refine wq_sRt ?_)
  | (with_reducible refine wq_tV ?_)
  | (with_reducible refine wq_tN ?_)
  | (with_reducible refine wq_tA ?_)
  | (with_reducible refine wq_tO ?_)
  | (with_reducible refine wq_tI ?_)
  | (with_reducible refine wq_tYs ?_)
  | (with_reducible refine wq_eI ?_)
  | (with_reducible refine wq_eA ?_)
  | (with_reducible refine wq_eO ?_)
  | (with_reducible refine wq_eCh ?_)
  | (with_reducible refine wq_add ?_)
  | (with_reducible refine wq_sub ?_)
  | (with_reducible refine wq_lt ?_)
  | (with_reducible refine wq_le ?_)
  | (with_reducible refine wq_gt ?_)
  | (with_reducible refine wq_ge ?_)
  | (with_reducible refine wq_eqI ?_)
  | (with_reducible refine wq_neI ?_)
  | (with_reducible refine wq_neSame ?_)
  | (with_reducible refine wq_neg ?_)
  | (with_reducible refine wq_not ?_)
  | (with_reducible refine wq_and ?_)
  | (with_reducible refine wq_tupD (le5 rfl) ?_)
  | (with_reducible refine wq_lstD (le5 rfl) ?_)
  | ((with_reducible refine wq_ixT (d := ?d) ?e ?_); (case e => exact rfl))
  | ((with_reducible refine wq_ixL (d := ?d) ?e ?_); (case e => exact rfl))
  | (with_reducible refine wq_lenT ?_)
  | (with_reducible refine wq_lenL ?_)
  | (with_reducible refine wq_int ?_)
  | (with_reducible refine wq_gcd ?_)
  | (with_reducible refine wq_gcd4 ?_)
  | (with_reducible refine wq_tupT ?_)
  | (with_reducible refine wq_tupL ?_)
  | (with_reducible refine wq_lstT ?_)
  | (with_reducible refine wq_lstL ?_)
  | (with_reducible refine wq_revL ?_)
  | (with_reducible refine wq_sNx ?_)
  | (with_reducible refine wq_sEx ?_)
  | (with_reducible refine wq_sRtN ?_)
  | (with_reducible refine wq_sAsg ?_)
  | (with_reducible refine wq_sPar2 ?_)
  | (with_reducible refine wq_sPar3 ?_)
  | (with_reducible refine wq_gN ?_)
  | (with_reducible refine wq_gsN ?_)
  | (with_reducible refine wq_gsC ?_)
  | (with_reducible refine wq_gT rfl ?_)
  | (with_reducible refine wq_gLs rfl ?_)
  | (with_reducible refine wq_iOf ?_)
  | (with_reducible refine wq_iOfs ?_)
  | (with_reducible refine wq_itL ?_)
  | (with_reducible refine wq_itT ?_)
  | (with_reducible refine wq_itAL ?_)
  | (with_reducible refine wq_itAT ?_)
  | (with_reducible refine wq_itR1 rfl ?_)
  | (with_reducible refine wq_itR2 rfl ?_)
  | (with_reducible refine wq_sFo ?_)
  | (with_reducible refine wq_fo_nil ?_)
  | (with_reducible refine wq_eLc ?_)
  | (with_reducible refine wq_eSl ?_)
  | (with_reducible refine wq_partN ?_)
  | (with_reducible refine wq_partI ?_)
  | (with_reducible refine wq_slT ?_)
  | (with_reducible refine wq_slL ?_)
  | (with_reducible refine wq_isiI ?_)
  | (with_reducible refine wq_isiB ?_)
  | (with_reducible refine wq_isiT ?_)
  | (with_reducible refine wq_eqF ?_)
  | (with_reducible refine wq_neF2 ?_)
  | (with_reducible refine wq_eCallS ?_)
  | (with_reducible refine wq_mv0 ?_)
  | (with_reducible refine wq_mv1 ?_)
  | (with_reducible refine wq_mv2 ?_)
  | (with_reducible refine wq_mv3 ?_)
  | (with_reducible refine wq_fr0 ?_)
  | (with_reducible refine wq_fr1 ?_)
  | (with_reducible refine wq_ret ?_)
  | (with_reducible refine ⟨_, rfl, ?_⟩)
  | (with_reducible refine ⟨rfl, ?_⟩)
  | (with_reducible refine KB.f (by decide) ?_)
  | (with_reducible refine KB.t rfl ?_)
  | (with_reducible refine KI.t rfl ?_)
  | (with_reducible refine KI.f rfl ?_)
  | (with_reducible refine KT.t rfl ?_)
  | (with_reducible refine KT.f (by decide) ?_))
open Mi.T4 (Sim sc)
theorem int_short2 {i : Int} (h : B 990 i) : decide ((PyData.shown (.int i)).length ≤ 1000) = true := by
  have l := log_lt (k := 990) h (by decide)
  refine decide_eq_true ?_
  have := int_text_length_le (a := i) (k := 990) (by decide) l
  refine Nat.le_trans ?_ (Nat.le_trans this (by decide))
  show (Str.ofString (toString i)).length ≤ _
  rw [PyProof.Rows.ofString_len]
  exact Nat.le_refl _
theorem int_show2 {i : Int} (h : B 990 i) : decide (i.natAbs.log2 < 1920) = true := decide_eq_true (by have := log_lt (k := 990) h (by decide); omega)
theorem int_wt2 {i : Int} (h : B 990 i) : (if i == 0 then 0 else i.natAbs.log2 + 1) ≤ 990 := by
  have := log_lt (k := 990) h (by decide)
  split <;> omega
/-! ## what is shown -/
structure Sv (d : D) : Prop where
  ls : d.p.leavesShort 1000 = true
  sh : d.p.showable = true
  wt : d.p.weight ≤ 3970
  fl : d.flat = true
  dp : d.dpt ≤ 2
theorem sv_ok {d : D} (hl : d.p.leavesShort 1000 = true) (hs : d.p.showable = true) (hw : d.p.weight ≤ 16000) (hd : d.dpt ≤ 10) (hf : d.flat = true) : okShow d = true := by
  have l := PyData.shown_le 1000 (by decide) d.p hl
  have l2 : d.p.shown.length ≤ sizeLine := by
    rw [sl]
    have : (1000 + 2) * d.p.weight ≤ (1000 + 2) * 16000 := Nat.mul_le_mul_left _ hw
    omega
  have t2 : d.p.depth ≤ 60 := Nat.le_trans (D.dpt_ok d) (by omega)
  unfold okShow
  rw [hs, decide_eq_true l2, decide_eq_true t2, hf]
  rfl
theorem Sv.one {d : D} (h : Sv d) : okShow d = true := sv_ok h.ls h.sh (by have := h.wt; omega) (by have := h.dp; omega) h.fl
theorem Sv.four {d : D} (h : Sv d) : okShow (.lst [d, d, d, d]) = true := by
  refine sv_ok (d := .lst [d, d, d, d]) ?_ ?_ ?_ ?_ ?_
  · show (d.p.leavesShort 1000 && (d.p.leavesShort 1000 && (d.p.leavesShort 1000 && (d.p.leavesShort 1000 && true)))) = true
    rw [h.ls]; rfl
  · show (d.p.showable && (d.p.showable && (d.p.showable && (d.p.showable && true)))) = true
    rw [h.sh]; rfl
  · have := h.wt
    show d.p.weight + 1 + (d.p.weight + 1 + (d.p.weight + 1 + (d.p.weight + 1 + 0))) ≤ 16000
    omega
  · have := h.dp
    have e : (D.lst [d, d, d, d]).dpt = max d.dpt (max d.dpt (max d.dpt (max d.dpt 0))) + 1 := rfl
    omega
  · show (d.flat && (d.flat && (d.flat && (d.flat && true)))) = true
    rw [h.fl]; rfl
theorem sv_mv {m : T4} (h : T4.Bd 990 m) : Sv (mv m) := by
  refine ⟨?_, ?_, ?_, rfl, by show 1 ≤ 2; decide⟩
  · show (decide ((PyData.shown (.int m.a)).length ≤ 1000) && (decide ((PyData.shown (.int m.b)).length ≤ 1000) && (decide ((PyData.shown (.int m.c)).length ≤ 1000) && (decide ((PyData.shown (.int m.d)).length ≤ 1000) && true)))) = true
    rw [int_short2 h.a, int_short2 h.b, int_short2 h.c, int_short2 h.d]; rfl
  · show (decide (m.a.natAbs.log2 < 1920) && (decide (m.b.natAbs.log2 < 1920) && (decide (m.c.natAbs.log2 < 1920) && (decide (m.d.natAbs.log2 < 1920) && true)))) = true
    rw [int_show2 h.a, int_show2 h.b, int_show2 h.c, int_show2 h.d]; rfl
  · show ((if m.a == 0 then 0 else m.a.natAbs.log2 + 1) + 1 + ((if m.b == 0 then 0 else m.b.natAbs.log2 + 1) + 1 + ((if m.c == 0 then 0 else m.c.natAbs.log2 + 1) + 1 + ((if m.d == 0 then 0 else m.d.natAbs.log2 + 1) + 1 + 0)))) ≤ 3970
    have := int_wt2 h.a; have := int_wt2 h.b; have := int_wt2 h.c; have := int_wt2 h.d
    omega
theorem sv_ref : Sv REF := ⟨by decide +kernel, by decide +kernel, by decide +kernel, by decide +kernel, by decide⟩
theorem sv_vd {k : Nat} {t : T4} (h : T4.Bd k t) (hk : k ≤ 990) : Sv (vd t) := by
  unfold vd
  by_cases e : t.det = 0
  · rw [if_pos e]; exact sv_ref
  · rw [if_neg e]; exact sv_mv ((h.nm (T4.nz_of_det e)).mono hk)
theorem sv_two {i j : Int} (hi : B 990 i) (hj : B 990 j) : okShow (.lst [.int i, .int j]) = true := by
  refine sv_ok (d := .lst [.int i, .int j]) ?_ ?_ ?_ (by show 1 ≤ 10; decide) rfl
  · show (decide ((PyData.shown (.int i)).length ≤ 1000) && (decide ((PyData.shown (.int j)).length ≤ 1000) && true)) = true
    rw [int_short2 hi, int_short2 hj]; rfl
  · show (decide (i.natAbs.log2 < 1920) && (decide (j.natAbs.log2 < 1920) && true)) = true
    rw [int_show2 hi, int_show2 hj]; rfl
  · show ((if i == 0 then 0 else i.natAbs.log2 + 1) + 1 + ((if j == 0 then 0 else j.natAbs.log2 + 1) + 1 + 0)) ≤ 16000
    have := int_wt2 hi; have := int_wt2 hj
    omega
section
variable {ah : AH} {K : D → AH → Prop}
theorem wq_mulRep4 {d : D} (q : K (.lst [d, d, d, d]) ah) : W (gMul (.lst [d]) (.int 4) ah) K := by
  refine wq_when (c := okRep [d] 4) ?_ (wq_ret q)
  unfold okRep
  rw [sl]
  simp only [List.length_cons, List.length_nil, Bool.and_eq_true, decide_eq_true_eq]
  omega
theorem wq_neREF (q : K (.bl false) ah) : W (gNe REF REF ah) K := by
  refine wq_eq (ne_tupS (by decide +kernel) (by decide +kernel) (by decide) (by decide) ah) ?_
  rw [show PyData.eqv (D.tup [D.str (Str.ofString "refused")]).p REF.p = true by decide +kernel]
  exact q
theorem wq_eqREF (q : K (.bl true) ah) : W (gEq REF REF ah) K := by
  refine wq_eq (eq_tupS (by decide +kernel) (by decide +kernel) (by decide) (by decide) ah) ?_
  rw [show PyData.eqv (D.tup [D.str (Str.ofString "refused")]).p REF.p = true by decide +kernel]
  exact q
theorem wq_neMv {m : T4} (q : K (.bl true) ah) : W (gNe (mv m) REF ah) K := by
  refine wq_eq (ne_tupS rfl (by decide +kernel) (by show 1 ≤ 60; decide) (by decide) ah) ?_
  rw [show PyData.eqv (D.p (.tup [.int m.a, .int m.b, .int m.c, .int m.d])) REF.p = false from rfl]
  exact q
theorem lsize_ok {x : T4} (h : T4.Bd 400 x) : m__law_size [mv x] ah = .ok (.int x.det) ah := by
  refine wq_get (wq_def0 ?_)
  unfold b__law_size
  simp only [List.map_cons, List.map_nil, List.cons_append, List.nil_append, List.length_cons, List.length_nil, List.replicate, Nat.zero_add, Nat.reduceAdd, Nat.reduceSub]
  repeat array_get_dec
  refine wq_mul (om2 (h.a.mono (by decide)) (h.d.mono (by decide))) ?_
  repeat array_get_dec
  refine wq_mul (om2 (h.b.mono (by decide)) (h.c.mono (by decide))) ?_
  repeat array_get_dec
  first | exact rfl | exact ⟨rfl, rfl⟩
theorem sum_ok {x : T4} : m_sum_of [mv x] ah = .ok (.int (x.a + x.d)) ah := by
  refine wq_get (wq_def0 ?_)
  unfold b_sum_of
  simp only [List.map_cons, List.map_nil, List.cons_append, List.nil_append, List.length_cons, List.length_nil, List.replicate, Nat.zero_add, Nat.reduceAdd, Nat.reduceSub]
  repeat array_get_dec
  first | exact rfl | exact ⟨rfl, rfl⟩
theorem det_bd {k : Nat} {x : T4} (h : T4.Bd k x) : B (2 * k + 1) x.det := by
  have := B.sub (h.a.mul h.d) (h.b.mul h.c)
  unfold T4.det
  exact this.mono (by omega)
end
/-! ## what tells no fraction -/
def OD : List D := [.non, .bl true, .bl false, .str (Str.ofString "1"), .lst [.int 1, .int 1], .tup [.int 1], .tup [.int 2, .int 4], .tup [.int 1, .int 0], .tup [.int 1, .int (-1)], .emp, .tup [.bl true, .int 1], .tup [.int 1, .bl true], .tup [.bl true, .int 2], .tup [.non, .int 1],
  .tup [.int 1, .str (Str.ofString "a")], .tup [.lst [.int 1], .int 2], .tup [.tup [.int 1, .int 2], .int 3], .tup [.int 1, .int 2, .int 3], .tup [.int 1, .non], .tup [], .str (Str.ofString ""), .tup [.bl false, .int 1]]
def okOd (d : D) : Bool := plns d && !isI d && !frB d
theorem od_all : OD.all okOd = true := by decide +kernel
theorem okOd_x {d : D} (h : okOd d = true) (ah : AH) : plns d = true ∧ isI d = false ∧ frB d = false := by
  unfold okOd at h
  have h1 := Bool.and_eq_true_iff.mp h
  have h2 := Bool.and_eq_true_iff.mp h1.1
  exact ⟨h2.1, by simpa using h2.2, by simpa using h1.2⟩
section
variable {q : Mi.Q} {rest : AH} {K : D → AH → Prop}
theorem wq_nofrac (hq : q.ok) (h : ∀ d q', q'.ok → okOd d = true → K d (SRC q' rest)) : W (m__law_no_fraction [.ref 0] (SRC q rest)) K := by
  obtain ⟨x, q1, o1, hx, e⟩ := choice_ok hq rest (xs := OD) (by decide) (by decide)
  refine wq_def0 ?_
  unfold b__law_no_fraction
  simp only [List.map_cons, List.map_nil, List.cons_append, List.nil_append, List.length_cons, List.length_nil, List.replicate, Nat.zero_add, Nat.reduceAdd, Nat.reduceSub]
  repeat array_get_dec
  refine wq_addL (le5 rfl) ?_
  repeat array_get_dec
  refine wq_eq e ?_
  repeat array_get_dec
  exact h x q1 o1 (List.all_eq_true.mp od_all x hx)
theorem wq_number (hq : q.ok) (h : ∀ n q', q'.ok → B 30 n → K (.int n) (SRC q' rest)) : W (m__law_number [.ref 0] (SRC q rest)) K := by
  obtain ⟨n, q1, o1, b, e⟩ := number_ok hq rest
  exact wq_eq e (h n q1 o1 b)
end
theorem tl_int (i : Int) : Tl (.int i) (i, 1) := ⟨⟨Int.zero_lt_one, Nat.gcd_one_right _⟩, .inr ⟨rfl, rfl⟩⟩
theorem fb_int {k : Nat} {i : Int} (h : B k i) (hk : 1 ≤ k) : Fb k (i, 1) := ⟨h, (by decide : B 1 1).mono hk, Int.one_ne_zero⟩
theorem nf_int (i : Int) : Nf (i, 1) := (tl_int i).1
end Law
set_option Elab.async false
set_option linter.all false
set_option maxRecDepth 100000
set_option maxHeartbeats 1000000
set_option exponentiation.threshold 30000
namespace Law
open PySem PySem.Spec PyProof.Rows L2 Mi
local macro_rules | `(tactic| array_get_dec) => `(tactic| first
  | (with_reducible refine wq_sPs ?_)
  | ((with_reducible refine wq_eV (d := ?d) ?e ?_); (case e => exact rfl))
  | (with_reducible refine wq_eC ?_)
  | (with_reducible refine wq_e2 ?_)
  | (with_reducible refine wq_eL ?_)
  | (with_reducible refine wq_esC ?_)
  | (with_reducible refine wq_esN ?_)
  | (with_reducible refine wq_e1 ?_)
  | (with_reducible refine wq_eCall ?_)
  | (with_reducible refine KS.nx ?_; (try simp only [List.set_cons_succ, List.set_cons_zero]))
  | (with_reducible refine KS.rt ?_)
  | (with_reducible refine wq_sSet ?_)
  | (with_reducible refine wq_sIf ?_)
  | (with_reducible refine wq_sRt ?_)
  | (with_reducible refine wq_tV ?_)
  | (with_reducible refine wq_tN ?_)
  | (with_reducible refine wq_tA ?_)
  | (with_reducible refine wq_tO ?_)
  | (with_reducible refine wq_tI ?_)
  | (with_reducible refine wq_tYs ?_)
  | (with_reducible refine wq_eI ?_)
  | (with_reducible refine wq_eA ?_)
  | (with_reducible refine wq_eO ?_)
  | (with_reducible refine wq_eCh ?_)
  | (with_reducible refine wq_add ?_)
  | (with_reducible refine wq_sub ?_)
  | (with_reducible refine wq_lt ?_)
  | (with_reducible refine wq_le ?_)
  | (with_reducible refine wq_gt ?_)
  | (with_reducible refine wq_ge ?_)
  | (with_reducible refine wq_eqI ?_)
  | (with_reducible refine wq_neI ?_)
  | (with_reducible refine wq_neSame ?_)
  | (with_reducible refine wq_neg ?_)
  | (with_reducible refine wq_not ?_)
  | (with_reducible refine wq_and ?_)
  | (with_reducible refine wq_tupD (le5 rfl) ?_)
  | (with_reducible refine wq_lstD (le5 rfl) ?_)
  | ((with_reducible refine wq_ixT (d := ?d) ?e ?_); (case e => exact rfl))
  | ((with_reducible refine wq_ixL (d := ?d) ?e ?_); (case e => exact rfl))
  | (with_reducible refine wq_lenT ?_)
  | (with_reducible refine wq_lenL ?_)
  | (with_reducible refine wq_int ?_)
  | (with_reducible refine wq_gcd ?_)
  | (with_reducible refine wq_gcd4 ?_)
  | (with_reducible refine wq_tupT ?_)
  | (with_reducible refine wq_tupL ?_)
  | (with_reducible refine wq_lstT ?_)
  | (with_reducible refine wq_lstL ?_)
  | (with_reducible refine wq_revL ?_)
  | (with_reducible refine wq_sNx ?_)
  | (with_reducible refine wq_sEx ?_)
  | (with_reducible refine wq_sRtN ?_)
  | (with_reducible refine wq_sAsg ?_)
  | (with_reducible refine wq_sPar2 ?_)
  | (with_reducible refine wq_sPar3 ?_)
  | (with_reducible refine wq_gN ?_)
  | (with_reducible refine wq_gsN ?_)
  | (with_reducible refine wq_gsC ?_)
  | (with_reducible refine wq_gT rfl ?_)
  | (with_reducible refine wq_gLs rfl ?_)
  | (with_reducible refine wq_iOf ?_)
  | (with_reducible refine wq_iOfs ?_)
  | (with_reducible refine wq_itL ?_)
  | (with_reducible refine wq_itT ?_)
  | (with_reducible refine wq_itAL ?_)
  | (with_reducible refine wq_itAT ?_)
  | (with_reducible refine wq_itR1 rfl ?_)
  | (with_reducible refine wq_itR2 rfl ?_)
  | (with_reducible refine wq_sFo ?_)
  | (with_reducible refine wq_fo_nil ?_)
  | (with_reducible refine wq_eLc ?_)
  | (with_reducible refine wq_eSl ?_)
  | (with_reducible refine wq_partN ?_)
  | (with_reducible refine wq_partI ?_)
  | (with_reducible refine wq_slT ?_)
  | (with_reducible refine wq_slL ?_)
  | (with_reducible refine wq_isiI ?_)
  | (with_reducible refine wq_isiB ?_)
  | (with_reducible refine wq_isiT ?_)
  | (with_reducible refine wq_eqF ?_)
  | (with_reducible refine wq_neF2 ?_)
  | (with_reducible refine wq_eCallS ?_)
  | (with_reducible refine wq_mv0 ?_)
  | (with_reducible refine wq_mv1 ?_)
  | (with_reducible refine wq_mv2 ?_)
  | (with_reducible refine wq_mv3 ?_)
  | (with_reducible refine wq_fr0 ?_)
  | (with_reducible refine wq_fr1 ?_)
  | (with_reducible refine wq_ret ?_)
  | (with_reducible refine ⟨_, rfl, ?_⟩)
  | (with_reducible refine ⟨rfl, ?_⟩)
  | (with_reducible refine KB.f (by decide) ?_)
  | (with_reducible refine KB.t rfl ?_)
  | (with_reducible refine KI.t rfl ?_)
  | (with_reducible refine KI.f rfl ?_)
  | (with_reducible refine KT.t rfl ?_)
  | (with_reducible refine KT.f (by decide) ?_))
open Mi.T4 (Sim sc)
theorem mid_get (q : Q) (r0 : AH) (o : Option AO) : (SRC q (r0 ++ [o]))[r0.length + 2]? = some o := by
  unfold SRC
  simp
theorem mid_set (q : Q) (r0 : AH) (o o' : Option AO) : (SRC q (r0 ++ [o])).set (r0.length + 2) o' = SRC q (r0 ++ [o']) := by
  unfold SRC
  simp
section
variable {x y z w : Int × Int} {k : Nat} {ah : AH} {K : D → AH → Prop}
theorem wq_toldL {v0 v1 v2 v3 : D} (h : Q4 k v0 v1 v2 v3 x y z w) (hk : k ≤ 400) (q : K (vd (rw0 x y z w)) ah) : W (m__law_told [.lst [v0, v1, v2, v3]] ah) K := wq_toldV rfl rfl rfl rfl h hk q
/-- one element of the row, as it is or as an integer -/
theorem wq_mix {w0 w2 w3 w4 w5 w6 w7 w8 w9 w10 w11 w12 w14 w15 w16 : Option D} {q : Mi.Q} {rest : AH} (hx : Nf x) (hq : q.ok) (h : ∀ v q', q'.ok → Tl v x → K v (SRC q' rest)) :
    W (eI (tA (tV (e2 gEq (e2 gIx (eV 13) (eC (.int 1))) (eC (.int 1)))) (tV (e2 gEq (eCall 2 m__law_pick (esC (eV 1) (esC (eC (.int 2)) esN))) (eC (.int 0))))) (e2 gIx (eV 13) (eC (.int 0))) (eV 13) [w0, some (.ref 0), w2, w3, w4, w5, w6, w7, w8, w9, w10, w11, w12, some (fr x), w14, w15, w16] (SRC q rest)) K := by
  repeat array_get_dec
  by_cases e : x.2 = 1
  · refine KT.t (decide_eq_true e) ?_
    repeat array_get_dec
    refine wq_pick hq (by decide) (by decide) fun n q1 o1 n0 n1 => ?_
    repeat array_get_dec
    by_cases c : n = 0
    · refine KI.t (decide_eq_true c) ?_
      repeat array_get_dec
      exact h _ q1 o1 ⟨hx, .inr ⟨e, rfl⟩⟩
    · refine KI.f (decide_eq_false c) ?_
      repeat array_get_dec
      exact h _ q1 o1 ⟨hx, .inl rfl⟩
  · refine KT.f (by simp [e]) ?_
    refine KI.f (decide_eq_false e) ?_
    repeat array_get_dec
    exact h _ q hq ⟨hx, .inl rfl⟩
/-- the row times a fraction, and with other signs -/
theorem vd_times {t : Int × Int} {a b : Nat} (h : R4 a x y z w) (ht : Fb b t) (t0 : t.1 ≠ 0) : vd (rw0 (ti x t) (ti y t) (ti z t) (ti w t)) = vd (rw0 x y z w) ∧ R4 (a + b) (ti x t) (ti y t) (ti z t) (ti w t) := by
  have r : R4 (a + b) (ti x t) (ti y t) (ti z t) (ti w t) := ⟨nf_ti h.fa ht, nf_ti h.fb ht, nf_ti h.fc ht, nf_ti h.fd ht, fb_ti h.fa ht, fb_ti h.fb ht, fb_ti h.fc ht, fb_ti h.fd ht⟩
  refine ⟨vd_sim (rw_sim h.q4.cm r.q4.cm (c := t.2) (d := t.1) ht.z t0 h.fa.z h.fb.z h.fc.z h.fd.z r.fa.z r.fb.z r.fc.z r.fd.z (ti_x h.fa ht) (ti_x h.fb ht) (ti_x h.fc ht) (ti_x h.fd ht)), r⟩
def ng (x : Int × Int) : Int × Int := (0 - x.1, x.2)
theorem fb_ng {a : Nat} (h : Fb a x) : Fb a (ng x) := ⟨by have := h.n; unfold B at *; show (0 - x.1).natAbs < _; omega, h.d, h.z⟩
theorem nf_ng (h : Nf x) : Nf (ng x) := ⟨h.pos, by show Nat.gcd (0 - x.1).natAbs x.2.natAbs = 1; rw [show (0 - x.1).natAbs = x.1.natAbs by omega]; exact h.one⟩
theorem ng_x : (ng x).1 * x.2 * 1 = x.1 * (ng x).2 * (-1) := by show (0 - x.1) * x.2 * 1 = x.1 * x.2 * (-1); grind
theorem vd_neg {a : Nat} (h : R4 a x y z w) : vd (rw0 (ng x) (ng y) (ng z) (ng w)) = vd (rw0 x y z w) ∧ R4 a (ng x) (ng y) (ng z) (ng w) := by
  have r : R4 a (ng x) (ng y) (ng z) (ng w) := ⟨nf_ng h.a, nf_ng h.b, nf_ng h.c, nf_ng h.d, fb_ng h.fa, fb_ng h.fb, fb_ng h.fc, fb_ng h.fd⟩
  exact ⟨vd_sim (rw_sim h.q4.cm r.q4.cm (c := 1) (d := -1) (by decide) (by decide) h.fa.z h.fb.z h.fc.z h.fd.z r.fa.z r.fb.z r.fc.z r.fd.z ng_x ng_x ng_x ng_x), r⟩
/-! ## odd values among the four -/
theorem odd_at {n : Int} {d : D} (n0 : 0 ≤ n) (n1 : n < 4) (hd : okOd d = true) : ∃ j v0 v1 v2 v3, ixN 4 n = some j ∧ [D.int 1, .int 2, .int 3, .int 5].set j d = [v0, v1, v2, v3] ∧ ∀ ah, lcE (en4 v0 v1 v2 v3) [v0, v1, v2, v3] ah = .ex ⟨"BadMove", []⟩ (en4 v0 v1 v2 v3) ah := by
  obtain ⟨h1, h2, h3⟩ := okOd_x hd []
  have c : n = 0 ∨ n = 1 ∨ n = 2 ∨ n = 3 := by omega
  rcases c with rfl | rfl | rfl | rfl
  · exact ⟨0, d, .int 2, .int 3, .int 5, by decide, rfl, fun ah => lcE_x h1 h2 h3 _ ah⟩
  · exact ⟨1, .int 1, d, .int 3, .int 5, by decide, rfl, fun ah => lcE_then (tl_int 1) (lcE_x h1 h2 h3 _ ah)⟩
  · exact ⟨2, .int 1, .int 2, d, .int 5, by decide, rfl, fun ah => lcE_then (tl_int 1) (lcE_then (tl_int 2) (lcE_x h1 h2 h3 _ ah))⟩
  · exact ⟨3, .int 1, .int 2, .int 3, d, by decide, rfl, fun ah => lcE_then (tl_int 1) (lcE_then (tl_int 2) (lcE_then (tl_int 3) (lcE_x h1 h2 h3 _ ah)))⟩
theorem wq_toldR {n : Nat} {v0 v1 v2 v3 : D} (hn : ah[n]? = some (some (.lst [v0, v1, v2, v3]))) (h : lcE (en4 v0 v1 v2 v3) [v0, v1, v2, v3] ah = .ex ⟨"BadMove", []⟩ (en4 v0 v1 v2 v3) ah) (q : K REF ah) : W (m__law_told [.ref n] ah) K :=
  wq_toldX (wq_get (wq_ixR hn rfl ⟨rfl, rfl⟩)) (wq_get (wq_ixR hn rfl ⟨rfl, rfl⟩)) (wq_get (wq_ixR hn rfl ⟨rfl, rfl⟩)) (wq_get (wq_ixR hn rfl ⟨rfl, rfl⟩)) (move_odd h) q
theorem wq_toldO {d : D} (hd : okOd d = true) (q : K REF ah) : W (m__law_told [.lst [d, d, d, d]] ah) K := by
  obtain ⟨h1, h2, h3⟩ := okOd_x hd []
  exact wq_toldX rfl rfl rfl rfl (move_odd (lcE_x h1 h2 h3 _ ah)) q
end
/-! ## the law -/
def lapI (env : Lc) (ah : AH) : Prop := ∃ (w0 w2 w3 w4 w5 w6 w7 w8 w9 w10 w11 w12 w13 w14 w15 w16 : Option D) (q : Mi.Q) (rest : AH), env = [w0, some (.ref 0), w2, w3, w4, w5, w6, w7, w8, w9, w10, w11, w12, w13, w14, w15, w16] ∧ ah = SRC q rest ∧ q.ok
def tlA : MS :=
  (sPs (sSet 9 (eLc (iOfs itR1 (esC (eC (.int 4)) esN)) (oN 15) tYs (eCall 1 m__law_number (esC (eV 1) esN)) [15]))
    (sPs (sIf (tV (e2 gNe (eL gRepr (esC (eCall 1 m__law_told (esC (eV 9) esN)) esN)) (eL gRepr (esC (eCall 1 m__law_due (esC (eLc (iOf itD (eV 9)) (oN 16) tYs (eL gTupD (esC (eV 16) (esC (eC (.int 1)) esN))) [16]) esN)) esN)))) (sRt (eC (.bl false))) sNx)
    (sPs (sPar2 10 11 (esC (eCall 2 m__law_pick (esC (eV 1) (esC (eC (.int 4)) esN))) (esC (eCall 1 m__law_no_fraction (esC (eV 1) esN)) esN)))
    (sPs (sSet 12 (eL gLstN (esC (eC (.int 1)) (esC (eC (.int 2)) (esC (eC (.int 3)) (esC (eC (.int 5)) esN))))))
    (sPs (sAsg (gSt (eV 12) (eV 10)) (eV 11))
    (sIf (tO (tV (e2 gNe (eCall 1 m__law_told (esC (eV 12) esN)) (eL gTupD (esC (eC (.str (Str.ofString "refused"))) esN)))) (tV (e2 gNe (eCall 1 m__law_told (esC (e2 gMul (eL gLstD (esC (eV 11) esN)) (eC (.int 4))) esN)) (eL gTupD (esC (eC (.str (Str.ofString "refused"))) esN))))) (sRt (eC (.bl false))) sNx))))))
def lawB : MS :=
  (sPs (sSet 1 (eCall 1 m__law_open_cells (esC (eV 0) esN)))
    (sPs (sFo (iOfs itR1 (esC (eC (.int 8)) esN)) (gN 2) (sPs (sSet 3 (eCall 1 m__law_draw_prime (esC (eV 1) esN)))
    (sPs (sAsg (gT 2 (gsC (gN 4) (gsC (gN 5) gsN))) (eL gTupD (esC (eCall 2 m__law_draw_row (esC (eV 1) (esC (eV 3) esN))) (esC (eCall 2 m__law_fraction (esC (e2 gAdd (eC (.int 1)) (eCall 2 m__law_pick (esC (eV 1) (esC (eC (.int 9)) esN)))) (esC (e2 gAdd (eC (.int 1)) (eCall 2 m__law_pick (esC (eV 1) (esC (eC (.int 4)) esN)))) esN))) esN))))
    (sPs (sSet 6 (eCall 1 m__law_due (esC (eV 4) esN)))
    (sPs (sSet 7 (eLc (iOf itD (eV 4)) (oN 13) tYs (eI (tA (tV (e2 gEq (e2 gIx (eV 13) (eC (.int 1))) (eC (.int 1)))) (tV (e2 gEq (eCall 2 m__law_pick (esC (eV 1) (esC (eC (.int 2)) esN))) (eC (.int 0))))) (e2 gIx (eV 13) (eC (.int 0))) (eV 13)) [13]))
    (sPs (sSet 8 (eL gLstD (esC (eV 4) (esC (eV 7) (esC (eLc (iOf itD (eV 4)) (oN 13) tYs (eCall 2 m__law_product (esC (eV 13) (esC (eV 5) esN))) [13]) (esC (eLc (iOf itD (eV 4)) (oN 13) tYs (eL gTupD (esC (e2 gSub (eC (.int 0)) (e2 gIx (eV 13) (eC (.int 0)))) (esC (e2 gIx (eV 13) (eC (.int 1))) esN))) [13]) esN))))))
    (sPs (sIf (tV (e2 gNe (eL gRepr (esC (eLc (iOf itD (eV 8)) (oN 14) tYs (eCall 1 m__law_told (esC (eV 14) esN)) [14]) esN)) (eL gRepr (esC (e2 gMul (eL gLstD (esC (eV 6) esN)) (eC (.int 4))) esN)))) (sRt (eC (.bl false))) sNx)
    (sPs (sIf (tA (tV (e2 gNe (eV 6) (eL gTupD (esC (eC (.str (Str.ofString "refused"))) esN)))) (tO (tV (e2 gNe (eL gRepr (esC (eL gLstD (esC (eCall 1 m_size (esC (eV 6) esN)) (esC (eCall 1 m_sum_of (esC (eV 6) esN)) esN))) esN)) (eL gRepr (esC (eL gLstD (esC (eCall 1 m__law_size (esC (eV 6) esN)) (esC (e2 gAdd (e2 gIx (eV 6) (eC (.int 0))) (e2 gIx (eV 6) (eC (.int 3)))) esN))) esN)))) (tN (tV (eCall 1 m_is_move (esC (eV 6) esN)))))) (sRt (eC (.bl false))) sNx)
    tlA))))))))
    (sRt (eA (e2 gEq (eCall 1 m__law_told (esC (eL gLstD (esC (eC (.int 0)) (esC (eC (.int 0)) (esC (eC (.int 0)) (esC (eC (.int 0)) esN))))) esN)) (eL gTupD (esC (eC (.str (Str.ofString "refused"))) esN))) (e2 gEq (eCall 4 m_move (esC (eL gTupD (esC (eC (.int 1)) (esC (eC (.int 2)) esN))) (esC (eL gTupD (esC (eC (.int 1)) (esC (eC (.int 3)) esN))) (esC (eC (.int 0)) (esC (eL gTupD (esC (eC (.int 1)) (esC (eC (.int 5)) esN))) esN))))) (eL gTupD (esC (eC (.int 15)) (esC (eC (.int 10)) (esC (eC (.int 0)) (esC (eC (.int 6)) esN))))))))))
theorem law_b : b_law = lawB := rfl
theorem wq_tlA {q : Mi.Q} {rest : AH} (oq : q.ok) (w0 w2 w3 w4 w5 w6 w7 w8 w9 w10 w11 w12 w13 w14 w15 w16 : Option D) : W (tlA [w0, some (.ref 0), w2, w3, w4, w5, w6, w7, w8, w9, w10, w11, w12, w13, w14, w15, w16] (SRC q rest)) fun x ah2 => x.1 = .nx ∧ lapI x.2 ah2 := by
  unfold tlA
  repeat array_get_dec
  refine ⟨by show 4 ≤ 100000; decide, ?_⟩
  refine wq_lc_cons rfl ?_
  repeat array_get_dec
  refine wq_number oq fun i0 q1 o1 b0 => ?_
  refine wq_lc_cons rfl ?_
  repeat array_get_dec
  refine wq_number o1 fun i1 q2 o2 b1 => ?_
  refine wq_lc_cons rfl ?_
  repeat array_get_dec
  refine wq_number o2 fun i2 q3 o3 b2 => ?_
  refine wq_lc_cons rfl ?_
  repeat array_get_dec
  refine wq_number o3 fun i3 q4 o4 b3 => ?_
  refine wq_lc_nil ?_
  repeat array_get_dec
  have r : R4 30 (i0, 1) (i1, 1) (i2, 1) (i3, 1) := ⟨nf_int _, nf_int _, nf_int _, nf_int _, fb_int b0 (by decide), fb_int b1 (by decide), fb_int b2 (by decide), fb_int b3 (by decide)⟩
  have sv := sv_vd (k := 150) r.q4.bd (by decide)
  refine wq_toldL (⟨tl_int i0, tl_int i1, tl_int i2, tl_int i3, r.fa, r.fb, r.fc, r.fd⟩ : Q4 30 _ _ _ _ _ _ _ _) (by decide) ?_
  repeat array_get_dec
  refine wq_reprOk sv.one ?_
  repeat array_get_dec
  refine ⟨by show 4 ≤ 100000; decide, ?_⟩
  refine wq_lc_maps D.int (fun i => fr (i, 1)) [i0, i1, i2, i3] (fun u hu => ⟨_, rfl, ?_⟩) ?_
  · repeat array_get_dec
    exact rfl
  repeat array_get_dec
  refine wq_ldue r.q4 (by decide) ?_
  repeat array_get_dec
  refine wq_reprOk sv.one ?_
  repeat array_get_dec
  refine wq_pick o4 (by decide) (by decide) fun k q5 o5 k0 k1 => ?_
  repeat array_get_dec
  refine wq_nofrac o5 fun d q6 o6 hd => ?_
  repeat array_get_dec
  refine wq_lstNR (by show 4 ≤ 100000; decide) ?_
  repeat array_get_dec
  obtain ⟨j, v0, v1, v2, v3, ej, es, hx⟩ := odd_at k0 k1 hd
  have hl : (SRC q6 rest).length = rest.length + 2 := rfl
  rw [hl]
  refine wq_gSt (wq_eV rfl (wq_eV rfl ⟨_, _, _, j, rfl, rfl, mid_get q6 rest _, ej, ?_⟩))
  show KS _ _ _ ((SRC q6 (rest ++ [_])).set _ _)
  rw [mid_set, es]
  repeat array_get_dec
  refine wq_toldR (mid_get q6 rest _) (hx _) ?_
  repeat array_get_dec
  refine wq_neREF ?_
  repeat array_get_dec
  refine wq_mulRep4 ?_
  repeat array_get_dec
  refine wq_toldO hd ?_
  repeat array_get_dec
  refine wq_neREF ?_
  repeat array_get_dec
  exact ⟨_, _, _, _, _, _, _, _, _, _, _, _, _, _, _, _, q6, _, rfl, rfl, o6⟩
theorem law_true (ns : List Int) (h : ns.length ≤ 63) : ∃ ah', m_law [.fro (ns.map D.int)] [] = .ok (.bl true) ah' := by
  suffices w : W (m_law [.fro (ns.map D.int)] []) (fun d _ => d = .bl true) by
    obtain ⟨d, ah, e, rfl⟩ := w
    exact ⟨ah, e⟩
  refine wq_defM ?_
  rw [law_b]
  unfold lawB
  simp only [List.map_cons, List.map_nil, List.cons_append, List.nil_append, List.length_cons, List.length_nil, List.replicate, Nat.zero_add, Nat.reduceAdd, Nat.reduceSub]
  repeat array_get_dec
  obtain ⟨q, oq, e⟩ := open_ok ns h
  refine wq_eq e ?_
  repeat array_get_dec
  refine wq_fo_inv lapI _ ⟨_, _, _, _, _, _, _, _, _, _, _, _, _, _, _, _, q, [], rfl, rfl, oq⟩ ?_ ?_
  · rintro d hd env ah ⟨w0, w2, w3, w4, w5, w6, w7, w8, w9, w10, w11, w12, w13, w14, w15, w16, q, rest, rfl, rfl, oq⟩
    repeat array_get_dec
    refine wq_prime oq fun p q1 o1 hp => ?_
    repeat array_get_dec
    refine wq_drow hp o1 fun x y z w q2 o2 hr => ?_
    repeat array_get_dec
    refine wq_pick o2 (by decide) (by decide) fun n q3 o3 n0 n1 => ?_
    repeat array_get_dec
    refine wq_pick o3 (by decide) (by decide) fun m q4 o4 m0 m1 => ?_
    repeat array_get_dec
    have m2 : (1 : Int) + m ≠ 0 := by omega
    refine wq_eq (lfrac (n := 1 + n) ((by unfold B; omega : B 3 (1 + m)).mono (by decide)) m2 _) ?_
    have ft : Fb 4 (nf (1 + n) (1 + m)) := Fb.nf (by unfold B; omega) (by unfold B; omega) m2
    have t0 : (nf (1 + n) (1 + m)).1 ≠ 0 := by
      obtain ⟨_, κ, k0, e1, e2⟩ := nf_spec (1 + n) (1 + m) m2
      intro z
      rw [z] at e1
      omega
    generalize nf (1 + n) (1 + m) = t at ft t0 ⊢
    repeat array_get_dec
    refine wq_ldue hr.q4 (by decide) ?_
    repeat array_get_dec
    refine ⟨by show 4 ≤ 100000; decide, ?_⟩
    refine wq_lc_cons rfl ?_
    refine wq_mix hr.a o4 fun u0 q5 o5 hu0 => ?_
    refine wq_lc_cons rfl ?_
    refine wq_mix hr.b o5 fun u1 q6 o6 hu1 => ?_
    refine wq_lc_cons rfl ?_
    refine wq_mix hr.c o6 fun u2 q7 o7 hu2 => ?_
    refine wq_lc_cons rfl ?_
    refine wq_mix hr.d o7 fun u3 q8 o8 hu3 => ?_
    refine wq_lc_nil ?_
    repeat array_get_dec
    refine ⟨by show 4 ≤ 100000; decide, ?_⟩
    refine wq_lc_maps fr (fun x => fr (ti x t)) [x, y, z, w] (fun u hu => ⟨_, rfl, ?_⟩) ?_
    · have fu : Fb 12 u := by
        simp only [List.mem_cons, List.not_mem_nil, or_false] at hu
        rcases hu with rfl | rfl | rfl | rfl
        · exact hr.fa
        · exact hr.fb
        · exact hr.fc
        · exact hr.fd
      repeat array_get_dec
      refine wq_eq (lprod_ok (fu.mono (by decide)) (ft.mono (by decide)) _) ?_
      exact ⟨rfl, rfl⟩
    repeat array_get_dec
    refine ⟨by show 4 ≤ 100000; decide, ?_⟩
    refine wq_lc_maps fr (fun x => fr (ng x)) [x, y, z, w] (fun u hu => ⟨_, rfl, ?_⟩) ?_
    · repeat array_get_dec
      exact rfl
    repeat array_get_dec
    refine ⟨by show 4 ≤ 100000; decide, ?_⟩
    obtain ⟨et, rt⟩ := vd_times hr ft t0
    obtain ⟨en, rn⟩ := vd_neg hr
    have bd : T4.Bd 60 (rw0 x y z w) := hr.q4.bd
    have sv := sv_vd bd (by decide)
    refine wq_lc_cons rfl ?_
    repeat array_get_dec
    refine wq_toldL hr.q4 (by decide) ?_
    refine wq_lc_cons rfl ?_
    repeat array_get_dec
    refine wq_toldL (⟨hu0, hu1, hu2, hu3, hr.fa, hr.fb, hr.fc, hr.fd⟩ : Q4 12 u0 u1 u2 u3 x y z w) (by decide) ?_
    refine wq_lc_cons rfl ?_
    repeat array_get_dec
    refine wq_toldL rt.q4 (by decide) ?_
    refine wq_lc_cons rfl ?_
    repeat array_get_dec
    refine wq_toldL rn.q4 (by decide) ?_
    refine wq_lc_nil ?_
    rw [et, en]
    repeat array_get_dec
    refine wq_reprOk sv.four ?_
    repeat array_get_dec
    refine wq_mulRep4 ?_
    repeat array_get_dec
    refine wq_reprOk sv.four ?_
    repeat array_get_dec
    have hv : vd (rw0 x y z w) = REF ∨ ∃ m, Dm 60 m ∧ vd (rw0 x y z w) = mv m := by
      unfold vd
      by_cases c : (rw0 x y z w).det = 0
      · rw [if_pos c]; exact .inl rfl
      · rw [if_neg c]; exact .inr ⟨_, Dm.nm bd c, rfl⟩
    generalize vd (rw0 x y z w) = v at hv ⊢
    rcases hv with rfl | ⟨m, dm, rfl⟩
    · refine wq_neREF ?_
      repeat array_get_dec
      exact wq_tlA o8 _ _ _ _ _ _ _ _ _ _ _ _ _ _ _ _
    · have b200 : T4.Bd 200 m := dm.bd.mono (by decide)
      have bdet : B 990 m.det := (det_bd dm.bd).mono (by decide)
      have btr : B 990 (m.a + m.d) := (B.add dm.bd.a dm.bd.d).mono (by decide)
      refine wq_neMv ?_
      repeat array_get_dec
      refine wq_eq (size_ok (dm.bd.mono (by decide)) _) ?_
      repeat array_get_dec
      refine wq_eq sum_ok ?_
      repeat array_get_dec
      refine wq_reprOk (sv_two bdet btr) ?_
      repeat array_get_dec
      refine wq_eq (lsize_ok (dm.bd.mono (by decide))) ?_
      repeat array_get_dec
      refine wq_reprOk (sv_two bdet btr) ?_
      repeat array_get_dec
      refine wq_eq (ismove_any (mv m) rfl ?_ _) ?_
      · show (decide (m.a.natAbs < 2 ^ 200) && (decide (m.b.natAbs < 2 ^ 200) && (decide (m.c.natAbs < 2 ^ 200) && (decide (m.d.natAbs < 2 ^ 200) && true)))) = true
        rw [decide_eq_true (show m.a.natAbs < 2 ^ 200 from b200.a), decide_eq_true (show m.b.natAbs < 2 ^ 200 from b200.b), decide_eq_true (show m.c.natAbs < 2 ^ 200 from b200.c), decide_eq_true (show m.d.natAbs < 2 ^ 200 from b200.d)]
        rfl
      rw [mvB_dm dm]
      repeat array_get_dec
      exact wq_tlA o8 _ _ _ _ _ _ _ _ _ _ _ _ _ _ _ _
  · rintro env ah ⟨w0, w2, w3, w4, w5, w6, w7, w8, w9, w10, w11, w12, w13, w14, w15, w16, q, rest, rfl, rfl, oq⟩
    repeat array_get_dec
    have b0 : B 10 (0 : Int) := by decide
    refine wq_toldX rfl rfl rfl rfl (move_x (⟨tl_int 0, tl_int 0, tl_int 0, tl_int 0, fb_int b0 (by decide), fb_int b0 (by decide), fb_int b0 (by decide), fb_int b0 (by decide)⟩ : Q4 10 _ _ _ _ _ _ _ _) (by decide) (by decide) _) ?_
    repeat array_get_dec
    refine wq_eqREF ?_
    repeat array_get_dec
    have r : Q4 10 (fr (1, 2)) (fr (1, 3)) (.int 0) (fr (1, 5)) (1, 2) (1, 3) (0, 1) (1, 5) := ⟨⟨⟨by decide, by decide⟩, .inl rfl⟩, ⟨⟨by decide, by decide⟩, .inl rfl⟩, tl_int 0, ⟨⟨by decide, by decide⟩, .inl rfl⟩, ⟨by decide, by decide, by decide⟩, ⟨by decide, by decide, by decide⟩, ⟨by decide, by decide, by decide⟩, ⟨by decide, by decide, by decide⟩⟩
    have e1 : (rw0 (1, 2) (1, 3) (0, 1) (1, 5)).nm = ⟨15, 10, 0, 6⟩ := by ext <;> decide +kernel
    refine wq_eq (move_ok r (by decide) (by decide +kernel) _) ?_
    rw [e1]
    repeat array_get_dec
    refine wq_eqM (y := ⟨15, 10, 0, 6⟩) ?_
    rw [show mvEq ⟨15, 10, 0, 6⟩ ⟨15, 10, 0, 6⟩ = true by decide +kernel]
end Law
open PySem PySem.W PyProof.Rows
set_option maxHeartbeats 0 in
theorem PySem.Challenge.cw_ballmoves_k22_moves_made_holds : PySem.Challenge.rw_ballmoves_k22_moves_made.Holds := by
  w_on; o_law; k_head; (case hw => w_witness2)
  k_fill
  refine Mi.walk_g (l := PySem.Challenge.rw_ballmoves_k22_moves_made) (n := 63) (k := 7) (x := "_law_script") (m := Law.m_law) rfl (by decide) rfl ⟨rfl, by decide, by decide⟩ (fun w h Y => PySem.W.kIn_of Y) ?F Law.law_true
  case F =>
    intro w mg fa h KX G hmg
    refine' Law.all_mk KX G hmg ?a0 ?l0 ?c0 ?k0 ?a1 ?l1 ?c1 ?k1 ?a2 ?l2 ?c2 ?k2 ?a3 ?l3 ?c3 ?k3 ?a4 ?l4 ?c4 ?k4 ?a5 ?l5 ?c5 ?k5 ?a6 ?l6 ?c6 ?k6 ?a7 ?l7 ?c7 ?k7 ?a8 ?l8 ?c8 ?k8 ?a9 ?l9 ?c9 ?k9 ?a10 ?l10 ?c10 ?k10 ?a11 ?l11 ?c11 ?k11 ?a12 ?l12 ?c12 ?k12 ?a13 ?l13 ?c13 ?k13 ?a14 ?l14 ?c14 ?k14 ?a15 ?l15 ?c15 ?k15 ?a16 ?l16 ?c16 ?k16 ?a17 ?l17 ?c17 ?k17 ?a18 ?l18 ?c18 ?k18 ?a19 ?l19 ?c19 ?k19 ?a20 ?l20 ?c20 ?k20 ?a21 ?l21 ?c21 ?k21 ?a22 ?l22 ?c22 ?k22 ?a23 ?l23 ?c23 ?k23 ?a24 ?l24 ?c24 ?k24 ?z_abs ?z_all ?z_bool ?z_int ?z_isinstance ?z_len ?z_range ?z_repr ?z_tuple ?y_gcd ?y_lcm ?xa_BadMove ?xx_BadMove ?xk_BadMove ?xb_BadMove ?xt_BadMove ?xi_BadMove ?xs_BadMove_BadMove
    (case a0 => k_is)
    (case l0 => k_is)
    (case c0 => k_is)
    (case k0 => k_is)
    (case a1 => k_is)
    (case l1 => k_is)
    (case c1 => k_is)
    (case k1 => k_is)
    (case a2 => k_is)
    (case l2 => k_is)
    (case c2 => k_is)
    (case k2 => k_is)
    (case a3 => k_is)
    (case l3 => k_is)
    (case c3 => k_is)
    (case k3 => k_is)
    (case a4 => k_is)
    (case l4 => k_is)
    (case c4 => k_is)
    (case k4 => k_is)
    (case a5 => k_is)
    (case l5 => k_is)
    (case c5 => k_is)
    (case k5 => k_is)
    (case a6 => k_is)
    (case l6 => k_is)
    (case c6 => k_is)
    (case k6 => k_is)
    (case a7 => k_is)
    (case l7 => k_is)
    (case c7 => k_is)
    (case k7 => k_is)
    (case a8 => k_is)
    (case l8 => k_is)
    (case c8 => k_is)
    (case k8 => k_is)
    (case a9 => k_is)
    (case l9 => k_is)
    (case c9 => k_is)
    (case k9 => k_is)
    (case a10 => k_is)
    (case l10 => k_is)
    (case c10 => k_is)
    (case k10 => k_is)
    (case a11 => k_is)
    (case l11 => k_is)
    (case c11 => k_is)
    (case k11 => k_is)
    (case a12 => k_is)
    (case l12 => k_is)
    (case c12 => k_is)
    (case k12 => k_is)
    (case a13 => k_is)
    (case l13 => k_is)
    (case c13 => k_is)
    (case k13 => k_is)
    (case a14 => k_is)
    (case l14 => k_is)
    (case c14 => k_is)
    (case k14 => k_is)
    (case a15 => k_is)
    (case l15 => k_is)
    (case c15 => k_is)
    (case k15 => k_is)
    (case a16 => k_is)
    (case l16 => k_is)
    (case c16 => k_is)
    (case k16 => k_is)
    (case a17 => k_is)
    (case l17 => k_is)
    (case c17 => k_is)
    (case k17 => k_is)
    (case a18 => k_is)
    (case l18 => k_is)
    (case c18 => k_is)
    (case k18 => k_is)
    (case a19 => k_is)
    (case l19 => k_is)
    (case c19 => k_is)
    (case k19 => k_is)
    (case a20 => k_is)
    (case l20 => k_is)
    (case c20 => k_is)
    (case k20 => k_is)
    (case a21 => k_is)
    (case l21 => k_is)
    (case c21 => k_is)
    (case k21 => k_is)
    (case a22 => k_is)
    (case l22 => k_is)
    (case c22 => k_is)
    (case k22 => k_is)
    (case a23 => k_is)
    (case l23 => k_is)
    (case c23 => k_is)
    (case k23 => k_is)
    (case a24 => k_is)
    (case l24 => k_is)
    (case c24 => k_is)
    (case k24 => k_is)
    (case z_abs => k_is)
    (case z_all => k_is)
    (case z_bool => k_is)
    (case z_int => k_is)
    (case z_isinstance => k_is)
    (case z_len => k_is)
    (case z_range => k_is)
    (case z_repr => k_is)
    (case z_tuple => k_is)
    (case y_gcd => k_is)
    (case y_lcm => k_is)
    (case xa_BadMove => k_is)
    (case xx_BadMove => k_exc)
    (case xk_BadMove => k_is)
    (case xb_BadMove => k_is)
    (case xt_BadMove => k_is)
    (case xi_BadMove => k_is)
    (case xs_BadMove_BadMove => (first | rfl | k_is))
