import PyProof.Rows.All
import HandS.ForMost
import HandS.IsInst
import HandS.Gcd
import HandS.Wide
import HandS.Flow
import HandS.RevRange
import HandS.TupAny
import HandS.DeepEq
import HandS.Exc
import HandS.ExcOwn
import HandS.TryMany
import HandS.Style
import HandS.TryOnly
import HandS.Rev
import HandS.Star
import PySem.Challenge.RW_ballmoves_k05_parts_and_rests
import KE.BitLaws
import Wide.FinOn
set_option Elab.async false
set_option linter.all false
set_option maxRecDepth 100000
set_option maxHeartbeats 4000000
namespace Mi
open PySem PySem.Spec PyProof.Rows L2

/-! ## values of the mirror, its heap, its runs -/
abbrev St := L2.St
inductive D where
  | non | bl (b : Bool) | int (i : Int) | str (x : Str) | tup (xs : List D) | lst (xs : List D) | fro (xs : List D) | emp | ref (n : Nat) | oth (v : V)
inductive AO where
  | lst (xs : List D) | dct (kvs : List (Key × D))
abbrev AH := List (Option AO)
abbrev Lc := List (Option D)
structure Ex where
  cls : Str
  args : List (Str × D)
inductive R (α : Type) where
  | no | ok (a : α) (ah : AH) | ex (e : Ex) (env : Lc) (ah : AH)
abbrev M (α : Type) := AH → R α
def M.ret {α : Type} (a : α) : M α := fun ah => .ok a ah
def M.no {α : Type} : M α := fun _ => .no
def M.andThen {α β : Type} (m : M α) (f : α → M β) : M β := fun ah =>
  match m ah with
  | .no => .no
  | .ok a ah' => f a ah'
  | .ex e env ah' => .ex e env ah'
def M.lift {α : Type} (o : Option α) : M α := fun ah =>
  match o with
  | some a => .ok a ah
  | none => .no
def M.when {α : Type} (c : Bool) (m : M α) : M α := fun ah => if c = true then m ah else .no

/-! ## what of the mirror stands for what of the layer's heap -/
structure Sit where
  ρ : Nat → Addr
  ah : AH
  H : Hp
  /-- lists that are just being made -/
  busy : List Addr
def Liv (S : Sit) (a : Addr) : Prop := (∃ i o, S.ah[i]? = some (some o) ∧ S.ρ i = a) ∨ a ∈ S.busy
/-- what stands still at a: nothing of the mirror's heap stands there -/
def Still (S : Sit) (a : Addr) (u : HO) : Prop := S.H a = some u ∧ ¬ Liv S a
def TupAt (K : PySem.W.Frag) (S : Sit) (a : Addr) (vs : List V) : Prop :=
  (∃ u, Still S a u ∧ (u = .tup vs ∨ ∃ o, u = .frz o (.tup vs))) ∨
    ∃ (o : Obj) (its : Array Value) (n : Nat), K.lookup a = some o ∧ o.cls = .type "tuple" ∧ o.data = .seq its n ∧ its.size ≤ sizeLine ∧ Vals vs its.toList
def FroAt (K : PySem.W.Frag) (S : Sit) (a : Addr) (vs : List V) : Prop :=
  (∃ o, Still S a (.frz o (.lst vs))) ∨
    ∃ (o : Obj) (its : Array Value) (n : Nat), K.lookup a = some o ∧ o.cls = .type "list" ∧ o.dict = none ∧ o.data = .seq its n ∧ its.size ≤ sizeLine ∧ Vals vs its.toList
mutual
inductive RV (K : PySem.W.Frag) (S : Sit) : D → V → Prop
  | non : RV K S .non .non
  | bl (b : Bool) : RV K S (.bl b) (.bl b)
  | int (i : Int) : RV K S (.int i) (.int i)
  | str (x : Str) : RV K S (.str x) (.str x)
  | tup {ds : List D} {a : Addr} {vs : List V} : TupAt K S a vs → RVs K S ds vs → RV K S (.tup ds) (.ref a)
  | lst {ds : List D} {a : Addr} {vs : List V} : Still S a (.lst vs) → RVs K S ds vs → RV K S (.lst ds) (.ref a)
  | fro {ds : List D} {a : Addr} {vs : List V} : FroAt K S a vs → RVs K S ds vs → RV K S (.fro ds) (.ref a)
  | emp {a : Addr} : Still S a (.dK []) → RV K S .emp (.ref a)
  | ref {i : Nat} : i < S.ah.length → RV K S (.ref i) (.ref (S.ρ i))
  | oth (v : V) : RV K S (.oth v) v
inductive RVs (K : PySem.W.Frag) (S : Sit) : List D → List V → Prop
  | nil : RVs K S [] []
  | cons {d : D} {ds : List D} {v : V} {vs : List V} : RV K S d v → RVs K S ds vs → RVs K S (d :: ds) (v :: vs)
end
inductive RKs (K : PySem.W.Frag) (S : Sit) : List (Key × D) → List (Key × V) → Prop
  | nil : RKs K S [] []
  | cons {k : Key} {d : D} {v : V} {ds : List (Key × D)} {vs : List (Key × V)} : RV K S d v → RKs K S ds vs → RKs K S ((k, d) :: ds) ((k, v) :: vs)
inductive RO (K : PySem.W.Frag) (S : Sit) : AO → HO → Prop
  | lst {ds : List D} {vs : List V} : RVs K S ds vs → RO K S (.lst ds) (.lst vs)
  | dct {ds : List (Key × D)} {vs : List (Key × V)} : RKs K S ds vs → RO K S (.dct ds) (.dK vs)
structure Ok (K : PySem.W.Frag) (S : Sit) : Prop where
  obj : ∀ i o, S.ah[i]? = some (some o) → ∃ u, S.H (S.ρ i) = some u ∧ RO K S o u
  inj : ∀ i j o o', S.ah[i]? = some (some o) → S.ah[j]? = some (some o') → S.ρ i = S.ρ j → i = j
  bus : ∀ a, a ∈ S.busy → ∃ u, S.H a = some u
  dis : ∀ i o, S.ah[i]? = some (some o) → S.ρ i ∉ S.busy
structure Ext (S S' : Sit) : Prop where
  len : S.ah.length ≤ S'.ah.length
  agree : ∀ i, i < S.ah.length → S'.ρ i = S.ρ i
  pers : ∀ a u, Still S a u → S'.H a = some u
  liv : ∀ a, Liv S' a → Liv S a ∨ S.H a = none
  bsy : S'.busy = S.busy
  keep : ∀ a, a ∈ S.busy → S'.H a = S.H a
section
variable {K : PySem.W.Frag} {S S' S'' : Sit}
theorem Ext.still (e : Ext S S') {a : Addr} {u : HO} (h : Still S a u) : Still S' a u :=
  ⟨e.pers a u h, fun l => (e.liv a l).elim h.2 fun n => nomatch (h.1.symm.trans n)⟩
theorem Ext.refl (S : Sit) : Ext S S := ⟨Nat.le_refl _, fun _ _ => rfl, fun _ _ h => h.1, fun _ l => .inl l, rfl, fun _ _ => rfl⟩
theorem Ext.trans (a : Ext S S') (b : Ext S' S'') : Ext S S'' where
  len := Nat.le_trans a.len b.len
  agree := fun i h => (b.agree i (Nat.lt_of_lt_of_le h a.len)).trans (a.agree i h)
  pers := fun x u h => b.pers x u (a.still h)
  liv := fun x l => by
    rcases b.liv x l with l' | n
    · exact a.liv x l'
    · by_cases hl : Liv S x
      · exact .inl hl
      · refine .inr ?_
        cases q : S.H x with
        | none => rfl
        | some u =>
          have q2 := a.pers x u ⟨q, hl⟩
          rw [n] at q2
          cases q2
  bsy := b.bsy.trans a.bsy
  keep := fun x h => (b.keep x (by rw [a.bsy]; exact h)).trans (a.keep x h)
/-- what a value's meaning hangs on -/
structure Ext0 (S S' : Sit) : Prop where
  len : S.ah.length ≤ S'.ah.length
  agree : ∀ i, i < S.ah.length → S'.ρ i = S.ρ i
  still : ∀ a u, Still S a u → Still S' a u
theorem Ext.e0 (e : Ext S S') : Ext0 S S' := ⟨e.len, e.agree, fun _ _ h => e.still h⟩
theorem TupAt.ext0 (e : Ext0 S S') {a : Addr} {vs : List V} (h : TupAt K S a vs) : TupAt K S' a vs := by
  rcases h with ⟨u, hs, c⟩ | h
  · exact .inl ⟨u, e.still _ _ hs, c⟩
  · exact .inr h
theorem FroAt.ext0 (e : Ext0 S S') {a : Addr} {vs : List V} (h : FroAt K S a vs) : FroAt K S' a vs := by
  rcases h with ⟨o, hs⟩ | h
  · exact .inl ⟨o, e.still _ _ hs⟩
  · exact .inr h
theorem TupAt.ext (e : Ext S S') {a : Addr} {vs : List V} (h : TupAt K S a vs) : TupAt K S' a vs := h.ext0 e.e0
theorem FroAt.ext (e : Ext S S') {a : Addr} {vs : List V} (h : FroAt K S a vs) : FroAt K S' a vs := h.ext0 e.e0
theorem TupAt.seq {a : Addr} {vs : List V} (h : TupAt K S a vs) : SqT K S.H a vs := by
  rcases h with ⟨u, ⟨h, _⟩, rfl | ⟨o, rfl⟩⟩ | h
  · exact .inl (.inl h)
  · exact .inl (.inr ⟨o, h⟩)
  · exact .inr h
theorem FroAt.seq {a : Addr} {vs : List V} (h : FroAt K S a vs) : SqL K S.H a vs := by
  rcases h with ⟨o, h, _⟩ | h
  · exact .inl (.inr ⟨o, h⟩)
  · exact .inr h
mutual
theorem RV.ext0 (e : Ext0 S S') : ∀ {d : D} {v : V}, RV K S d v → RV K S' d v
  | _, _, .non => .non
  | _, _, .bl b => .bl b
  | _, _, .int i => .int i
  | _, _, .str x => .str x
  | _, _, .tup h r => .tup (h.ext0 e) (RVs.ext0 e r)
  | _, _, .lst h r => .lst (e.still _ _ h) (RVs.ext0 e r)
  | _, _, .fro h r => .fro (h.ext0 e) (RVs.ext0 e r)
  | _, _, .emp h => .emp (e.still _ _ h)
  | _, _, .ref h => by
    rw [← e.agree _ h]
    exact .ref (Nat.lt_of_lt_of_le h e.len)
  | _, _, .oth v => .oth v
theorem RVs.ext0 (e : Ext0 S S') : ∀ {ds : List D} {vs : List V}, RVs K S ds vs → RVs K S' ds vs
  | _, _, .nil => .nil
  | _, _, .cons r t => .cons (RV.ext0 e r) (RVs.ext0 e t)
end
theorem RV.ext (e : Ext S S') {d : D} {v : V} (h : RV K S d v) : RV K S' d v := h.ext0 e.e0
theorem RVs.ext (e : Ext S S') {ds : List D} {vs : List V} (h : RVs K S ds vs) : RVs K S' ds vs := h.ext0 e.e0
theorem RKs.ext0 (e : Ext0 S S') : ∀ {ds : List (Key × D)} {vs : List (Key × V)}, RKs K S ds vs → RKs K S' ds vs
  | _, _, .nil => .nil
  | _, _, .cons r t => .cons (r.ext0 e) (RKs.ext0 e t)
theorem RKs.ext (e : Ext S S') {ds : List (Key × D)} {vs : List (Key × V)} (h : RKs K S ds vs) : RKs K S' ds vs := h.ext0 e.e0
theorem RO.ext0 (e : Ext0 S S') {o : AO} {u : HO} : RO K S o u → RO K S' o u
  | .lst r => .lst (r.ext0 e)
  | .dct r => .dct (r.ext0 e)
theorem RO.ext (e : Ext S S') {o : AO} {u : HO} (h : RO K S o u) : RO K S' o u := h.ext0 e.e0
theorem RVs.length : ∀ {ds : List D} {vs : List V}, RVs K S ds vs → ds.length = vs.length
  | _, _, .nil => rfl
  | _, _, .cons _ t => congrArg (· + 1) (RVs.length t)
theorem RVs.get : ∀ {ds : List D} {vs : List V} {i : Nat} {d : D}, RVs K S ds vs → ds[i]? = some d → ∃ v, vs[i]? = some v ∧ RV K S d v
  | _, _, 0, _, .cons r _, h => by
    simp only [List.getElem?_cons_zero, Option.some.injEq] at h
    subst h
    exact ⟨_, rfl, r⟩
  | _, _, i + 1, _, .cons _ t, h => by
    rw [List.getElem?_cons_succ] at h
    obtain ⟨v, e, r⟩ := RVs.get t h
    exact ⟨v, by rw [List.getElem?_cons_succ]; exact e, r⟩
theorem RVs.append : ∀ {ds es : List D} {vs us : List V}, RVs K S ds vs → RVs K S es us → RVs K S (ds ++ es) (vs ++ us)
  | _, _, _, _, .nil, h => h
  | _, _, _, _, .cons r t, h => .cons r (RVs.append t h)
theorem RVs.take : ∀ (n : Nat) {ds : List D} {vs : List V}, RVs K S ds vs → RVs K S (ds.take n) (vs.take n)
  | 0, _, _, _ => .nil
  | _ + 1, _, _, .nil => .nil
  | n + 1, _, _, .cons r t => .cons r (RVs.take n t)
theorem RVs.drop : ∀ (n : Nat) {ds : List D} {vs : List V}, RVs K S ds vs → RVs K S (ds.drop n) (vs.drop n)
  | 0, _, _, h => h
  | _ + 1, _, _, .nil => .nil
  | n + 1, _, _, .cons _ t => RVs.drop n t
theorem RVs.reverse : ∀ {ds : List D} {vs : List V}, RVs K S ds vs → RVs K S ds.reverse vs.reverse
  | _, _, .nil => .nil
  | _, _, .cons r t => by
    rw [List.reverse_cons, List.reverse_cons]
    exact (RVs.reverse t).append (.cons r .nil)
/-! ## names by slot -/
def RE (K : PySem.W.Frag) (S : Sit) (env : Lc) (σ : St) : Prop :=
  env.length = σ.length ∧ ∀ (i : Nat) (d : D), env[i]? = some (some d) → ∃ v, σ[i]? = some (some v) ∧ RV K S d v
theorem RE.ext0 (e : Ext0 S S') {env : Lc} {σ : St} (h : RE K S env σ) : RE K S' env σ :=
  ⟨h.1, fun i d q => let ⟨v, a, b⟩ := h.2 i d q; ⟨v, a, b.ext0 e⟩⟩
theorem RE.ext (e : Ext S S') {env : Lc} {σ : St} (h : RE K S env σ) : RE K S' env σ :=
  ⟨h.1, fun i d q => let ⟨v, a, b⟩ := h.2 i d q; ⟨v, a, b.ext e⟩⟩
theorem RE.set {env : Lc} {σ : St} (h : RE K S env σ) (i : Nat) {d : D} {v : V} (r : RV K S d v) : RE K S (env.set i (some d)) (σ.set i (some v)) := by
  refine ⟨by rw [List.length_set, List.length_set]; exact h.1, fun j c q => ?_⟩
  by_cases hj : i = j
  · subst hj
    by_cases hl : i < env.length
    · rw [List.getElem?_set_self hl] at q
      cases q
      exact ⟨v, List.getElem?_set_self (h.1 ▸ hl), r⟩
    · rw [List.getElem?_eq_none (by rw [List.length_set]; omega)] at q
      cases q
  · rw [List.getElem?_set_ne hj] at q ⊢
    exact h.2 j c q
theorem RE.drop {env : Lc} {σ : St} (h : RE K S env σ) (i : Nat) : RE K S (env.set i none) σ := by
  refine ⟨by rw [List.length_set]; exact h.1, fun j c q => ?_⟩
  by_cases hj : i = j
  · subst hj
    by_cases hl : i < env.length
    · rw [List.getElem?_set_self hl] at q
      cases q
    · rw [List.getElem?_eq_none (by rw [List.length_set]; omega)] at q
      cases q
  · rw [List.getElem?_set_ne hj] at q
    exact h.2 j c q
def wipeE (env : Lc) : List Nat → Lc
  | [] => env
  | v :: vs => (wipeE env vs).set v none
theorem RE.wiped {env : Lc} {σ : St} (h : RE K S env σ) : ∀ vs : List Nat, RE K S (wipeE env vs) (wipe σ vs)
  | [] => h
  | v :: vs => by
    have ih := RE.wiped h vs
    refine ⟨by show ((wipeE env vs).set v none).length = ((wipe σ vs).set v none).length; rw [List.length_set, List.length_set]; exact ih.1, fun j c q => ?_⟩
    have q' : ((wipeE env vs).set v none)[j]? = some (some c) := q
    show ∃ x, ((wipe σ vs).set v none)[j]? = some (some x) ∧ _
    by_cases hj : v = j
    · subst hj
      by_cases hl : v < (wipeE env vs).length
      · rw [List.getElem?_set_self hl] at q'
        cases q'
      · rw [List.getElem?_eq_none (by rw [List.length_set]; omega)] at q'
        cases q'
    · rw [List.getElem?_set_ne hj] at q' ⊢
      exact ih.2 j c q'

/-! ## runs of the mirror held against the layer -/
abbrev EPT := St → Ex → Sit → Prop
def Post (K : PySem.W.Frag) (EP : EPT) (S : Sit) {α : Type} (G : α → Sit → Prop) : R α → Prop
  | .no => False
  | .ok a ah' => ∀ S', Ext S S' → Ok K S' → S'.ah = ah' → G a S'
  | .ex e env ah' => ∀ S', Ext S S' → Ok K S' → S'.ah = ah' → ∀ σ, RE K S' env σ → EP σ e S'
variable {EP : EPT} {α β : Type}
theorem Post.later {G : α → Sit → Prop} {r : R α} (h : Post K EP S G r) (e : Ext S S') : Post K EP S' G r := by
  cases r with
  | no => exact h
  | ok a ah' => exact fun S'' e' o q => h S'' (e.trans e') o q
  | ex x env ah' => exact fun S'' e' o q => h S'' (e.trans e') o q
theorem Post.imp {G G' : α → Sit → Prop} {r : R α} (h : Post K EP S G r) (f : ∀ a S', Ext S S' → Ok K S' → G a S' → G' a S') : Post K EP S G' r := by
  cases r with
  | no => exact h
  | ok a ah' => exact fun S'' e' o q => f a S'' e' o (h S'' e' o q)
  | ex x env ah' => exact h
theorem Post.split {G : β → Sit → Prop} {m : M α} {f : α → M β} (h : Post K EP S G (M.andThen m f S.ah)) :
    Post K EP S (fun a S1 => Post K EP S1 G (f a S1.ah)) (m S.ah) := by
  unfold M.andThen at h
  cases q : m S.ah with
  | no => rw [q] at h; exact h
  | ok a ah' =>
    rw [q] at h
    intro S1 e o hq
    subst hq
    exact h.later e
  | ex x env ah' => rw [q] at h; exact h
theorem Post.ret {G : α → Sit → Prop} {a : α} (h : Post K EP S G (M.ret a S.ah)) (o : Ok K S) : G a S := h S (Ext.refl S) o rfl
theorem Post.lifted {G : α → Sit → Prop} {x : Option α} (h : Post K EP S G (M.lift x S.ah)) (o : Ok K S) : ∃ a, x = some a ∧ G a S := by
  cases x with
  | none => exact False.elim h
  | some a => exact ⟨a, rfl, Post.ret (a := a) h o⟩
theorem Post.whened {G : α → Sit → Prop} {c : Bool} {m : M α} (h : Post K EP S G (M.when c m S.ah)) : c = true ∧ Post K EP S G (m S.ah) := by
  unfold M.when at h
  cases c with
  | true => exact ⟨rfl, h⟩
  | false => exact False.elim h
end
/-- what is wanted of a value -/
def GV (K : PySem.W.Frag) (Q : VK) : D → Sit → Prop := fun d S => ∀ v, RV K S d v → Q v S.H
def TD (K : PySem.W.Frag) (EP : EPT) (f : Lc → M D) : TE := fun σ H Q => ∃ S env, S.H = H ∧ Ok K S ∧ RE K S env σ ∧ Post K EP S (GV K Q) (f env S.ah)
def TB (K : PySem.W.Frag) (EP : EPT) (f : Lc → M Bool) : TT := fun σ H Q => ∃ S env, S.H = H ∧ Ok K S ∧ RE K S env σ ∧ Post K EP S (fun b S' => Q b S'.H) (f env S.ah)
def GVs (K : PySem.W.Frag) (Q : List V → Hp → Prop) : List D → Sit → Prop := fun ds S => ∀ vs, RVs K S ds vs → Q vs S.H
def TDs (K : PySem.W.Frag) (EP : EPT) (f : Lc → M (List D)) : TA := fun σ H Q => ∃ S env, S.H = H ∧ Ok K S ∧ RE K S env σ ∧ Post K EP S (GVs K Q) (f env S.ah)
inductive Fl where
  | nx | bk | ct | rt (d : D)
def GF (K : PySem.W.Frag) (Dn : Ends) : Fl × Lc → Sit → Prop := fun x S =>
  match x.1 with
  | .nx => ∀ σ, RE K S x.2 σ → Dn.nx σ S.H
  | .bk => ∀ σ, RE K S x.2 σ → Dn.bk σ S.H
  | .ct => ∀ σ, RE K S x.2 σ → Dn.ct σ S.H
  | .rt d => ∀ v, RV K S d v → Dn.rt v S.H
abbrev MS := Lc → M (Fl × Lc)
def TF (K : PySem.W.Frag) (EP : EPT) (g : MS) : TS := fun Dn σ H => ∃ S env, S.H = H ∧ Ok K S ∧ RE K S env σ ∧ Post K EP S (GF K Dn) (g env S.ah)
/-- a target: the value, the names -/
def TGo (K : PySem.W.Frag) (EP : EPT) (g : D → Lc → M Lc) : TG := fun v σ H Q => ∃ S env d, S.H = H ∧ Ok K S ∧ RE K S env σ ∧ RV K S d v ∧ Post K EP S (fun env' S' => ∀ σ', RE K S' env' σ' → Q σ' S'.H) (g d env S.ah)
def TGs' (K : PySem.W.Frag) (EP : EPT) (g : List D → Lc → M Lc) : TGs := fun vs σ H Q => ∃ S env ds, S.H = H ∧ Ok K S ∧ RE K S env σ ∧ RVs K S ds vs ∧ Post K EP S (fun env' S' => ∀ σ', RE K S' env' σ' → Q σ' S'.H) (g ds env S.ah)

section
variable {X : Cx}
theorem PE.by {e : Expr} {t t' : TE} (h : PE X e t) (i : ∀ σ H Q, t' σ H Q → t σ H Q) : PE X e t' := ⟨fun pins s σ H Q I q => h.run pins s σ H Q I (i σ H Q q)⟩
theorem PT.by {e : Expr} {t t' : TT} (h : PT X e t) (i : ∀ σ H Q, t' σ H Q → t σ H Q) : PT X e t' := ⟨fun pins s σ H Q I q => h.run pins s σ H Q I (i σ H Q q)⟩
theorem PW.by {e : Expr} {t t' : TT} (h : PW X e t) (i : ∀ σ H Q, t' σ H Q → t σ H Q) : PW X e t' := ⟨fun wh pins s σ H Q I q => h.run wh pins s σ H Q I (i σ H Q q)⟩
theorem PA.by {e : List Expr} {t t' : TA} (h : PA X e t) (i : ∀ σ H Q, t' σ H Q → t σ H Q) : PA X e t' := ⟨fun pos pins s σ H Q I q => h.run pos pins s σ H Q I (i σ H Q q)⟩
theorem PS.by {e : Stmt} {t t' : TS} (h : PS X e t) (i : ∀ σ H Q, t' Q σ H → t Q σ H) : PS X e t' := ⟨fun pins s σ H Q I q => h.run pins s σ H Q I (i σ H Q q)⟩
theorem PSs.by {e : List Stmt} {t t' : TS} (h : PSs X e t) (i : ∀ σ H Q, t' Q σ H → t Q σ H) : PSs X e t' := ⟨fun pins s σ H Q I q => h.run pins s σ H Q I (i σ H Q q)⟩
theorem PG.by {e : Expr} {t t' : TG} (h : PG X e t) (i : ∀ v σ H Q, t' v σ H Q → t v σ H Q) : PG X e t' := ⟨fun pins s σ H v u Q I r q => h.run pins s σ H v u Q I r (i v σ H Q q)⟩
theorem PGs.by {e : List Expr} {t t' : TGs} (h : PGs X e t) (i : ∀ v σ H Q, t' v σ H Q → t v σ H Q) : PGs X e t' := ⟨fun pins s σ H v u Q I r q => h.run pins s σ H v u Q I r (i v σ H Q q)⟩
end
end Mi
set_option Elab.async false
set_option linter.all false
set_option maxRecDepth 100000
set_option maxHeartbeats 4000000
namespace Mi
open PySem PySem.Spec PyProof.Rows L2

/-! ## new objects, stores -/
section
variable {K : PySem.W.Frag} {S : Sit} {EP : EPT}
/-- something new and still -/
def Sit.with (S : Sit) (p : Addr) (u : HO) : Sit := { S with H := upd S.H p u }
theorem Sit.with_ext (ok : Ok K S) {p : Addr} {u : HO} (hp : S.H p = none) : Ext S (S.with p u) where
  len := Nat.le_refl _
  agree := fun _ _ => rfl
  pers := fun a w h => by
    show upd S.H p u a = some w
    rw [upd_ne (ne_of_none h.1 hp)]
    exact h.1
  liv := fun a l => .inl l
  bsy := rfl
  keep := fun a h => by
    obtain ⟨w, e⟩ := ok.bus a h
    show upd S.H p u a = _
    rw [upd_ne (ne_of_none e hp)]
theorem Ok.notLiv (ok : Ok K S) {p : Addr} (hp : S.H p = none) : ¬ Liv S p := fun l => by
  rcases l with ⟨i, o, h, e⟩ | h
  · obtain ⟨u, q, _⟩ := ok.obj i o h
    rw [e, hp] at q
    cases q
  · obtain ⟨u, q⟩ := ok.bus p h
    rw [hp] at q
    cases q
theorem Sit.with_still (ok : Ok K S) {p : Addr} {u : HO} (hp : S.H p = none) : Still (S.with p u) p u :=
  ⟨upd_same, fun l => ok.notLiv hp l⟩
theorem Sit.with_ok (ok : Ok K S) {p : Addr} {u : HO} (hp : S.H p = none) : Ok K (S.with p u) where
  obj := fun i o h => by
    obtain ⟨w, q, r⟩ := ok.obj i o h
    refine ⟨w, ?_, r.ext (Sit.with_ext ok hp)⟩
    show upd S.H p u (S.ρ i) = some w
    rw [upd_ne (ne_of_none q hp)]
    exact q
  inj := ok.inj
  bus := fun a h => by
    obtain ⟨w, e⟩ := ok.bus a h
    exact ⟨w, by show upd S.H p u a = _; rw [upd_ne (ne_of_none e hp)]; exact e⟩
  dis := ok.dis
/-- a new object of the mirror's heap -/
def Sit.more (S : Sit) (p : Addr) (u : HO) (o : AO) : Sit := ⟨fun i => if i < S.ah.length then S.ρ i else p, S.ah ++ [some o], upd S.H p u, S.busy⟩
theorem Sit.more_old {p : Addr} {u : HO} {o : AO} {i : Nat} (h : i < S.ah.length) : (S.more p u o).ρ i = S.ρ i := if_pos h
theorem Sit.more_new {p : Addr} {u : HO} {o : AO} : (S.more p u o).ρ S.ah.length = p := if_neg (Nat.lt_irrefl _)
theorem more_get {ah : AH} {o : AO} {i : Nat} {q : AO} (h : (ah ++ [some o])[i]? = some (some q)) : (i < ah.length ∧ ah[i]? = some (some q)) ∨ (i = ah.length ∧ q = o) := by
  by_cases hi : i < ah.length
  · rw [List.getElem?_append_left hi] at h
    exact .inl ⟨hi, h⟩
  · rw [List.getElem?_append_right (by omega)] at h
    have e : i - ah.length = 0 := by
      by_cases z : i - ah.length = 0
      · exact z
      · rw [List.getElem?_eq_none (by simp only [List.length_singleton]; omega)] at h
        cases h
    rw [e] at h
    simp only [List.getElem?_cons_zero, Option.some.injEq] at h
    exact .inr ⟨by omega, h.symm⟩
theorem Sit.more_ext (ok : Ok K S) {p : Addr} {u : HO} {o : AO} (hp : S.H p = none) : Ext S (S.more p u o) where
  len := by show S.ah.length ≤ (S.ah ++ [some o]).length; rw [List.length_append]; omega
  agree := fun i h => Sit.more_old h
  pers := fun a w h => by
    show upd S.H p u a = some w
    rw [upd_ne (ne_of_none h.1 hp)]
    exact h.1
  liv := fun a l => by
    rcases l with ⟨i, q, h, e⟩ | l
    · rcases more_get h with ⟨hi, h'⟩ | ⟨hi, _⟩
      · rw [Sit.more_old hi] at e
        exact .inl (.inl ⟨i, q, h', e⟩)
      · subst hi
        rw [Sit.more_new] at e
        rw [← e]
        exact .inr hp
    · exact .inl (.inr l)
  bsy := rfl
  keep := fun a h => by
    obtain ⟨w, e⟩ := ok.bus a h
    show upd S.H p u a = _
    rw [upd_ne (ne_of_none e hp)]
theorem Sit.more_ok (ok : Ok K S) {p : Addr} {u : HO} {o : AO} (hp : S.H p = none) (r : RO K S o u) : Ok K (S.more p u o) where
  obj := fun i q h => by
    rcases more_get h with ⟨hi, h'⟩ | ⟨hi, hq⟩
    · obtain ⟨w, e, r'⟩ := ok.obj i q h'
      refine ⟨w, ?_, r'.ext (Sit.more_ext ok hp)⟩
      rw [Sit.more_old hi]
      show upd S.H p u (S.ρ i) = some w
      rw [upd_ne (ne_of_none e hp)]
      exact e
    · subst hi hq
      refine ⟨u, ?_, r.ext (Sit.more_ext ok hp)⟩
      rw [Sit.more_new]
      exact upd_same
  inj := fun i j o1 o2 h1 h2 e => by
    rcases more_get h1 with ⟨hi, h1'⟩ | ⟨hi, _⟩ <;> rcases more_get h2 with ⟨hj, h2'⟩ | ⟨hj, _⟩
    · rw [Sit.more_old hi, Sit.more_old hj] at e
      exact ok.inj i j o1 o2 h1' h2' e
    · subst hj
      rw [Sit.more_old hi, Sit.more_new] at e
      exact (ok.notLiv hp (.inl ⟨i, o1, h1', e⟩)).elim
    · subst hi
      rw [Sit.more_new, Sit.more_old hj] at e
      exact (ok.notLiv hp (.inl ⟨j, o2, h2', e.symm⟩)).elim
    · rw [hi, hj]
  bus := fun a h => by
    obtain ⟨w, e⟩ := ok.bus a h
    exact ⟨w, by show upd S.H p u a = _; rw [upd_ne (ne_of_none e hp)]; exact e⟩
  dis := fun i q h => by
    rcases more_get h with ⟨hi, h'⟩ | ⟨hi, _⟩
    · rw [Sit.more_old hi]
      exact ok.dis i q h'
    · subst hi
      rw [Sit.more_new]
      exact fun m => ok.notLiv hp (.inr m)
/-- a store -/
def Sit.put (S : Sit) (i : Nat) (u : HO) (o : AO) : Sit := ⟨S.ρ, S.ah.set i (some o), upd S.H (S.ρ i) u, S.busy⟩
theorem put_get {ah : AH} {o q : AO} {i j : Nat} (h : (ah.set i (some o))[j]? = some (some q)) : (i ≠ j ∧ ah[j]? = some (some q)) ∨ (i = j ∧ q = o) := by
  by_cases hj : i = j
  · subst hj
    by_cases hl : i < ah.length
    · rw [List.getElem?_set_self hl] at h
      simp only [Option.some.injEq] at h
      exact .inr ⟨rfl, h.symm⟩
    · rw [List.getElem?_eq_none (by rw [List.length_set]; omega)] at h
      cases h
  · rw [List.getElem?_set_ne hj] at h
    exact .inl ⟨hj, h⟩
theorem Sit.put_ext (ok : Ok K S) {i : Nat} {u : HO} {o q : AO} (hi : S.ah[i]? = some (some q)) : Ext S (S.put i u o) where
  len := by show S.ah.length ≤ (S.ah.set i (some o)).length; rw [List.length_set]; omega
  agree := fun _ _ => rfl
  pers := fun a w h => by
    show upd S.H (S.ρ i) u a = some w
    rw [upd_ne fun e => h.2 (.inl ⟨i, q, hi, e.symm⟩)]
    exact h.1
  liv := fun a l => by
    rcases l with ⟨j, q', h, e⟩ | l
    · rcases put_get h with ⟨_, h'⟩ | ⟨hj, _⟩
      · exact .inl (.inl ⟨j, q', h', e⟩)
      · subst hj
        exact .inl (.inl ⟨i, q, hi, e⟩)
    · exact .inl (.inr l)
  bsy := rfl
  keep := fun a h => by
    show upd S.H (S.ρ i) u a = _
    rw [upd_ne fun (z : a = S.ρ i) => ok.dis i q hi (z ▸ h)]
theorem Sit.put_ok (ok : Ok K S) {i : Nat} {u : HO} {o q : AO} (hi : S.ah[i]? = some (some q)) (r : RO K S o u) : Ok K (S.put i u o) where
  obj := fun j q' h => by
    rcases put_get h with ⟨hj, h'⟩ | ⟨hj, hq⟩
    · obtain ⟨w, e, r'⟩ := ok.obj j q' h'
      refine ⟨w, ?_, r'.ext (Sit.put_ext ok hi)⟩
      show upd S.H (S.ρ i) u (S.ρ j) = some w
      rw [upd_ne fun z => hj (ok.inj i j q q' hi h' z.symm)]
      exact e
    · subst hj hq
      exact ⟨u, upd_same, r.ext (Sit.put_ext ok hi)⟩
  inj := fun j k o1 o2 h1 h2 e => by
    rcases put_get h1 with ⟨_, h1'⟩ | ⟨hj, _⟩ <;> rcases put_get h2 with ⟨_, h2'⟩ | ⟨hk, _⟩
    · exact ok.inj j k o1 o2 h1' h2' e
    · exact ok.inj j k o1 q h1' (hk ▸ hi) e
    · exact ok.inj j k q o2 (hj ▸ hi) h2' e
    · rw [← hj, ← hk]
  bus := fun a h => by
    obtain ⟨w, e⟩ := ok.bus a h
    exact ⟨w, by show upd S.H (S.ρ i) u a = _; rw [upd_ne fun (z : a = S.ρ i) => ok.dis i q hi (z ▸ h)]; exact e⟩
  dis := fun j q' h => by
    rcases put_get h with ⟨_, h'⟩ | ⟨hj, _⟩
    · exact ok.dis j q' h'
    · rw [← hj]
      exact ok.dis i q hi
/-- an object of the mirror's heap stands still from here on -/
def Sit.fix (S : Sit) (i : Nat) : Sit := { S with ah := S.ah.set i none }
theorem fix_get {ah : AH} {q : AO} {i j : Nat} (h : (ah.set i none)[j]? = some (some q)) : i ≠ j ∧ ah[j]? = some (some q) := by
  by_cases hj : i = j
  · subst hj
    by_cases hl : i < ah.length
    · rw [List.getElem?_set_self hl] at h
      cases h
    · rw [List.getElem?_eq_none (by rw [List.length_set]; omega)] at h
      cases h
  · rw [List.getElem?_set_ne hj] at h
    exact ⟨hj, h⟩
theorem Sit.fix_ext (i : Nat) : Ext S (S.fix i) where
  len := by show S.ah.length ≤ (S.ah.set i none).length; rw [List.length_set]; omega
  agree := fun _ _ => rfl
  pers := fun a w h => h.1
  liv := fun a l => by
    rcases l with ⟨j, q', h, e⟩ | l
    · exact .inl (.inl ⟨j, q', (fix_get h).2, e⟩)
    · exact .inl (.inr l)
  bsy := rfl
  keep := fun _ _ => rfl
theorem Sit.fix_ok (ok : Ok K S) (i : Nat) : Ok K (S.fix i) where
  obj := fun j q h => by
    obtain ⟨w, e, r⟩ := ok.obj j q (fix_get h).2
    exact ⟨w, e, r.ext (Sit.fix_ext i)⟩
  inj := fun j k o1 o2 h1 h2 e => ok.inj j k o1 o2 (fix_get h1).2 (fix_get h2).2 e
  bus := ok.bus
  dis := fun j q h => ok.dis j q (fix_get h).2
theorem Sit.fix_lst (ok : Ok K S) {i : Nat} {ds : List D} (hi : S.ah[i]? = some (some (.lst ds))) : RV K (S.fix i) (.lst ds) (.ref (S.ρ i)) := by
  obtain ⟨u, e, r⟩ := ok.obj i _ hi
  cases r with
  | lst r =>
    refine .lst ⟨e, fun l => ?_⟩ (r.ext (Sit.fix_ext i))
    rcases l with ⟨j, q, h, z⟩ | l
    · have h2 := fix_get h
      exact h2.1 (ok.inj i j _ q hi h2.2 z.symm)
    · exact ok.dis i _ hi l
/-! ## mirror's heap: words -/
def newO (o : AO) : M D := fun ah => .ok (.ref ah.length) (ah ++ [some o])
def getO (i : Nat) : M AO := fun ah =>
  match ah[i]? with
  | some (some o) => .ok o ah
  | _ => .no
def putO (i : Nat) (o : AO) : M Unit := fun ah => .ok () (ah.set i (some o))
/-- a list of the mirror's heap becomes a value -/
def fixD : D → M D
  | .ref i => fun ah =>
    match ah[i]? with
    | some (some (.lst ds)) => .ok (.lst ds) (ah.set i none)
    | _ => .no
  | d => M.ret d
theorem Post.got {G : AO → Sit → Prop} {i : Nat} (h : Post K EP S G (getO i S.ah)) (ok : Ok K S) : ∃ o u, S.ah[i]? = some (some o) ∧ i < S.ah.length ∧ S.H (S.ρ i) = some u ∧ RO K S o u ∧ G o S := by
  unfold getO at h
  cases q : S.ah[i]? with
  | none => rw [q] at h; exact False.elim h
  | some x =>
    cases x with
    | none => rw [q] at h; exact False.elim h
    | some o =>
      rw [q] at h
      obtain ⟨u, e, r⟩ := ok.obj i o q
      exact ⟨o, u, rfl, (List.getElem?_eq_some_iff.mp q).1, e, r, h S (Ext.refl S) ok rfl⟩
theorem Post.new {G : D → Sit → Prop} {o : AO} (h : Post K EP S G (newO o S.ah)) (ok : Ok K S) {p : Addr} {u : HO} (hp : S.H p = none) (r : RO K S o u) : G (.ref S.ah.length) (S.more p u o) :=
  h _ (Sit.more_ext ok hp) (Sit.more_ok ok hp r) rfl
theorem Post.putted {G : Unit → Sit → Prop} {i : Nat} {o q : AO} {u : HO} (h : Post K EP S G (putO i o S.ah)) (ok : Ok K S) (hi : S.ah[i]? = some (some q)) (r : RO K S o u) : G () (S.put i u o) :=
  h _ (Sit.put_ext ok hi) (Sit.put_ok ok hi r) rfl
/-! ## what the layer's rules ask, by values -/
def Good1 (K : PySem.W.Frag) (EP : EPT) (r : V → Hp → VK → Prop) (g : D → M D) : Prop := ∀ S x v Q, Ok K S → RV K S x v → Post K EP S (GV K Q) (g x S.ah) → r v S.H Q
def Good2 (K : PySem.W.Frag) (EP : EPT) (r : R2) (g : D → D → M D) : Prop := ∀ S x y v w Q, Ok K S → RV K S x v → RV K S y w → Post K EP S (GV K Q) (g x y S.ah) → r v w S.H Q
def GoodL (K : PySem.W.Frag) (EP : EPT) (r : List V → Hp → VK → Prop) (g : List D → M D) : Prop := ∀ S ds vs Q, Ok K S → RVs K S ds vs → Post K EP S (GV K Q) (g ds S.ah) → r vs S.H Q
def GoodM (K : PySem.W.Frag) (EP : EPT) (T : String) (r : V → List V → Hp → VK → Prop) (c : D → AH → Bool) (g : D → List D → M D) : Prop :=
  (∀ S x v, Ok K S → RV K S x v → c x S.ah = true → tyV K T v S.H) ∧ ∀ S x v ds vs Q, Ok K S → RV K S x v → RVs K S ds vs → Post K EP S (GV K Q) (g x ds S.ah) → r v vs S.H Q
theorem Good2.or {r1 r2 : R2} {g1 g2 g : D → D → M D} (h1 : Good2 K EP r1 g1) (h2 : Good2 K EP r2 g2) (h : ∀ x y ah, g x y ah = .no ∨ g x y ah = g1 x y ah ∨ g x y ah = g2 x y ah) : Good2 K EP (fun x y H Q => r1 x y H Q ∨ r2 x y H Q) g :=
  fun S x y v w Q ok rx ry p => by
    rcases h x y S.ah with e | e | e
    · rw [e] at p; exact False.elim p
    · rw [e] at p; exact .inl (h1 S x y v w Q ok rx ry p)
    · rw [e] at p; exact .inr (h2 S x y v w Q ok rx ry p)
theorem GoodL.or {r1 r2 : List V → Hp → VK → Prop} {g1 g2 g : List D → M D} (h1 : GoodL K EP r1 g1) (h2 : GoodL K EP r2 g2) (h : ∀ x ah, g x ah = .no ∨ g x ah = g1 x ah ∨ g x ah = g2 x ah) : GoodL K EP (fun x H Q => r1 x H Q ∨ r2 x H Q) g :=
  fun S x v Q ok rx p => by
    rcases h x S.ah with e | e | e
    · rw [e] at p; exact False.elim p
    · rw [e] at p; exact .inl (h1 S x v Q ok rx p)
    · rw [e] at p; exact .inr (h2 S x v Q ok rx p)
end
section
variable {X : Cx}
theorem opR_or {f : Value → Value → Sem Value} {r1 r2 : R2} (h1 : OpR X f r1) (h2 : OpR X f r2) : OpR X f (fun x y H Q => r1 x y H Q ∨ r2 x y H Q) :=
  fun pins s σ H x y v u Q I rx ry h => h.elim (h1 pins s σ H x y v u Q I rx ry) (h2 pins s σ H x y v u Q I rx ry)
theorem ixR_or {r1 r2 : R2} (h1 : IxR X r1) (h2 : IxR X r2) : IxR X (fun x y H Q => r1 x y H Q ∨ r2 x y H Q) :=
  fun value slice pins s σ H x y v u Q I rx ry h e => h.elim (fun h => h1 value slice pins s σ H x y v u Q I rx ry h e) fun h => h2 value slice pins s σ H x y v u Q I rx ry h e
theorem callR_or {f : Value} {r1 r2 : List V → Hp → VK → Prop} (h1 : CallR X f r1) (h2 : CallR X f r2) : CallR X f (fun x H Q => r1 x H Q ∨ r2 x H Q) :=
  fun pins s σ H x u Q I rx h => h.elim (h1 pins s σ H x u Q I rx) (h2 pins s σ H x u Q I rx)
end
end Mi
set_option Elab.async false
set_option linter.all false
set_option maxRecDepth 100000
set_option maxHeartbeats 4000000
namespace Mi
open PySem PySem.Spec PyProof.Rows L2

/-! ## expressions -/
def eV (i : Nat) : Lc → M D := fun env => M.lift (env[i]?.join)
def eC (d : D) : Lc → M D := fun _ => M.ret d
def e2 (g : D → D → M D) (a b : Lc → M D) : Lc → M D := fun env => M.andThen (a env) fun x => M.andThen (b env) fun y => g x y
def e1 (g : D → M D) (a : Lc → M D) : Lc → M D := fun env => M.andThen (a env) g
def esN : Lc → M (List D) := fun _ => M.ret []
def esC (a : Lc → M D) (r : Lc → M (List D)) : Lc → M (List D) := fun env => M.andThen (a env) fun x => M.andThen (r env) fun xs => M.ret (x :: xs)
def eL (g : List D → M D) (r : Lc → M (List D)) : Lc → M D := fun env => M.andThen (r env) g
section
variable {X : Cx} {EP : EPT}
theorem Ok.ret {K : PySem.W.Frag} {S : Sit} {α : Type} {G : α → Sit → Prop} (ok : Ok K S) {a : α} (h : Post K EP S G (.ok a S.ah)) : G a S := h S (Ext.refl S) ok rfl
theorem d_var (i : Nat) {x : Str} {pos : Pos} (hN : X.N[i]? = some x := by rfl) (hv : Vis X.env.scope x := by first | exact Or.inl rfl | exact Or.inr (Or.inl rfl) | exact Or.inr (Or.inr rfl))
    (hd : (x == ("__debug__" : Str)) = false := by decide) (hcd : (x == ("__classdict__" : Str)) = false := by decide) : PE X (.Name x pos) (TD X.K EP (eV i)) := by
  refine PE.by (pe_var (i := i) hN hv hd hcd) fun σ H Q h => ?_
  obtain ⟨S, env, rfl, ok, re, p⟩ := h
  unfold eV at p
  obtain ⟨d, hd', g⟩ := Post.lifted p ok
  have he : env[i]? = some (some d) := by
    cases q : env[i]? with
    | none => rw [q] at hd'; cases hd'
    | some y => rw [q] at hd'; cases y with
      | none => cases hd'
      | some z => cases hd'; rfl
  obtain ⟨v, hs, r⟩ := re.2 i d he
  exact ⟨v, hs, g v r⟩
theorem d_of {e : Expr} {d : D} {v : V} (h : PE X e (tC v)) (r : ∀ S, RV X.K S d v) : PE X e (TD X.K EP (eC d)) := by
  refine PE.by h fun σ H Q ⟨S, env, e, ok, re, p⟩ => ?_
  subst e
  exact ok.ret (a := d) p v (r S)
theorem d_int {i j pos} : PE X (.Constant (.int i) j pos) (TD X.K EP (eC (.int i))) := d_of pe_int fun _ => .int i
theorem d_bl {i j pos} : PE X (.Constant (.bool i) j pos) (TD X.K EP (eC (.bl i))) := d_of pe_bl fun _ => .bl i
theorem d_str {i j pos} : PE X (.Constant (.str i) j pos) (TD X.K EP (eC (.str i))) := d_of pe_str fun _ => .str i
theorem d_non {j pos} : PE X (.Constant .none j pos) (TD X.K EP (eC .non)) := d_of pe_non fun _ => .non
variable {a b c : Expr} {fa fb fc : Lc → M D} {pos : Pos}
theorem run1 {K : PySem.W.Frag} {σ : St} {H : Hp} {fa : Lc → M D} {g : D → M D} {r : V → Hp → VK → Prop} {Q : VK} (hg : Good1 K EP r g) (h : TD K EP (e1 g fa) σ H Q) : TD K EP fa σ H fun x H1 => r x H1 Q := by
  obtain ⟨S, env, rfl, ok, re, p⟩ := h
  exact ⟨S, env, rfl, ok, re, (Post.split p).imp fun d S1 e1 o1 q v rv => hg S1 d v Q o1 rv q⟩
theorem run2 {K : PySem.W.Frag} {σ : St} {H : Hp} {fa fb : Lc → M D} {g : D → D → M D} {r : R2} {Q : VK} (hg : Good2 K EP r g) (h : TD K EP (e2 g fa fb) σ H Q) :
    TD K EP fa σ H fun x H1 => TD K EP fb σ H1 fun y H2 => r x y H2 Q := by
  obtain ⟨S, env, rfl, ok, re, p⟩ := h
  exact ⟨S, env, rfl, ok, re, (Post.split p).imp fun d S1 x1 o1 q v rv => ⟨S1, env, rfl, o1, re.ext x1, (Post.split q).imp fun d2 S2 x2 o2 q2 w rw => hg S2 d d2 v w Q o2 (rv.ext x2) rw q2⟩⟩
theorem runL {K : PySem.W.Frag} {σ : St} {H : Hp} {fs : Lc → M (List D)} {g : List D → M D} {r : List V → Hp → VK → Prop} {Q : VK} (hg : GoodL K EP r g) (h : TD K EP (eL g fs) σ H Q) :
    TDs K EP fs σ H fun x H1 => r x H1 Q := by
  obtain ⟨S, env, rfl, ok, re, p⟩ := h
  exact ⟨S, env, rfl, ok, re, (Post.split p).imp fun d S1 e1 o1 q v rv => hg S1 d v Q o1 rv q⟩
theorem d_op {op : Operator} {r : R2} {g : D → D → M D} (hr : OpR X (binaryOp op) r) (hg : Good2 X.K EP r g) (ha : PE X a (TD X.K EP fa)) (hb : PE X b (TD X.K EP fb)) : PE X (.BinOp a op b pos) (TD X.K EP (e2 g fa fb)) :=
  PE.by (pe_op hr ha hb) fun _ _ _ h => run2 hg h
theorem d_un {op : UnaryOp} {r : V → Hp → VK → Prop} {g : D → M D} (hr : UnR X (unaryOp op) r) (hg : Good1 X.K EP r g) (ha : PE X a (TD X.K EP fa)) : PE X (.UnaryOp op a pos) (TD X.K EP (e1 g fa)) :=
  PE.by (pe_un hr ha) fun _ _ _ h => run1 hg h
theorem d_cmp {op : CmpOp} {r : R2} {g : D → D → M D} (hr : OpR X (compareOp op) r) (hg : Good2 X.K EP r g) (ha : PE X a (TD X.K EP fa)) (hb : PE X b (TD X.K EP fb))
    (hm : behindInMarks op b = false := by first | exact nobehind _ (by decide) (by decide) | rfl) : PE X (.Compare a [op] [b] pos) (TD X.K EP (e2 g fa fb)) :=
  PE.by (pe_cmpR hr ha hb hm) fun _ _ _ h => run2 hg h
/-! arguments -/
theorem as_nil : PA X [] (TDs X.K EP esN) := by
  refine PA.by pa_nil fun σ H Q ⟨S, env, e, ok, re, p⟩ => ?_
  subst e
  exact ok.ret (a := ([] : List D)) p [] .nil
theorem as_cons {es : List Expr} {fs : Lc → M (List D)} (ha : PE X a (TD X.K EP fa)) (hr : PA X es (TDs X.K EP fs)) (hs : starEach (a :: es) X.env = (false, eval a X.env) :: starEach es X.env := by rfl) :
    PA X (a :: es) (TDs X.K EP (esC fa fs)) := by
  refine PA.by (pa_cons ha hr hs) fun σ H Q ⟨S, env, e, ok, re, p⟩ => ?_
  subst e
  exact ⟨S, env, rfl, ok, re, (Post.split p).imp fun d S1 x1 o1 q v rv => ⟨S1, env, rfl, o1, re.ext x1, (Post.split q).imp fun ds S2 x2 o2 q2 vs rvs => o2.ret (a := d :: ds) q2 (v :: vs) (.cons (rv.ext x2) rvs)⟩⟩
/-! displays -/
def gTupD (ds : List D) : M D := M.when (decide (ds.length ≤ sizeLine)) (M.ret (.tup ds))
def gLstD (ds : List D) : M D := M.when (decide (ds.length ≤ sizeLine)) (M.ret (.lst ds))
def gLstN (ds : List D) : M D := M.when (decide (ds.length ≤ sizeLine)) (newO (.lst ds))
theorem new_tup {K : PySem.W.Frag} {S : Sit} {ds : List D} {vs : List V} {Q : VK} (ok : Ok K S) (r : RVs K S ds vs) (p : Post K EP S (GV K Q) (M.ret (.tup ds) S.ah)) (q : Addr) (hq : S.H q = none) : Q (.ref q) (upd S.H q (.tup vs)) := by
  have x := Sit.with_ext ok (u := .tup vs) hq
  exact p (S.with q (.tup vs)) x (Sit.with_ok ok hq) rfl (.ref q) (.tup (.inl ⟨_, Sit.with_still ok hq, .inl rfl⟩) (r.ext x))
theorem new_lst {K : PySem.W.Frag} {S : Sit} {ds : List D} {vs : List V} {Q : VK} (ok : Ok K S) (r : RVs K S ds vs) (p : Post K EP S (GV K Q) (M.ret (.lst ds) S.ah)) (q : Addr) (hq : S.H q = none) : Q (.ref q) (upd S.H q (.lst vs)) := by
  have x := Sit.with_ext ok (u := .lst vs) hq
  exact p (S.with q (.lst vs)) x (Sit.with_ok ok hq) rfl (.ref q) (.lst (Sit.with_still ok hq) (r.ext x))
theorem new_lstN {K : PySem.W.Frag} {S : Sit} {ds : List D} {vs : List V} {Q : VK} (ok : Ok K S) (r : RVs K S ds vs) (p : Post K EP S (GV K Q) (newO (.lst ds) S.ah)) (q : Addr) (hq : S.H q = none) : Q (.ref q) (upd S.H q (.lst vs)) := by
  have h := Post.new p ok (u := .lst vs) hq (.lst r)
  have hr : RV K (S.more q (.lst vs) (.lst ds)) (.ref S.ah.length) (.ref ((S.more q (.lst vs) (.lst ds)).ρ S.ah.length)) := .ref (by show S.ah.length < (S.ah ++ [some (AO.lst ds)]).length; rw [List.length_append]; exact Nat.lt_succ_self _)
  rw [Sit.more_new] at hr
  exact h _ hr
theorem d_tup {es : List Expr} {x1 : Nat} {fs : Lc → M (List D)} (h : PA X es (TDs X.K EP fs)) : PE X (.Tuple es x1 pos) (TD X.K EP (eL gTupD fs)) := by
  refine PE.by (pe_tup h) fun σ H Q hh => ?_
  refine runL (r := fun xs H1 Q => xs.length ≤ sizeLine ∧ ∀ p, H1 p = none → Q (.ref p) (upd H1 p (.tup xs))) (fun S ds vs Q ok r p => ?_) hh
  obtain ⟨hc, p⟩ := Post.whened p
  exact ⟨by rw [← r.length]; exact of_decide_eq_true hc, new_tup ok r p⟩
theorem d_lst {es : List Expr} {fs : Lc → M (List D)} (h : PA X es (TDs X.K EP fs)) : PE X (.List es pos) (TD X.K EP (eL gLstD fs)) := by
  refine PE.by (pe_lst h) fun σ H Q hh => ?_
  refine runL (r := fun xs H1 Q => xs.length ≤ sizeLine ∧ ∀ p, H1 p = none → Q (.ref p) (upd H1 p (.lst xs))) (fun S ds vs Q ok r p => ?_) hh
  obtain ⟨hc, p⟩ := Post.whened p
  exact ⟨by rw [← r.length]; exact of_decide_eq_true hc, new_lst ok r p⟩
theorem d_lstN {es : List Expr} {fs : Lc → M (List D)} (h : PA X es (TDs X.K EP fs)) : PE X (.List es pos) (TD X.K EP (eL gLstN fs)) := by
  refine PE.by (pe_lst h) fun σ H Q hh => ?_
  refine runL (r := fun xs H1 Q => xs.length ≤ sizeLine ∧ ∀ p, H1 p = none → Q (.ref p) (upd H1 p (.lst xs))) (fun S ds vs Q ok r p => ?_) hh
  obtain ⟨hc, p⟩ := Post.whened p
  exact ⟨by rw [← r.length]; exact of_decide_eq_true hc, new_lstN ok r p⟩
/-- a list that was the mirror's heap's own stands still from here on -/
theorem d_fix (ha : PE X a (TD X.K EP fa)) : PE X a (TD X.K EP (e1 fixD fa)) := by
  refine PE.by ha fun σ H Q ⟨S, env, e, ok, re, p⟩ => ?_
  subst e
  refine ⟨S, env, rfl, ok, re, (Post.split p).imp fun d S1 x1 o1 q v rv => ?_⟩
  cases rv with
  | @ref i hi =>
    unfold fixD at q
    cases z : S1.ah[i]? with
    | none => simp only [z] at q; exact False.elim q
    | some y =>
      cases y with
      | none => simp only [z] at q; exact False.elim q
      | some o =>
        cases o with
        | dct _ => simp only [z] at q; exact False.elim q
        | lst ds => simp only [z] at q; exact q _ (Sit.fix_ext i) (Sit.fix_ok o1 i) rfl _ (Sit.fix_lst o1 z)
  | non => exact o1.ret (a := D.non) q _ .non
  | bl b => exact o1.ret (a := D.bl b) q _ (.bl b)
  | int b => exact o1.ret (a := D.int b) q _ (.int b)
  | str b => exact o1.ret (a := D.str b) q _ (.str b)
  | tup h1 h2 => exact o1.ret (a := D.tup _) q _ (.tup h1 h2)
  | lst h1 h2 => exact o1.ret (a := D.lst _) q _ (.lst h1 h2)
  | fro h1 h2 => exact o1.ret (a := D.fro _) q _ (.fro h1 h2)
  | emp h1 => exact o1.ret (a := D.emp) q _ (.emp h1)
  | oth => exact o1.ret (a := D.oth _) q _ (.oth _)
end
end Mi
set_option Elab.async false
set_option linter.all false
set_option maxRecDepth 100000
set_option maxHeartbeats 4000000
namespace Mi
open PySem PySem.Spec PyProof.Rows L2
section
variable {X : Cx} {EP : EPT} {K : PySem.W.Frag}
/-! ## numbers -/
def okMul (i j : Int) : Bool := (decide (-(2 ^ 64) < i) && decide (i < 2 ^ 64)) || (decide (-(2 ^ 64) < j) && decide (j < 2 ^ 64)) || decide (i.natAbs.log2 + j.natAbs.log2 < 1000000)
def okDiv (i j : Int) : Bool := decide (j ≠ 0) && decide (j.natAbs.log2 < 9000)
def okPow (i j : Int) : Bool := decide (0 ≤ j) && decide (j ≤ 1000000) && decide (i.natAbs < 2 ^ 64)
def okTxt (x y : Str) : Bool := decide (x.length + y.length ≤ sizeLine)
def okCat (xs ys : List D) : Bool := decide (xs.length + ys.length ≤ sizeLine)
def gAdd : D → D → M D
  | .int i, .int j => M.ret (.int (i + j))
  | .str x, .str y => M.when (okTxt x y) (M.ret (.str (x ++ y)))
  | .tup xs, .tup ys => M.when (okCat xs ys) (M.ret (.tup (xs ++ ys)))
  | .lst xs, .lst ys => M.when (okCat xs ys) (M.ret (.lst (xs ++ ys)))
  | _, _ => M.no
def rAddAll (K : PySem.W.Frag) : R2 := fun x y H Q => rI0 (fun i j => .int (i + j)) x y H Q ∨ (∃ i j, x = .str i ∧ y = .str j ∧ i.length + j.length ≤ sizeLine ∧ Q (.str (i ++ j)) H) ∨ rCatA K x y H Q ∨ rCat x y H Q
theorem o_add : OpR X (binaryOp .Add) (rAddAll X.K) := opR_or op_add (opR_or op_add_str (opR_or op_catA op_cat))
theorem RVs.nil_iff {S : Sit} {ds : List D} {vs : List V} (r : RVs K S ds vs) : vs = [] ↔ ds = [] := by
  cases r with
  | nil => exact ⟨fun _ => rfl, fun _ => rfl⟩
  | cons _ _ => exact ⟨fun z => (nomatch z), fun z => (nomatch z)⟩
theorem g_add : Good2 K EP (rAddAll K) gAdd := by
  intro S x y v w Q ok rx ry p
  unfold gAdd at p
  split at p
  · cases rx; cases ry
    exact .inl ⟨_, _, rfl, rfl, ok.ret p _ (.int _)⟩
  · cases rx; cases ry
    obtain ⟨c, p⟩ := Post.whened p
    exact .inr (.inl ⟨_, _, rfl, rfl, of_decide_eq_true c, ok.ret p _ (.str _)⟩)
  · cases rx with
    | tup h1 r1 =>
      cases ry with
      | tup h2 r2 =>
        obtain ⟨c, p⟩ := Post.whened p
        have c := of_decide_eq_true c
        refine .inr (.inr (.inl ⟨_, _, _, _, rfl, rfl, h1.seq, h2.seq, by rw [← r1.length, ← r2.length]; exact c, fun e => ?_, fun _ e => ?_, fun _ _ => new_tup ok (r1.append r2) p⟩))
        · have e' := r1.nil_iff.mp e
          subst e'
          exact ok.ret p _ (.tup h2 r2)
        · have e' := r2.nil_iff.mp e
          subst e'
          rw [List.append_nil] at p
          exact ok.ret p _ (.tup h1 r1)
  · cases rx with
    | lst h1 r1 =>
      cases ry with
      | lst h2 r2 =>
        obtain ⟨c, p⟩ := Post.whened p
        have c := of_decide_eq_true c
        exact .inr (.inr (.inr ⟨_, _, _, _, rfl, rfl, h1.1, h2.1, by rw [← r1.length, ← r2.length]; exact c, new_lst ok (r1.append r2) p⟩))
  · exact False.elim p
/-- two ints -/
def gI (c : Int → Int → Bool) (f : Int → Int → D) : D → D → M D
  | .int i, .int j => M.when (c i j) (M.ret (f i j))
  | _, _ => M.no
theorem g_int {C : Int → Int → Prop} {c : Int → Int → Bool} {f : Int → Int → D} {h : Int → Int → V} (hc : ∀ i j, c i j = true → C i j) (hf : ∀ S i j, RV K S (f i j) (h i j)) : Good2 K EP (rI C h) (gI c f) := by
  intro S x y v w Q ok rx ry p
  unfold gI at p
  split at p
  · cases rx; cases ry
    obtain ⟨cc, p⟩ := Post.whened p
    exact ⟨_, _, rfl, rfl, hc _ _ cc, ok.ret p _ (hf S _ _)⟩
  · exact False.elim p
theorem g_int0 {f : Int → Int → D} {h : Int → Int → V} (hf : ∀ S i j, RV K S (f i j) (h i j)) : Good2 K EP (rI0 h) (gI (fun _ _ => true) f) := by
  intro S x y v w Q ok rx ry p
  unfold gI at p
  split at p
  · cases rx; cases ry
    exact ⟨_, _, rfl, rfl, ok.ret p _ (hf S _ _)⟩
  · exact False.elim p
def gSub := gI (fun _ _ => true) fun i j => .int (i - j)
theorem g_sub : Good2 K EP (rI0 fun i j => .int (i - j)) gSub := g_int0 fun _ _ _ => .int _
def gFdiv := gI okDiv fun i j => .int (i.fdiv j)
def CDv (i j : Int) : Prop := j ≠ 0 ∧ j.natAbs.log2 < 9000
theorem o_fdiv : OpR X (binaryOp .FloorDiv) (rI CDv fun i j => .int (i.fdiv j)) := opI fun _ _ _ _ _ _ _ hc q => floordiv_int hc.1 q (.inl (PyProof.noPylong_of_log2 hc.2))
theorem g_fdiv : Good2 K EP (rI CDv fun i j => .int (i.fdiv j)) gFdiv := g_int (fun i j h => by
  have h' := Bool.and_eq_true_iff.mp h
  exact ⟨of_decide_eq_true h'.1, of_decide_eq_true h'.2⟩) fun _ _ _ => .int _
def gMod := gI (fun _ j => decide (j ≠ 0)) fun i j => .int (i.fmod j)
theorem g_mod : Good2 K EP (rI (fun _ j => j ≠ 0) fun i j => .int (i.fmod j)) gMod := g_int (fun _ _ h => of_decide_eq_true h) fun _ _ _ => .int _
def gPow := gI okPow fun i j => .int (i ^ j.toNat)
theorem okPow_ok {i j : Int} (h : okPow i j = true) : CPow i j := by
  have h1 := Bool.and_eq_true_iff.mp h
  have h2 := Bool.and_eq_true_iff.mp h1.1
  exact ⟨of_decide_eq_true h2.1, of_decide_eq_true h2.2, of_decide_eq_true h1.2⟩
theorem g_pow : Good2 K EP (rI CPow fun i j => .int (i ^ j.toNat)) gPow := g_int (fun _ _ h => okPow_ok h) fun _ _ _ => .int _
def gShl := gI okPow fun i j => .int (i * 2 ^ j.toNat)
theorem g_shl : Good2 K EP (rI CPow fun i j => .int (i * 2 ^ j.toNat)) gShl := g_int (fun _ _ h => okPow_ok h) fun _ _ _ => .int _
def gShr := gI (fun _ j => decide (0 ≤ j)) fun i j => .int (i / 2 ^ j.toNat)
theorem g_shr : Good2 K EP (rI (fun _ j => 0 ≤ j) fun i j => .int (i / 2 ^ j.toNat)) gShr := g_int (fun _ _ h => of_decide_eq_true h) fun _ _ _ => .int _
def gAnd := gI (fun _ _ => true) fun i j => .int (Builtin.bitAnd i j)
theorem g_and : Good2 K EP (rI0 fun i j => .int (Builtin.bitAnd i j)) gAnd := g_int0 fun _ _ _ => .int _
def gNeg : D → M D
  | .int i => M.ret (.int (-i))
  | _ => M.no
theorem g_neg : Good1 K EP (rU fun i => .int (-i)) gNeg := by
  intro S x v Q ok rx p
  unfold gNeg at p
  split at p
  · cases rx
    exact ⟨_, rfl, ok.ret p _ (.int _)⟩
  · exact False.elim p
def okRep (xs : List D) (k : Int) : Bool := decide (-(2 ^ 63) ≤ k) && decide (k < 2 ^ 63) && decide (xs.length * k.toNat ≤ sizeLine)
def gMul : D → D → M D
  | .int i, .int j => M.when (okMul i j) (M.ret (.int (i * j)))
  | .lst xs, .int k => M.when (okRep xs k) (M.ret (.lst (List.replicate k.toNat xs).flatten))
  | _, _ => M.no
def CMl (i j : Int) : Prop := CMul i j ∨ CMulW i j
theorem okMul_ok {i j : Int} (h : okMul i j = true) : CMl i j := by
  rcases Bool.or_eq_true_iff.mp h with h | h
  · rcases Bool.or_eq_true_iff.mp h with h | h
    · have h' := Bool.and_eq_true_iff.mp h
      exact .inl (.inl ⟨of_decide_eq_true h'.1, of_decide_eq_true h'.2⟩)
    · have h' := Bool.and_eq_true_iff.mp h
      exact .inl (.inr ⟨of_decide_eq_true h'.1, of_decide_eq_true h'.2⟩)
  · have c : _ < _ := of_decide_eq_true h
    exact .inr c
def rMulAll : R2 := fun x y H Q => rI CMl (fun i j => .int (i * j)) x y H Q ∨ rRep x y H Q
theorem o_mulI : OpR X (binaryOp .Mult) (rI CMl fun i j => .int (i * j)) := opI fun _ _ _ _ _ _ _ hc q => mul_int q (hc.elim (fun c => c.ok) fun c => c.ok)
theorem o_mul : OpR X (binaryOp .Mult) rMulAll := opR_or o_mulI op_rep
theorem RVs.rep {S : Sit} {ds : List D} {vs : List V} (r : RVs K S ds vs) : ∀ n, RVs K S (List.replicate n ds).flatten (List.replicate n vs).flatten
  | 0 => .nil
  | n + 1 => by
    rw [List.replicate_succ, List.replicate_succ, List.flatten_cons, List.flatten_cons]
    exact r.append (RVs.rep r n)
theorem g_mul : Good2 K EP rMulAll gMul := by
  intro S x y v w Q ok rx ry p
  unfold gMul at p
  split at p
  · cases rx; cases ry
    obtain ⟨c, p⟩ := Post.whened p
    exact .inl ⟨_, _, rfl, rfl, okMul_ok c, ok.ret p _ (.int _)⟩
  · cases ry
    cases rx with
    | lst h1 r1 =>
      obtain ⟨c, p⟩ := Post.whened p
      have c1 := Bool.and_eq_true_iff.mp c
      have c2 := Bool.and_eq_true_iff.mp c1.1
      exact .inr ⟨_, _, _, rfl, rfl, h1.1, of_decide_eq_true c2.1, of_decide_eq_true c2.2, by rw [← r1.length]; exact of_decide_eq_true c1.2, new_lst ok (r1.rep _) p⟩
  · exact False.elim p
/-! ## comparisons -/
def gCmp (f : Int → Int → Bool) := gI (fun _ _ => true) fun i j => .bl (f i j)
def gLt := gCmp fun i j => decide (i < j)
def gLe := gCmp fun i j => decide (i ≤ j)
def gGt := gCmp fun i j => decide (j < i)
def gGe := gCmp fun i j => decide (j ≤ i)
theorem g_lt : Good2 K EP (rI0 fun i j => .bl (decide (i < j))) gLt := g_int0 fun _ _ _ => .bl _
theorem g_le : Good2 K EP (rI0 fun i j => .bl (decide (i ≤ j))) gLe := g_int0 fun _ _ _ => .bl _
theorem g_gt : Good2 K EP (rI0 fun i j => .bl (decide (j < i))) gGt := g_int0 fun _ _ _ => .bl _
theorem g_ge : Good2 K EP (rI0 fun i j => .bl (decide (j ≤ i))) gGe := g_int0 fun _ _ _ => .bl _
/-! data without the heap -/
mutual
def D.p : D → PyData
  | .non => .none
  | .bl b => .bool b
  | .int i => .int i
  | .str x => .str x
  | .tup xs => .tuple (D.ps xs)
  | .lst xs => .list (D.ps xs)
  | .fro xs => .list (D.ps xs)
  | .emp => .dict []
  | .ref _ => .none
  | .oth _ => .none
def D.ps : List D → List PyData
  | [] => []
  | x :: xs => D.p x :: D.ps xs
end
mutual
/-- data for == : no dict -/
def D.flat : D → Bool
  | .non => true
  | .bl _ => true
  | .int _ => true
  | .str _ => true
  | .tup xs => D.flats xs
  | .lst xs => D.flats xs
  | .fro xs => D.flats xs
  | .emp => false
  | .ref _ => false
  | .oth _ => false
def D.flats : List D → Bool
  | [] => true
  | x :: xs => D.flat x && D.flats xs
end
mutual
theorem RV.dp {S : Sit} : ∀ {d : D} {v : V}, RV K S d v → d.flat = true → Dp K S.H v d.p
  | _, _, .non, _ => .non
  | _, _, .bl b, _ => .bl b
  | _, _, .int i, _ => .int i
  | _, _, .str x, _ => .str x
  | _, _, .tup h r, f => .tup h.seq (RVs.dp r f)
  | _, _, .lst h r, f => .lst (SqL.of h.1) (RVs.dp r f)
  | _, _, .fro h r, f => .lst h.seq (RVs.dp r f)
  | _, _, .emp _, f => nomatch f
  | _, _, .ref _, f => nomatch f
  | _, _, .oth _, f => nomatch f
theorem RVs.dp {S : Sit} : ∀ {ds : List D} {vs : List V}, RVs K S ds vs → D.flats ds = true → DpAll K S.H vs (D.ps ds)
  | _, _, .nil, _ => .nil
  | _, _, .cons r t, f => .cons (RV.dp r (Bool.and_eq_true_iff.mp f).1) (RVs.dp t (Bool.and_eq_true_iff.mp f).2)
end
def okEq (x y : D) : Bool := x.flat && y.flat && SeqAt.shaped x.p && SeqAt.shaped y.p
def gEq (x y : D) : M D := match x, y with
  | .int i, .int j => M.ret (.bl (decide (i = j)))
  | .str i, .str j => M.ret (.bl (decide (i = j)))
  | .lst xs, .lst ys => if xs.length ≠ ys.length then M.ret (.bl false) else M.when (okEq (.lst xs) (.lst ys)) (M.ret (.bl (PyData.eqv (D.p (.lst xs)) (D.p (.lst ys)))))
  | x, y => M.when (okEq x y) (M.ret (.bl (PyData.eqv x.p y.p)))
def gNe (x y : D) : M D := match x, y with
  | .int i, .int j => M.ret (.bl (!decide (i = j)))
  | .str i, .str j => M.ret (.bl (!decide (i = j)))
  | x, y => M.when (okEq x y) (M.ret (.bl (!PyData.eqv x.p y.p)))
/-- two lists of unlike length -/
def rEqLn : R2 := fun x y H Q => ∃ l b xs ys, x = .ref l ∧ y = .ref b ∧ H l = some (.lst xs) ∧ H b = some (.lst ys) ∧ xs.length ≠ ys.length ∧ Q (.bl false) H
theorem op_eqLn (hu : X.A.units + 64 < cLine) : OpR X (compareOp .Eq) rEqLn := by
  intro pins s σ H x y v u Q I rx ry h
  obtain ⟨l, b, xs, ys, rfl, rfl, hH, hB, hz, q⟩ := h
  cases rx
  cases ry
  obtain ⟨z, its, n, r, hl, e⟩ := I.lstM hH
  obtain ⟨z2, its2, n2, r2, hl2, e2⟩ := I.lstM hB
  refine PySem.P.eq_list_lengths e e2 (by rw [List.size_toArray, List.size_toArray, ← hl, ← hl2]; exact bne_iff_ne.mpr hz) (by omega) ?_
  exact ⟨.bl false, H, I, rfl, q⟩
def rEqAll (K : PySem.W.Frag) : R2 := fun x y H Q => rEq x y H Q ∨ rEqD K x y H Q ∨ rEqLn x y H Q
def rNeAll (K : PySem.W.Frag) : R2 := fun x y H Q => rNe x y H Q ∨ rNeD K x y H Q
theorem o_eq (hu : X.A.units + 64 < cLine) : OpR X (compareOp .Eq) (rEqAll X.K) := opR_or op_eq (opR_or (op_eqD hu) (op_eqLn hu))
theorem o_ne (hu : X.A.units + 64 < cLine) : OpR X (compareOp .NotEq) (rNeAll X.K) := opR_or op_ne (op_neD hu)
theorem dec_int (i j : Int) : decide (V.int i = V.int j) = decide (i = j) := by
  by_cases e : i = j
  · subst e; rw [decide_eq_true rfl, decide_eq_true rfl]
  · rw [decide_eq_false e, decide_eq_false fun z => e (V.int.inj z)]
theorem dec_str (i j : Str) : decide (V.str i = V.str j) = decide (i = j) := by
  by_cases e : i = j
  · subst e; rw [decide_eq_true rfl, decide_eq_true rfl]
  · rw [decide_eq_false e, decide_eq_false fun z => e (V.str.inj z)]
theorem okEq_ok {x y : D} (h : okEq x y = true) : x.flat = true ∧ y.flat = true ∧ SeqAt.shaped x.p = true ∧ SeqAt.shaped y.p = true := by
  have h1 := Bool.and_eq_true_iff.mp h
  have h2 := Bool.and_eq_true_iff.mp h1.1
  have h3 := Bool.and_eq_true_iff.mp h2.1
  exact ⟨h3.1, h3.2, h2.2, h1.2⟩
theorem g_eq : Good2 K EP (rEqAll K) gEq := by
  intro S x y v w Q ok rx ry p
  unfold gEq at p
  split at p
  · cases rx; cases ry
    have q := ok.ret p _ (.bl _)
    rw [← dec_int] at q
    exact .inl ⟨rfl, q⟩
  · cases rx; cases ry
    have q := ok.ret p _ (.bl _)
    rw [← dec_str] at q
    exact .inl ⟨rfl, q⟩
  · split at p
    · rename_i hne
      cases rx with
      | lst h1 r1 =>
        cases ry with
        | lst h2 r2 => exact .inr (.inr ⟨_, _, _, _, rfl, rfl, h1.1, h2.1, by rw [← r1.length, ← r2.length]; exact hne, ok.ret p _ (.bl _)⟩)
    · obtain ⟨c, p⟩ := Post.whened p
      obtain ⟨c1, c2, c3, c4⟩ := okEq_ok c
      exact .inr (.inl ⟨_, _, rx.dp c1, ry.dp c2, c3, c4, ok.ret p _ (.bl _)⟩)
  · obtain ⟨c, p⟩ := Post.whened p
    obtain ⟨c1, c2, c3, c4⟩ := okEq_ok c
    exact .inr (.inl ⟨_, _, rx.dp c1, ry.dp c2, c3, c4, ok.ret p _ (.bl _)⟩)
theorem g_ne : Good2 K EP (rNeAll K) gNe := by
  intro S x y v w Q ok rx ry p
  unfold gNe at p
  split at p
  · cases rx; cases ry
    have q := ok.ret p _ (.bl _)
    rw [← dec_int] at q
    exact .inl ⟨rfl, q⟩
  · cases rx; cases ry
    have q := ok.ret p _ (.bl _)
    rw [← dec_str] at q
    exact .inl ⟨rfl, q⟩
  · obtain ⟨c, p⟩ := Post.whened p
    obtain ⟨c1, c2, c3, c4⟩ := okEq_ok c
    exact .inr ⟨_, _, rx.dp c1, ry.dp c2, c3, c4, ok.ret p _ (.bl _)⟩
def D.isNon : D → Bool
  | .non => true
  | _ => false
def gIsN (x y : D) : M D := match y with
  | .non => match x with
    | .oth _ => M.no
    | _ => M.ret (.bl x.isNon)
  | _ => M.no
def gNotN (x y : D) : M D := match y with
  | .non => match x with
    | .oth _ => M.no
    | _ => M.ret (.bl (!x.isNon))
  | _ => M.no
theorem RV.isNon {S : Sit} {d : D} {v : V} (r : RV K S d v) (h : ∀ u, d ≠ .oth u) : decide (v = V.non) = d.isNon := by
  cases r with
  | non => rfl
  | oth v => exact absurd rfl (h v)
  | bl b => rfl
  | int i => rfl
  | str x => rfl
  | tup _ _ => rfl
  | lst _ _ => rfl
  | fro _ _ => rfl
  | emp _ => rfl
  | ref _ => rfl
theorem g_isN : Good2 K EP (fun x y H Q => y = .non ∧ Q (.bl (decide (x = .non))) H) gIsN := by
  intro S x y v w Q ok rx ry p
  unfold gIsN at p
  split at p
  · cases ry
    split at p
    · exact False.elim p
    · rename_i h
      refine ⟨rfl, ?_⟩
      rw [rx.isNon fun u z => h u z]
      exact ok.ret p _ (.bl _)
  · exact False.elim p
theorem g_notN : Good2 K EP (fun x y H Q => y = .non ∧ Q (.bl (!decide (x = .non))) H) gNotN := by
  intro S x y v w Q ok rx ry p
  unfold gNotN at p
  split at p
  · cases ry
    split at p
    · exact False.elim p
    · rename_i h
      refine ⟨rfl, ?_⟩
      rw [rx.isNon fun u z => h u z]
      exact ok.ret p _ (.bl _)
  · exact False.elim p
/-! ## items -/
def gIx : D → D → M D
  | .tup xs, .int i => M.lift (atI xs i)
  | .lst xs, .int i => M.lift (atI xs i)
  | .fro xs, .int i => M.lift (atI xs i)
  | .ref n, .int i => M.andThen (getO n) fun o => match o with
    | .lst xs => M.lift (atI xs i)
    | .dct _ => M.no
  | _, _ => M.no
theorem RVs.atI {S : Sit} {ds : List D} {vs : List V} {i : Int} {d : D} (r : RVs K S ds vs) (h : L2.atI ds i = some d) : ∃ v, L2.atI vs i = some v ∧ RV K S d v := by
  unfold L2.atI at h ⊢
  rw [← r.length]
  cases q : ixN ds.length i with
  | none => rw [q] at h; cases h
  | some j =>
    rw [q] at h
    exact r.get h
theorem g_ix : Good2 K EP (fun x y H Q => rIxL K x y H Q ∨ rIxT K x y H Q) gIx := by
  intro S x y v w Q ok rx ry p
  unfold gIx at p
  split at p
  · cases ry
    cases rx with
    | tup h r =>
      obtain ⟨d, e, g⟩ := Post.lifted p ok
      obtain ⟨v, e2, rv⟩ := r.atI e
      exact .inr ⟨_, _, _, v, rfl, rfl, h.seq, e2, g v rv⟩
  · cases ry
    cases rx with
    | lst h r =>
      obtain ⟨d, e, g⟩ := Post.lifted p ok
      obtain ⟨v, e2, rv⟩ := r.atI e
      exact .inl ⟨_, _, _, v, rfl, rfl, SqL.of h.1, e2, g v rv⟩
  · cases ry
    cases rx with
    | fro h r =>
      obtain ⟨d, e, g⟩ := Post.lifted p ok
      obtain ⟨v, e2, rv⟩ := r.atI e
      exact .inl ⟨_, _, _, v, rfl, rfl, h.seq, e2, g v rv⟩
  · cases ry
    cases rx with
    | ref hi =>
      obtain ⟨o, u, e1, _, e2, ro, p⟩ := Post.got (Post.split p) ok
      cases ro with
      | dct _ => exact False.elim p
      | lst r =>
        obtain ⟨d, e, g⟩ := Post.lifted p ok
        obtain ⟨v, e3, rv⟩ := r.atI e
        exact .inl ⟨_, _, _, v, rfl, rfl, SqL.of e2, e3, g v rv⟩
  · exact False.elim p
theorem d_ix {a b : Expr} {fa fb : Lc → M D} {pos : Pos} (ha : PE X a (TD X.K EP fa)) (hb : PE X b (TD X.K EP fb)) (hp : PlainIx b := by exact fun _ _ => rfl) : PE X (.Subscript a b pos) (TD X.K EP (e2 gIx fa fb)) :=
  PE.by (pe_ix (ixR_or ix_list ix_tup) ha hb hp) fun _ _ _ h => run2 g_ix h
/-! slices: bounds are ints -/
def cutD (xs : List D) (lo hi : Option Int) : List D := (xs.drop (HT.sIx xs.length 0 lo)).take (HT.sIx xs.length xs.length hi - HT.sIx xs.length 0 lo)
def gSl (x : D) (lo hi : Option Int) : M D := match x with
  | .lst xs => M.ret (.lst (cutD xs lo hi))
  | .fro xs => M.ret (.lst (cutD xs lo hi))
  | .tup xs => M.ret (.tup (cutD xs lo hi))
  | _ => M.no
theorem RVs.cut {S : Sit} {ds : List D} {vs : List V} (r : RVs K S ds vs) (lo hi : Option Int) : RVs K S (cutD ds lo hi) (cutV vs lo hi) := by
  unfold cutD cutV
  rw [r.length]
  exact (r.drop _).take _
theorem slR_or {r1 r2 : V → Option Int → Option Int → Hp → VK → Prop} (h1 : SlR X r1) (h2 : SlR X r2) : SlR X (fun x lo hi H Q => r1 x lo hi H Q ∨ r2 x lo hi H Q) :=
  fun pins s σ H x v vl vu lo hi sl Q I rx hs pl pu h => h.elim (fun h => h1 pins s σ H x v vl vu lo hi sl Q I rx hs pl pu h) fun h => h2 pins s σ H x v vl vu lo hi sl Q I rx hs pl pu h
def asPart : D → Option Int
  | .int i => some i
  | _ => none
def partN : Lc → M (Option Int) := fun _ => M.ret none
def partI (f : Lc → M D) : Lc → M (Option Int) := fun env => M.andThen (f env) fun d => match d with
  | .int i => M.ret (some i)
  | _ => M.no
def TO' (K : PySem.W.Frag) (EP : EPT) (f : Lc → M (Option Int)) : TO := fun σ H Q => ∃ S env, S.H = H ∧ Ok K S ∧ RE K S env σ ∧ Post K EP S (fun o S' => Q o S'.H) (f env S.ah)
theorem PO.by {e : Option Expr} {t t' : TO} (h : PO X e t) (i : ∀ σ H Q, t' σ H Q → t σ H Q) : PO X e t' := ⟨fun pins s σ H Q I q => h.run pins s σ H Q I (i σ H Q q)⟩
theorem p_none : PO X none (TO' X.K EP partN) := PO.by po_none fun σ H Q ⟨S, env, e, ok, re, p⟩ => by
  subst e
  exact ok.ret (a := (none : Option Int)) p
theorem p_some {e : Expr} {f : Lc → M D} (h : PE X e (TD X.K EP f)) : PO X (some e) (TO' X.K EP (partI f)) := PO.by (po_some h) fun σ H Q ⟨S, env, e, ok, re, p⟩ => by
  subst e
  refine ⟨S, env, rfl, ok, re, (Post.split p).imp fun d S1 x1 o1 q v rv => ?_⟩
  cases rv with
  | int i => exact ⟨i, rfl, o1.ret (a := some i) q⟩
  | non => exact False.elim q
  | bl _ => exact False.elim q
  | str _ => exact False.elim q
  | tup _ _ => exact False.elim q
  | lst _ _ => exact False.elim q
  | fro _ _ => exact False.elim q
  | emp _ => exact False.elim q
  | ref _ => exact False.elim q
  | oth => exact False.elim q
def eSl (fa : Lc → M D) (fl fh : Lc → M (Option Int)) : Lc → M D := fun env => M.andThen (fa env) fun x => M.andThen (fl env) fun l => M.andThen (fh env) fun h => gSl x l h
theorem d_slice {e : Expr} {lo hi : Option Expr} {fa : Lc → M D} {fl fh : Lc → M (Option Int)} {pos p2 : Pos} (ha : PE X e (TD X.K EP fa)) (hl : PO X lo (TO' X.K EP fl)) (hh : PO X hi (TO' X.K EP fh)) :
    PE X (.Subscript e (.Slice lo hi none p2) pos) (TD X.K EP (eSl fa fl fh)) := by
  refine PE.by (pe_slice (slR_or sl_list sl_tupA) ha hl hh) fun σ H Q ⟨S, env, e, ok, re, p⟩ => ?_
  subst e
  refine ⟨S, env, rfl, ok, re, (Post.split p).imp fun d S1 x1 o1 q v rv => ⟨S1, env, rfl, o1, re.ext x1, (Post.split q).imp fun l S2 x2 o2 q2 => ⟨S2, env, rfl, o2, (re.ext x1).ext x2, (Post.split q2).imp fun h S3 x3 o3 q3 => ?_⟩⟩⟩
  have rv := (rv.ext x2).ext x3
  unfold gSl at q3
  split at q3
  · cases rv with
    | lst h1 r1 => exact .inl ⟨_, _, rfl, SqL.of h1.1, new_lst o3 (r1.cut _ _) q3⟩
  · cases rv with
    | fro h1 r1 => exact .inl ⟨_, _, rfl, h1.seq, new_lst o3 (r1.cut _ _) q3⟩
  · cases rv with
    | @tup _ _ vs h1 r1 =>
      refine .inr ⟨_, _, rfl, h1.seq, fun hw => ?_, fun _ => new_tup o3 (r1.cut _ _) q3⟩
      refine o3.ret q3 _ (.tup h1 ?_)
      have hc := r1.cut l h
      have e : cutV vs l h = vs := by
        unfold cutV
        rw [hw.1, hw.2, List.drop_zero, Nat.sub_zero, List.take_length]
      rw [e] at hc
      exact hc
  · exact False.elim q3
end
end Mi
set_option Elab.async false
set_option linter.all false
set_option maxRecDepth 100000
set_option maxHeartbeats 4000000
namespace Mi
open PySem PySem.Spec PyProof.Rows L2
/-- the room that the rules ask for -/
structure Rm (X : Cx) : Prop where
  gu : X.A.guards = some []
  un : X.A.units + 64 < cLine
  cm : X.calm = true
section
variable {X : Cx} {EP : EPT} {K : PySem.W.Frag}
/-! ## tests -/
def tV (f : Lc → M D) : Lc → M Bool := fun env => M.andThen (f env) fun d => match d with
  | .bl b => M.ret b
  | _ => M.no
theorem runB {σ : St} {H : Hp} {f : Lc → M D} {Q : Bool → Hp → Prop} (h : TB K EP (tV f) σ H Q) : TD K EP f σ H fun x H1 => ∃ c, x = .bl c ∧ Q c H1 := by
  obtain ⟨S, env, rfl, ok, re, p⟩ := h
  refine ⟨S, env, rfl, ok, re, (Post.split p).imp fun d S1 x1 o1 q v rv => ?_⟩
  split at q
  · cases rv
    exact ⟨_, rfl, o1.ret q⟩
  · exact False.elim q
variable {a b c : Expr} {fa fb fc : Lc → M D} {ta tb tc : Lc → M Bool} {pos : Pos} {rest : List Expr}
theorem t_val {e : Expr} {f : Lc → M D} (h : PE X e (TD X.K EP f)) (he : ∀ whole, isTrue e X.env whole = (do let v ← whole; standAt e.pos; holding [v] (truthy v)) := by intro _; rfl) : PT X e (TB X.K EP (tV f)) :=
  PT.by (pt_val h he) fun _ _ _ q => runB q
theorem t_cmp {op : CmpOp} {r : R2} {g : D → D → M D} (hr : OpR X (compareOp op) r) (hg : Good2 X.K EP r g) (ha : PE X a (TD X.K EP fa)) (hb : PE X b (TD X.K EP fb))
    (hm : behindInMarks op b = false := by first | exact nobehind _ (by decide) (by decide) | rfl) : PT X (.Compare a [op] [b] pos) (TB X.K EP (tV (e2 g fa fb))) :=
  PT.by (pt_cmpR hr ha hb hm) fun _ _ _ q => run2 (Q := fun x H' => ∃ k, x = .bl k ∧ _) hg (runB q)
def tN (t : Lc → M Bool) : Lc → M Bool := fun env => M.andThen (t env) fun b => M.ret (!b)
theorem t_not (h : PT X a (TB X.K EP ta)) : PT X (.UnaryOp .Not a pos) (TB X.K EP (tN ta)) := by
  refine PT.by (pt_not h) fun σ H Q ⟨S, env, e, ok, re, p⟩ => ?_
  subst e
  exact ⟨S, env, rfl, ok, re, (Post.split p).imp fun d S1 x1 o1 q => o1.ret q⟩
def tA (s t : Lc → M Bool) : Lc → M Bool := fun env => M.andThen (s env) fun b => if b = true then t env else M.ret false
def tO (s t : Lc → M Bool) : Lc → M Bool := fun env => M.andThen (s env) fun b => if b = true then M.ret true else t env
theorem w_and1 (h : PT X a (TB X.K EP ta)) : PW X (.BoolOp .And [a] pos) (TB X.K EP ta) := pw_and1 h
theorem w_or1 (h : PT X a (TB X.K EP ta)) : PW X (.BoolOp .Or [a] pos) (TB X.K EP ta) := pw_or1 h
theorem w_and (h : PT X a (TB X.K EP ta)) (h2 : PW X (.BoolOp .And (b :: rest) pos) (TB X.K EP tb)) : PW X (.BoolOp .And (a :: b :: rest) pos) (TB X.K EP (tA ta tb)) := by
  refine PW.by (pw_and h h2) fun σ H Q ⟨S, env, e, ok, re, p⟩ => ?_
  subst e
  refine ⟨S, env, rfl, ok, re, (Post.split p).imp fun d S1 x1 o1 q => ?_⟩
  cases d with
  | true => exact ⟨S1, env, rfl, o1, re.ext x1, q⟩
  | false => exact o1.ret q
theorem w_or (h : PT X a (TB X.K EP ta)) (h2 : PW X (.BoolOp .Or (b :: rest) pos) (TB X.K EP tb)) : PW X (.BoolOp .Or (a :: b :: rest) pos) (TB X.K EP (tO ta tb)) := by
  refine PW.by (pw_or h h2) fun σ H Q ⟨S, env, e, ok, re, p⟩ => ?_
  subst e
  refine ⟨S, env, rfl, ok, re, (Post.split p).imp fun d S1 x1 o1 q => ?_⟩
  cases d with
  | false => exact ⟨S1, env, rfl, o1, re.ext x1, q⟩
  | true => exact o1.ret q
/-! and, or, not as values -/
def eA (s t : Lc → M D) : Lc → M D := fun env => M.andThen (s env) fun d => match d with
  | .bl b => if b = true then t env else M.ret (.bl false)
  | _ => M.no
def eO (s t : Lc → M D) : Lc → M D := fun env => M.andThen (s env) fun d => match d with
  | .bl b => if b = true then M.ret (.bl true) else t env
  | _ => M.no
def gNot : D → M D
  | .bl b => M.ret (.bl (!b))
  | _ => M.no
theorem d_one {op : BoolOp} (h : PE X a (TD X.K EP fa)) : PE X (.BoolOp op [a] pos) (TD X.K EP fa) := pe_one h
theorem d_and (h : PE X a (TD X.K EP fa)) (h2 : PE X (.BoolOp .And (b :: rest) pos) (TD X.K EP fb)) : PE X (.BoolOp .And (a :: b :: rest) pos) (TD X.K EP (eA fa fb)) := by
  refine PE.by (pe_and h h2) fun σ H Q ⟨S, env, e, ok, re, p⟩ => ?_
  subst e
  refine ⟨S, env, rfl, ok, re, (Post.split p).imp fun d S1 x1 o1 q v rv => ?_⟩
  split at q
  · cases rv
    rename_i bb
    refine ⟨bb, rfl, ?_⟩
    cases bb with
    | true => exact ⟨S1, env, rfl, o1, re.ext x1, q⟩
    | false => exact o1.ret q _ (.bl _)
  · exact False.elim q
theorem d_or (h : PE X a (TD X.K EP fa)) (h2 : PE X (.BoolOp .Or (b :: rest) pos) (TD X.K EP fb)) : PE X (.BoolOp .Or (a :: b :: rest) pos) (TD X.K EP (eO fa fb)) := by
  refine PE.by (pe_or h h2) fun σ H Q ⟨S, env, e, ok, re, p⟩ => ?_
  subst e
  refine ⟨S, env, rfl, ok, re, (Post.split p).imp fun d S1 x1 o1 q v rv => ?_⟩
  split at q
  · cases rv
    rename_i bb
    refine ⟨bb, rfl, ?_⟩
    cases bb with
    | false => exact ⟨S1, env, rfl, o1, re.ext x1, q⟩
    | true => exact o1.ret q _ (.bl _)
  · exact False.elim q
theorem d_not (h : PE X a (TD X.K EP fa)) : PE X (.UnaryOp .Not a pos) (TD X.K EP (e1 gNot fa)) := by
  refine PE.by (pe_not h) fun σ H Q hh => ?_
  refine run1 (r := fun x H1 Q => ∃ c, x = .bl c ∧ Q (.bl (!c)) H1) (fun S x v Q ok rx p => ?_) hh
  unfold gNot at p
  split at p
  · cases rx
    exact ⟨_, rfl, ok.ret p _ (.bl _)⟩
  · exact False.elim p
def eI (t : Lc → M Bool) (f g : Lc → M D) : Lc → M D := fun env => M.andThen (t env) fun b => if b = true then f env else g env
theorem d_if (h : PT X c (TB X.K EP tc)) (ha : PE X a (TD X.K EP fa)) (hb : PE X b (TD X.K EP fb)) : PE X (.IfExp c a b pos) (TD X.K EP (eI tc fa fb)) := by
  refine PE.by (pe_ifExp h ha hb) fun σ H Q ⟨S, env, e, ok, re, p⟩ => ?_
  subst e
  refine ⟨S, env, rfl, ok, re, (Post.split p).imp fun d S1 x1 o1 q => ?_⟩
  cases d with
  | true => exact ⟨S1, env, rfl, o1, re.ext x1, q⟩
  | false => exact ⟨S1, env, rfl, o1, re.ext x1, q⟩
/-! ## what is called by a built-in name -/
theorem d_bfn {x : Str} {p : Pos} {id : String} {r : List V → Hp → VK → Prop} {g : List D → M D} {es : List Expr} {fs : Lc → M (List D)} (hc : CallR X (.builtin id) r) (hg : GoodL X.K EP r g) (hgl : Gl X x) (hm : X.mg x = none) (hv : bootBuiltins x = some (.builtin id))
    (ha : PA X (a :: es) (TDs X.K EP fs)) (hn : x ≠ "__name__" := by decide) (hdb : (x == ("__debug__" : Str)) = false := by decide)
    (he : starEach (a :: es) X.env = (false, eval a X.env) :: starEach es X.env := by rfl) (hpl : (backTo pos (starEach es X.env)).any (·.1) = false := by rfl) : PE X (.Call (.Name x p) (a :: es) [] pos) (TD X.K EP (eL g fs)) :=
  PE.by (pe_callB hc hgl hm hv ha hn hdb he hpl) fun _ _ _ h => runL hg h
theorem d_bty {x : Str} {p : Pos} {T : String} {r : List V → Hp → VK → Prop} {g : List D → M D} {es : List Expr} {fs : Lc → M (List D)} (hc : CallR X (.type T) r) (hg : GoodL X.K EP r g) (hgl : Gl X x) (hm : X.mg x = none) (hv : bootBuiltins x = some (.type T))
    (ha : PA X (a :: es) (TDs X.K EP fs)) (hn : x ≠ "__name__" := by decide) (hdb : (x == ("__debug__" : Str)) = false := by decide)
    (he : starEach (a :: es) X.env = (false, eval a X.env) :: starEach es X.env := by rfl) (hpl : (backTo pos (starEach es X.env)).any (·.1) = false := by rfl) : PE X (.Call (.Name x p) (a :: es) [] pos) (TD X.K EP (eL g fs)) :=
  PE.by (pe_callTy hc hgl hm hv ha hn hdb he hpl) fun _ _ _ h => runL hg h
/-- a name that a module gave to a built-in function (gcd) -/
theorem d_mfn {x : Str} {p : Pos} {id : String} {r : List V → Hp → VK → Prop} {g : List D → M D} {es : List Expr} {fs : Lc → M (List D)} (hc : CallR X (.builtin id) r) (hg : GoodL X.K EP r g) (hgl : Gl X x) (hm : X.mg x = some (.builtin id))
    (ha : PA X (a :: es) (TDs X.K EP fs)) (hdb : (x == ("__debug__" : Str)) = false := by decide)
    (he : starEach (a :: es) X.env = (false, eval a X.env) :: starEach es X.env := by rfl) (hpl : (backTo pos (starEach es X.env)).any (·.1) = false := by rfl) : PE X (.Call (.Name x p) (a :: es) [] pos) (TD X.K EP (eL g fs)) :=
  PE.by (pe_callBfun hc hgl hm ha hdb he hpl) fun _ _ _ h => runL hg h
def gGcd : List D → M D
  | [.int i, .int j] => M.ret (.int ((Nat.gcd i.natAbs j.natAbs : Nat) : Int))
  | _ => M.no
theorem rvs1 {S : Sit} {d : D} {vs : List V} (r : RVs K S [d] vs) : ∃ v, vs = [v] ∧ RV K S d v := by
  cases r with
  | cons r t => cases t; exact ⟨_, rfl, r⟩
theorem rvs2 {S : Sit} {d e : D} {vs : List V} (r : RVs K S [d, e] vs) : ∃ v w, vs = [v, w] ∧ RV K S d v ∧ RV K S e w := by
  cases r with
  | cons r t =>
    obtain ⟨w, rfl, q⟩ := rvs1 t
    exact ⟨_, _, rfl, r, q⟩
theorem g_gcd : GoodL K EP rGcd gGcd := by
  intro S ds vs Q ok r p
  unfold gGcd at p
  split at p
  · obtain ⟨v, w, rfl, r1, r2⟩ := rvs2 r
    cases r1; cases r2
    exact ⟨_, _, rfl, ok.ret p _ (.int _)⟩
  · exact False.elim p
def gAbs : List D → M D
  | [.int i] => M.ret (.int (if i < 0 then -i else i))
  | _ => M.no
theorem g_abs : GoodL K EP (fun xs H Q => ∃ i, xs = [.int i] ∧ Q (.int (if i < 0 then -i else i)) H) gAbs := by
  intro S ds vs Q ok r p
  unfold gAbs at p
  split at p
  · obtain ⟨v, rfl, r1⟩ := rvs1 r
    cases r1
    exact ⟨_, rfl, ok.ret p _ (.int _)⟩
  · exact False.elim p
def gInt : List D → M D
  | [.int i] => M.ret (.int i)
  | _ => M.no
theorem g_intc : GoodL K EP (fun xs H Q => (∃ i, xs = [.int i] ∧ Q (.int i) H) ∨ ∃ k, xs = [.bl k] ∧ Q (.int (if k then 1 else 0)) H) gInt := by
  intro S ds vs Q ok r p
  unfold gInt at p
  split at p
  · obtain ⟨v, rfl, r1⟩ := rvs1 r
    cases r1
    exact .inl ⟨_, rfl, ok.ret p _ (.int _)⟩
  · exact False.elim p
def gMax2 : List D → M D
  | [.int i, .int j] => M.ret (.int (if j > i then j else i))
  | _ => M.no
theorem g_max2 : GoodL K EP (fun xs H Q => ∃ i j, xs = [.int i, .int j] ∧ Q (.int (if j > i then j else i)) H) gMax2 := by
  intro S ds vs Q ok r p
  unfold gMax2 at p
  split at p
  · obtain ⟨v, w, rfl, r1, r2⟩ := rvs2 r
    cases r1; cases r2
    exact ⟨_, _, rfl, ok.ret p _ (.int _)⟩
  · exact False.elim p
def gMin2 : List D → M D
  | [.int i, .int j] => M.ret (.int (if j < i then j else i))
  | _ => M.no
theorem g_min2 : GoodL K EP (fun xs H Q => ∃ i j, xs = [.int i, .int j] ∧ Q (.int (if j < i then j else i)) H) gMin2 := by
  intro S ds vs Q ok r p
  unfold gMin2 at p
  split at p
  · obtain ⟨v, w, rfl, r1, r2⟩ := rvs2 r
    cases r1; cases r2
    exact ⟨_, _, rfl, ok.ret p _ (.int _)⟩
  · exact False.elim p
def gLen : List D → M D
  | [.str x] => M.when (decide (x.length ≤ sizeLine)) (M.ret (.int x.length))
  | [.tup xs] => M.ret (.int xs.length)
  | [.lst xs] => M.ret (.int xs.length)
  | [.fro xs] => M.ret (.int xs.length)
  | [.ref n] => M.andThen (getO n) fun o => match o with
    | .lst xs => M.ret (.int xs.length)
    | .dct _ => M.no
  | _ => M.no
def rLenAll (K : PySem.W.Frag) : List V → Hp → VK → Prop := fun xs H Q => (∃ p ys, xs = [.ref p] ∧ (SqL K H p ys ∨ SqT K H p ys) ∧ Q (.int ys.length) H) ∨ ∃ z, xs = [.str z] ∧ z.length ≤ sizeLine ∧ Q (.int z.length) H
theorem c_len : CallR X (.builtin "len") (rLenAll X.K) := callR_or call_len_seq call_len_str
theorem g_len : GoodL K EP (rLenAll K) gLen := by
  intro S ds vs Q ok r p
  unfold gLen at p
  split at p
  · obtain ⟨v, rfl, r1⟩ := rvs1 r
    cases r1
    obtain ⟨c, p⟩ := Post.whened p
    exact .inr ⟨_, rfl, of_decide_eq_true c, ok.ret p _ (.int _)⟩
  · obtain ⟨v, rfl, r1⟩ := rvs1 r
    cases r1 with
    | tup h rr =>
      refine .inl ⟨_, _, rfl, .inr h.seq, ?_⟩
      rw [← rr.length]
      exact ok.ret p _ (.int _)
  · obtain ⟨v, rfl, r1⟩ := rvs1 r
    cases r1 with
    | lst h rr =>
      refine .inl ⟨_, _, rfl, .inl (SqL.of h.1), ?_⟩
      rw [← rr.length]
      exact ok.ret p _ (.int _)
  · obtain ⟨v, rfl, r1⟩ := rvs1 r
    cases r1 with
    | fro h rr =>
      refine .inl ⟨_, _, rfl, .inl h.seq, ?_⟩
      rw [← rr.length]
      exact ok.ret p _ (.int _)
  · obtain ⟨v, rfl, r1⟩ := rvs1 r
    cases r1 with
    | ref hi =>
      obtain ⟨o, u, e1, _, e2, ro, p⟩ := Post.got (Post.split p) ok
      cases ro with
      | dct _ => exact False.elim p
      | lst rr =>
        refine .inl ⟨_, _, rfl, .inl (SqL.of e2), ?_⟩
        rw [← rr.length]
        exact ok.ret p _ (.int _)
  · exact False.elim p
def gTuple : List D → M D
  | [.tup xs] => M.ret (.tup xs)
  | [.lst xs] => M.ret (.tup xs)
  | [.fro xs] => M.ret (.tup xs)
  | [.ref n] => M.andThen (getO n) fun o => match o with
    | .lst xs => M.ret (.tup xs)
    | .dct _ => M.no
  | _ => M.no
def rTupleOf (K : PySem.W.Frag) : List V → Hp → VK → Prop := fun xs H Q => ∃ p ys, xs = [.ref p] ∧ ((SqL K H p ys ∧ ∀ l, H l = none → Q (.ref l) (upd H l (.tup ys))) ∨ (SqT K H p ys ∧ Q (.ref p) H))
theorem g_tuple : GoodL K EP (rTupleOf K) gTuple := by
  intro S ds vs Q ok r p
  unfold gTuple at p
  split at p
  · obtain ⟨v, rfl, r1⟩ := rvs1 r
    cases r1 with
    | tup h rr => exact ⟨_, _, rfl, .inr ⟨h.seq, ok.ret p _ (.tup h rr)⟩⟩
  · obtain ⟨v, rfl, r1⟩ := rvs1 r
    cases r1 with
    | lst h rr => exact ⟨_, _, rfl, .inl ⟨SqL.of h.1, new_tup ok rr p⟩⟩
  · obtain ⟨v, rfl, r1⟩ := rvs1 r
    cases r1 with
    | fro h rr => exact ⟨_, _, rfl, .inl ⟨h.seq, new_tup ok rr p⟩⟩
  · obtain ⟨v, rfl, r1⟩ := rvs1 r
    cases r1 with
    | ref hi =>
      obtain ⟨o, u, e1, _, e2, ro, p⟩ := Post.got (Post.split p) ok
      cases ro with
      | dct _ => exact False.elim p
      | lst rr => exact ⟨_, _, rfl, .inl ⟨SqL.of e2, new_tup ok rr p⟩⟩
  · exact False.elim p
def gListOf : List D → M D
  | [.tup xs] => M.ret (.lst xs)
  | [.lst xs] => M.ret (.lst xs)
  | [.fro xs] => M.ret (.lst xs)
  | [.ref n] => M.andThen (getO n) fun o => match o with
    | .lst xs => M.ret (.lst xs)
    | .dct _ => M.no
  | _ => M.no
def rListOf (K : PySem.W.Frag) : List V → Hp → VK → Prop := fun xs H Q => ∃ p ys, xs = [.ref p] ∧ (SqL K H p ys ∨ SqT K H p ys) ∧ ∀ l, H l = none → Q (.ref l) (upd H l (.lst ys))
theorem g_listof : GoodL K EP (rListOf K) gListOf := by
  intro S ds vs Q ok r p
  unfold gListOf at p
  split at p
  · obtain ⟨v, rfl, r1⟩ := rvs1 r
    cases r1 with
    | tup h rr => exact ⟨_, _, rfl, .inr h.seq, new_lst ok rr p⟩
  · obtain ⟨v, rfl, r1⟩ := rvs1 r
    cases r1 with
    | lst h rr => exact ⟨_, _, rfl, .inl (SqL.of h.1), new_lst ok rr p⟩
  · obtain ⟨v, rfl, r1⟩ := rvs1 r
    cases r1 with
    | fro h rr => exact ⟨_, _, rfl, .inl h.seq, new_lst ok rr p⟩
  · obtain ⟨v, rfl, r1⟩ := rvs1 r
    cases r1 with
    | ref hi =>
      obtain ⟨o, u, e1, _, e2, ro, p⟩ := Post.got (Post.split p) ok
      cases ro with
      | dct _ => exact False.elim p
      | lst rr => exact ⟨_, _, rfl, .inl (SqL.of e2), new_lst ok rr p⟩
  · exact False.elim p
/-! isinstance against a built-in type -/
def D.ty : D → AH → Option String
  | .non, _ => some "NoneType"
  | .bl _, _ => some "bool"
  | .int _, _ => some "int"
  | .str _, _ => some "str"
  | .tup _, _ => some "tuple"
  | .lst _, _ => some "list"
  | .fro _, _ => some "list"
  | .emp, _ => some "dict"
  | .ref n, ah => match ah[n]? with
    | some (some (.lst _)) => some "list"
    | some (some (.dct _)) => some "dict"
    | _ => none
  | .oth _, _ => none
theorem RV.ty {S : Sit} {d : D} {v : V} {t : String} (ok : Ok K S) (r : RV K S d v) (h : d.ty S.ah = some t) : TyX K S.H v (.type t) := by
  cases r with
  | non => cases h; exact .base .non
  | bl b => cases h; exact .base (.bl b)
  | int b => cases h; exact .base (.int b)
  | str b => cases h; exact .base (.str b)
  | tup q _ =>
    cases h
    rcases q with ⟨u, ⟨h, _⟩, rfl | ⟨o, rfl⟩⟩ | ⟨o, _, _, h, hc, _⟩
    · exact .base (.tup h)
    · exact .fTuple h
    · exact .kTuple h hc
  | lst q _ => cases h; exact .base (.lst q.1)
  | fro q _ =>
    cases h
    rcases q with ⟨o, h, _⟩ | ⟨o, _, _, h, hc, _⟩
    · exact .base (.frz h)
    · exact .kList h hc
  | emp q => cases h; exact .base (.dK q.1)
  | @ref i hi =>
    simp only [D.ty] at h
    cases e : S.ah[i]? with
    | none => rw [e] at h; cases h
    | some y =>
      cases y with
      | none => rw [e] at h; cases h
      | some o =>
        rw [e] at h
        obtain ⟨u, e2, ro⟩ := ok.obj i o e
        cases ro with
        | lst _ => cases h; exact .base (.lst e2)
        | dct _ => cases h; exact .base (.dK e2)
  | oth => cases h
def gIsi : List D → M D
  | [x, .oth (.ty n)] => fun ah => match (x.ty ah).bind fun t => kitB t n with
    | some b => .ok (.bl b) ah
    | none => .no
  | _ => M.no
theorem g_isi : GoodL K EP (rIsi K) gIsi := by
  intro S ds vs Q ok r p
  unfold gIsi at p
  split at p
  · obtain ⟨v, w, rfl, r1, r2⟩ := rvs2 r
    cases r2
    split at p
    · rename_i b e
      obtain ⟨t, e1, e2⟩ := Option.bind_eq_some_iff.mp e
      exact ⟨_, _, _, _, b, rfl, .ty _, r1.ty ok e1, kit_ty e2, ok.ret p _ (.bl b)⟩
    · exact False.elim p
  · exact False.elim p
theorem d_tyname {x : Str} {n : String} {pos : Pos} (hg : Gl X x) (hm : X.mg x = none) (hv : bootBuiltins x = some (.type n)) (hn : x ≠ "__name__" := by decide) (hd : (x == ("__debug__" : Str)) = false := by decide) :
    PE X (.Name x pos) (TD X.K EP (eC (.oth (.ty n)))) := d_of (pe_bltn (v := .ty n) hg hm hv rfl hn hd) fun _ => .oth _
end
end Mi
set_option Elab.async false
set_option linter.all false
set_option maxRecDepth 100000
set_option maxHeartbeats 4000000
namespace Mi
open PySem PySem.Spec PyProof.Rows L2
section
variable {X : Cx} {EP : EPT} {K : PySem.W.Frag} {a b c : Expr} {fa fb fc : Lc → M D} {ta tb tc : Lc → M Bool} {pos : Pos}
/-! ## repr -/
mutual
def D.shw : D → Bool
  | .non => true
  | .bl _ => true
  | .int _ => true
  | .str _ => true
  | .tup xs => D.shws xs
  | .lst _ => false
  | .fro _ => false
  | .emp => true
  | .ref _ => false
  | .oth _ => false
def D.shws : List D → Bool
  | [] => true
  | x :: xs => D.shw x && D.shws xs
end
theorem emp_reads {P : Program} {w : World} {H : Hp} {h : Heap} {a : Addr} (x : ObjOk P w H h a (.dK [])) : Reads h (.ref a) (.dict []) [a] ∧ a ≠ sysModules := by
  obtain ⟨_, ne, vs, kv, o, es, ep, e, ⟨hc, _, _⟩, d, _, pr, _⟩ := x
  cases kv
  refine ⟨?_, fun z => by rw [z] at ne; exact absurd ne (by decide)⟩
  have he : es.toList = [] := by
    generalize es.toList = l at pr
    cases pr
    rfl
  have r := Reads.dict (h := h) (kvs := []) (as := []) (bs := []) e hc d (by rw [he]; exact .nil) (by rw [he]; exact .nil)
  exact r
theorem flat_noDict : ∀ d : D, d.flat = true → d.p.hasDict = false := fun d => by
  have key : (∀ d : D, d.flat = true → d.p.hasDict = false) ∧ (∀ ds : List D, D.flats ds = true → PyData.hasDictAll (D.ps ds) = false) := by
    refine ⟨fun d => ?_, fun ds => ?_⟩
    · exact D.rec (motive_1 := fun d => d.flat = true → d.p.hasDict = false) (motive_2 := fun ds => D.flats ds = true → PyData.hasDictAll (D.ps ds) = false)
        (fun _ => rfl) (fun _ _ => rfl) (fun _ _ => rfl) (fun _ _ => rfl) (fun _ ih h => ih h) (fun _ ih h => ih h) (fun _ ih h => ih h) (fun h => nomatch h) (fun _ h => nomatch h) (fun _ h => nomatch h) (fun _ => rfl)
        (fun x xs i1 i2 h => by
          have h' := Bool.and_eq_true_iff.mp h
          show (x.p.hasDict || PyData.hasDictAll (D.ps xs)) = false
          rw [i1 h'.1, i2 h'.2]
          rfl) d
    · exact D.rec_1 (motive_1 := fun d => d.flat = true → d.p.hasDict = false) (motive_2 := fun ds => D.flats ds = true → PyData.hasDictAll (D.ps ds) = false)
        (fun _ => rfl) (fun _ _ => rfl) (fun _ _ => rfl) (fun _ _ => rfl) (fun _ ih h => ih h) (fun _ ih h => ih h) (fun _ ih h => ih h) (fun h => nomatch h) (fun _ h => nomatch h) (fun _ h => nomatch h) (fun _ => rfl)
        (fun x xs i1 i2 h => by
          have h' := Bool.and_eq_true_iff.mp h
          show (x.p.hasDict || PyData.hasDictAll (D.ps xs)) = false
          rw [i1 h'.1, i2 h'.2]
          rfl) ds
  exact key.1 d
mutual
theorem RV.reads {pins : List (Addr × Obj)} {σ : St} {s : Shared} {S : Sit} (I : L2.Inv X pins σ S.H s) : ∀ {d : D} {v : V} {u : Value}, RV X.K S d v → d.shw = true → RelV v u → ∃ as, Reads s.heap u d.p as ∧ sysModules ∉ as
  | _, _, _, .non, _, r => by cases r; exact ⟨_, Reads.none, fun h => nomatch h⟩
  | _, _, _, .bl b, _, r => by cases r; exact ⟨_, Reads.bool b, fun h => nomatch h⟩
  | _, _, _, .int i, _, r => by obtain ⟨t, rfl⟩ := r; exact ⟨_, Reads.int i t, fun h => nomatch h⟩
  | _, _, _, .str x, _, r => by obtain ⟨t, rfl⟩ := r; exact ⟨_, Reads.str x t, fun h => nomatch h⟩
  | _, _, _, .tup h q, f, r => by
    cases r
    obtain ⟨its, rv, ⟨o, ho, hc, n, hd⟩, _⟩ := I.tuple h.seq
    obtain ⟨as, hr, hs⟩ := RVs.reads I q f rv
    exact ⟨_, Reads.tuple ho hc hd hr, hs⟩
  | _, _, _, .lst _ _, f, _ => nomatch f
  | _, _, _, .fro _ _, f, _ => nomatch f
  | _, _, _, .emp h, _, r => by
    cases r
    obtain ⟨r1, r2⟩ := emp_reads (I.hok _ _ h.1)
    exact ⟨_, r1, fun m => r2 (List.mem_singleton.mp m).symm⟩
  | _, _, _, .ref _, f, _ => nomatch f
  | _, _, _, .oth _, f, _ => nomatch f
theorem RVs.reads {pins : List (Addr × Obj)} {σ : St} {s : Shared} {S : Sit} (I : L2.Inv X pins σ S.H s) : ∀ {ds : List D} {vs : List V} {us : List Value}, RVs X.K S ds vs → D.shws ds = true → Vals vs us → ∃ as, ReadsAll s.heap us (D.ps ds) as ∧ sysModules ∉ as
  | _, _, _, .nil, _, r => by cases r; exact ⟨_, ReadsAll.nil, fun h => nomatch h⟩
  | _, _, _, .cons q t, f, r => by
    cases r with
    | cons r1 r2 =>
      have f' := Bool.and_eq_true_iff.mp f
      obtain ⟨as, h1, s1⟩ := RV.reads I q f'.1 r1
      obtain ⟨bs, h2, s2⟩ := RVs.reads I t f'.2 r2
      exact ⟨_, ReadsAll.cons h1 h2, fun m => (List.mem_append.mp m).elim s1 s2⟩
end
def okShow (d : D) : Bool := (d.flat || d.shw) && d.p.showable && decide (d.p.shown.length ≤ sizeLine) && decide (d.p.depth ≤ 60)
def gRepr : List D → M D
  | [x] => M.when (okShow x) (M.ret (.str x.p.shown))
  | _ => M.no
def rRepr (K : PySem.W.Frag) : List V → Hp → VK → Prop := fun xs H Q => ∃ S d v, xs = [v] ∧ S.H = H ∧ RV K S d v ∧ okShow d = true ∧ Q (.str d.p.shown) H
theorem repr_any (rm : Rm X) {pins : List (Addr × Obj)} {σ : St} {H : Hp} {s : Shared} {Q : VK} (I : L2.Inv X pins σ H s) {dp : PyData} {u : Value} {as : List Addr} (hr : Reads s.heap u dp as) (hsh : dp.showable = true)
    (hsm : dp.hasDict = true → sysModules ∉ as) (hd : dp.depth ≤ 60) (hl : dp.shown.length ≤ sizeLine) (q : Q (.str dp.shown) H) : wpAny (model X.prog X.w) X.A (call (.builtin "repr") [u]) (L2.EP X pins σ Q) X.xe s := by
  have un := rm.un
  have fin : ∀ t, L2.EP X pins σ Q (.str dp.shown t) { s with toks := s.toks + 1 } := fun t => ⟨.str dp.shown, H, I.tok _, ⟨t, rfl⟩, q⟩
  cases hr with
  | none => exact PySem.P.repr_of_none (fin _)
  | bool b => exact PySem.P.repr_of_bool (fin _)
  | int i t => exact PySem.P.repr_of_int (of_decide_eq_true hsh) (fin _)
  | str x t => exact PySem.P.repr_of_str (fin _) hl
  | list h1 h2 h3 h4 => exact repr_of_reads' (.list h1 h2 h3 h4) hsh hsm rm.gu (by omega) (fun _ _ e => e) (fun h' u tk hk => ⟨.str _, H, I.kept hk, ⟨u, rfl⟩, q⟩) hl
  | tuple h1 h2 h3 h4 => exact repr_of_reads' (.tuple h1 h2 h3 h4) hsh hsm rm.gu (by omega) (fun _ _ e => e) (fun h' u tk hk => ⟨.str _, H, I.kept hk, ⟨u, rfl⟩, q⟩) hl
  | dict h1 h2 h3 h4 h5 => exact repr_of_reads' (.dict h1 h2 h3 h4 h5) hsh hsm rm.gu (by omega) (fun _ _ e => e) (fun h' u tk hk => ⟨.str _, H, I.kept hk, ⟨u, rfl⟩, q⟩) hl
theorem c_repr (rm : Rm X) : CallR X (.builtin "repr") (rRepr X.K) := by
  intro pins s σ H xs us Q I r h
  obtain ⟨S, d, v, rfl, rfl, rv, hok, q⟩ := h
  obtain ⟨u, rfl, ru⟩ := vals1 r
  have h1 := Bool.and_eq_true_iff.mp hok
  have h2 := Bool.and_eq_true_iff.mp h1.1
  have h3 := Bool.and_eq_true_iff.mp h2.1
  have hd := of_decide_eq_true h1.2
  have hl := of_decide_eq_true h2.2
  have rd : ∃ as, Reads s.heap u d.p as ∧ (d.p.hasDict = true → sysModules ∉ as) := by
    rcases Bool.or_eq_true_iff.mp h3.1 with f | f
    · obtain ⟨as, hr⟩ := Dp.reads I _ _ _ (RV.dp rv f) ru
      exact ⟨as, hr, PyData.noDict_hsm (flat_noDict d f)⟩
    · obtain ⟨as, hr, z⟩ := RV.reads I rv f ru
      exact ⟨as, hr, fun _ => z⟩
  obtain ⟨as, hr, hsm⟩ := rd
  exact repr_any rm I hr h3.2 hsm hd hl q
theorem g_repr : GoodL K EP (rRepr K) gRepr := by
  intro S ds vs Q ok r p
  unfold gRepr at p
  split at p
  · obtain ⟨v, rfl, r1⟩ := rvs1 r
    obtain ⟨c, p⟩ := Post.whened p
    exact ⟨S, _, v, rfl, rfl, r1, c, ok.ret p _ (.str _)⟩
  · exact False.elim p
end
end Mi
set_option Elab.async false
set_option linter.all false
set_option maxRecDepth 100000
set_option maxHeartbeats 4000000
namespace Mi
open PySem PySem.Spec PyProof.Rows L2
section
variable {X : Cx} {EP : EPT} {K : PySem.W.Frag} {a b c : Expr} {fa fb fc : Lc → M D} {ta tb tc : Lc → M Bool} {pos : Pos}
/-! ## statements -/
def sNx : MS := fun env => M.ret (.nx, env)
def sPs (g h : MS) : MS := fun env => M.andThen (g env) fun x => match x.1 with
  | .nx => h x.2
  | _ => M.ret x
def sEx (f : Lc → M D) : MS := fun env => M.andThen (f env) fun _ => M.ret (.nx, env)
def sRt (f : Lc → M D) : MS := fun env => M.andThen (f env) fun d => M.ret (.rt d, env)
def sRtN : MS := fun env => M.ret (.rt .non, env)
def sBk : MS := fun env => M.ret (.bk, env)
def sCt : MS := fun env => M.ret (.ct, env)
def sIf (t : Lc → M Bool) (g h : MS) : MS := fun env => M.andThen (t env) fun b => if b = true then g env else h env
def sSet (i : Nat) (f : Lc → M D) : MS := fun env => M.andThen (f env) fun d => M.ret (.nx, env.set i (some d))
def sAsg (gt : D → Lc → M Lc) (f : Lc → M D) : MS := fun env => M.andThen (f env) fun d => M.andThen (gt d env) fun env' => M.ret (.nx, env')
def sAug (i : Nat) (g : D → D → M D) (f : Lc → M D) : MS := fun env => M.andThen (eV i env) fun x => M.andThen (f env) fun y => M.andThen (g x y) fun z => M.ret (.nx, env.set i (some z))
theorem s_nil : PSs X [] (TF X.K EP sNx) := PSs.by pss_nil fun σ H Dn ⟨S, env, e, ok, re, p⟩ => by
  subst e
  exact ok.ret (a := (Fl.nx, env)) p σ re
theorem s_pass : PS X (.Pass pos) (TF X.K EP sNx) := PS.by ps_pass fun σ H Dn ⟨S, env, e, ok, re, p⟩ => by
  subst e
  exact ok.ret (a := (Fl.nx, env)) p σ re
theorem s_break : PS X (.Break pos) (TF X.K EP sBk) := PS.by ps_break fun σ H Dn ⟨S, env, e, ok, re, p⟩ => by
  subst e
  exact ok.ret (a := (Fl.bk, env)) p σ re
theorem s_continue : PS X (.Continue pos) (TF X.K EP sCt) := PS.by ps_continue fun σ H Dn ⟨S, env, e, ok, re, p⟩ => by
  subst e
  exact ok.ret (a := (Fl.ct, env)) p σ re
theorem s_cons {st : Stmt} {rest : List Stmt} {g h : MS} (h1 : PS X st (TF X.K EP g)) (h2 : PSs X rest (TF X.K EP h)) : PSs X (st :: rest) (TF X.K EP (sPs g h)) := by
  refine PSs.by (pss_cons h1 h2) fun σ H Dn ⟨S, env, e, ok, re, p⟩ => ?_
  subst e
  refine ⟨S, env, rfl, ok, re, (Post.split p).imp fun x S1 x1 o1 q => ?_⟩
  obtain ⟨fl, env1⟩ := x
  cases fl with
  | nx => exact fun σ1 re1 => ⟨S1, env1, rfl, o1, re1, q⟩
  | bk => exact o1.ret (EP := EP) (G := GF X.K Dn) (a := (Fl.bk, env1)) q
  | ct => exact o1.ret (EP := EP) (G := GF X.K Dn) (a := (Fl.ct, env1)) q
  | rt d => exact o1.ret (EP := EP) (G := GF X.K Dn) (a := (Fl.rt d, env1)) q
theorem s_one {st : Stmt} {g : MS} (h1 : PS X st (TF X.K EP g)) : PSs X [st] (TF X.K EP g) := pss_one h1
theorem s_expr {e : Expr} {f : Lc → M D} (he : PE X e (TD X.K EP f)) (hs : swapsWith e none pos.line X.env = pure false := by rfl) : PS X (.Expr e pos) (TF X.K EP (sEx f)) := by
  refine PS.by (ps_expr he hs) fun σ H Dn ⟨S, env, e, ok, re, p⟩ => ?_
  subst e
  exact ⟨S, env, rfl, ok, re, (Post.split p).imp fun d S1 x1 o1 q v rv => o1.ret (a := (Fl.nx, env)) q σ (re.ext x1)⟩
theorem s_ret {e : Expr} {f : Lc → M D} (he : PE X e (TD X.K EP f)) : PS X (.Return (some e) pos) (TF X.K EP (sRt f)) := by
  refine PS.by (ps_ret he) fun σ H Dn ⟨S, env, e, ok, re, p⟩ => ?_
  subst e
  exact ⟨S, env, rfl, ok, re, (Post.split p).imp fun d S1 x1 o1 q v rv => o1.ret (a := (Fl.rt d, env)) q v rv⟩
theorem s_retN : PS X (.Return none pos) (TF X.K EP sRtN) := PS.by ps_retN fun σ H Dn ⟨S, env, e, ok, re, p⟩ => by
  subst e
  exact ok.ret (a := (Fl.rt .non, env)) p _ .non
theorem s_if {g h : MS} {ss us : List Stmt} (ht : PT X c (TB X.K EP tc)) (h1 : PSs X ss (TF X.K EP g)) (h2 : PSs X us (TF X.K EP h)) : PS X (.If c ss us pos) (TF X.K EP (sIf tc g h)) := by
  refine PS.by (ps_if ht h1 h2) fun σ H Dn ⟨S, env, e, ok, re, p⟩ => ?_
  subst e
  refine ⟨S, env, rfl, ok, re, (Post.split p).imp fun d S1 x1 o1 q => ?_⟩
  cases d with
  | true => exact ⟨S1, env, rfl, o1, re.ext x1, q⟩
  | false => exact ⟨S1, env, rfl, o1, re.ext x1, q⟩
/-! targets -/
def gN (i : Nat) : D → Lc → M Lc := fun d env => M.ret (env.set i (some d))
def gsN : List D → Lc → M Lc := fun ds env => match ds with
  | [] => M.ret env
  | _ :: _ => M.no
def gsC (g : D → Lc → M Lc) (r : List D → Lc → M Lc) : List D → Lc → M Lc := fun ds env => match ds with
  | [] => M.no
  | d :: ds => M.andThen (g d env) fun env' => r ds env'
def gT (n : Nat) (r : List D → Lc → M Lc) : D → Lc → M Lc := fun d env => match d with
  | .tup ds => M.when (decide (ds.length = n)) (r ds env)
  | _ => M.no
def gLs (n : Nat) (r : List D → Lc → M Lc) : D → Lc → M Lc := fun d env => match d with
  | .lst ds => M.when (decide (ds.length = n)) (r ds env)
  | _ => M.no
theorem g_name (i : Nat) {x : Str} (hN : X.N.Nodup) (hi : X.N[i]? = some x := by rfl) (hx : L2.Loc X.env.scope x := by first | exact Or.inl rfl | exact Or.inr rfl) (hf : X.fn x = true ∨ X.env.scope.names.lookup x = some .local := by first | exact .inl rfl | exact .inr rfl) :
    PG X (.Name x pos) (TGo X.K EP (gN i)) := by
  refine PG.by (pg_name (i := i) hN hi hx hf) fun v σ H Q ⟨S, env, d, e, ok, re, rv, p⟩ => ?_
  subst e
  exact ok.ret p _ (re.set i rv)
theorem gs_nil : PGs X [] (TGs' X.K EP gsN) := by
  refine PGs.by pgs_nil fun v σ H Q ⟨S, env, ds, e, ok, re, rv, p⟩ => ?_
  subst e
  cases rv with
  | nil => exact ⟨rfl, ok.ret (a := env) p σ re⟩
  | cons _ _ => exact False.elim p
theorem gs_cons {e : Expr} {es : List Expr} {g : D → Lc → M Lc} {r : List D → Lc → M Lc} (h1 : PG X e (TGo X.K EP g)) (h2 : PGs X es (TGs' X.K EP r))
    (hs : (assignEach (e :: es) X.env).map (·.2) = assign e X.env :: (assignEach es X.env).map (·.2) := by rfl) : PGs X (e :: es) (TGs' X.K EP (gsC g r)) := by
  refine PGs.by (pgs_cons h1 h2 hs) fun v σ H Q ⟨S, env, ds, e, ok, re, rv, p⟩ => ?_
  subst e
  cases rv with
  | nil => exact False.elim p
  | cons r1 r2 => exact ⟨_, _, rfl, S, env, _, rfl, ok, re, r1, (Post.split p).imp fun env' S1 x1 o1 q σ' re' => ⟨S1, env', _, rfl, o1, re', r2.ext x1, q⟩⟩
theorem g_tupT {es : List Expr} {k n : Nat} {r : List D → Lc → M Lc} (rm : Rm X) (h : PGs X es (TGs' X.K EP r)) (hn : (assignEach es X.env).length = n := by rfl) (hst : (assignEach es X.env).findIdx? (·.1) = none := by rfl) :
    PG X (.Tuple es k pos) (TGo X.K EP (gT n r)) := by
  refine PG.by (pg_tup rm.cm h hn hst) fun v σ H Q ⟨S, env, d, e, ok, re, rv, p⟩ => ?_
  subst e
  unfold gT at p
  split at p
  · cases rv with
    | tup h1 r1 =>
      obtain ⟨c, p⟩ := Post.whened p
      exact ⟨_, _, rfl, h1.seq, by rw [← r1.length]; exact of_decide_eq_true c, S, env, _, rfl, ok, re, r1, p⟩
  · exact False.elim p
theorem g_lstT {es : List Expr} {k n : Nat} {r : List D → Lc → M Lc} (rm : Rm X) (h : PGs X es (TGs' X.K EP r)) (hn : (assignEach es X.env).length = n := by rfl) (hst : (assignEach es X.env).findIdx? (·.1) = none := by rfl) :
    PG X (.Tuple es k pos) (TGo X.K EP (gLs n r)) := by
  refine PG.by (pg_lst rm.cm h hn hst) fun v σ H Q ⟨S, env, d, e, ok, re, rv, p⟩ => ?_
  subst e
  unfold gLs at p
  split at p
  · cases rv with
    | lst h1 r1 =>
      obtain ⟨c, p⟩ := Post.whened p
      exact ⟨_, _, rfl, SqL.of h1.1, by rw [← r1.length]; exact of_decide_eq_true c, S, env, _, rfl, ok, re, r1, p⟩
  · exact False.elim p
theorem s_set (i : Nat) {x : Str} {e : Expr} {f : Lc → M D} {pos' : Pos} (hN : X.N.Nodup) (he : PE X e (TD X.K EP f)) (hi : X.N[i]? = some x := by rfl) (hx : L2.Loc X.env.scope x := by first | exact Or.inl rfl | exact Or.inr rfl)
    (hs : swapsWith e (some (.Name x pos')) pos.line X.env = pure false := by rfl) (hf : X.fn x = true ∨ X.env.scope.names.lookup x = some .local := by first | exact .inl rfl | exact .inr rfl) : PS X (.Assign [.Name x pos'] e pos) (TF X.K EP (sSet i f)) := by
  refine PS.by (ps_set (i := i) hN hi hx he hs hf) fun σ H Dn ⟨S, env, e, ok, re, p⟩ => ?_
  subst e
  exact ⟨S, env, rfl, ok, re, (Post.split p).imp fun d S1 x1 o1 q v rv => o1.ret (a := (Fl.nx, env.set i (some d))) q _ ((re.ext x1).set i rv)⟩
theorem s_asg {tg e : Expr} {f : Lc → M D} {gt : D → Lc → M Lc} (he : PE X e (TD X.K EP f)) (hg : PG X tg (TGo X.K EP gt)) (hs : swapsWithSole [tg] e pos.line X.env = pure false := by rfl) (hw : swappedStores [tg] e X.env = pure none := by rfl)
    (h1 : (assignEach [tg] X.env).map (·.2) = [assign tg X.env] := by rfl) : PS X (.Assign [tg] e pos) (TF X.K EP (sAsg gt f)) := by
  refine PS.by (ps_asg he hg hs hw h1) fun σ H Dn ⟨S, env, e, ok, re, p⟩ => ?_
  subst e
  exact ⟨S, env, rfl, ok, re, (Post.split p).imp fun d S1 x1 o1 q v rv => ⟨S1, env, d, rfl, o1, re.ext x1, rv, (Post.split q).imp fun env' S2 x2 o2 q2 σ' re' => o2.ret (a := (Fl.nx, env')) q2 σ' re'⟩⟩
def sPar2 (i j : Nat) (fs : Lc → M (List D)) : MS := fun env => M.andThen (fs env) fun ds => match ds with
  | [u, v] => M.ret (.nx, (env.set i (some u)).set j (some v))
  | _ => M.no
def sPar3 (i j l : Nat) (fs : Lc → M (List D)) : MS := fun env => M.andThen (fs env) fun ds => match ds with
  | [u, v, w] => M.ret (.nx, ((env.set i (some u)).set j (some v)).set l (some w))
  | _ => M.no
theorem rvs3 {S : Sit} {d e f : D} {vs : List V} (r : RVs K S [d, e, f] vs) : ∃ v w u, vs = [v, w, u] ∧ RV K S d v ∧ RV K S e w ∧ RV K S f u := by
  cases r with
  | cons r t =>
    obtain ⟨w, u, rfl, q, q2⟩ := rvs2 t
    exact ⟨_, _, _, rfl, r, q, q2⟩
theorem s_par2 (i j : Nat) {x y : Str} {fs : Lc → M (List D)} {px py pt : Pos} {kt k2 pt2} (rm : Rm X) (hN : X.N.Nodup) (ha : PA X [a, b] (TDs X.K EP fs)) (hi : X.N[i]? = some x := by rfl) (hj : X.N[j]? = some y := by rfl) (hij : i ≠ j := by decide)
    (hx : X.env.scope.names.lookup x = some .local := by rfl) (hy : X.env.scope.names.lookup y = some .local := by rfl)
    (hw : swappedStores [.Tuple [.Name x px, .Name y py] kt pt] (.Tuple [a, b] k2 pt2) X.env = pure (some [x, y]) := by rfl)
    (hs : swapsWithSole [.Tuple [.Name x px, .Name y py] kt pt] (.Tuple [a, b] k2 pt2) pos.line X.env = pure false := by rfl) :
    PS X (.Assign [.Tuple [.Name x px, .Name y py] kt pt] (.Tuple [a, b] k2 pt2) pos) (TF X.K EP (sPar2 i j fs)) := by
  refine PS.by (ps_par (i := i) (j := j) rm.cm hN hi hj hij hx hy ha hw hs) fun σ H Dn ⟨S, env, e, ok, re, p⟩ => ?_
  subst e
  refine ⟨S, env, rfl, ok, re, (Post.split p).imp fun ds S1 x1 o1 q vs rvs => ?_⟩
  split at q
  · obtain ⟨v, w, rfl, r1, r2⟩ := rvs2 rvs
    exact ⟨v, w, rfl, o1.ret q _ (((re.ext x1).set i r1).set j r2)⟩
  · exact False.elim q
theorem s_par3 (i j l : Nat) {x y z : Str} {fs : Lc → M (List D)} {px py pz pt : Pos} {kt k2 pt2} (rm : Rm X) (hN : X.N.Nodup) (ha : PA X [a, b, c] (TDs X.K EP fs)) (hi : X.N[i]? = some x := by rfl) (hj : X.N[j]? = some y := by rfl) (hl : X.N[l]? = some z := by rfl)
    (hij : i ≠ j := by decide) (hil : i ≠ l := by decide) (hjl : j ≠ l := by decide)
    (hx : X.env.scope.names.lookup x = some .local := by rfl) (hy : X.env.scope.names.lookup y = some .local := by rfl) (hz : X.env.scope.names.lookup z = some .local := by rfl)
    (hw : swappedStores [.Tuple [.Name x px, .Name y py, .Name z pz] kt pt] (.Tuple [a, b, c] k2 pt2) X.env = pure (some [x, y, z]) := by rfl)
    (hs : swapsWithSole [.Tuple [.Name x px, .Name y py, .Name z pz] kt pt] (.Tuple [a, b, c] k2 pt2) pos.line X.env = pure false := by rfl) :
    PS X (.Assign [.Tuple [.Name x px, .Name y py, .Name z pz] kt pt] (.Tuple [a, b, c] k2 pt2) pos) (TF X.K EP (sPar3 i j l fs)) := by
  refine PS.by (ps_par3 (i := i) (j := j) (l := l) rm.cm hN hi hj hl hij hil hjl hx hy hz ha hw hs) fun σ H Dn ⟨S, env, e, ok, re, p⟩ => ?_
  subst e
  refine ⟨S, env, rfl, ok, re, (Post.split p).imp fun ds S1 x1 o1 q vs rvs => ?_⟩
  split at q
  · obtain ⟨v, w, u, rfl, r1, r2, r3⟩ := rvs3 rvs
    exact ⟨v, w, u, rfl, o1.ret q _ ((((re.ext x1).set i r1).set j r2).set l r3)⟩
  · exact False.elim q
/-- op= at a local name -/
def GoodI (K : PySem.W.Frag) (EP : EPT) (r : TIp) (g : D → D → M D) : Prop := ∀ S x y v w Q, Ok K S → RV K S x v → RV K S y w → Post K EP S (GV K Q) (g x y S.ah) → r v w S.H Q
theorem s_aug (i : Nat) {x : Str} {e : Expr} {f : Lc → M D} {op : Operator} {ti : TIp} {g : D → D → M D} {pos' : Pos} (hN : X.N.Nodup) (ho : PIp X op ti) (hg : GoodI X.K EP ti g) (he : PE X e (TD X.K EP f)) (hi : X.N[i]? = some x := by rfl) (hx : L2.Loc X.env.scope x := by first | exact Or.inl rfl | exact Or.inr rfl)
    (hf : X.fn x = true ∨ X.env.scope.names.lookup x = some .local := by first | exact .inl rfl | exact .inr rfl) : PS X (.AugAssign (.Name x pos') op e pos) (TF X.K EP (sAug i g f)) := by
  refine PS.by (ps_aug (i := i) hN hi hx he ho hf) fun σ H Dn ⟨S, env, e, ok, re, p⟩ => ?_
  subst e
  obtain ⟨d, hd', p2⟩ := Post.lifted (Post.split p) ok
  have hh : env[i]? = some (some d) := by
    cases q : env[i]? with
    | none => rw [q] at hd'; cases hd'
    | some y => rw [q] at hd'; cases y with
      | none => cases hd'
      | some z => cases hd'; rfl
  obtain ⟨v, hs, rv⟩ := re.2 i d hh
  refine ⟨v, hs, S, env, rfl, ok, re, (Post.split p2).imp fun y S1 x1 o1 q w rw => ?_⟩
  exact hg S1 d y v w _ o1 (rv.ext x1) rw ((Post.split q).imp fun z S2 x2 o2 q2 u ru => o2.ret (a := (Fl.nx, env.set i (some z))) q2 _ (((re.ext x1).ext x2).set i ru))
def gIp (f : Int → Int → Int) : D → D → M D
  | .int i, .int j => M.ret (.int (f i j))
  | _, _ => M.no
theorem g_ip {f : Int → Int → Int} : GoodI K EP (ipI f) (gIp f) := by
  intro S x y v w Q ok rx ry p
  unfold gIp at p
  split at p
  · cases rx; cases ry
    exact ⟨_, _, rfl, rfl, ok.ret p _ (.int _)⟩
  · exact False.elim p
/-! ## while -/
def wh (c : Lc → M Bool) (b : MS) : Nat → MS
  | 0 => fun _ => M.no
  | n + 1 => fun env => M.andThen (c env) fun t => if t = true then M.andThen (b env) fun x => match x.1 with
      | .nx => wh c b n x.2
      | .ct => wh c b n x.2
      | .bk => M.ret (.nx, x.2)
      | .rt d => M.ret (.rt d, x.2)
    else M.ret (.nx, env)
theorem s_while (n : Nat) {body : List Stmt} {g : MS} (hp : PassesOwn (model X.prog X.w) X.A X.env X.xe) (ht : PT X c (TB X.K EP tc)) (hb : PSs X body (TF X.K EP g)) : PS X (.While c body [] pos) (TF X.K EP (wh tc g n)) := by
  refine PS.by (ps_while hp ht hb) fun σ H Dn ⟨S, env, e, ok, re, p⟩ => ?_
  subst e
  refine ⟨fun m σ H => ∃ S env, S.H = H ∧ Ok X.K S ∧ RE X.K S env σ ∧ Post X.K EP S (GF X.K Dn) (wh tc g m env S.ah), ⟨n, S, env, rfl, ok, re, p⟩, fun m σ H ⟨S, env, e, ok, re, p⟩ => ?_⟩
  subst e
  cases m with
  | zero => exact False.elim p
  | succ m =>
    refine ⟨S, env, rfl, ok, re, (Post.split p).imp fun t S1 x1 o1 q => ?_⟩
    cases t with
    | false => exact o1.ret (a := (Fl.nx, env)) q σ (re.ext x1)
    | true =>
      refine ⟨fun σ' H' => ∃ S env, S.H = H' ∧ Ok X.K S ∧ RE X.K S env σ' ∧ Post X.K EP S (GF X.K Dn) (wh tc g m env S.ah), fun σ' H' hN => ⟨m, Nat.lt_succ_self _, hN⟩, S1, env, rfl, o1, re.ext x1, (Post.split q).imp fun x S2 x2 o2 q2 => ?_⟩
      obtain ⟨fl, env2⟩ := x
      cases fl with
      | nx => exact fun σ2 re2 => ⟨S2, env2, rfl, o2, re2, q2⟩
      | ct => exact fun σ2 re2 => ⟨S2, env2, rfl, o2, re2, q2⟩
      | bk => exact o2.ret (EP := EP) (G := GF X.K Dn) (a := (Fl.nx, env2)) q2
      | rt d => exact o2.ret (EP := EP) (G := GF X.K Dn) (a := (Fl.rt d, env2)) q2
/-! ## for -/
def fo (gt : D → Lc → M Lc) (b : MS) : List D → MS
  | [] => sNx
  | d :: ds => fun env => M.andThen (gt d env) fun env1 => M.andThen (b env1) fun x => match x.1 with
    | .nx => fo gt b ds x.2
    | .ct => fo gt b ds x.2
    | .bk => M.ret (.nx, x.2)
    | .rt d => M.ret (.rt d, x.2)
def sFo (it : Lc → M (List D)) (gt : D → Lc → M Lc) (b : MS) : MS := fun env => M.andThen (it env) fun ds => fo gt b ds env
/-- a walk gives these things, whatever happens meanwhile -/
structure Serves (K : PySem.W.Frag) (J : It) (S : Sit) (ds : List D) : Prop where
  go : ∀ S' i, Ext S S' → i < ds.length → J.go i S'.H
  stop : ∀ S', Ext S S' → J.stop ds.length S'.H
  yld : ∀ S' i x H', Ext S S' → Ok K S' → J.yld i S'.H x H' → ∀ d, ds[i]? = some d → H' = S'.H ∧ RV K S d x
/-- what is walked: its things -/
def TI' (K : PySem.W.Frag) (EP : EPT) (f : Lc → M (List D)) : TI := fun σ H R => ∃ S env, S.H = H ∧ Ok K S ∧ RE K S env σ ∧ Post K EP S (fun ds S' => ∀ J, Serves K J S' ds → R J S'.H) (f env S.ah)
theorem PI.by {tg iter : Expr} {t t' : TI} (h : PI X tg iter t) (i : ∀ σ H R, t' σ H R → t σ H R) : PI X tg iter t' := by
  obtain ⟨r⟩ := h
  exact ⟨fun pins s σ H R I q => r pins s σ H R I (i σ H R q)⟩
theorem drop_get {α : Type} {ds : List α} {i : Nat} (h : i < ds.length) : ∃ d, ds[i]? = some d ∧ ds.drop i = d :: ds.drop (i + 1) :=
  ⟨ds[i], List.getElem?_eq_getElem h, List.drop_eq_getElem_cons h⟩
theorem s_for {tg iter : Expr} {body : List Stmt} {it : Lc → M (List D)} {gt : D → Lc → M Lc} {g : MS} (rm : Rm X) (hp : PassesOwn (model X.prog X.w) X.A X.env X.xe) (hi : PI X tg iter (TI' X.K EP it)) (hg : PG X tg (TGo X.K EP gt)) (hb : PSs X body (TF X.K EP g))
    (hf : ∀ x, foldedSetIterable iter X.env x = pure x := by intro _; rfl) : PS X (.For tg iter body [] pos) (TF X.K EP (sFo it gt g)) := by
  refine PS.by (ps_for hp rm.cm hi hg hb hf) fun σ H Dn ⟨S, env, e, ok, re, p⟩ => ?_
  subst e
  refine ⟨S, env, rfl, ok, re, (Post.split p).imp fun ds S1 x1 o1 q J sv => ?_⟩
  refine ⟨fun i m σ H => ∃ S2 env, S2.H = H ∧ Ext S1 S2 ∧ Ok X.K S2 ∧ RE X.K S2 env σ ∧ i + m = ds.length ∧ Post X.K EP S2 (GF X.K Dn) (fo gt g (ds.drop i) env S2.ah),
    ⟨ds.length, S1, env, rfl, Ext.refl _, o1, re.ext x1, by omega, by rw [List.drop_zero]; exact q⟩, fun i m σ H ⟨S2, env, e, x2, o2, re, hm, p⟩ => ?_⟩
  subst e
  by_cases hl : i < ds.length
  · obtain ⟨d, e1, e2⟩ := drop_get hl
    rw [e2] at p
    refine .inr ⟨sv.go S2 i x2 hl, fun σ' H' => ∃ S3 env, S3.H = H' ∧ Ext S1 S3 ∧ Ok X.K S3 ∧ RE X.K S3 env σ' ∧ Post X.K EP S3 (GF X.K Dn) (fo gt g (ds.drop (i + 1)) env S3.ah),
      fun σ' H' ⟨S3, env, a, b, c, d, f⟩ => ⟨m - 1, by omega, S3, env, a, b, c, d, by omega, f⟩, fun x H' hy => ?_⟩
    obtain ⟨rfl, rv⟩ := sv.yld S2 i x H' x2 o2 hy d e1
    refine ⟨S2, env, d, rfl, o2, re, rv.ext x2, (Post.split p).imp fun env1 S3 x3 o3 q3 σ3 re3 => ⟨S3, env1, rfl, o3, re3, (Post.split q3).imp fun y S4 x4 o4 q4 => ?_⟩⟩
    obtain ⟨fl, env4⟩ := y
    cases fl with
    | nx => exact fun σ4 re4 => ⟨S4, env4, rfl, (x2.trans x3).trans x4, o4, re4, q4⟩
    | ct => exact fun σ4 re4 => ⟨S4, env4, rfl, (x2.trans x3).trans x4, o4, re4, q4⟩
    | bk => exact o4.ret (EP := EP) (G := GF X.K Dn) (a := (Fl.nx, env4)) q4
    | rt d => exact o4.ret (EP := EP) (G := GF X.K Dn) (a := (Fl.rt d, env4)) q4
  · have e : i = ds.length := by omega
    subst e
    rw [List.drop_length] at p
    exact .inl ⟨sv.stop S2 x2, o2.ret (a := (Fl.nx, env)) p σ re⟩
/-! what is walked -/
def itD : D → M (List D)
  | .lst xs => M.ret xs
  | .fro xs => M.ret xs
  | _ => M.no
def itT : D → M (List D)
  | .tup xs => M.ret xs
  | _ => M.no
def iOf (h : D → M (List D)) (f : Lc → M D) : Lc → M (List D) := fun env => M.andThen (f env) h
theorem i_list {tg l : Expr} {f : Lc → M D} (hl : PE X l (TD X.K EP f)) : PI X tg l (TI' X.K EP (iOf itD f)) := by
  refine PI.by (pi_list hl) fun σ H R ⟨S, env, e, ok, re, p⟩ => ?_
  subst e
  refine ⟨S, env, rfl, ok, re, (Post.split p).imp fun d S1 x1 o1 q v rv => ?_⟩
  unfold itD at q
  split at q
  · cases rv with
    | lst h r =>
      refine ⟨_, rfl, ⟨_, SqL.of h.1⟩, o1.ret q _ ⟨fun S' i x hi => ?_, fun S' x => ?_, fun S' i y H' x o hy d hd => ?_⟩⟩
      · obtain ⟨w, e, _⟩ := r.get (List.getElem?_eq_getElem hi)
        exact ⟨_, w, SqL.of (x.pers _ _ h), e⟩
      · exact ⟨_, SqL.of (x.pers _ _ h), by rw [r.length]; exact Nat.le_refl _⟩
      · obtain ⟨e1, e2⟩ := hy
        obtain ⟨w, e, rw⟩ := r.get hd
        have e3 := e2 _ (SqL.of (x.pers _ _ h))
        rw [e] at e3
        cases e3
        exact ⟨e1, rw⟩
  · cases rv with
    | fro h r =>
      refine ⟨_, rfl, ⟨_, h.seq⟩, o1.ret q _ ⟨fun S' i x hi => ?_, fun S' x => ?_, fun S' i y H' x o hy d hd => ?_⟩⟩
      · obtain ⟨w, e, _⟩ := r.get (List.getElem?_eq_getElem hi)
        exact ⟨_, w, (h.ext x).seq, e⟩
      · exact ⟨_, (h.ext x).seq, by rw [r.length]; exact Nat.le_refl _⟩
      · obtain ⟨e1, e2⟩ := hy
        obtain ⟨w, e, rw⟩ := r.get hd
        have e3 := e2 _ (h.ext x).seq
        rw [e] at e3
        cases e3
        exact ⟨e1, rw⟩
  · exact False.elim q
theorem i_tup {tg l : Expr} {f : Lc → M D} (hl : PE X l (TD X.K EP f)) : PI X tg l (TI' X.K EP (iOf itT f)) := by
  refine PI.by (pi_tup hl) fun σ H R ⟨S, env, e, ok, re, p⟩ => ?_
  subst e
  refine ⟨S, env, rfl, ok, re, (Post.split p).imp fun d S1 x1 o1 q v rv => ?_⟩
  unfold itT at q
  split at q
  · cases rv with
    | tup h r =>
      refine ⟨_, rfl, ⟨_, h.seq⟩, o1.ret q _ ⟨fun S' i x hi => ?_, fun S' x => ?_, fun S' i y H' x o hy d hd => ?_⟩⟩
      · obtain ⟨w, e, _⟩ := r.get (List.getElem?_eq_getElem hi)
        exact ⟨_, w, (h.ext x).seq, e⟩
      · exact ⟨_, (h.ext x).seq, by rw [r.length]; exact Nat.le_refl _⟩
      · obtain ⟨e1, e2⟩ := hy
        obtain ⟨w, e, rw⟩ := r.get hd
        have e3 := e2 _ (h.ext x).seq
        rw [e] at e3
        cases e3
        exact ⟨e1, rw⟩
  · exact False.elim q
/-- lo, lo + 1, .. so many -/
def rng (lo : Int) : Nat → List D
  | 0 => []
  | n + 1 => .int lo :: rng (lo + 1) n
theorem rng_length : ∀ (n : Nat) (lo : Int), (rng lo n).length = n
  | 0, _ => rfl
  | n + 1, lo => congrArg (· + 1) (rng_length n (lo + 1))
theorem rng_get : ∀ (n i : Nat) (lo : Int), i < n → (rng lo n)[i]? = some (.int (lo + i))
  | n + 1, 0, lo, _ => by
    show some (D.int lo) = some (.int (lo + (0 : Nat)))
    rw [show lo + ((0 : Nat) : Int) = lo by omega]
  | n + 1, i + 1, lo, h => by
    show (rng (lo + 1) n)[i]? = _
    rw [rng_get n i (lo + 1) (by omega), show lo + 1 + (i : Int) = lo + ((i + 1 : Nat) : Int) by omega]
def okRng (i : Int) : Bool := decide (-(2 ^ 62) ≤ i) && decide (i < 2 ^ 62)
def itR1 : List D → M (List D)
  | [.int j] => M.when (okRng j) (M.ret (rng 0 j.toNat))
  | _ => M.no
def itR2 : List D → M (List D)
  | [.int i, .int j] => M.when (okRng i && okRng j) (M.ret (rng i (j - i).toNat))
  | _ => M.no
def iOfs (h : List D → M (List D)) (f : Lc → M (List D)) : Lc → M (List D) := fun env => M.andThen (f env) h
theorem serves_rng {S : Sit} (lo : Int) (n : Nat) : Serves K (Itr lo n) S (rng lo n) := by
  refine ⟨fun S' i x hi => ?_, fun S' x => ?_, fun S' i y H' x o hy d hd => ?_⟩
  · rw [rng_length] at hi; exact hi
  · show n ≤ (rng lo n).length
    rw [rng_length]
    exact Nat.le_refl _
  · obtain ⟨e1, e2⟩ := hy
    have hi := (List.getElem?_eq_some_iff.mp hd).1
    rw [rng_length] at hi
    rw [rng_get n i lo hi] at hd
    cases hd
    subst e2
    exact ⟨e1, .int _⟩
theorem i_rng1 {tg : Expr} {fs : Lc → M (List D)} {p : Pos} (hg : Gl X "range") (hm : X.mg "range" = none) (ha : PA X [a] (TDs X.K EP fs)) (hs : starEach [a] X.env = [(false, eval a X.env)] := by rfl) :
    PI X tg (.Call (.Name "range" p) [a] [] pos) (TI' X.K EP (iOfs itR1 fs)) := by
  refine PI.by (pi_range1 hg hm ha hs) fun σ H R ⟨S, env, e, ok, re, p⟩ => ?_
  subst e
  refine ⟨S, env, rfl, ok, re, (Post.split p).imp fun ds S1 x1 o1 q vs rvs => ?_⟩
  unfold itR1 at q
  split at q
  · obtain ⟨v, rfl, r1⟩ := rvs1 rvs
    cases r1
    obtain ⟨c, q⟩ := Post.whened q
    have c' := Bool.and_eq_true_iff.mp c
    exact ⟨_, rfl, of_decide_eq_true c'.1, of_decide_eq_true c'.2, o1.ret q _ (serves_rng 0 _)⟩
  · exact False.elim q
theorem i_rng2 {tg : Expr} {fs : Lc → M (List D)} {p : Pos} (hg : Gl X "range") (hm : X.mg "range" = none) (ha : PA X [a, b] (TDs X.K EP fs)) (hs : starEach [a, b] X.env = [(false, eval a X.env), (false, eval b X.env)] := by rfl)
    (hs2 : starEach [b] X.env = [(false, eval b X.env)] := by rfl) : PI X tg (.Call (.Name "range" p) [a, b] [] pos) (TI' X.K EP (iOfs itR2 fs)) := by
  refine PI.by (pi_range2 hg hm ha hs hs2) fun σ H R ⟨S, env, e, ok, re, p⟩ => ?_
  subst e
  refine ⟨S, env, rfl, ok, re, (Post.split p).imp fun ds S1 x1 o1 q vs rvs => ?_⟩
  unfold itR2 at q
  split at q
  · obtain ⟨v, w, rfl, r1, r2⟩ := rvs2 rvs
    cases r1; cases r2
    obtain ⟨c, q⟩ := Post.whened q
    have c0 := Bool.and_eq_true_iff.mp c
    have c1 := Bool.and_eq_true_iff.mp c0.1
    have c2 := Bool.and_eq_true_iff.mp c0.2
    exact ⟨_, _, rfl, ⟨of_decide_eq_true c1.1, of_decide_eq_true c1.2, of_decide_eq_true c2.1, of_decide_eq_true c2.2⟩, o1.ret q _ (serves_rng _ _)⟩
  · exact False.elim q
end
end Mi
set_option Elab.async false
set_option linter.all false
set_option maxRecDepth 100000
set_option maxHeartbeats 4000000
namespace Mi
open PySem PySem.Spec PyProof.Rows L2
/-! ## comprehensions -/
section
variable {K : PySem.W.Frag} {S S' : Sit} {EP : EPT}
/-- the list at p is being made: with it, without it -/
def Sit.open (S : Sit) (p : Addr) (u : HO) : Sit := ⟨S.ρ, S.ah, upd S.H p u, p :: S.busy⟩
def Sit.strip (S : Sit) (p : Addr) (B : List Addr) : Sit := ⟨S.ρ, S.ah, fun a => if a = p then none else S.H a, B⟩
def Sit.shut (S : Sit) (B : List Addr) : Sit := ⟨S.ρ, S.ah, S.H, B⟩
def Sit.poke (S : Sit) (p : Addr) (u : HO) : Sit := ⟨S.ρ, S.ah, upd S.H p u, S.busy⟩
structure Opn (S : Sit) (p : Addr) (B : List Addr) : Prop where
  b : S.busy = p :: B
  nb : p ∉ B
theorem Sit.open_ok (ok : Ok K S) {p : Addr} {u : HO} (hp : S.H p = none) : Ok K (S.open p u) ∧ Ext0 S (S.open p u) ∧ Opn (S.open p u) p S.busy := by
  have e0 : Ext0 S (S.open p u) := ⟨Nat.le_refl _, fun _ _ => rfl, fun a w h => by
    have ne : a ≠ p := ne_of_none h.1 hp
    refine ⟨by show upd S.H p u a = _; rw [upd_ne ne]; exact h.1, fun l => ?_⟩
    rcases l with l | l
    · exact h.2 (.inl l)
    · rcases List.mem_cons.mp l with z | l
      · exact ne z
      · exact h.2 (.inr l)⟩
  refine ⟨⟨fun i o h => ?_, ok.inj, fun a h => ?_, fun i o h m => ?_⟩, e0, rfl, fun m => ?_⟩
  · obtain ⟨w, q, r⟩ := ok.obj i o h
    refine ⟨w, ?_, r.ext0 e0⟩
    show upd S.H p u (S.ρ i) = some w
    rw [upd_ne (ne_of_none q hp)]
    exact q
  · rcases List.mem_cons.mp h with z | h
    · rw [z]; exact ⟨u, upd_same⟩
    · obtain ⟨w, q⟩ := ok.bus a h
      exact ⟨w, by show upd S.H p u a = _; rw [upd_ne (ne_of_none q hp)]; exact q⟩
  · rcases List.mem_cons.mp m with z | m
    · obtain ⟨w, q, _⟩ := ok.obj i o h
      rw [show S.ρ i = p from z, hp] at q
      cases q
    · exact ok.dis i o h m
  · obtain ⟨w, q⟩ := ok.bus p m
    rw [hp] at q
    cases q
theorem Opn.live {p : Addr} {B : List Addr} (o : Opn S p B) : Liv S p := .inr (by rw [o.b]; exact List.mem_cons_self)
theorem Opn.ext {p : Addr} {B : List Addr} (o : Opn S p B) (e : Ext S S') : Opn S' p B := ⟨e.bsy.trans o.b, o.nb⟩
theorem strip_H {p a : Addr} {B : List Addr} (h : a ≠ p) : (S.strip p B).H a = S.H a := if_neg h
theorem Opn.ne {p : Addr} {B : List Addr} (o : Opn S p B) (ok : Ok K S) {i : Nat} {q : AO} (h : S.ah[i]? = some (some q)) : S.ρ i ≠ p := fun e => ok.dis i q h (by rw [e, o.b]; exact List.mem_cons_self)
theorem Sit.poke_ok {p : Addr} {B : List Addr} {u : HO} (o : Opn S p B) (ok : Ok K S) : Ok K (S.poke p u) ∧ Ext0 S (S.poke p u) ∧ Opn (S.poke p u) p B := by
  have e0 : Ext0 S (S.poke p u) := ⟨Nat.le_refl _, fun _ _ => rfl, fun a w h => by
    have ne : a ≠ p := fun z => h.2 (z ▸ o.live)
    exact ⟨by show upd S.H p u a = _; rw [upd_ne ne]; exact h.1, h.2⟩⟩
  refine ⟨⟨fun i q h => ?_, ok.inj, fun a h => ?_, ok.dis⟩, e0, o.b, o.nb⟩
  · obtain ⟨w, e, r⟩ := ok.obj i q h
    refine ⟨w, ?_, r.ext0 e0⟩
    show upd S.H p u (S.ρ i) = some w
    rw [upd_ne (o.ne ok h)]
    exact e
  · by_cases z : a = p
    · rw [z]; exact ⟨u, upd_same⟩
    · obtain ⟨w, e⟩ := ok.bus a h
      exact ⟨w, by show upd S.H p u a = _; rw [upd_ne z]; exact e⟩
theorem strip_poke {p : Addr} {B : List Addr} {u : HO} : (S.poke p u).strip p B = S.strip p B := by
  unfold Sit.strip Sit.poke
  congr 1
  funext a
  show (if a = p then none else upd S.H p u a) = if a = p then none else S.H a
  by_cases z : a = p
  · rw [if_pos z, if_pos z]
  · rw [if_neg z, if_neg z, upd_ne z]
theorem strip_open {p : Addr} {u : HO} (hp : S.H p = none) : (S.open p u).strip p S.busy = S := by
  unfold Sit.strip Sit.open
  obtain ⟨ρ, ah, H, bs⟩ := S
  congr 1
  funext a
  show (if a = p then none else upd H p u a) = H a
  by_cases z : a = p
  · rw [if_pos z, z]; exact hp.symm
  · rw [if_neg z, upd_ne z]
theorem strip_liv {p a : Addr} {B : List Addr} (o : Opn S p B) (h : Liv (S.strip p B) a) : Liv S a := by
  rcases h with h | h
  · exact .inl h
  · exact .inr (by rw [o.b]; exact List.mem_cons_of_mem _ h)
theorem strip_still {p a : Addr} {B : List Addr} {u : HO} (o : Opn S p B) (h : Still (S.strip p B) a u) : Still S a u := by
  have ne : a ≠ p := fun z => by
    have q : (if a = p then none else S.H a) = some u := h.1
    rw [if_pos z] at q
    cases q
  refine ⟨by rw [← strip_H (B := B) ne]; exact h.1, fun l => h.2 ?_⟩
  rcases l with l | l
  · exact .inl l
  · rw [o.b] at l
    rcases List.mem_cons.mp l with z | l
    · exact absurd z ne
    · exact .inr l
theorem still_strip {p a : Addr} {B : List Addr} {u : HO} (o : Opn S p B) (h : Still S a u) : Still (S.strip p B) a u := by
  have ne : a ≠ p := fun z => h.2 (z ▸ o.live)
  exact ⟨by rw [strip_H ne]; exact h.1, fun l => h.2 (strip_liv o l)⟩
theorem strip_e0 {p : Addr} {B : List Addr} (o : Opn S p B) : Ext0 S (S.strip p B) := ⟨Nat.le_refl _, fun _ _ => rfl, fun _ _ h => still_strip o h⟩
theorem Sit.strip_ok {p : Addr} {B : List Addr} (o : Opn S p B) (ok : Ok K S) : Ok K (S.strip p B) where
  obj := fun i q h => by
    obtain ⟨w, e, r⟩ := ok.obj i q h
    refine ⟨w, ?_, r.ext0 (strip_e0 o)⟩
    show (S.strip p B).H (S.ρ i) = some w
    rw [strip_H (o.ne ok h)]
    exact e
  inj := ok.inj
  bus := fun a h => by
    have ne : a ≠ p := fun z => o.nb (z ▸ h)
    obtain ⟨w, e⟩ := ok.bus a (by rw [o.b]; exact List.mem_cons_of_mem _ h)
    exact ⟨w, by rw [strip_H ne]; exact e⟩
  dis := fun i q h m => ok.dis i q h (by rw [o.b]; exact List.mem_cons_of_mem _ m)
theorem Sit.strip_ext {p : Addr} {B : List Addr} (o : Opn S p B) (ok : Ok K S) (e : Ext S S') : Ext (S.strip p B) (S'.strip p B) where
  len := e.len
  agree := e.agree
  pers := fun a u h => (still_strip (o.ext e) (e.still (strip_still o h))).1
  liv := fun a l => by
    have l' := strip_liv (o.ext e) l
    rcases e.liv a l' with z | z
    · by_cases q : Liv (S.strip p B) a
      · exact .inl q
      · refine .inr ?_
        by_cases ne : a = p
        · show (if a = p then none else S.H a) = none
          rw [if_pos ne]
        · exfalso
          rcases z with z | z
          · exact q (.inl z)
          · rw [o.b] at z
            rcases List.mem_cons.mp z with w | w
            · exact ne w
            · exact q (.inr w)
    · refine .inr ?_
      show (if a = p then none else S.H a) = none
      rw [z]
      exact ite_self _
  bsy := rfl
  keep := fun a h => by
    have ne : a ≠ p := fun z => o.nb (z ▸ h)
    rw [strip_H ne, strip_H ne]
    exact e.keep a (by rw [o.b]; exact List.mem_cons_of_mem _ h)
theorem Post.hide {α : Type} {G : α → Sit → Prop} {r : R α} {p : Addr} {B : List Addr} (o : Opn S p B) (ok : Ok K S) (hE : ∀ σ e S', Opn S' p B → EP σ e (S'.strip p B) → EP σ e S') (h : Post K EP (S.strip p B) G r) :
    Post K EP S (fun a S' => G a (S'.strip p B)) r := by
  cases r with
  | no => exact h
  | ok a ah' => exact fun S' e ok' q => h (S'.strip p B) (Sit.strip_ext o ok e) (Sit.strip_ok (o.ext e) ok') q
  | ex x env ah' => exact fun S' e ok' q σ re => hE σ x S' (o.ext e) (h (S'.strip p B) (Sit.strip_ext o ok e) (Sit.strip_ok (o.ext e) ok') q σ (re.ext0 (strip_e0 (o.ext e))))
theorem Sit.shut_ok {p : Addr} {B : List Addr} (o : Opn S p B) (ok : Ok K S) : Ok K (S.shut B) ∧ Ext (S.strip p B) (S.shut B) ∧ Ext0 S (S.shut B) ∧ ∀ u, S.H p = some u → Still (S.shut B) p u := by
  have e0 : Ext0 S (S.shut B) := ⟨Nat.le_refl _, fun _ _ => rfl, fun a u h => ⟨h.1, fun l => h.2 (by
    rcases l with l | l
    · exact .inl l
    · exact .inr (by rw [o.b]; exact List.mem_cons_of_mem _ l))⟩⟩
  refine ⟨⟨fun i q h => ?_, ok.inj, fun a h => ok.bus a (by rw [o.b]; exact List.mem_cons_of_mem _ h), fun i q h m => ok.dis i q h (by rw [o.b]; exact List.mem_cons_of_mem _ m)⟩, ⟨Nat.le_refl _, fun _ _ => rfl, fun a u h => (strip_still o h).1, fun a l => .inl l, rfl, fun a h => ?_⟩, e0, fun u h => ⟨h, fun l => ?_⟩⟩
  · obtain ⟨w, e, r⟩ := ok.obj i q h
    exact ⟨w, e, r.ext0 e0⟩
  · have ne : a ≠ p := fun z => o.nb (z ▸ h)
    rw [strip_H ne]
    rfl
  · rcases l with ⟨i, q, hq, e⟩ | l
    · exact o.ne ok hq e
    · exact o.nb l
end
def EP0 : EPT := fun _ _ _ => False
def lc (go : D → Lc → Option Lc) (tt : Lc → M Bool) (el : Lc → M D) (vs : List Nat) (env : Lc) : List D → M (List D)
  | [] => M.ret []
  | d :: ds => M.andThen (M.lift (go d (wipeE env vs))) fun env1 => M.andThen (tt env1) fun b => if b = true then M.andThen (el env1) fun y => M.andThen (lc go tt el vs env ds) fun ys => M.ret (y :: ys) else lc go tt el vs env ds
/-- what is raised within is refused -/
def hush {α : Type} (m : M α) : M α := fun ah => match m ah with
  | .no => .no
  | .ok a ah' => .ok a ah'
  | .ex _ _ _ => .no
def eLc (it : Lc → M (List D)) (go : D → Lc → Option Lc) (tt : Lc → M Bool) (el : Lc → M D) (vs : List Nat) : Lc → M D := fun env => M.andThen (it env) fun ds => M.when (decide (ds.length ≤ sizeLine)) (M.andThen (hush (lc go tt el vs env ds)) fun ys => M.ret (.lst ys))
def tYs : Lc → M Bool := fun _ => M.ret true
theorem Post.hushed {K : PySem.W.Frag} {EP : EPT} {S : Sit} {α : Type} {G : α → Sit → Prop} {m : M α} (h : Post K EP S G (hush m S.ah)) : Post K EP0 S G (m S.ah) := by
  unfold hush at h
  cases q : m S.ah with
  | no => rw [q] at h; exact h
  | ok a ah' => rw [q] at h; exact h
  | ex x env ah' => rw [q] at h; exact False.elim h
def oN (i : Nat) : D → Lc → Option Lc := fun d env => some (env.set i (some d))
def oT2 (i j : Nat) : D → Lc → Option Lc := fun d env => match d with
  | .tup [x, y] => some ((env.set i (some x)).set j (some y))
  | _ => none
def oT3 (i j l : Nat) : D → Lc → Option Lc := fun d env => match d with
  | .tup [x, y, z] => some (((env.set i (some x)).set j (some y)).set l (some z))
  | _ => none
def Raw (K : PySem.W.Frag) (t : TG) (go : D → Lc → Option Lc) (vs : List Nat) : Prop :=
  ∀ (S : Sit) (env env1 : Lc) (σ : St) (d : D) (v : V) (Q : St → Hp → Prop), Ok K S → RE K S env σ → RV K S d v → go d (wipeE env vs) = some env1 → (∀ σ2, RE K S env1 σ2 → wipe σ2 vs = wipe σ vs → Q σ2 S.H) → t v (wipe σ vs) S.H Q
section
variable {X : Cx} {EP : EPT} {pos : Pos} {K : PySem.W.Frag}
theorem PTs.by {ifs : List Expr} {t t' : TT} (h : PTs X ifs t) (i : ∀ σ H Q, t' σ H Q → t σ H Q) : PTs X ifs t' := ⟨fun pins s σ H Q I q => h.run pins s σ H Q I (i σ H Q q)⟩
theorem ts_nil : PTs X [] (TB X.K EP tYs) := PTs.by pts_nil fun σ H Q ⟨S, env, e, ok, re, p⟩ => by
  subst e
  exact ok.ret (a := true) p
theorem ts_one {c : Expr} {f : Lc → M Bool} (h : PT X c (TB X.K EP f)) : PTs X [c] (TB X.K EP f) := pts_one h
theorem wipe_get {σ τ : St} {vs : List Nat} {j : Nat} (hj : j ∈ vs) (hτ : τ.length = σ.length) : (wipe τ vs)[j]? = if j < σ.length then some none else none := by
  have hlen : (wipe τ vs).length = σ.length := by rw [wipe_length]; exact hτ
  by_cases hl : j < σ.length
  · rw [if_pos hl]
    cases q : (wipe τ vs)[j]? with
    | none => rw [List.getElem?_eq_none_iff] at q; omega
    | some y =>
      cases y with
      | none => rfl
      | some z => exact absurd hj (wipe_some q).2
  · rw [if_neg hl, List.getElem?_eq_none (by omega)]
theorem wipe_eq {σ τ : St} {vs : List Nat} (hl : τ.length = σ.length) (h : ∀ j, j ∉ vs → τ[j]? = σ[j]?) : wipe τ vs = wipe σ vs := by
  refine List.ext_getElem? fun j => ?_
  by_cases hj : j ∈ vs
  · rw [wipe_get hj hl, wipe_get (σ := σ) hj rfl]
  · rw [wipe_out hj, wipe_out hj, h j hj]
theorem set_off {τ : St} {vs : List Nat} {i j : Nat} {y : Option V} (hi : i ∈ vs) (hj : j ∉ vs) : (τ.set i y)[j]? = τ[j]? := List.getElem?_set_ne fun (z : i = j) => hj (z ▸ hi)
theorem raw_n {i : Nat} {vs : List Nat} (hi : i ∈ vs) : Raw K (gName i) (oN i) vs := fun S env env1 σ d v Q ok re rv e h => by
  cases e
  refine h _ ((re.wiped vs).set i rv) (wipe_eq (by rw [List.length_set, wipe_length]) fun j hj => ?_)
  rw [set_off hi hj, wipe_out hj]
theorem raw_t2 {i j : Nat} {vs : List Nat} (hi : i ∈ vs) (hj : j ∈ vs) : Raw K (gTup K 2 (gCons (gName i) (gCons (gName j) gNil))) (oT2 i j) vs := fun S env env1 σ d v Q ok re rv e h => by
  unfold oT2 at e
  split at e
  · cases e
    cases rv with
    | tup q r =>
      obtain ⟨x, y, rfl, r1, r2⟩ := rvs2 r
      refine ⟨_, _, rfl, q.seq, rfl, _, _, rfl, _, _, rfl, rfl, h _ (((re.wiped vs).set i r1).set j r2) (wipe_eq (by rw [List.length_set, List.length_set, wipe_length]) fun k hk => ?_)⟩
      rw [set_off hj hk, set_off hi hk, wipe_out hk]
  · cases e
theorem raw_t3 {i j l : Nat} {vs : List Nat} (hi : i ∈ vs) (hj : j ∈ vs) (hl : l ∈ vs) : Raw K (gTup K 3 (gCons (gName i) (gCons (gName j) (gCons (gName l) gNil)))) (oT3 i j l) vs := fun S env env1 σ d v Q ok re rv e h => by
  unfold oT3 at e
  split at e
  · cases e
    cases rv with
    | tup q r =>
      obtain ⟨x, y, u, rfl, r1, r2, r3⟩ := rvs3 r
      refine ⟨_, _, rfl, q.seq, rfl, _, _, rfl, _, _, rfl, _, _, rfl, rfl, h _ ((((re.wiped vs).set i r1).set j r2).set l r3) (wipe_eq (by rw [List.length_set, List.length_set, List.length_set, wipe_length]) fun k hk => ?_)⟩
      rw [set_off hl hk, set_off hj hk, set_off hi hk, wipe_out hk]
  · cases e
theorem lc_run {g : TG} {go : D → Lc → Option Lc} {tt : Lc → M Bool} {el : Lc → M D} {vs : List Nat} (raw : Raw K g go vs) {it : Lc → M (List D)} {σ : St} {H : Hp} {Q : VK} (h : TD K EP (eLc it go tt el vs) σ H Q) :
    tLc (TI' K EP it) g (TB K EP0 tt) (TD K EP0 el) vs σ H Q := by
  obtain ⟨S, env, rfl, ok, re, p⟩ := h
  refine ⟨S, env, rfl, ok, re, (Post.split p).imp fun ds S1 x1 o1 q J sv D hD => ?_⟩
  obtain ⟨hlen, q⟩ := Post.whened q
  have hlen := of_decide_eq_true hlen
  have q := Post.hushed (Post.split q)
  have re := re.ext x1
  obtain ⟨ok0, e0, op0⟩ := Sit.open_ok o1 (u := .lst []) hD
  have str0 := strip_open (u := .lst []) hD
  have hide0 : ∀ (σ : St) (e : Ex) (S' : Sit), Opn S' D S1.busy → EP0 σ e (S'.strip D S1.busy) → EP0 σ e S' := fun _ _ _ _ z => z
  refine ⟨fun i' m H' => ∃ S2 accD accV, S2.H = H' ∧ Ok K S2 ∧ Opn S2 D S1.busy ∧ Ext S1 (S2.strip D S1.busy) ∧ RE K S2 env σ ∧ (∀ d v, RV K S1 d v → RV K S2 d v) ∧ S2.H D = some (.lst accV) ∧ RVs K S2 accD accV ∧ accD.length ≤ i' ∧ i' + m = ds.length ∧
      Post K EP0 (S2.strip D S1.busy) (fun ys S' => Post K EP S' (GV K Q) (M.ret (.lst (accD ++ ys)) S'.ah)) (lc go tt el vs env (ds.drop i') S2.ah),
    ⟨ds.length, S1.open D (.lst []), [], [], rfl, ok0, op0, by rw [str0]; exact Ext.refl _, re.ext0 e0, fun d v r => r.ext0 e0, upd_same, .nil, Nat.zero_le _, by omega, by rw [str0, List.drop_zero]; exact q⟩, fun i' m H' hW => ?_⟩
  obtain ⟨S2, accD, accV, rfl, ok2, op2, x2, re2, rv2, hd2, acc2, hle, hm, p2⟩ := hW
  obtain ⟨ok3, x3, e3, st3⟩ := Sit.shut_ok op2 ok2
  by_cases hl : i' < ds.length
  · obtain ⟨d, g1, g2⟩ := drop_get hl
    rw [g2] at p2
    refine .inr ⟨sv.go (S2.shut S1.busy) i' (x2.trans x3) hl, fun H' => ∃ S3 accD accV, S3.H = H' ∧ Ok K S3 ∧ Opn S3 D S1.busy ∧ Ext S1 (S3.strip D S1.busy) ∧ RE K S3 env σ ∧ (∀ d v, RV K S1 d v → RV K S3 d v) ∧ S3.H D = some (.lst accV) ∧ RVs K S3 accD accV ∧ accD.length ≤ i' + 1 ∧
        Post K EP0 (S3.strip D S1.busy) (fun ys S' => Post K EP S' (GV K Q) (M.ret (.lst (accD ++ ys)) S'.ah)) (lc go tt el vs env (ds.drop (i' + 1)) S3.ah),
      fun H' ⟨S3, aD, aV, b1, b2, b3, b4, b5, b6, b7, b8, b9, b10⟩ => ⟨m - 1, by omega, S3, aD, aV, b1, b2, b3, b4, b5, b6, b7, b8, b9, by omega, b10⟩, fun x H' hy => ?_⟩
    obtain ⟨rfl, rv⟩ := sv.yld (S2.shut S1.busy) i' x H' (x2.trans x3) ok3 hy d g1
    have rv := rv2 _ _ rv
    obtain ⟨env1, he1, p2⟩ := Post.lifted (Post.split p2) (Sit.strip_ok op2 ok2)
    refine raw S2 env env1 σ d x _ ok2 re2 rv he1 fun σ2 reσ hw => ⟨hw, S2, env1, rfl, ok2, reσ, (Post.hide op2 ok2 hide0 (Post.split p2)).imp fun b S3 y3 o3 q3 => ?_⟩
    have op3 := op2.ext y3
    have hd3 : S3.H D = some (.lst accV) := (y3.keep D (by rw [op2.b]; exact List.mem_cons_self)).trans hd2
    cases b with
    | false =>
      exact ⟨S3, accD, accV, rfl, o3, op3, x2.trans (Sit.strip_ext op2 ok2 y3), re2.ext y3, fun d v r => (rv2 d v r).ext y3, hd3, acc2.ext y3, by omega, q3⟩
    | true =>
      refine ⟨S3, env1, rfl, o3, reσ.ext y3, (Post.hide op3 o3 hide0 (Post.split q3)).imp fun y S4 y4 o4 q4 w rw4 => ?_⟩
      have op4 := op3.ext y4
      have hd4 : S4.H D = some (.lst accV) := (y4.keep D (by rw [op3.b]; exact List.mem_cons_self)).trans hd3
      have acc4 := (acc2.ext y3).ext y4
      obtain ⟨o5, e5, op5⟩ := Sit.poke_ok (u := .lst (accV ++ [w])) op4 o4
      refine ⟨accV, hd4, by rw [← acc4.length]; omega, S4.poke D (.lst (accV ++ [w])), accD ++ [y], accV ++ [w], rfl, o5, op5, by rw [strip_poke]; exact (x2.trans (Sit.strip_ext op2 ok2 y3)).trans (Sit.strip_ext op3 o3 y4), ((re2.ext y3).ext y4).ext0 e5,
        fun d v r => (((rv2 d v r).ext y3).ext y4).ext0 e5, upd_same, (acc4.append (.cons rw4 .nil)).ext0 e5, by rw [List.length_append]; simp only [List.length_singleton]; omega, ?_⟩
      rw [strip_poke]
      refine (Post.split q4).imp fun ys S6 y6 o6 q6 => ?_
      have z := Post.ret (G := fun ys S' => Post K EP S' (GV K Q) (M.ret (.lst (accD ++ ys)) S'.ah)) q6 o6
      rw [List.append_assoc]
      exact z
  · have e : i' = ds.length := by omega
    subst e
    rw [List.drop_length] at p2
    refine .inl ⟨sv.stop (S2.shut S1.busy) (x2.trans x3), ?_⟩
    have z : Post K EP (S2.shut S1.busy) (GV K Q) (M.ret (.lst (accD ++ [])) (S2.shut S1.busy).ah) := p2 (S2.shut S1.busy) x3 ok3 rfl
    rw [List.append_nil] at z
    exact ok3.ret (EP := EP) (a := Mi.D.lst accD) z _ (.lst (st3 _ hd2) (acc2.ext0 e3))
/-- [elt for tg in iter if ..] -/
theorem d_lc {elt tg iter : Expr} {ifs : List Expr} {scope : Scope} {own : List (Str × Nat)} {g : TG} {go : D → Lc → Option Lc} {it : Lc → M (List D)} {tt : Lc → M Bool} {el : Lc → M D} (rm : Rm X) (hN : X.N.Nodup) (hi : PI X tg iter (TI' X.K EP it)) (ok : BlkOk X.N X.env.scope scope own)
    (raw : Raw X.K g go (own.map (·.2)))
    (hg : ∀ (s : Shared) (H : Hp) (C : Addr) (cl : List (Str × Addr)) (fp : List Addr), PG (X.blk s H scope (compEnvC scope cl C X.env) fp) tg g)
    (ht : ∀ (s : Shared) (H : Hp) (C : Addr) (cl : List (Str × Addr)) (fp : List Addr), PTs (X.blk s H scope (compEnvC scope cl C X.env) fp) ifs (TB X.K EP0 tt))
    (he : ∀ (s : Shared) (H : Hp) (C : Addr) (cl : List (Str × Addr)) (fp : List Addr), PE (X.blk s H scope (compEnvC scope cl C X.env) fp) elt (TD X.K EP0 el)) (hs : ∀ x, foldedSetIterable iter X.env x = pure x := by intro _; rfl) :
    PE X (.ListComp elt [{ target := tg, iter := iter, ifs := ifs, is_async := 0 }] scope pos) (TD X.K EP (eLc it go tt el (own.map (·.2)))) :=
  PE.by (pe_lc rm.cm hN hi ok hg ht he hs) fun _ _ _ h => lc_run raw h
theorem s_setLc (i : Nat) {y : Str} {py : Pos} {elt tg iter : Expr} {ifs : List Expr} {scope : Scope} {own : List (Str × Nat)} {spos : Pos} {g : TG} {go : D → Lc → Option Lc} {it : Lc → M (List D)} {tt : Lc → M Bool} {el : Lc → M D} (rm : Rm X) (hN : X.N.Nodup)
    (hi : PI X tg iter (TI' X.K EP it)) (ok : BlkOk X.N X.env.scope scope own)
    (raw : Raw X.K g go (own.map (·.2)))
    (hg : ∀ (s : Shared) (H : Hp) (C : Addr) (cl : List (Str × Addr)) (fp : List Addr), PG (X.blk s H scope (compEnvC scope cl C X.env) fp) tg g)
    (ht : ∀ (s : Shared) (H : Hp) (C : Addr) (cl : List (Str × Addr)) (fp : List Addr), PTs (X.blk s H scope (compEnvC scope cl C X.env) fp) ifs (TB X.K EP0 tt))
    (he : ∀ (s : Shared) (H : Hp) (C : Addr) (cl : List (Str × Addr)) (fp : List Addr), PE (X.blk s H scope (compEnvC scope cl C X.env) fp) elt (TD X.K EP0 el))
    (hy : X.N[i]? = some y := by rfl) (hyl : X.env.scope.names.lookup y = some .local := by rfl)
    (hsw : swapsWith (.ListComp elt [{ target := tg, iter := iter, ifs := ifs, is_async := 0 }] scope pos) (some (.Name y py)) spos.line X.env = pure true := by exact sw_true rfl rfl rfl (by decide +kernel))
    (hs : ∀ x, foldedSetIterable iter X.env x = pure x := by intro _; rfl) :
    PS X (.Assign [.Name y py] (.ListComp elt [{ target := tg, iter := iter, ifs := ifs, is_async := 0 }] scope pos) spos) (TF X.K EP (sSet i (eLc it go tt el (own.map (·.2))))) := by
  refine PS.by (ps_setLc (i := i) rm.cm hN hy hyl hsw hi ok hg ht he hs) fun σ H Dn ⟨S, env, e, o, re, p⟩ => ?_
  subst e
  refine lc_run (EP := EP) raw ⟨S, env, rfl, o, re, (Post.split p).imp fun d S1 x1 o1 q v rv => o1.ret (a := (Fl.nx, env.set i (some d))) q _ ((re.ext x1).set i rv)⟩
end
end Mi
set_option Elab.async false
set_option linter.all false
set_option maxRecDepth 100000
set_option maxHeartbeats 4000000
namespace Mi
open PySem PySem.Spec PyProof.Rows L2
section
variable {X : Cx} {EP : EPT} {K : PySem.W.Frag} {pos : Pos}
/-! ## dicts of the mirror's heap -/
def toKey : D → Option Key
  | .int i => some (.inl i)
  | .str x => some (.inr x)
  | _ => none
def lookD : List (Key × D) → Key → Option D
  | [], _ => none
  | (j, d) :: r, k => if j = k then some d else lookD r k
def putD : List (Key × D) → Key → D → List (Key × D)
  | [], k, d => [(k, d)]
  | (j, x) :: r, k, d => if j = k then (k, d) :: r else (j, x) :: putD r k d
def getL (o : AO) : Option (List D) := match o with
  | .lst xs => some xs
  | .dct _ => none
def getK (o : AO) : Option (List (Key × D)) := match o with
  | .lst _ => none
  | .dct xs => some xs
theorem RKs.look {S : Sit} : ∀ {ds : List (Key × D)} {vs : List (Key × V)} {k : Key} {d : D}, RKs K S ds vs → lookD ds k = some d → ∃ v, valV vs k = some v ∧ RV K S d v
  | _, _, _, _, .nil, h => nomatch h
  | _, _, k, d, @RKs.cons _ _ j _ v _ vs r t, h => by
    unfold lookD at h
    unfold valV
    rw [List.find?_cons]
    by_cases e : j = k
    · rw [if_pos e] at h
      cases h
      rw [decide_eq_true e]
      exact ⟨v, rfl, r⟩
    · rw [if_neg e] at h
      rw [decide_eq_false e]
      exact RKs.look t h
theorem RKs.none_of {S : Sit} : ∀ {ds : List (Key × D)} {vs : List (Key × V)} {k : Key}, RKs K S ds vs → lookD ds k = none → valV vs k = none
  | _, _, _, .nil, _ => rfl
  | _, _, k, @RKs.cons _ _ j _ v _ vs r t, h => by
    unfold lookD at h
    unfold valV
    rw [List.find?_cons]
    by_cases e : j = k
    · rw [if_pos e] at h
      cases h
    · rw [if_neg e] at h
      rw [decide_eq_false e]
      exact RKs.none_of t h
theorem RKs.length {S : Sit} : ∀ {ds : List (Key × D)} {vs : List (Key × V)}, RKs K S ds vs → ds.length = vs.length
  | _, _, .nil => rfl
  | _, _, .cons _ t => congrArg (· + 1) (RKs.length t)
/-- keys are unlike -/
def KeysOk : List (Key × D) → Bool
  | [] => true
  | (j, _) :: r => !(r.any fun p => decide (p.1 = j)) && KeysOk r
theorem any_keys {S : Sit} {k : Key} : ∀ {ds : List (Key × D)} {vs : List (Key × V)}, RKs K S ds vs → (vs.any fun p => decide (p.1 = k)) = ds.any fun p => decide (p.1 = k)
  | _, _, .nil => rfl
  | _, _, .cons _ t => by
    rw [List.any_cons, List.any_cons, any_keys t]
theorem map_off {k : Key} {w : V} : ∀ {vs : List (Key × V)}, (vs.any fun p => decide (p.1 = k)) = false → vs.map (fun kv => if kv.1 = k then (kv.1, w) else kv) = vs
  | [], _ => rfl
  | (j, x) :: r, h => by
    rw [List.any_cons, Bool.or_eq_false_iff] at h
    rw [List.map_cons, map_off h.2, if_neg (of_decide_eq_false h.1)]
theorem RKs.put {S : Sit} {k : Key} {d : D} {w : V} (rw' : RV K S d w) : ∀ {ds : List (Key × D)} {vs : List (Key × V)}, RKs K S ds vs → KeysOk ds = true → RKs K S (putD ds k d) (putK vs k w)
  | _, _, .nil, _ => .cons rw' .nil
  | _, _, @RKs.cons _ _ j dj v ds vs r t, hk => by
    have hk' := Bool.and_eq_true_iff.mp (show (!(ds.any fun p => decide (p.1 = j)) && KeysOk ds) = true from hk)
    unfold putD putK
    rw [List.any_cons]
    by_cases e : j = k
    · rw [if_pos e, decide_eq_true e, Bool.true_or, if_pos rfl, List.map_cons, if_pos e]
      have hno : (vs.any fun p => decide (p.1 = k)) = false := by
        rw [any_keys t, ← e]
        simpa using hk'.1
      rw [map_off hno]
      have e' : (j, w) = (k, w) := by rw [e]
      rw [e']
      exact .cons rw' t
    · rw [if_neg e, decide_eq_false e, Bool.false_or]
      have ih := RKs.put (k := k) rw' t hk'.2
      unfold putK at ih
      by_cases ha : (vs.any fun p => decide (p.1 = k)) = true
      · rw [if_pos ha] at ih ⊢
        rw [List.map_cons, if_neg e]
        exact .cons r ih
      · rw [if_neg ha] at ih ⊢
        rw [List.cons_append]
        exact .cons r ih
theorem Post.gotK {S : Sit} {β : Type} {G : β → Sit → Prop} {i : Nat} {f : List (Key × D) → M β} (h : Post K EP S G (M.andThen (getO i) (fun o => M.andThen (M.lift (getK o)) f) S.ah)) (ok : Ok K S) :
    ∃ kds kvs, S.ah[i]? = some (some (.dct kds)) ∧ S.H (S.ρ i) = some (.dK kvs) ∧ RKs K S kds kvs ∧ Post K EP S G (f kds S.ah) := by
  obtain ⟨o, u, e1, _, e2, ro, p⟩ := Post.got (Post.split h) ok
  obtain ⟨kds, e3, p⟩ := Post.lifted (Post.split p) ok
  cases ro with
  | lst _ => cases e3
  | dct r => cases e3; exact ⟨_, _, e1, e2, r, p⟩
theorem Post.gotL {S : Sit} {β : Type} {G : β → Sit → Prop} {i : Nat} {f : List D → M β} (h : Post K EP S G (M.andThen (getO i) (fun o => M.andThen (M.lift (getL o)) f) S.ah)) (ok : Ok K S) :
    ∃ ds vs, S.ah[i]? = some (some (.lst ds)) ∧ S.H (S.ρ i) = some (.lst vs) ∧ RVs K S ds vs ∧ Post K EP S G (f ds S.ah) := by
  obtain ⟨o, u, e1, _, e2, ro, p⟩ := Post.got (Post.split h) ok
  obtain ⟨kds, e3, p⟩ := Post.lifted (Post.split p) ok
  cases ro with
  | dct _ => cases e3
  | lst r => cases e3; exact ⟨_, _, e1, e2, r, p⟩
def gDGet (x y : D) : M D := match x with
  | .ref n => M.andThen (getO n) fun o => M.andThen (M.lift (getK o)) fun kds => M.lift ((toKey y).bind fun k => lookD kds k)
  | _ => M.no
theorem toKey_rv {S : Sit} {d : D} {v : V} {k : Key} (r : RV K S d v) (h : toKey d = some k) : v = kV k := by
  cases r with
  | int i => cases h; rfl
  | str x => cases h; rfl
  | non => cases h
  | bl _ => cases h
  | tup _ _ => cases h
  | lst _ _ => cases h
  | fro _ _ => cases h
  | emp _ => cases h
  | ref _ => cases h
  | oth => cases h
theorem g_dget : Good2 K EP (fun x y H Q => ∃ a v, x = .ref a ∧ DGet H a y (some v) ∧ Q v H) gDGet := by
  intro S x y v w Q ok rx ry p
  unfold gDGet at p
  split at p
  · cases rx with
    | ref hi =>
      obtain ⟨kds, kvs, e1, e2, r, p⟩ := Post.gotK p ok
      obtain ⟨d, e3, g⟩ := Post.lifted p ok
      obtain ⟨k, k1, k2⟩ := Option.bind_eq_some_iff.mp e3
      obtain ⟨u, u1, u2⟩ := r.look k2
      exact ⟨_, u, rfl, .inl ⟨kvs, k, .inl e2, toKey_rv ry k1, u1.symm⟩, g u u2⟩
  · exact False.elim p
theorem d_dget {o i : Expr} {fo fi : Lc → M D} (rm : Rm X) (ho : PE X o (TD X.K EP fo)) (hi : PE X i (TD X.K EP fi)) (hs : NoSl i := by exact fun _ _ => rfl) : PE X (.Subscript o i pos) (TD X.K EP (e2 gDGet fo fi)) :=
  PE.by (pe_dget (by have := rm.un; omega) ho hi hs) fun _ _ _ h => run2 (r := fun x y H Q => ∃ a v, x = .ref a ∧ DGet H a y (some v) ∧ Q v H) g_dget h
/-- d[k] = v: v first -/
def sDPut (fo fi fv : Lc → M D) : MS := fun env => M.andThen (fv env) fun v => M.andThen (fo env) fun x => M.andThen (fi env) fun y => match x with
  | .ref n => M.andThen (getO n) fun o => M.andThen (M.lift (getK o)) fun kds => M.andThen (M.lift (toKey y)) fun k => M.when (KeysOk kds && decide (kds.length < sizeLine)) (M.andThen (putO n (.dct (putD kds k v))) fun _ => M.ret (.nx, env))
  | _ => M.no
theorem s_dput {o i value : Expr} {pos' : Pos} {fo fi fv : Lc → M D} (rm : Rm X) (ho : PE X o (TD X.K EP fo)) (hi : PE X i (TD X.K EP fi)) (hv : PE X value (TD X.K EP fv)) (hs : swapsWith value (some (.Subscript o i pos')) pos.line X.env = pure false := by rfl) :
    PS X (.Assign [.Subscript o i pos'] value pos) (TF X.K EP (sDPut fo fi fv)) := by
  refine PS.by (ps_dput (by have := rm.un; omega) ho hi hv hs) fun σ H Dn ⟨S, env, e, ok, re, p⟩ => ?_
  subst e
  refine ⟨S, env, rfl, ok, re, (Post.split p).imp fun v S1 x1 o1 q1 vv rv => ⟨S1, env, rfl, o1, re.ext x1, (Post.split q1).imp fun x S2 x2 o2 q2 xv rx => ⟨S2, env, rfl, o2, (re.ext x1).ext x2, (Post.split q2).imp fun y S3 x3 o3 q3 yv ry => ?_⟩⟩⟩
  have rx := rx.ext x3
  have rv := (rv.ext x2).ext x3
  have re := ((re.ext x1).ext x2).ext x3
  split at q3
  · cases rx with
    | @ref n hi =>
      obtain ⟨kds, kvs, e1, e2, r, q3⟩ := Post.gotK q3 o3
      obtain ⟨k, k1, q3⟩ := Post.lifted (Post.split q3) o3
      obtain ⟨hc, q3⟩ := Post.whened q3
      have hc' := Bool.and_eq_true_iff.mp hc
      have hl := of_decide_eq_true hc'.2
      have r' := r.put (k := k) rv hc'.1
      have z := Post.putted (u := .dK (putK kvs k vv)) (Post.split q3) o3 e1 (.dct r')
      have x4 := Sit.put_ext o3 (u := .dK (putK kvs k vv)) (o := .dct (putD kds k v)) e1
      exact ⟨_, _, rfl, .inl ⟨kvs, k, e2, toKey_rv ry k1, by rw [← r.length]; exact hl, rfl⟩, (Sit.put_ok o3 e1 (.dct r')).ret (a := (Fl.nx, env)) z σ (re.ext x4)⟩
  · exact False.elim q3
/-! {k: v, ..} -/
def pN : Lc → M (List (D × D)) := fun _ => M.ret []
def pC (fk fv : Lc → M D) (r : Lc → M (List (D × D))) : Lc → M (List (D × D)) := fun env => M.andThen (fk env) fun k => M.andThen (fv env) fun v => M.andThen (r env) fun ps => M.ret ((k, v) :: ps)
def keysOf : List (D × D) → Option (List (Key × D))
  | [] => some []
  | (k, v) :: r => (toKey k).bind fun j => (keysOf r).map fun l => (j, v) :: l
def mergeD (l : List (Key × D)) : List (Key × D) → List (Key × D)
  | [] => l
  | (k, v) :: r => mergeD (putD l k v) r
inductive RPs (K : PySem.W.Frag) (S : Sit) : List (D × D) → List (V × V) → Prop
  | nil : RPs K S [] []
  | cons {d e : D} {v u : V} {ds : List (D × D)} {vs : List (V × V)} : RV K S d v → RV K S e u → RPs K S ds vs → RPs K S ((d, e) :: ds) ((v, u) :: vs)
theorem RPs.ext {S S' : Sit} (e : Ext S S') : ∀ {ds : List (D × D)} {vs : List (V × V)}, RPs K S ds vs → RPs K S' ds vs
  | _, _, .nil => .nil
  | _, _, .cons a b t => .cons (a.ext e) (b.ext e) (RPs.ext e t)
theorem RPs.keys {S : Sit} : ∀ {ds : List (D × D)} {vs : List (V × V)} {l : List (Key × D)}, RPs K S ds vs → keysOf ds = some l → ∃ kvs, vs = kvs.map (fun kv => (kV kv.1, kv.2)) ∧ RKs K S l kvs
  | _, _, _, .nil, h => by cases h; exact ⟨[], rfl, .nil⟩
  | _, _, _, .cons (v := v) (u := u) a b t, h => by
    obtain ⟨j, h1, h2⟩ := Option.bind_eq_some_iff.mp h
    obtain ⟨l', h3, h4⟩ := Option.map_eq_some_iff.mp h2
    obtain ⟨kvs, e, r⟩ := RPs.keys t h3
    subst h4
    exact ⟨(j, u) :: kvs, by rw [List.map_cons, ← e, toKey_rv a h1], .cons b r⟩
theorem keys_put : ∀ {l : List (Key × D)} {k : Key} {d : D}, KeysOk l = true → KeysOk (putD l k d) = true ∧ ∀ j, (putD l k d).any (fun p => decide (p.1 = j)) = (decide (k = j) || l.any fun p => decide (p.1 = j))
  | [], k, d, _ => ⟨rfl, fun j => rfl⟩
  | (j, x) :: r, k, d, h => by
    have h' := Bool.and_eq_true_iff.mp (show (!(r.any fun p => decide (p.1 = j)) && KeysOk r) = true from h)
    unfold putD
    by_cases e : j = k
    · rw [if_pos e]
      subst e
      refine ⟨h, fun i => ?_⟩
      rw [List.any_cons, List.any_cons]
      cases decide (j = i) <;> rfl
    · rw [if_neg e]
      obtain ⟨a, b⟩ := keys_put (k := k) (d := d) h'.2
      refine ⟨?_, fun i => ?_⟩
      · show (!((putD r k d).any fun p => decide (p.1 = j)) && KeysOk (putD r k d)) = true
        rw [a, b j, decide_eq_false (fun z => e z.symm), Bool.false_or, h'.1]
        rfl
      · rw [List.any_cons, List.any_cons, b i]
        cases decide (j = i) <;> cases decide (k = i) <;> rfl
theorem RKs.merge {S : Sit} : ∀ {more : List (Key × D)} {mv : List (Key × V)} {l : List (Key × D)} {lv : List (Key × V)}, RKs K S more mv → RKs K S l lv → KeysOk l = true → RKs K S (mergeD l more) (mergeK lv mv)
  | _, _, _, _, .nil, r, _ => r
  | (k, d) :: more, (_, v) :: mv, l, lv, .cons a t, r, h => by
    show RKs K S (mergeD (putD l k d) more) (mergeK (putK lv k v) mv)
    exact RKs.merge t (r.put a h) (keys_put h).1
def eDisp (f : Lc → M (List (D × D))) : Lc → M D := fun env => M.andThen (newO (.dct [])) fun r => M.andThen (f env) fun ps => match r with
  | .ref n => M.andThen (getO n) fun o => M.andThen (M.lift (getK o)) fun kds => M.andThen (M.lift (keysOf ps)) fun l => M.when (kds.isEmpty && decide (l.length ≤ 15)) (M.andThen (putO n (.dct (mergeD [] l))) fun _ => M.ret (.ref n))
  | _ => M.no
def TPs (K : PySem.W.Frag) (EP : EPT) (f : Lc → M (List (D × D))) (trs : List (TE × TE)) : Prop := ∀ σ H (Q : List (V × V) → Hp → Prop), (∃ S env, S.H = H ∧ Ok K S ∧ RE K S env σ ∧ Post K EP S (fun ps S' => ∀ vs, RPs K S' ps vs → Q vs S'.H) (f env S.ah)) → tPairs trs σ H Q
theorem tp_nil : TPs K EP pN [] := fun σ H Q ⟨S, env, e, ok, re, p⟩ => by
  subst e
  exact ok.ret (a := ([] : List (D × D))) p [] .nil
theorem tp_cons {fk fv : Lc → M D} {f : Lc → M (List (D × D))} {trs : List (TE × TE)} (h : TPs K EP f trs) : TPs K EP (pC fk fv f) ((TD K EP fk, TD K EP fv) :: trs) := fun σ H Q ⟨S, env, e, ok, re, p⟩ => by
  subst e
  refine ⟨S, env, rfl, ok, re, (Post.split p).imp fun k S1 x1 o1 q1 kv rk => ⟨S1, env, rfl, o1, re.ext x1, (Post.split q1).imp fun v S2 x2 o2 q2 vv rv => ?_⟩⟩
  refine h σ S2.H _ ⟨S2, env, rfl, o2, (re.ext x1).ext x2, (Post.split q2).imp fun ps S3 x3 o3 q3 vs rvs => ?_⟩
  exact o3.ret (a := (k, v) :: ps) q3 _ (.cons ((rk.ext x2).ext x3) (rv.ext x3) rvs)
theorem d_disp {keys : List (Option Expr)} {values : List Expr} {trs : List (TE × TE)} {f : Lc → M (List (D × D))} (h : PPs X pos keys values trs) (ht : TPs X.K EP f trs)
    (h1 : (keys.all fun x => x.isSome) = true := by rfl) (h2 : keys.length = values.length := by rfl) (h3 : keys ≠ [] := by exact fun z => nomatch z) (h4 : keys.length ≤ 15 := by decide) : PE X (.Dict keys values pos) (TD X.K EP (eDisp f)) := by
  refine PE.by (pe_disp h h1 h2 h3 h4) fun σ H Q ⟨S, env, e, ok, re, p⟩ q hq => ?_
  subst e
  have p1 := Post.new (Post.split p) ok (u := .dK []) hq (.dct .nil)
  have x1 := Sit.more_ext ok (u := .dK []) (o := .dct []) hq
  have o1 := Sit.more_ok ok (u := .dK []) hq (RO.dct (K := X.K) (S := S) .nil)
  refine ht σ _ _ ⟨S.more q (.dK []) (.dct []), env, rfl, o1, re.ext x1, (Post.split p1).imp fun ps S2 x2 o2 q2 vs rvs => ?_⟩
  obtain ⟨kds, kvs, e1, e2, r, q3⟩ := Post.gotK q2 o2
  obtain ⟨l, l1, q4⟩ := Post.lifted (Post.split q3) o2
  obtain ⟨hc, q5⟩ := Post.whened q4
  have hc' := Bool.and_eq_true_iff.mp hc
  have hk : kds = [] := List.isEmpty_iff.mp hc'.1
  subst hk
  cases r
  obtain ⟨mv, m1, m2⟩ := rvs.keys l1
  have hρ : S2.ρ S.ah.length = q := (x2.agree S.ah.length (by show S.ah.length < (S.ah ++ [some (AO.dct [])]).length; rw [List.length_append]; exact Nat.lt_succ_self _)).trans Sit.more_new
  rw [hρ] at e2
  refine ⟨e2, mv, m1, by rw [← m2.length]; exact of_decide_eq_true hc'.2, ?_⟩
  have rm' := m2.merge .nil rfl
  have z := Post.putted (u := .dK (mergeK [] mv)) (Post.split q5) o2 e1 (.dct rm')
  have z2 := (Sit.put_ok o2 (u := .dK (mergeK [] mv)) e1 (.dct rm')).ret (a := D.ref S.ah.length) z (.ref q) (by
    have hr : RV X.K (S2.put S.ah.length (.dK (mergeK [] mv)) (.dct (mergeD [] l))) (.ref S.ah.length) (.ref (S2.ρ S.ah.length)) := RV.ref (K := X.K) (S := S2.put S.ah.length (.dK (mergeK [] mv)) (.dct (mergeD [] l))) (by
      show S.ah.length < (S2.ah.set S.ah.length _).length
      rw [List.length_set]
      exact (List.getElem?_eq_some_iff.mp e1).1)
    rw [hρ] at hr
    exact hr)
  have e3 : (S2.put S.ah.length (.dK (mergeK [] mv)) (.dct (mergeD [] l))).H = upd S2.H q (.dK (mergeK [] mv)) := by
    show upd S2.H (S2.ρ S.ah.length) _ = _
    rw [hρ]
  rw [e3] at z2
  exact z2
theorem d_emp : PE X (.Dict [] [] pos) (TD X.K EP (eC .emp)) := by
  refine PE.by pe_dnewK fun σ H Q ⟨S, env, e, ok, re, p⟩ q hq => ?_
  subst e
  exact p (S.with q (.dK [])) (Sit.with_ext ok hq) (Sit.with_ok ok hq) rfl _ (.emp (Sit.with_still ok hq))
theorem d_dnew : PE X (.Dict [] [] pos) (TD X.K EP (fun _ => newO (.dct []))) := by
  refine PE.by pe_dnewK fun σ H Q ⟨S, env, e, ok, re, p⟩ q hq => ?_
  subst e
  have z := Post.new p ok (u := .dK []) hq (.dct .nil)
  have hr : RV X.K (S.more q (.dK []) (.dct [])) (.ref S.ah.length) (.ref ((S.more q (.dK []) (.dct [])).ρ S.ah.length)) := .ref (by show S.ah.length < (S.ah ++ [some (AO.dct [])]).length; rw [List.length_append]; exact Nat.lt_succ_self _)
  rw [Sit.more_new] at hr
  exact z _ hr
/-! ## methods of lists of the mirror's heap -/
def isL (x : D) : M Unit := match x with
  | .ref n => M.andThen (getO n) fun o => M.andThen (M.lift (getL o)) fun _ => M.ret ()
  | _ => M.no
def gApp (x y : D) : M D := match x with
  | .ref n => M.andThen (getO n) fun o => M.andThen (M.lift (getL o)) fun xs => M.when (decide (xs.length < sizeLine)) (M.andThen (putO n (.lst (xs ++ [y]))) fun _ => M.ret .non)
  | _ => M.no
def gPop (x : D) : M D := match x with
  | .ref n => M.andThen (getO n) fun o => M.andThen (M.lift (getL o)) fun xs => M.andThen (M.lift (xs[xs.length - 1]?)) fun y => M.andThen (putO n (.lst xs.dropLast)) fun _ => M.ret y
  | _ => M.no
def eApp (fo fe : Lc → M D) : Lc → M D := fun env => M.andThen (fo env) fun x => M.andThen (isL x) fun _ => M.andThen (fe env) fun y => gApp x y
theorem post_isL {S : Sit} {β : Type} {G : β → Sit → Prop} {x : D} {v : V} {f : Unit → M β} (ok : Ok K S) (rx : RV K S x v) (h : Post K EP S G (M.andThen (isL x) f S.ah)) : (∃ a vs, v = .ref a ∧ S.H a = some (.lst vs)) ∧ Post K EP S G (f () S.ah) := by
  have p := Post.split h
  unfold isL at p
  split at p
  · cases rx with
    | ref hi =>
      obtain ⟨ds, vs, e1, e2, r, p⟩ := Post.gotL p ok
      exact ⟨⟨_, vs, rfl, e2⟩, ok.ret p⟩
  · exact False.elim p
theorem andThen_es1 {β : Type} {fe : Lc → M D} {env : Lc} {k : List D → M β} : M.andThen (esC fe esN env) k = M.andThen (fe env) fun y => k [y] := by
  funext ah
  simp only [M.andThen, esC, esN, M.ret]
  cases fe env ah <;> rfl
theorem d_app {o e : Expr} {fo fe : Lc → M D} {apos cpos : Pos} (ho : PE X o (TD X.K EP fo)) (he : PE X e (TD X.K EP fe)) (hs : starEach [e] X.env = (false, eval e X.env) :: starEach [] X.env := by rfl)
    (hbase : attributeBase o "append" X.env (eval o X.env) = eval o X.env := by rfl)
    (hall : ((backTo cpos (starEach [e] X.env)).all (fun x => !x.1) && (backToKw cpos (keywordEach [] X.env)).all (fun x => x.1.isSome) && decide (([e] : List Expr).length + ([] : List Keyword).length + (if ([] : List Keyword).isEmpty = true then 0 else 1) < 30)) = true := by rfl)
    (hline : (apos.endLine == cpos.line) = true := by rfl) (hpl : (backTo cpos (starEach [] X.env)).any (·.1) = false := by rfl) :
    PE X (.Call (.Attribute o "append" apos) [e] [] cpos) (TD X.K EP (eApp fo fe)) := by
  refine PE.by (pe_bm PySem.F.plainAttrs_list PySem.F.slot_list_append PySem.F.type_list_append mt_append ho (as_cons (EP := EP) he as_nil hs) hbase hall hline hs hpl) fun σ H Q ⟨S, env, e, ok, re, p⟩ => ?_
  subst e
  refine ⟨S, env, rfl, ok, re, (Post.split p).imp fun x S1 x1 o1 q1 v rx => ?_⟩
  obtain ⟨⟨a, vs, rfl, ha⟩, q2⟩ := post_isL o1 rx q1
  refine ⟨.inl ⟨rfl, _, SqL.of ha⟩, S1, env, rfl, o1, re.ext x1, ?_⟩
  have q3 : Post X.K EP S1 (GV X.K Q) (M.andThen (esC fe esN env) (fun ys => match ys with
      | [y] => gApp x y
      | _ => M.no) S1.ah) := by
    rw [andThen_es1]
    exact q2
  refine (Post.split q3).imp fun ys S2 x2 o2 q4 ws rws => ?_
  split at q4
  · obtain ⟨w, rfl, rw1⟩ := rvs1 rws
    have rx := rx.ext x2
    unfold gApp at q4
    split at q4
    · cases rx with
      | @ref n hi =>
        obtain ⟨ds, vs2, e1, e2, r, q5⟩ := Post.gotL q4 o2
        obtain ⟨hc, q5⟩ := Post.whened q5
        have r' : RVs X.K S2 (ds ++ [_]) (vs2 ++ [w]) := r.append (.cons rw1 .nil)
        have z := Post.putted (u := .lst (vs2 ++ [w])) (Post.split q5) o2 e1 (.lst r')
        exact ⟨_, _, _, rfl, rfl, e2, by rw [← r.length]; exact of_decide_eq_true hc, (Sit.put_ok o2 e1 (.lst r')).ret (a := D.non) z _ .non⟩
    · exact False.elim q4
  · exact False.elim q4
theorem RVs.init {S : Sit} : ∀ {ds : List D} {vs : List V}, RVs K S ds vs → RVs K S ds.dropLast vs.dropLast
  | _, _, .nil => .nil
  | _, _, .cons _ .nil => .nil
  | _, _, .cons r (.cons r2 t) => .cons r (RVs.init (.cons r2 t))
theorem d_pop {o : Expr} {fo : Lc → M D} {apos cpos : Pos} (ho : PE X o (TD X.K EP fo))
    (hbase : attributeBase o "pop" X.env (eval o X.env) = eval o X.env := by rfl) (hline : (apos.endLine == cpos.line) = true := by rfl) : PE X (.Call (.Attribute o "pop" apos) [] [] cpos) (TD X.K EP (e1 gPop fo)) := by
  refine PE.by (pe_bm0 PySem.F.plainAttrs_list PySem.F.slot_list_pop PySem.F.type_list_pop mt_pop ho hbase hline) fun σ H Q ⟨S, env, e, ok, re, p⟩ => ?_
  subst e
  refine ⟨S, env, rfl, ok, re, (Post.split p).imp fun x S1 x1 o1 q v rx => ?_⟩
  unfold gPop at q
  split at q
  · cases rx with
    | @ref n hi =>
      obtain ⟨ds, vs, e1, e2, r, q5⟩ := Post.gotL q o1
      obtain ⟨y, y1, q5⟩ := Post.lifted (Post.split q5) o1
      obtain ⟨u, u1, ru⟩ := r.get y1
      rw [r.length] at u1
      have z := Post.putted (u := .lst vs.dropLast) (Post.split q5) o1 e1 (.lst r.init)
      exact ⟨.inl ⟨rfl, _, SqL.of e2⟩, _, _, u, rfl, rfl, e2, u1, (Sit.put_ok o1 e1 (.lst r.init)).ret (a := y) z u (ru.ext (Sit.put_ext o1 e1))⟩
  · exact False.elim q
end
end Mi
set_option Elab.async false
set_option linter.all false
set_option maxRecDepth 100000
set_option maxHeartbeats 4000000
namespace Mi
open PySem PySem.Spec PyProof.Rows L2
/-! ## defs -/
/-- as the layer's FnOk, where nothing is being shown around -/
structure FnG (P : Program) (w : World) (K : PySem.W.Frag) (mg : Str → Option Value) (base : Heap) (CX : CXT) (k : Nat) (f : Addr) (fd : FuncData) (ps : List Str) (sp : Sp) : Prop where
  len : ∀ vs H Q E, sp vs H Q E → vs.length = ps.length
  run : ∀ (A : Around) (outer : List PySem.Env) (s : Shared) (H : Hp) (args : Args) (us : List Value) (vs : List V) (Q : VK) (E : XK), Room k A → A.guards = some [] → Env0 P w K mg base A outer s H →
    BindsTo s fd args (ps.zip us) → Vals vs us → sp vs H Q E → codeAny (model P w) A (.call (.ref f) args) (CR CX outer P w H s Q E) s
section
variable {P : Program} {w : World} {K : PySem.W.Frag} {mg : Str → Option Value} {base : Heap}
theorem FnG.mono {CX : CXT} {j k : Nat} {f : Addr} {fd : FuncData} {ps : List Str} {sp : Sp} (F : FnG P w K mg base CX j f fd ps sp) (h : j ≤ k) : FnG P w K mg base CX k f fd ps sp :=
  ⟨F.len, fun A outer s H args us vs Q E hr => F.run A outer s H args us vs Q E (hr.mono h)⟩
theorem FnG.imp {CX : CXT} {k : Nat} {f : Addr} {fd : FuncData} {ps : List Str} {sp sp' : Sp} (F : FnG P w K mg base CX k f fd ps sp) (h : ∀ vs H Q E, sp' vs H Q E → sp vs H Q E) : FnG P w K mg base CX k f fd ps sp' :=
  ⟨fun vs H Q E q => F.len vs H Q E (h _ _ _ _ q), fun A outer s H args us vs Q E hr hg he hb hv hs => F.run A outer s H args us vs Q E hr hg he hb hv (h _ _ _ _ hs)⟩
/-- a def of the text, by its body -/
theorem Fun.okG {x qual : Str} {st : Stmt} {f : Addr} {fd : FuncData} {N ps : List Str} {k : Nat} {sp : Sp} (F : Fun K x qual st f fd) (S : FnScope N ps (defScope st)) (len : ∀ vs H Q E, sp vs H Q E → vs.length = ps.length)
    (hbody : ∀ (cdv : Value) (A : Around) (outer : List PySem.Env) (s : Shared) (H : Hp) (vs : List V) (Q : VK) (E : XK), Room k (A.deeper (envOfC qual (defScope st) s.heap.objs.size f cdv)) → A.guards = some [] → sp vs H Q E →
      ∃ t, PSs (cxOf (L2.CX P w) P w K mg base N qual (defScope st) f cdv A outer s H E) (defBody st) t ∧ t { nx := fun _ H' => Q .non H', rt := Q } (L2.start N vs) H) : FnG P w K mg base (L2.CX P w) (k + 1) f fd ps sp := by
  obtain ⟨oc, od, kV, doc, pm, an, cdv, ct, osl, rfl, lk, hcd⟩ := F.ex
  refine ⟨len, fun A outer s H args us vs Q E hr hgu e0 hb r hsp => ?_⟩
  have hlen := len _ _ _ _ hsp
  have KX : K.In s.heap := e0.mod.kin.keeps fun b o e => (e0.bs b o e).1
  have lim : s.heap.NoLimit := e0.mod.nolimit.keeps fun b o e => (e0.bs b o e).1
  have hkind : ∀ y ∈ ps.zip us, (defScope st).names.lookup y.1 = some .local ∨ ((defScope st).names.lookup y.1 = some .cell ∧ ((cellsFrom (s.heap.objs.size + 1) (defScope st).names []).lookup y.1).isSome = true) := by
    rintro ⟨nm, vl⟩ hy
    have q := S.par nm (List.of_mem_zip hy).1
    rcases q with q | q
    · exact Or.inl q
    · exact Or.inr ⟨q, PySem.W.cellsFrom_some _ _ _ (Or.inl q)⟩
  refine codeAny_call_function hr.depth (KX _ _ lk) rfl S.co S.gen rfl (PySem.W.codeRec_of KX hcd) (hb _ _ _ _ ?_)
  refine wpAny_newFunctionEnv_cells S.kind hkind fun env he s1 st1 => ?_
  subst he
  refine ⟨lim.keeps st1.toInCall.keep, codeAny_func ?_⟩
  obtain ⟨t, ht, hq⟩ := hbody cdv A outer s H vs Q E (hr.deeper _) hgu hsp
  have I := inv_start (CX := L2.CX P w) (E := E) S hr.hd e0 hlen r st1
  refine wpAny_mono (ht.run [] s1 (L2.start N vs) H _ I hq) (fun fl s' hs => ?_) fun e s' hs => hs
  cases fl with
  | ret u =>
    obtain ⟨v, σ', H', J, rv, q⟩ := hs
    exact (⟨v, H', J.os, J.bare, J.base, J.hok, rv, q⟩ : CE outer P w H s Q u s')
  | next =>
    obtain ⟨σ', H', J, q⟩ := hs
    exact (⟨V.non, H', J.os, J.bare, J.base, J.hok, rfl, q⟩ : CE outer P w H s Q Value.none s')
  | brk => exact hs.elim fun _ z => z.elim fun _ y => y.2.elim
  | cont => exact hs.elim fun _ z => z.elim fun _ y => y.2.elim
end
/-! exceptions: what they bear -/
inductive RFs (K : PySem.W.Frag) (S : Sit) : List (Str × D) → List (Str × V) → Prop
  | nil : RFs K S [] []
  | cons {x : Str} {d : D} {v : V} {ds : List (Str × D)} {vs : List (Str × V)} : RV K S d v → RFs K S ds vs → RFs K S ((x, d) :: ds) ((x, v) :: vs)
def XAt (K : PySem.W.Frag) (S : Sit) (args : List (Str × D)) (d : Option Addr) : Prop := (args = [] ∧ d = none) ∨ (args ≠ [] ∧ ∃ a fs, d = some a ∧ Still S a (.xd fs) ∧ RFs K S args fs)
def EPw (K : PySem.W.Frag) (mg : Str → Option Value) (W : WX) : EPT := fun σ e S => ∃ C, mg e.cls = some (.ref C) ∧ ∀ d, XAt K S e.args d → W (.ref C) d σ S.H
abbrev EPd (K : PySem.W.Frag) (mg : Str → Option Value) (E : XK) : EPT := EPw K mg fun c d _ H => E c d H
/-- a def keeps to its mirror -/
def spD (K : PySem.W.Frag) (mg : Str → Option Value) (n : Nat) (m : List D → M D) : Sp := fun vs H Q E => ∃ S ds, S.H = H ∧ Ok K S ∧ RVs K S ds vs ∧ ds.length = n ∧ Post K (EPd K mg E) S (GV K Q) (m ds S.ah)
def defM (tot : Nat) (g : MS) (ds : List D) : M D := fun ah =>
  match g (ds.map some ++ List.replicate (tot - ds.length) none) ah with
  | .no => .no
  | .ok x ah' => match x.1 with
    | .rt d => .ok d ah'
    | .nx => .ok .non ah'
    | _ => .no
  | .ex e _ ah' => .ex e [] ah'
theorem re_start {K : PySem.W.Frag} {S : Sit} {N : List Str} {ds : List D} {vs : List V} (r : RVs K S ds vs) : RE K S (ds.map some ++ List.replicate (N.length - ds.length) none) (L2.start N vs) := by
  unfold L2.start
  have hl := r.length
  refine ⟨by rw [List.length_append, List.length_append, List.length_map, List.length_map, List.length_replicate, List.length_replicate, hl], fun i d h => ?_⟩
  by_cases hi : i < ds.length
  · rw [List.getElem?_append_left (by rw [List.length_map]; exact hi), List.getElem?_map] at h
    obtain ⟨d', e1, e2⟩ := Option.map_eq_some_iff.mp h
    cases e2
    obtain ⟨v, e3, rv⟩ := r.get e1
    exact ⟨v, by rw [List.getElem?_append_left (by rw [List.length_map, ← hl]; exact hi), List.getElem?_map, e3]; rfl, rv⟩
  · rw [List.getElem?_append_right (by rw [List.length_map]; omega), List.getElem?_replicate] at h
    split at h <;> cases h
section
variable {P : Program} {w : World} {K : PySem.W.Frag} {mg : Str → Option Value} {base : Heap}
/-- a def that lets nothing out -/
def def0 (tot : Nat) (g : MS) (ds : List D) : M D := fun ah =>
  match g (ds.map some ++ List.replicate (tot - ds.length) none) ah with
  | .ok x ah' => match x.1 with
    | .rt d => .ok d ah'
    | .nx => .ok .non ah'
    | _ => .no
  | _ => .no
theorem okD {x qual : Str} {st : Stmt} {f : Addr} {fd : FuncData} {N ps : List Str} {k : Nat} {g : MS} (F : Fun K x qual st f fd) (S : FnScope N ps (defScope st))
    (hbody : ∀ (cdv : Value) (A : Around) (outer : List PySem.Env) (s : Shared) (H : Hp) (E : XK), Room k (A.deeper (envOfC qual (defScope st) s.heap.objs.size f cdv)) → Rm (cxOf (L2.CX P w) P w K mg base N qual (defScope st) f cdv A outer s H E).nox →
      PSs (cxOf (L2.CX P w) P w K mg base N qual (defScope st) f cdv A outer s H E).nox (defBody st) (TF K EP0 g)) : FnG P w K mg base (L2.CX P w) (k + 1) f fd ps (spD K mg ps.length (def0 N.length g)) := by
  refine Fun.okG F S (fun vs H Q E ⟨S, ds, _, _, r, hl, _⟩ => by rw [← r.length]; exact hl) fun cdv A outer s H vs Q E hr hgu ⟨S0, ds, e, ok, r, hl, p⟩ => ?_
  subst e
  refine ⟨_, (hbody cdv A outer s S0.H E hr ⟨hgu, hr.units, rfl⟩).nox, S0, _, rfl, ok, re_start r, ?_⟩
  unfold def0 at p
  revert p
  generalize g (ds.map some ++ List.replicate (N.length - ds.length) none) S0.ah = rr
  intro p
  cases rr with
  | no => exact False.elim p
  | ex e env ah' => exact False.elim p
  | ok y ah' =>
    obtain ⟨fl, env⟩ := y
    intro S' e' o' hq
    cases fl with
    | nx => exact fun σ _ => p S' e' o' hq _ .non
    | bk => exact False.elim p
    | ct => exact False.elim p
    | rt d => exact p S' e' o' hq
theorem okM {x qual : Str} {st : Stmt} {f : Addr} {fd : FuncData} {N ps : List Str} {k n : Nat} {g : MS} {m : List D → M D} (F : Fun K x qual st f fd) (S : FnScope N ps (defScope st)) (hn : n = ps.length) (hm : m = def0 N.length g)
    (hbody : ∀ (cdv : Value) (A : Around) (outer : List PySem.Env) (s : Shared) (H : Hp) (E : XK), Room k (A.deeper (envOfC qual (defScope st) s.heap.objs.size f cdv)) → Rm (cxOf (L2.CX P w) P w K mg base N qual (defScope st) f cdv A outer s H E).nox →
      PSs (cxOf (L2.CX P w) P w K mg base N qual (defScope st) f cdv A outer s H E).nox (defBody st) (TF K EP0 g)) : FnG P w K mg base (L2.CX P w) (k + 1) f fd ps (spD K mg n m) := by
  subst hn hm
  exact okD F S hbody
end
section
variable {X : Cx} {pos : Pos}
theorem run_g {k : Nat} {f : Addr} {fd : FuncData} {ps : List Str} {sp : Sp} {CX : CXT} {E : XK} {pins : List (Addr × Obj)} {σ : St} {H : Hp} {s : Shared} {Q : VK} {us : List Value} {vs : List V} (F : FnG X.prog X.w X.K X.mg X.base CX k f fd ps sp) (hr : Room k X.A) (rm : Rm X)
    (hb : Binds X.K fd ps []) (hx : PassesAt CX X σ E) (I : L2.Inv X pins σ H s) (r : Vals vs us) (h : sp vs H Q E) : wpAny (model X.prog X.w) X.A (call (.ref f) us) (L2.EP X pins σ Q) X.xe s := by
  have hl : us.length = ps.length := r.length.symm.trans (F.len _ _ _ _ h)
  have bd := hb s us I.kIn (by rw [List.append_nil]; exact hl)
  rw [List.append_nil] at bd
  refine wpAny_call (codeAny_mono (F.run X.A X.stack s H ⟨us, []⟩ us vs Q E hr rm.gu I.env0 bd r h) fun res s' hq => ?_)
  cases res with
  | error e => exact hx pins H s e s' I hq
  | ok fl =>
    cases fl with
    | ret u => exact I.after hq
    | next => exact hq.elim
    | brk => exact hq.elim
    | cont => exact hq.elim
def eCall (n : Nat) (m : List D → M D) (fs : Lc → M (List D)) : Lc → M D := fun env => M.andThen (fs env) fun ds => M.when (decide (ds.length = n)) fun ah => match m ds ah with
  | .no => .no
  | .ok d ah' => .ok d ah'
  | .ex e _ ah' => .ex e env ah'
theorem post_call0 {K : PySem.W.Frag} {mg : Str → Option Value} {S : Sit} {G : D → Sit → Prop} {E : XK} {r : R D} {env : Lc} (h : Post K EP0 S G (match r with
  | .no => .no
  | .ok d ah' => .ok d ah'
  | .ex e _ ah' => .ex e env ah')) (re : ∃ σ, RE K S env σ) (ok : Ok K S) : Post K (EPd K mg E) S G r := by
  cases r with
  | no => exact h
  | ok d ah' => exact h
  | ex e env' ah' =>
    intro S' x' o' hq
    obtain ⟨σ, re⟩ := re
    exact (h S' x' o' hq σ (re.ext x')).elim
theorem d_call0 {x : Str} {p : Pos} {k n : Nat} {f : Addr} {fd : FuncData} {ps : List Str} {m : List D → M D} {e : Expr} {es : List Expr} {fs : Lc → M (List D)} (F : FnG X.prog X.w X.K X.mg X.base (L2.CX X.prog X.w) k f fd ps (spD X.K X.mg n m)) (hr : Room k X.A) (rm : Rm X) (hg : Gl X x)
    (hm : X.mg x = some (.ref f)) (hk : PySem.W.keepIn X.K (.ref f) = true) (hb : Binds X.K fd ps []) (ha : PA X (e :: es) (TDs X.K EP0 fs)) (hdb : (x == ("__debug__" : Str)) = false := by decide)
    (he : starEach (e :: es) X.env = (false, eval e X.env) :: starEach es X.env := by rfl) (hpl : (backTo pos (starEach es X.env)).any (·.1) = false := by rfl) : PE X (.Call (.Name x p) (e :: es) [] pos) (TD X.K EP0 (eCall n m fs)) := by
  refine ⟨fun pins s σ H Q I ⟨S, env, e0, ok, re, pp⟩ => ?_⟩
  subst e0
  refine wpAny_Call_Name_kw (ld_glob I hg hm ?_ hdb)
  have hta : TDs X.K EP0 fs σ S.H fun vs H1 => spD X.K X.mg n m vs H1 Q fun _ _ _ => False := ⟨S, env, rfl, ok, re, (Post.split pp).imp fun ds S1 x1 o1 q vs rvs => ?_⟩
  · refine PySem.W.callWith_K (h₀ := X.base) I.ok.mod.kin hk (thn (ha.run pos pins s σ S.H _ I hta) fun us s1 ⟨vs, H1, I1, r, q⟩ => ⟨I1.kIn, ?_⟩) he hpl
    exact run_g F hr rm hb (passAt (takes_none5 (X := X)) σ) I1 r q
  · obtain ⟨hl, q⟩ := Post.whened q
    exact ⟨S1, ds, rfl, o1, rvs, of_decide_eq_true hl, post_call0 q ⟨σ, re.ext x1⟩ o1⟩
end
end Mi
set_option Elab.async false
set_option linter.all false
set_option maxRecDepth 100000
set_option maxHeartbeats 4000000
namespace Mi
open PySem PySem.Spec PyProof.Rows L2
/-! ## the end: the law's own call -/
theorem law_at {P : Program} {w : World} {K : PySem.W.Frag} {mg mb : Str → Option Value} {k : Nat} {fa a : Addr} {fd : FuncData} {x : Str} {sp : Sp} {s₁ : Shared} {vs : List Value} (H : Hp)
    (KX : K.In s₁.heap) (hns : s₁.heap.Ns mainGlobals mg) (hb : s₁.heap.Ns builtinsNs mb) (hbb : ∀ y : Str, y ≠ "__name__" → mb y = bootBuiltins y) (hlim : s₁.heap.NoLimit) (hg : s₁.gens = #[])
    (ha : s₁.heap.get? a = some { cls := .type "list", data := .seq vs.toArray }) (hr : Room k callerA)
    (F : ∀ base : Heap, K.In base → base.Ns mainGlobals mg → FnG P w K mg base (L2.CX P w) k fa fd [x] sp) (hbind : ∀ (s : Shared) (u : Value), BindsTo s fd ⟨[u], []⟩ [(x, u)])
    (hO : Only H) (hsp : sp [.ref a] H (fun v _ => v = .bl true) fun _ _ _ => False)
    (hok : HOk P w H s₁.heap) (hA : ∀ b, H b ≠ none → b = a) (hK : H a ≠ none → K.lookup a = none) :
    codeAny (model P w) callerA (.call (.ref fa) ⟨[.ref a], []⟩) (fun r s' => r = .ok (.ret (.bool true)) ∧ OldK s₁.heap s'.heap ∧ s'.os = s₁.os ∧ AllBare s'.gens) s₁ := by
  have tr : ∀ {b : Addr}, H b ≠ none → b = a := fun {b} q => hA b q
  have free : ∀ {b : Addr} {o : Obj}, s₁.heap.get? b = some o → (b = a → False) → H b = none := fun {b o} _ q => by
    cases z : H b with
    | none => rfl
    | some u => exact (q (tr (by rw [z]; exact fun y => nomatch y))).elim
  have dicts : ∀ {b : Addr} {o : Obj} {es : Array DictEntry} {ep : Nat}, s₁.heap.get? b = some o → o.data = .dict es ep → H b = none := fun {b o es ep} e d => free e fun z => by
    rw [z, ha] at e
    cases e
    exact nomatch d
  have names : ∀ {b : Addr} {m : Str → Option Value}, s₁.heap.Ns b m → (hidT s₁.heap H).Ns b m := fun {b m} ⟨o, es, ep, e, d, r⟩ => ⟨o, es, ep, hidT_get e (dicts e d), d, r⟩
  have hKb : K.In (hidT s₁.heap H) := fun b o e => hidT_get (KX b o e) (by
    cases z : H b with
    | none => rfl
    | some u =>
      have y : H b ≠ none := by rw [z]; exact fun y => nomatch y
      have ba := tr y
      rw [ba] at e y
      rw [hK y] at e
      cases e)
  have hM : Mod K mg (hidT s₁.heap H) := ⟨hKb, names hns, ⟨mb, names hb, hbb⟩, hlim.elim fun mc z => ⟨mc, names z.1, z.2⟩⟩
  have e0 : Env0 P w K mg (hidT s₁.heap H) callerA [] s₁ H := ⟨rfl, hM, fun b o e => of_hidT e, Nat.le_of_eq (hidT_size _ _), trivial, fun b hb => (nomatch (show b ∈ ([] : List Addr) from hb)), hok, .of_eq hg⟩
  have run := (F _ hKb (names hns)).run callerA [] s₁ H ⟨[.ref a], []⟩ [.ref a] [.ref a] _ _ hr rfl e0 (hbind s₁ (.ref a)) (.cons rfl .nil) hsp
  refine codeAny_mono run fun res s' h => ?_
  cases res with
  | error e =>
    obtain ⟨_, _, _, _, _, _, _, _, _, _, _, _, z⟩ := h
    exact z.elim
  | ok fl =>
    cases fl with
    | next => exact h.elim
    | brk => exact h.elim
    | cont => exact h.elim
    | ret u =>
      obtain ⟨v, H', os, bare, un, hok', r', q⟩ := h
      have q' : v = .bl true := q
      rw [q'] at r'
      obtain rfl : u = Value.bool true := r'
      refine ⟨rfl, OldK.of_keep fun b o e => ?_, os, bare⟩
      rcases hO b with z | ⟨ob, xs, z⟩
      · exact un.keep b o e z (fun y => (nomatch (show b ∈ ([] : List Addr) from y))) (fun y => (nomatch y))
      · have e1 := (hok b _ z).1
        rw [e] at e1
        cases e1
        exact (hok' b _ (un.frzs b _ _ z)).1

theorem law_g {P : Program} {w : World} {K : PySem.W.Frag} {mg mb : Str → Option Value} {k : Nat} {fa a : Addr} {fd : FuncData} {x : Str} {sp : Sp} {s₁ : Shared} {vs : List Value} {ns : List Int}
    (KX : K.In s₁.heap) (hns : s₁.heap.Ns mainGlobals mg) (hb : s₁.heap.Ns builtinsNs mb) (hbb : ∀ y : Str, y ≠ "__name__" → mb y = bootBuiltins y) (hlim : s₁.heap.NoLimit) (hg : s₁.gens = #[])
    (ha : s₁.heap.get? a = some { cls := .type "list", data := .seq vs.toArray }) (hi : IntsAre vs ns) (hl : ns.length ≤ sizeLine) (hr : Room k callerA)
    (F : ∀ base : Heap, K.In base → base.Ns mainGlobals mg → FnG P w K mg base (L2.CX P w) k fa fd [x] sp) (hbind : ∀ (s : Shared) (u : Value), BindsTo s fd ⟨[u], []⟩ [(x, u)])
    (hsp : ∀ H : Hp, Only H → SqL K H a (ns.map V.int) → sp [.ref a] H (fun v _ => v = .bl true) fun _ _ _ => False) :
    codeAny (model P w) callerA (.call (.ref fa) ⟨[.ref a], []⟩) (fun r s' => r = .ok (.ret (.bool true)) ∧ OldK s₁.heap s'.heap ∧ s'.os = s₁.os ∧ AllBare s'.gens) s₁ := by
  have rv := vals_ints hi
  have lenV := hi.length
  cases hk : K.lookup a with
  | some o =>
    have e := KX a o hk
    rw [ha] at e
    cases e
    refine law_at (fun _ => none) KX hns hb hbb hlim hg ha hr F hbind (fun _ => .inl rfl) (hsp _ (fun _ => .inl rfl) ?_) (fun b u z => ?_) (fun b z => absurd rfl z) fun z => absurd rfl z
    · exact .inr ⟨_, vs.toArray, _, hk, rfl, rfl, rfl, by rw [List.size_toArray, lenV]; exact hl, by simpa using rv⟩
    · have z' : (none : Option HO) = some u := z
      cases z'
  | none =>
    have hon : Only (fun b => if b = a then some (.frz { cls := .type "list", data := .seq vs.toArray } (.lst (ns.map V.int))) else none) := fun b => by
      by_cases q : b = a
      · exact Or.inr ⟨_, _, if_pos q⟩
      · exact Or.inl (if_neg q)
    refine law_at _ KX hns hb hbb hlim hg ha hr F hbind hon (hsp _ hon (.inl (.inr ⟨_, if_pos rfl⟩))) (fun b u z => ?_) (fun b z => ?_) fun _ => hk
    · by_cases q : b = a
      · have y := (if_pos q).symm.trans z
        cases y
        subst q
        exact ⟨ha, by rw [List.length_map]; exact hl, vs, _, rv, ha⟩
      · have y := (if_neg q).symm.trans z
        cases y
    · by_cases q : b = a
      · exact q
      · exact absurd (if_neg q) z
theorem walk_g {l : PySem.W.OpenLaw} {n k : Nat} {q : Program} {loose : List Str} {XP : (Str → Option Value) → Heap → Prop} {YP : World → Heap → Prop} {d : DefRec} {K : Params → PySem.W.Frag} {x : Str} {m : List D → M D}
    (hn : l.most = some n) (hn2 : n ≤ sizeLine) (hdf : d.params.defaults = []) (hr : Room k callerA)
    (hY : ∀ (w : World) (h : Heap), YP w h → (K w.params).In h)
    (F : ∀ (w : World) (mg : Str → Option Value) (fa : Addr) (h : Heap), (K w.params).In h → h.Ns mainGlobals mg → mg d.name = some (.ref fa) →
      ∃ fd : FuncData, (∀ (s : Shared) (u : Value), BindsTo s fd ⟨[u], []⟩ [(x, u)]) ∧
        ∀ base : Heap, (K w.params).In base → base.Ns mainGlobals mg → FnG l.prog w (K w.params) mg base (L2.CX l.prog w) k fa fd [x] (spD (K w.params) mg 1 m))
    (hm : ∀ ns : List Int, ns.length ≤ n → ∃ ah', m [.fro (ns.map D.int)] [] = .ok (.bl true) ah') :
    PySem.W.WalkO q loose XP YP l.row.toRowW d [] (fun f vs => PySem.call f vs) := by
  refine Att.attach_call hn hdf fun w s₀ s₁ mg mb fa o pm cd doc a vs ns G Y ho hd hcd hmg hobj hints hlen hg => ?_
  obtain ⟨fd, bd, hF⟩ := F w mg fa _ (hY w _ Y) G.T.g hmg
  refine law_g (hY w _ Y) G.T.g G.T.b G.T.builtins G.T.nolimit hg hobj hints (Nat.le_trans hlen hn2) hr hF bd fun H hO hS => ?_
  obtain ⟨ah', e⟩ := hm ns hlen
  let S : Sit := ⟨fun _ => 0, [], H, []⟩
  have nol : ∀ b, ¬ Liv S b := fun b z => by
    rcases z with ⟨i, o, h, _⟩ | z
    · have h' : ([] : AH)[i]? = some (some o) := h
      rw [List.getElem?_nil] at h'
      cases h'
    · exact nomatch (show b ∈ ([] : List Addr) from z)
  have rints : ∀ ns : List Int, RVs (K w.params) S (ns.map D.int) (ns.map V.int) := fun ns => by
    induction ns with
    | nil => exact .nil
    | cons i r ih => exact .cons (.int i) ih
  refine ⟨S, [.fro (ns.map D.int)], rfl, ⟨fun i o h => ?_, fun i j o o' h => ?_, fun b z => (nomatch (show b ∈ ([] : List Addr) from z)), fun i o h => ?_⟩, .cons (.fro ?_ (rints ns)) .nil, rfl, ?_⟩
  · have h' : ([] : AH)[i]? = some (some o) := h
    rw [List.getElem?_nil] at h'
    cases h'
  · have h' : ([] : AH)[i]? = some (some o) := h
    rw [List.getElem?_nil] at h'
    cases h'
  · have h' : ([] : AH)[i]? = some (some o) := h
    rw [List.getElem?_nil] at h'
    cases h'
  · rcases hS with (h | ⟨o, h⟩) | h
    · rcases hO a with z | ⟨o, xs, z⟩
      · rw [h] at z; cases z
      · rw [h] at z; cases z
    · exact .inl ⟨o, h, nol a⟩
    · exact .inr h
  · rw [show m [.fro (ns.map D.int)] S.ah = .ok (.bl true) ah' from e]
    exact fun S' _ _ _ v r => by cases r; rfl
end Mi
set_option Elab.async false
set_option linter.all false
set_option maxRecDepth 100000
set_option maxHeartbeats 4000000
namespace Mi
open PySem PySem.Spec PyProof.Rows L2
def FU : Nat := 2 ^ 20000
section
variable {X : Cx} {EP : EPT} {K : PySem.W.Frag} {pos : Pos}
theorem Rm.blk (r : Rm X) {s : Shared} {H : Hp} {scope : Scope} {ce : PySem.Env} {fp : List Addr} : Rm (X.blk s H scope ce fp) := ⟨r.gu, r.un, r.cm⟩
def gRev : D → M D
  | .lst xs => M.ret (.lst xs.reverse)
  | .fro xs => M.ret (.lst xs.reverse)
  | _ => M.no
def gRevN : D → M D
  | .lst xs => newO (.lst xs.reverse)
  | .fro xs => newO (.lst xs.reverse)
  | _ => M.no
def rRevL (K : PySem.W.Frag) : V → Hp → VK → Prop := fun x H1 Q => ∃ a xs, x = .ref a ∧ SqL K H1 a xs ∧ ∀ p, H1 p = none → Q (.ref p) (upd H1 p (.lst xs.reverse))
theorem g_rev : Good1 K EP (rRevL K) gRev := by
  intro S x v Q ok rx p
  unfold gRev at p
  split at p
  · cases rx with
    | lst h r => exact ⟨_, _, rfl, SqL.of h.1, new_lst ok r.reverse p⟩
  · cases rx with
    | fro h r => exact ⟨_, _, rfl, h.seq, new_lst ok r.reverse p⟩
  · exact False.elim p
theorem g_revN : Good1 K EP (rRevL K) gRevN := by
  intro S x v Q ok rx p
  unfold gRevN at p
  split at p
  · cases rx with
    | lst h r => exact ⟨_, _, rfl, SqL.of h.1, new_lstN ok r.reverse p⟩
  · cases rx with
    | fro h r => exact ⟨_, _, rfl, h.seq, new_lstN ok r.reverse p⟩
  · exact False.elim p
theorem d_rev {e : Expr} {f : Lc → M D} {k : Nat} {p1 p2 p3 : Pos} (he : PE X e (TD X.K EP f)) : PE X (.Subscript e (.Slice none none (some (.UnaryOp .USub (.Constant (.int 1) k p1) p2)) p3) pos) (TD X.K EP (e1 gRev f)) :=
  PE.by (pe_revL he) fun _ _ _ h => run1 (r := rRevL X.K) g_rev h
theorem d_revN {e : Expr} {f : Lc → M D} {k : Nat} {p1 p2 p3 : Pos} (he : PE X e (TD X.K EP f)) : PE X (.Subscript e (.Slice none none (some (.UnaryOp .USub (.Constant (.int 1) k p1) p2)) p3) pos) (TD X.K EP (e1 gRevN f)) :=
  PE.by (pe_revL he) fun _ _ _ h => run1 (r := rRevL X.K) g_revN h
/-! a < b < c -/
def eCh (g g' : D → D → M D) (fa fb fc : Lc → M D) : Lc → M D := fun env => M.andThen (fa env) fun x => M.andThen (fb env) fun y => M.andThen (g x y) fun z => match z with
  | .bl k => if k = true then M.andThen (fc env) fun w => g' y w else M.ret (.bl false)
  | _ => M.no
theorem d_chain {op op' : CmpOp} {r r' : R2} {g g' : D → D → M D} {a b c : Expr} {fa fb fc : Lc → M D} (ho : OpR X (compareOp op) r) (hg : Good2 X.K EP r g) (ho' : OpR X (compareOp op') r') (hg' : Good2 X.K EP r' g') (ha : PE X a (TD X.K EP fa)) (hb : PE X b (TD X.K EP fb)) (hc : PE X c (TD X.K EP fc))
    (hm : lastMarks [op, op'] [b, c] = false := by with_unfolding_all rfl) : PE X (.Compare a [op, op'] [b, c] pos) (TD X.K EP (eCh g g' fa fb fc)) := by
  refine PE.by (pe_chain ho ho' ha hb hc hm) fun σ H Q ⟨S, env, e, ok, re, p⟩ => ?_
  subst e
  refine ⟨S, env, rfl, ok, re, (Post.split p).imp fun x S1 x1 o1 q1 v rv => ⟨S1, env, rfl, o1, re.ext x1, (Post.split q1).imp fun y S2 x2 o2 q2 w rw => ?_⟩⟩
  refine hg S2 x y v w _ o2 (rv.ext x2) rw ((Post.split q2).imp fun z S3 x3 o3 q3 u ru => ?_)
  split at q3
  · cases ru
    rename_i k
    refine ⟨k, rfl, ?_⟩
    cases k with
    | true => exact ⟨S3, env, rfl, o3, ((re.ext x1).ext x2).ext x3, (Post.split q3).imp fun t S4 x4 o4 q4 t' rt => hg' S4 y t w t' _ o4 ((rw.ext x3).ext x4) rt q4⟩
    | false => exact o3.ret (a := D.bl false) q3 _ (.bl false)
  · exact False.elim q3
/-! x in xs, of flat things -/
def D.atom : D → Bool
  | .non => true
  | .bl _ => true
  | .int _ => true
  | .str _ => true
  | _ => false
def D.toV : D → V
  | .non => .non
  | .bl b => .bl b
  | .int i => .int i
  | .str x => .str x
  | _ => .non
theorem RV.atom {S : Sit} {d : D} {v : V} (r : RV K S d v) (h : d.atom = true) : v = d.toV ∧ flatV v = true := by
  cases r with
  | non => exact ⟨rfl, rfl⟩
  | bl b => exact ⟨rfl, rfl⟩
  | int b => exact ⟨rfl, rfl⟩
  | str b => exact ⟨rfl, rfl⟩
  | tup _ _ => cases h
  | lst _ _ => cases h
  | fro _ _ => cases h
  | emp _ => cases h
  | ref _ => cases h
  | oth => cases h
theorem RVs.atoms {S : Sit} : ∀ {ds : List D} {vs : List V}, RVs K S ds vs → ds.all D.atom = true → vs = ds.map D.toV ∧ vs.all flatV = true
  | _, _, .nil, _ => ⟨rfl, rfl⟩
  | _, _, .cons r t, h => by
    rw [List.all_cons, Bool.and_eq_true_iff] at h
    obtain ⟨e1, f1⟩ := r.atom h.1
    obtain ⟨e2, f2⟩ := RVs.atoms t h.2
    exact ⟨by rw [List.map_cons, ← e1, ← e2], by rw [List.all_cons, f1, f2]; rfl⟩
def itemsOf : D → Option (List D)
  | .lst xs => some xs
  | .fro xs => some xs
  | .tup xs => some xs
  | _ => none
def gInB (neg : Bool) (x y : D) : M D := M.andThen (M.lift (itemsOf y)) fun ys => M.when (x.atom && ys.all D.atom) (M.ret (.bl (if neg = true then !inV x.toV (ys.map D.toV) else inV x.toV (ys.map D.toV))))
def gIn := gInB false
def gNotIn := gInB true
theorem g_inB (neg : Bool) : Good2 K EP (rIn K neg) (gInB neg) := by
  intro S x y v w Q ok rx ry p
  obtain ⟨ys, e, p⟩ := Post.lifted (Post.split p) ok
  obtain ⟨c, p⟩ := Post.whened p
  have c' := Bool.and_eq_true_iff.mp c
  obtain ⟨ex, fx⟩ := rx.atom c'.1
  have q := ok.ret p _ (.bl _)
  rw [← ex] at q
  cases ry with
  | lst h r => cases e; obtain ⟨e2, f2⟩ := r.atoms c'.2; rw [← e2] at q; exact ⟨_, _, rfl, .inl (SqL.of h.1), fx, f2, q⟩
  | fro h r => cases e; obtain ⟨e2, f2⟩ := r.atoms c'.2; rw [← e2] at q; exact ⟨_, _, rfl, .inl h.seq, fx, f2, q⟩
  | tup h r => cases e; obtain ⟨e2, f2⟩ := r.atoms c'.2; rw [← e2] at q; exact ⟨_, _, rfl, .inr h.seq, fx, f2, q⟩
  | non => cases e
  | bl _ => cases e
  | int _ => cases e
  | str _ => cases e
  | emp _ => cases e
  | ref _ => cases e
  | oth => cases e
theorem g_in : Good2 K EP (rIn K false) gIn := g_inB false
theorem g_notIn : Good2 K EP (rIn K true) gNotIn := g_inB true
/-! k in d -/
def g_din (y x : D) : M D := match x with
  | .ref n => M.andThen (getO n) fun o => M.andThen (M.lift (getK o)) fun kds => M.andThen (M.lift (toKey y)) fun k => M.ret (.bl (lookD kds k).isSome)
  | _ => M.no
def g_dnotin (y x : D) : M D := match x with
  | .ref n => M.andThen (getO n) fun o => M.andThen (M.lift (getK o)) fun kds => M.andThen (M.lift (toKey y)) fun k => M.ret (.bl (!(lookD kds k).isSome))
  | _ => M.no
theorem look_some {S : Sit} {kds : List (Key × D)} {kvs : List (Key × V)} {k : Key} (r : RKs K S kds kvs) : (valV kvs k).isSome = (lookD kds k).isSome := by
  cases h : lookD kds k with
  | none => rw [r.none_of h]; rfl
  | some d =>
    obtain ⟨v, e, _⟩ := r.look h
    rw [e]; rfl
theorem good_din : Good2 K EP (fun y x H Q => ∃ a o, x = V.ref a ∧ DGet H a y o ∧ Q (.bl o.isSome) H) g_din := by
  intro S y x w v Q ok ry rx p
  unfold g_din at p
  split at p
  · cases rx with
    | ref hi =>
      obtain ⟨kds, kvs, e1, e2, r, p⟩ := Post.gotK p ok
      obtain ⟨k, k1, g⟩ := Post.lifted (Post.split p) ok
      have q := ok.ret g _ (.bl _)
      rw [← look_some r] at q
      exact ⟨_, _, rfl, .inl ⟨kvs, k, .inl e2, toKey_rv ry k1, rfl⟩, q⟩
  · exact False.elim p
theorem good_dnotin : Good2 K EP (fun y x H Q => ∃ a o, x = V.ref a ∧ DGet H a y o ∧ Q (.bl (!o.isSome)) H) g_dnotin := by
  intro S y x w v Q ok ry rx p
  unfold g_dnotin at p
  split at p
  · cases rx with
    | ref hi =>
      obtain ⟨kds, kvs, e1, e2, r, p⟩ := Post.gotK p ok
      obtain ⟨k, k1, g⟩ := Post.lifted (Post.split p) ok
      have q := ok.ret g _ (.bl _)
      rw [← look_some r] at q
      exact ⟨_, _, rfl, .inl ⟨kvs, k, .inl e2, toKey_rv ry k1, rfl⟩, q⟩
  · exact False.elim p
theorem d_din {i o : Expr} {fi fo : Lc → M D} (rm : Rm X) (hi : PE X i (TD X.K EP fi)) (ho : PE X o (TD X.K EP fo)) (hm : behindInMarks .In o = false := by rfl) : PE X (.Compare i [.In] [o] pos) (TD X.K EP (e2 g_din fi fo)) :=
  PE.by (pe_cmp (pc_din (by have := rm.un; omega) hi ho) hm) fun _ _ _ h => run2 (r := fun y x H Q => ∃ a o, x = V.ref a ∧ DGet H a y o ∧ Q (.bl o.isSome) H) good_din h
theorem d_dnotin {i o : Expr} {fi fo : Lc → M D} (rm : Rm X) (hi : PE X i (TD X.K EP fi)) (ho : PE X o (TD X.K EP fo)) (hm : behindInMarks .NotIn o = false := by rfl) : PE X (.Compare i [.NotIn] [o] pos) (TD X.K EP (e2 g_dnotin fi fo)) :=
  PE.by (pe_cmp (pc_dnotin (by have := rm.un; omega) hi ho) hm) fun _ _ _ h => run2 (r := fun y x H Q => ∃ a o, x = V.ref a ∧ DGet H a y o ∧ Q (.bl (!o.isSome)) H) good_dnotin h
end
/-! ## what the top leaves -/
structure DefAt (K : PySem.W.Frag) (mg : Str → Option Value) (x : Str) (st : Stmt) (ps : List Str) : Type where
  f : Addr
  fd : FuncData
  fn : Fun K x x st f fd
  ix : mg x = some (.ref f)
  bd : Binds K fd ps []
def defAt {K : PySem.W.Frag} {h : Heap} {mg : Str → Option Value} (X : K.In h) (G : h.Ns mainGlobals mg) {x : Str} {st : Stmt} {f : Addr} {oc : Value} {od an : Option Addr} {osl : Array (Option Value)} {kV doc pm cdv ct : Value} (ps : List Str)
    (a : PySem.W.nsIn K mainGlobals x = some (some (.ref f))) (l : K.lookup f = some ⟨oc, od, .func (PySem.W.fnOf x x (defArgs st) (defBody st) (defScope st) .none kV doc pm an cdv ct), osl⟩)
    (c : PySem.W.codeIn K cdv x = true) (k : PySem.W.keepIn K (.ref f) = true)
    (hb : ∀ (kV doc pm : Value) (an : Option Addr) (cdv ct : Value) (us : List Value), us.length = ps.length → bindArgs (PySem.W.fnOf x x (defArgs st) (defBody st) (defScope st) .none kV doc pm an cdv ct) ⟨us, []⟩ = pure (ps.zip us)) : DefAt K mg x st ps :=
  ⟨f, _, fun_mk l c k, PySem.W.mg_of X G a, (fun_mk l c k).binds hb⟩
end Mi
set_option Elab.async false
set_option linter.all false
set_option maxRecDepth 100000
set_option maxHeartbeats 4000000
namespace Mi
open PySem PySem.Spec PyProof.Rows L2
/-! ## exceptions of own classes, without what they bear -/
section
variable {X : Cx} {pos : Pos}
theorem pmk_own0 {C : Addr} {bmB : List Value} {B newId initId : String} {x : Str} {p : Pos} (F : ExcBaseFacts B newId initId bmB) (q : PySem.W.excIn X.K C bmB newId = true) (gC : X.mg x = some (.ref C)) (kC : PySem.W.keepIn X.K (.ref C) = true) (r : Raises X (.ref C)) (hg : Gl X x)
    (hdb : (x == ("__debug__" : Str)) = false := by decide) : PMk X (.Call (.Name x p) [] [] pos) (fun _ H Q => Q (.ref C) none H) := by
  intro pins s σ H Q I h
  refine wpAny_Call_Name_kw (ld_glob I hg gC ?_ hdb)
  refine PySem.W.callWith_K0 I.kIn kC ?_
  show wpAny _ _ (call (.ref C) []) _ _ _
  obtain ⟨bm, N, nm, qn, bs, hdct, sn, sub, ab, col, dd, k0, k1, k2, k3, k5, mN, hC, hN, hni, T⟩ := exc_obj I.kIn q
  refine wpAny_call_exc_subT F T hC hN hni (fun h' e hm => ?_) (Nat.zero_le _)
  exact mk_of I hm r h (I.hok.gone hm.new)
/-- an own exception class of the module -/
structure ExAt (K : PySem.W.Frag) (mg : Str → Option Value) (x : Str) : Type where
  C : Addr
  B : String
  nw : String
  ini : String
  bm : List Value
  F : ExcBaseFacts B nw ini bm
  q : PySem.W.excIn K C bm nw = true
  ix : mg x = some (.ref C)
  kp : PySem.W.keepIn K (.ref C) = true
  sb : PySem.W.subIn K (.ref C) (.type "BaseException") = some true
  ty : PySem.W.typeIn K (.ref C) = some (.type "type")
theorem exm_mk {K : PySem.W.Frag} {D C : Addr} {b : Bool} (i : PySem.W.isClsIn K C = true) (hb : PySem.W.subIn K (.ref C) (.type "BaseException") = some true) (ht : PySem.W.typeIn K (.ref C) = some (.type "type")) (hs : PySem.W.subIn K (.ref D) (.ref C) = some b) : PySem.W.exmOne K (.ref D) (.ref C) = some b := by
  have i' : (PySem.W.clsIn K C).isSome = true := i
  unfold PySem.W.exmOne
  rw [hb, if_pos (by rfl)]
  show (if ((PySem.W.clsIn K C).isSome && PySem.W.typeIn K (.ref C) == some (.type "type")) = true then PySem.W.subIn K (.ref D) (.ref C) else none) = some b
  rw [i', ht, if_pos (by rfl)]
  exact hs
/-- a constant of the module -/
structure CoAt (K : PySem.W.Frag) (mg : Str → Option Value) (x : Str) (d : D) : Type where
  v : V
  u : Value
  ix : mg x = some u
  rel : RelV v u
  rv : ∀ S : Sit, RV K S d v
theorem d_const {EP : EPT} {x : Str} {p : Pos} {d : D} (hg : Gl X x) (T : CoAt X.K X.mg x d) (hdb : (x == ("__debug__" : Str)) = false := by decide) : PE X (.Name x p) (TD X.K EP (eC d)) := by
  refine PE.by (pe_glob hg T.ix T.rel hdb) fun σ H Q ⟨S, env, e, ok, re, q⟩ => ?_
  subst e
  exact ok.ret q _ (T.rv S)
def co_int {K : PySem.W.Frag} {mg : Str → Option Value} {x : Str} {i : Int} {t : Tok} (h : mg x = some (.int i t)) : CoAt K mg x (.int i) := ⟨.int i, _, h, ⟨t, rfl⟩, fun _ => .int i⟩
/-- ints as objects -/
inductive IntVs : List Int → List Value → Prop
  | nil : IntVs [] []
  | cons (i : Int) (t : Tok) {is : List Int} {us : List Value} : IntVs is us → IntVs (i :: is) (.int i t :: us)
theorem IntVs.vals : ∀ {is : List Int} {us : List Value}, IntVs is us → Vals (is.map V.int) us
  | _, _, .nil => .nil
  | _, _, .cons i t h => .cons ⟨t, rfl⟩ h.vals
theorem rvs_ints {K : PySem.W.Frag} {S : Sit} : ∀ is : List Int, RVs K S (is.map D.int) (is.map V.int)
  | [] => .nil
  | i :: is => .cons (.int i) (rvs_ints is)
def co_tup {K : PySem.W.Frag} {mg : Str → Option Value} {x : Str} {is : List Int} {a : Addr} {dd : Option Addr} {its : Array Value} {n : Nat} {sl : Array (Option Value)} (h : mg x = some (.ref a)) (l : K.lookup a = some ⟨.type "tuple", dd, .seq its n, sl⟩) (hz : its.size ≤ 1000) (hi : IntVs is its.toList) : CoAt K mg x (.tup (is.map D.int)) :=
  ⟨.ref a, _, h, rfl, fun S => .tup (.inr ⟨_, its, n, l, rfl, rfl, (by rw [sizeLine_eq]; omega), hi.vals⟩) (rvs_ints is)⟩
def sRaise (x : Str) : MS := fun env ah => .ex ⟨x, []⟩ env ah
theorem s_raise {W : WX} {x : Str} {p pos' : Pos} (rm : Rm X) (tk : Takes X W) (T : ExAt X.K X.mg x) (hg : Gl X x) (hdb : (x == ("__debug__" : Str)) = false := by decide) : PS X (.Raise (some (.Call (.Name x p) [] [] pos')) none pos) (TF X.K (EPw X.K X.mg W) (sRaise x)) := by
  refine PS.by (ps_raise rm.cm tk (pmk_own0 T.F T.q T.ix T.kp (raises_own T.sb T.ty) hg hdb)) fun σ H Dn ⟨S, env, e, ok, re, p⟩ => ?_
  subst e
  obtain ⟨C, e1, e2⟩ := p S (Ext.refl S) ok rfl σ re
  have e3 : some (Value.ref C) = some (.ref T.C) := e1.symm.trans T.ix
  cases e3
  exact e2 none (.inl ⟨rfl, rfl⟩)
/-- except x: suite -/
def sTry (sub : Str → Option Bool) (g gs : MS) : MS := fun env ah => match g env ah with
  | .no => .no
  | .ok a ah' => .ok a ah'
  | .ex e env' ah' => match sub e.cls with
    | none => .no
    | some true => hush (gs env') ah'
    | some false => .ex e env' ah'
theorem s_try {W : WX} {x : Str} {C : Addr} {np pos' : Pos} {body suite : List Stmt} {b₀ : Stmt} {sub : Str → Option Bool} {g gs : MS} (hs : X.stack = X.env :: X.outer) (hf : X.env.frame = some X.env.locals) (hc : Names X x (.ref C)) (tk : Takes X W)
    (hsub : ∀ y b, sub y = some b → ∃ D, X.mg y = some (.ref D) ∧ PySem.W.exmOne X.K (.ref D) (.ref C) = some b)
    (hb : ∀ (W' : WX) (pn : List (Addr × Obj)) (xe : Value → Shared → Prop), Takes (X.tr pn xe) W' → PassesOwn (model X.prog X.w) X.A X.env xe → PSs (X.tr pn xe) body (TF X.K (EPw X.K X.mg W') g))
    (hsu : ∀ (a : Addr) (pn : List (Addr × Obj)), PSs (X.suite a pn) (b₀ :: suite) (TF X.K EP0 gs)) :
    PS X (.Try body [.ExceptHandler (some (.Name x np)) none (b₀ :: suite) pos'] [] [] pos) (TF X.K (EPw X.K X.mg W) (sTry sub g gs)) := by
  refine PS.by (ps_try_only (tb := fun W' => TF X.K (EPw X.K X.mg W') g) (ts := fun _ _ _ => TF X.K EP0 gs) (Wout := W) hs hf hc tk hb (fun a oe cls d pn _ _ => hsu a _)) fun σ H Dn ⟨S, env, e, ok, re, p⟩ => ?_
  subst e
  refine ⟨S, env, rfl, ok, re, ?_⟩
  unfold sTry at p
  revert p
  generalize g env S.ah = r
  intro p
  cases r with
  | no => exact False.elim p
  | ok a ah' => exact p
  | ex e env' ah' =>
    intro S' x' o' hq σ' re'
    revert p
    show Post _ _ _ _ (match sub e.cls with
      | none => .no
      | some true => hush (gs env') ah'
      | some false => .ex e env' ah') → _
    cases hse : sub e.cls with
    | none => intro p; exact False.elim p
    | some b =>
      obtain ⟨D, hD, hex⟩ := hsub _ _ hse
      cases b with
      | true =>
        intro p
        refine ⟨D, hD, fun d _ => ⟨true, hex, fun _ a na => ⟨S', env', rfl, o', re', ?_⟩, fun z => nomatch z⟩⟩
        have p' := p.later x'
        rw [← hq] at p'
        exact Post.hushed p'
      | false =>
        intro p
        obtain ⟨D', hD', hw⟩ := p S' x' o' hq σ' re'
        exact ⟨D', hD', fun d hd => ⟨false, (by rw [hD] at hD'; cases hD'; exact hex), (fun z => nomatch z), fun _ => hw d hd⟩⟩
theorem Post.up {K : PySem.W.Frag} {EP : EPT} {S : Sit} {α : Type} {G : α → Sit → Prop} {r : R α} (h : Post K EP0 S G r) : Post K EP S G r := by
  cases r with
  | no => exact h
  | ok a ah' => exact h
  | ex e env' ah' => exact fun S' x' o' hq σ' re' => (h S' x' o' hq σ' re').elim
theorem s_try0 {x : Str} {C : Addr} {np pos' : Pos} {body suite : List Stmt} {b₀ : Stmt} {sub : Str → Option Bool} {g gs : MS} (hs : X.stack = X.env :: X.outer) (hf : X.env.frame = some X.env.locals) (hc : Names X x (.ref C))
    (hsub : ∀ y b, sub y = some b → ∃ D, X.mg y = some (.ref D) ∧ PySem.W.exmOne X.K (.ref D) (.ref C) = some b)
    (hb : ∀ (W' : WX) (pn : List (Addr × Obj)) (xe : Value → Shared → Prop), Takes (X.tr pn xe) W' → PassesOwn (model X.prog X.w) X.A X.env xe → PSs (X.tr pn xe) body (TF X.K (EPw X.K X.mg W') g))
    (hsu : ∀ (a : Addr) (pn : List (Addr × Obj)), PSs (X.suite a pn) (b₀ :: suite) (TF X.K EP0 gs)) :
    PS X (.Try body [.ExceptHandler (some (.Name x np)) none (b₀ :: suite) pos'] [] [] pos) (TF X.K EP0 (sTry sub g gs)) :=
  PS.by (s_try hs hf hc takes_none5 hsub hb hsu) fun _ _ _ ⟨S, env, e, ok, re, p⟩ => ⟨S, env, e, ok, re, p.up⟩
theorem Rm.tr (rm : Rm X) (pn : List (Addr × Obj)) (xe : Value → Shared → Prop) : Rm (X.tr pn xe) := ⟨rm.gu, rm.un, rm.cm⟩
/-- a call of what may let something out -/
theorem post_callX {K : PySem.W.Frag} {mg : Str → Option Value} {S : Sit} {G : D → Sit → Prop} {W : WX} {σ : St} {r : R D} {env : Lc} (h : Post K (EPw K mg W) S G (match r with
  | .no => .no
  | .ok d ah' => .ok d ah'
  | .ex e _ ah' => .ex e env ah')) (re : RE K S env σ) : Post K (EPd K mg (WE W σ)) S G r := by
  cases r with
  | no => exact h
  | ok d ah' => exact h
  | ex e env' ah' =>
    intro S' x' o' hq σ' _
    obtain ⟨C, e1, e2⟩ := h S' x' o' hq σ (re.ext x')
    exact ⟨C, e1, fun d hd => e2 d hd⟩
theorem d_callX {W : WX} {x : Str} {p : Pos} {k n : Nat} {f : Addr} {fd : FuncData} {ps : List Str} {m : List D → M D} {e : Expr} {es : List Expr} {fs : Lc → M (List D)} (tk : Takes X W) (F : FnG X.prog X.w X.K X.mg X.base (L2.CX X.prog X.w) k f fd ps (spD X.K X.mg n m)) (hr : Room k X.A) (rm : Rm X) (hg : Gl X x)
    (hm : X.mg x = some (.ref f)) (hk : PySem.W.keepIn X.K (.ref f) = true) (hb : Binds X.K fd ps []) (ha : PA X (e :: es) (TDs X.K (EPw X.K X.mg W) fs)) (hdb : (x == ("__debug__" : Str)) = false := by decide)
    (he : starEach (e :: es) X.env = (false, eval e X.env) :: starEach es X.env := by rfl) (hpl : (backTo pos (starEach es X.env)).any (·.1) = false := by rfl) : PE X (.Call (.Name x p) (e :: es) [] pos) (TD X.K (EPw X.K X.mg W) (eCall n m fs)) := by
  refine ⟨fun pins s σ H Q I ⟨S, env, e0, ok, re, pp⟩ => ?_⟩
  subst e0
  refine wpAny_Call_Name_kw (ld_glob I hg hm ?_ hdb)
  have hta : TDs X.K (EPw X.K X.mg W) fs σ S.H fun vs H1 => spD X.K X.mg n m vs H1 Q (WE W σ) := ⟨S, env, rfl, ok, re, (Post.split pp).imp fun ds S1 x1 o1 q vs rvs => ?_⟩
  · refine PySem.W.callWith_K (h₀ := X.base) I.ok.mod.kin hk (thn (ha.run pos pins s σ S.H _ I hta) fun us s1 ⟨vs, H1, I1, r, q⟩ => ⟨I1.kIn, ?_⟩) he hpl
    exact run_g F hr rm hb (passAt tk σ) I1 r q
  · obtain ⟨hl, q⟩ := Post.whened q
    exact ⟨S1, ds, rfl, o1, rvs, of_decide_eq_true hl, post_callX q (re.ext x1)⟩
end
section
variable {P : Program} {w : World} {K : PySem.W.Frag} {mg : Str → Option Value} {base : Heap}
/-- a def that may let something out -/
theorem okX {x qual : Str} {st : Stmt} {f : Addr} {fd : FuncData} {N ps : List Str} {k n : Nat} {g : MS} {m : List D → M D} (F : Fun K x qual st f fd) (S : FnScope N ps (defScope st)) (hn : n = ps.length) (hm : m = defM N.length g)
    (hbody : ∀ (cdv : Value) (A : Around) (outer : List PySem.Env) (s : Shared) (H : Hp) (E : XK), Room k (A.deeper (envOfC qual (defScope st) s.heap.objs.size f cdv)) → Rm (cxOf (L2.CX P w) P w K mg base N qual (defScope st) f cdv A outer s H E) →
      Takes (cxOf (L2.CX P w) P w K mg base N qual (defScope st) f cdv A outer s H E) (fun c d _ H => E c d H) →
      PassesOwn (model P w) (cxOf (L2.CX P w) P w K mg base N qual (defScope st) f cdv A outer s H E).A (cxOf (L2.CX P w) P w K mg base N qual (defScope st) f cdv A outer s H E).env (cxOf (L2.CX P w) P w K mg base N qual (defScope st) f cdv A outer s H E).xe →
      PSs (cxOf (L2.CX P w) P w K mg base N qual (defScope st) f cdv A outer s H E) (defBody st) (TF K (EPd K mg E) g)) : FnG P w K mg base (L2.CX P w) (k + 1) f fd ps (spD K mg n m) := by
  subst hn hm
  refine Fun.okG F S (fun vs H Q E ⟨S, ds, _, _, r, hl, _⟩ => by rw [← r.length]; exact hl) fun cdv A outer s H vs Q E hr hgu ⟨S0, ds, e, ok, r, hl, p⟩ => ?_
  subst e
  refine ⟨_, hbody cdv A outer s S0.H E hr ⟨hgu, hr.units, rfl⟩ (takes_of rfl rfl rfl rfl) (passes_of rfl), S0, _, rfl, ok, re_start r, ?_⟩
  unfold defM at p
  revert p
  generalize g (ds.map some ++ List.replicate (N.length - ds.length) none) S0.ah = rr
  intro p
  cases rr with
  | no => exact False.elim p
  | ex e env ah' =>
    intro S' e' o' hq σ re
    exact p S' e' o' hq [] ⟨rfl, fun i d h => by cases i <;> exact nomatch h⟩
  | ok y ah' =>
    obtain ⟨fl, env⟩ := y
    intro S' e' o' hq
    cases fl with
    | nx => exact fun σ _ => p S' e' o' hq _ .non
    | bk => exact False.elim p
    | ct => exact False.elim p
    | rt d => exact p S' e' o' hq
end
end Mi
set_option Elab.async false
set_option linter.all false
set_option maxRecDepth 100000
set_option maxHeartbeats 4000000
namespace Mi
open PySem PySem.Spec PyProof.Rows L2
section
variable {X : Cx} {EP : EPT} {pos : Pos} {a b : Expr} {fa fb : Lc → M D}
/-! ## walked from the end -/
/-- hi - 1, hi - 2, .. so many -/
def rngD (hi : Int) : Nat → List D
  | 0 => []
  | n + 1 => .int (hi - 1) :: rngD (hi - 1) n
theorem rngD_length : ∀ (n : Nat) (hi : Int), (rngD hi n).length = n
  | 0, _ => rfl
  | n + 1, hi => congrArg (· + 1) (rngD_length n (hi - 1))
theorem rngD_get : ∀ (n i : Nat) (hi : Int), i < n → (rngD hi n)[i]? = some (.int (hi - 1 + (i : Nat) * (-1)))
  | n + 1, 0, hi, _ => by
    show some (D.int (hi - 1)) = some (.int (hi - 1 + ((0 : Nat) : Int) * (-1)))
    rw [show hi - 1 + ((0 : Nat) : Int) * (-1) = hi - 1 by omega]
  | n + 1, i + 1, hi, h => by
    show (rngD (hi - 1) n)[i]? = _
    rw [rngD_get n i (hi - 1) (by omega), show hi - 1 - 1 + ((i : Nat) : Int) * (-1) = hi - 1 + ((i + 1 : Nat) : Int) * (-1) by omega]
theorem serves_rngD {K : PySem.W.Frag} {S : Sit} (hi : Int) (n : Nat) : Serves K (Itc (hi - 1) (-1) n) S (rngD hi n) := by
  refine ⟨fun S' i x h => ?_, fun S' x => ?_, fun S' i y H' x o hy d hd => ?_⟩
  · rw [rngD_length] at h; exact h
  · show n ≤ (rngD hi n).length
    rw [rngD_length]
    exact Nat.le_refl _
  · obtain ⟨e1, e2⟩ := hy
    have h := (List.getElem?_eq_some_iff.mp hd).1
    rw [rngD_length] at h
    rw [rngD_get n i hi h] at hd
    cases hd
    subst e2
    exact ⟨e1, .int _⟩
def itRR1 : D → M (List D)
  | .int j => M.when (okRng j) (M.ret (rngD j.toNat j.toNat))
  | _ => M.no
def iOf1 (h : D → M (List D)) (f : Lc → M D) : Lc → M (List D) := fun env => M.andThen (f env) h
theorem i_revR1 {tg : Expr} {p p2 pos2 : Pos} (hg : Gl X "reversed") (hm : X.mg "reversed" = none) (hg2 : Gl X "range") (hm2 : X.mg "range" = none) (ha : PE X a (TD X.K EP fa)) (na : starEach [a] X.env = (false, eval a X.env) :: starEach [] X.env := by rfl)
    (hs : starEach [.Call (.Name "range" p2) [a] [] pos2] X.env = (false, eval (.Call (.Name "range" p2) [a] [] pos2) X.env) :: starEach [] X.env := by rfl) :
    PI X tg (.Call (.Name "reversed" p) [.Call (.Name "range" p2) [a] [] pos2] [] pos) (TI' X.K EP (iOf1 itRR1 fa)) := by
  refine PI.by (pi_revR hg hm (prg_1 hg2 hm2 ha na) hs) fun σ H R ⟨S, env, e, ok, re, p⟩ => ?_
  subst e
  refine ⟨S, env, rfl, ok, re, (Post.split p).imp fun d S1 x1 o1 q v rv => ?_⟩
  unfold itRR1 at q
  split at q
  · cases rv
    rename_i j
    obtain ⟨c, q⟩ := Post.whened q
    have c' := Bool.and_eq_true_iff.mp c
    have h1 := of_decide_eq_true c'.1
    have h2 := of_decide_eq_true c'.2
    refine ⟨j, rfl, (by decide), (by decide), h1, h2, ?_⟩
    have r := o1.ret q _ (serves_rngD (K := X.K) ((j.toNat : Nat) : Int) j.toNat)
    rw [show (0 : Int) + (((j - 0).toNat : Nat) : Int) - 1 = ((j.toNat : Nat) : Int) - 1 by omega, show (j - 0).toNat = j.toNat by omega]
    exact r
  · exact False.elim q
/-! a < b < c, as a test -/
theorem chain_imp {K : PySem.W.Frag} {r r' : R2} {g g' : D → D → M D} {fa fb fc : Lc → M D} {σ : St} {H : Hp} {Q : VK} (hg : Good2 K EP r g) (hg' : Good2 K EP r' g') : TD K EP (eCh g g' fa fb fc) σ H Q → tChain r r' (TD K EP fa) (TD K EP fb) (TD K EP fc) σ H Q := by
  intro ⟨S, env, e, ok, re, p⟩
  subst e
  refine ⟨S, env, rfl, ok, re, (Post.split p).imp fun x S1 x1 o1 q1 v rv => ⟨S1, env, rfl, o1, re.ext x1, (Post.split q1).imp fun y S2 x2 o2 q2 w rw => ?_⟩⟩
  refine hg S2 x y v w _ o2 (rv.ext x2) rw ((Post.split q2).imp fun z S3 x3 o3 q3 u ru => ?_)
  split at q3
  · cases ru
    rename_i k
    refine ⟨k, rfl, ?_⟩
    cases k with
    | true => exact ⟨S3, env, rfl, o3, ((re.ext x1).ext x2).ext x3, (Post.split q3).imp fun t S4 x4 o4 q4 t' rt => hg' S4 y t w t' _ o4 ((rw.ext x3).ext x4) rt q4⟩
    | false => exact o3.ret (a := D.bl false) q3 _ (.bl false)
  · exact False.elim q3
theorem t_chain {op op' : CmpOp} {r r' : R2} {g g' : D → D → M D} {c : Expr} {fc : Lc → M D} (ho : OpR X (compareOp op) r) (hg : Good2 X.K EP r g) (ho' : OpR X (compareOp op') r') (hg' : Good2 X.K EP r' g') (ha : PE X a (TD X.K EP fa)) (hb : PE X b (TD X.K EP fb)) (hc : PE X c (TD X.K EP fc))
    (hm : lastMarks [op, op'] [b, c] = false := by with_unfolding_all rfl) : PT X (.Compare a [op, op'] [b, c] pos) (TB X.K EP (tV (eCh g g' fa fb fc))) :=
  PT.by (pt_chain ho ho' ha hb hc hm) fun _ _ _ q => chain_imp hg hg' (runB q)
/-! an int as a test -/
def tI (f : Lc → M D) : Lc → M Bool := fun env => M.andThen (f env) fun d => match d with
  | .int i => M.ret (i != 0)
  | _ => M.no
theorem t_int {e : Expr} {f : Lc → M D} (h : PE X e (TD X.K EP f)) (he : ∀ whole, isTrue e X.env whole = (do let v ← whole; standAt e.pos; holding [v] (truthy v)) := by intro _; rfl) : PT X e (TB X.K EP (tI f)) := by
  refine PT.by (pt_truth h he) fun σ H Q ⟨S, env, e0, ok, re, p⟩ => ?_
  subst e0
  refine ⟨S, env, rfl, ok, re, (Post.split p).imp fun d S1 x1 o1 q v rv => ?_⟩
  split at q
  · cases rv
    exact ⟨_, rfl, o1.ret q⟩
  · exact False.elim q
/-! ## all -/
def allBl : List D → Option Bool
  | [] => some true
  | .bl b :: ds => (allBl ds).map (b && ·)
  | _ => none
def gAll : List D → M D
  | [.lst xs] => M.andThen (M.lift (allBl xs)) fun b => M.ret (.bl b)
  | _ => M.no
theorem allBl_rv {K : PySem.W.Frag} {S : Sit} : ∀ {ds : List D} {vs : List V} {b : Bool}, RVs K S ds vs → allBl ds = some b → ∃ bs : List Bool, vs = bs.map V.bl ∧ bs.all id = b
  | [], _, b, r, h => by cases r; cases h; exact ⟨[], rfl, rfl⟩
  | d :: ds, _, b, r, h => by
    cases r with
    | cons r1 r2 =>
      unfold allBl at h
      split at h
      · rename_i heq; cases heq
      · rename_i c ds' heq
        cases heq
        obtain ⟨b', e1, e2⟩ := Option.map_eq_some_iff.mp h
        obtain ⟨bs, e3, e4⟩ := allBl_rv r2 e1
        cases r1
        subst e3
        exact ⟨c :: bs, rfl, by rw [List.all_cons, e4]; exact e2⟩
      · cases h
theorem g_all {K : PySem.W.Frag} : GoodL K EP (rAll K) gAll := by
  intro S ds vs Q ok r p
  unfold gAll at p
  split at p
  · obtain ⟨v, rfl, r1⟩ := rvs1 r
    cases r1 with
    | lst h r1 =>
      revert p
      rename_i xs a vs
      cases hb : allBl xs with
      | none => intro p; exact False.elim p
      | some b =>
        intro p
        obtain ⟨bs, e3, e4⟩ := allBl_rv r1 hb
        subst e3
        exact ⟨_, bs, rfl, SqL.of h.1, by rw [e4]; exact ok.ret (a := D.bl b) p _ (.bl b)⟩
  · exact False.elim p
end
end Mi
set_option Elab.async false
set_option linter.all false
set_option maxRecDepth 100000
set_option maxHeartbeats 4000000
set_option exponentiation.threshold 30000
namespace Mi
open PySem PySem.Spec PyProof.Rows L2
/-! ## steps of the mirror -/
theorem wh_go {c : Lc → M Bool} {b : MS} {n : Nat} {env env2 : Lc} {ah ah1 ah2 : AH} (h : c env ah = .ok true ah1) (h2 : b env ah1 = .ok (.nx, env2) ah2) : wh c b (n + 1) env ah = wh c b n env2 ah2 := by
  simp [wh, M.andThen, h, h2]
theorem wh_end {c : Lc → M Bool} {b : MS} {n : Nat} {env : Lc} {ah ah1 : AH} (h : c env ah = .ok false ah1) : wh c b (n + 1) env ah = .ok (.nx, env) ah1 := by
  simp [wh, M.andThen, h, M.ret]
theorem sPs_nx {g h : MS} {env env1 : Lc} {ah ah1 : AH} (e : g env ah = .ok (.nx, env1) ah1) : sPs g h env ah = h env1 ah1 := by
  simp [sPs, M.andThen, e]
theorem sPs_rt {g h : MS} {env env1 : Lc} {ah ah1 : AH} {d : D} (e : g env ah = .ok (.rt d, env1) ah1) : sPs g h env ah = .ok (.rt d, env1) ah1 := by
  simp [sPs, M.andThen, e, M.ret]
theorem sPs_if {t : Lc → M Bool} {a b h : MS} {env : Lc} {ah ah1 : AH} {c : Bool} (e : t env ah = .ok c ah1) : sPs (sIf t a b) h env ah = sPs (if c = true then a else b) h env ah1 := by
  cases c <;> simp [sPs, sIf, M.andThen, e]
theorem sIf_at {t : Lc → M Bool} {a b : MS} {env : Lc} {ah ah1 : AH} {c : Bool} (e : t env ah = .ok c ah1) : sIf t a b env ah = (if c = true then a else b) env ah1 := by
  cases c <;> simp [sIf, M.andThen, e]
theorem sSet_at {i : Nat} {f : Lc → M D} {env : Lc} {ah ah1 : AH} {d : D} (e : f env ah = .ok d ah1) : sSet i f env ah = .ok (.nx, env.set i (some d)) ah1 := by
  simp [sSet, M.andThen, e, M.ret]
theorem sRt_at {f : Lc → M D} {env : Lc} {ah ah1 : AH} {d : D} (e : f env ah = .ok d ah1) : sRt f env ah = .ok (.rt d, env) ah1 := by
  simp [sRt, M.andThen, e, M.ret]
theorem def0_rt {tot : Nat} {g : MS} {ds : List D} {ah ah1 : AH} {d : D} {env : Lc} (e : g (ds.map some ++ List.replicate (tot - ds.length) none) ah = .ok (.rt d, env) ah1) : def0 tot g ds ah = .ok d ah1 := by
  simp [def0, e]
theorem call_at {n : Nat} {m : List D → M D} {fs : Lc → M (List D)} {env : Lc} {ah ah1 ah2 : AH} {ds : List D} {d : D} (e : fs env ah = .ok ds ah1) (hn : ds.length = n) (e2 : m ds ah1 = .ok d ah2) : eCall n m fs env ah = .ok d ah2 := by
  simp [eCall, M.andThen, e, M.when, hn, e2]
theorem fo_nil {gt : D → Lc → M Lc} {b : MS} {env : Lc} {ah : AH} : fo gt b [] env ah = .ok (.nx, env) ah := rfl
theorem fo_go {gt : D → Lc → M Lc} {b : MS} {d : D} {ds : List D} {env env1 env2 : Lc} {ah ah1 ah2 : AH} (h : gt d env ah = .ok env1 ah1) (h2 : b env1 ah1 = .ok (.nx, env2) ah2) : fo gt b (d :: ds) env ah = fo gt b ds env2 ah2 := by
  simp [fo, M.andThen, h, h2]
theorem fo_rt {gt : D → Lc → M Lc} {b : MS} {d r : D} {ds : List D} {env env1 env2 : Lc} {ah ah1 ah2 : AH} (h : gt d env ah = .ok env1 ah1) (h2 : b env1 ah1 = .ok (.rt r, env2) ah2) : fo gt b (d :: ds) env ah = .ok (.rt r, env2) ah2 := by
  simp [fo, M.andThen, h, h2, M.ret]
theorem sFo_at {it : Lc → M (List D)} {gt : D → Lc → M Lc} {b : MS} {env : Lc} {ah ah1 : AH} {ds : List D} (e : it env ah = .ok ds ah1) : sFo it gt b env ah = fo gt b ds env ah1 := by
  simp [sFo, M.andThen, e]
/-! ## the source of drawn numbers -/
structure Q where
  cells : List Int
  left : Int
  mixed : Int
  turn : Int
def srcD (l m t : Int) : List (Key × D) := [(.inr (Str.ofString "cells"), .ref 1), (.inr (Str.ofString "left"), .int l), (.inr (Str.ofString "mixed"), .int m), (.inr (Str.ofString "turn"), .int t)]
def SRC (q : Q) (rest : AH) : AH := some (.dct (srcD q.left q.mixed q.turn)) :: some (.lst (q.cells.map D.int)) :: rest
theorem dget_cells {q : Q} {rest : AH} : gDGet (.ref 0) (.str (Str.ofString "cells")) (SRC q rest) = .ok (.ref 1) (SRC q rest) := rfl
theorem dget_left {q : Q} {rest : AH} : gDGet (.ref 0) (.str (Str.ofString "left")) (SRC q rest) = .ok (.int q.left) (SRC q rest) := rfl
theorem dget_turn {q : Q} {rest : AH} : gDGet (.ref 0) (.str (Str.ofString "turn")) (SRC q rest) = .ok (.int q.turn) (SRC q rest) := rfl
theorem dget_mixed {q : Q} {rest : AH} : gDGet (.ref 0) (.str (Str.ofString "mixed")) (SRC q rest) = .ok (.int q.mixed) (SRC q rest) := rfl
theorem len_cells {q : Q} {rest : AH} : gLen [.ref 1] (SRC q rest) = .ok (.int q.cells.length) (SRC q rest) := by
  simp [gLen, M.andThen, getO, SRC, M.ret]
theorem pop_cells {q : Q} {rest : AH} (h : q.cells ≠ []) : gPop (.ref 1) (SRC q rest) = .ok (.int (q.cells.getLast h)) (SRC { q with cells := q.cells.dropLast } rest) := by
  have hl : (q.cells.map D.int)[q.cells.length - 1]? = some (.int (q.cells.getLast h)) := by
    rw [List.getElem?_map, ← List.getLast?_eq_getElem?, List.getLast?_eq_some_getLast h]
    rfl
  simp only [gPop, M.andThen, getO, SRC, List.getElem?_cons_zero, List.getElem?_cons_succ, M.ret, M.lift, getL, putO, List.length_map, hl, List.set_cons_succ, List.set_cons_zero, List.map_dropLast]
theorem sl : sizeLine = 16777216 := sizeLine_eq
theorem dput_left {q : Q} {rest : AH} {env : Lc} {fo fv : Lc → M D} {x : Int} {q' : Q} {ah : AH} (hv : fv env ah = .ok (.int x) (SRC q' rest)) (ho : fo env (SRC q' rest) = .ok (.ref 0) (SRC q' rest)) :
    Mi.sDPut fo (eC (.str (Str.ofString "left"))) fv env ah = .ok (.nx, env) (SRC { q' with left := x } rest) := by
  have e : (decide ((srcD q'.left q'.mixed q'.turn).length < sizeLine)) = true := by rw [sl]; rfl
  unfold Mi.sDPut
  simp only [M.andThen, hv, ho, eC, M.ret]
  unfold SRC
  simp only [getO, List.getElem?_cons_zero, getK, M.lift, toKey, M.when, putO, List.set_cons_zero, e, M.andThen]
  rfl
theorem dput_turn {q : Q} {rest : AH} {env : Lc} {fo fv : Lc → M D} {x : Int} {q' : Q} {ah : AH} (hv : fv env ah = .ok (.int x) (SRC q' rest)) (ho : fo env (SRC q' rest) = .ok (.ref 0) (SRC q' rest)) :
    Mi.sDPut fo (eC (.str (Str.ofString "turn"))) fv env ah = .ok (.nx, env) (SRC { q' with turn := x } rest) := by
  have e : (decide ((srcD q'.left q'.mixed q'.turn).length < sizeLine)) = true := by rw [sl]; rfl
  unfold Mi.sDPut
  simp only [M.andThen, hv, ho, eC, M.ret]
  unfold SRC
  simp only [getO, List.getElem?_cons_zero, getK, M.lift, toKey, M.when, putO, List.set_cons_zero, e, M.andThen]
  rfl
def pickB : MS := (Mi.sDPut (eV 0) (eC (.str (Str.ofString "left"))) (e1 gPop (eV 2)))
def pickT : Lc → M Bool := (tA (tV (e2 gLt (e2 gDGet (eV 0) (eC (.str (Str.ofString "left")))) (eC (.int 2)))) (tV (e2 gGt (eL gLen (esC (eV 2) esN)) (eC (.int 0)))))
def pickE (most : Int) : Lc := [some (.ref 0), some (.int most), some (.ref 1), none, none, none]
theorem pickT_at (most : Int) (q : Q) (rest : AH) : pickT (pickE most) (SRC q rest) = .ok (decide (q.left < 2) && decide (0 < (q.cells.length : Int))) (SRC q rest) := by
  simp only [pickT, pickE, tA, tV, e2, eL, esC, esN, eV, eC, M.andThen, M.ret, M.lift, List.getElem?_cons_zero, List.getElem?_cons_succ, Option.join_some, dget_left, gLt, gGt, gCmp, gI, M.when, if_true]
  cases decide (q.left < 2) with
  | false => rfl
  | true =>
    simp only [if_true, M.andThen, M.lift, M.ret, len_cells, M.when, Bool.true_and]
theorem pickB_at (most : Int) (q : Q) (rest : AH) (h : q.cells ≠ []) : pickB (pickE most) (SRC q rest) = .ok (.nx, pickE most) (SRC { q with cells := q.cells.dropLast, left := q.cells.getLast h } rest) := by
  refine dput_left (q := q) (q' := { q with cells := q.cells.dropLast }) ?_ rfl
  simp only [e1, eV, pickE, M.andThen, M.lift, List.getElem?_cons_zero, List.getElem?_cons_succ, Option.join_some]
  exact pop_cells h
theorem pick_while (most : Int) (rest : AH) : ∀ (n : Nat) (q : Q), q.cells.length < n → ∃ q', q'.cells.length ≤ q.cells.length ∧ wh pickT pickB n (pickE most) (SRC q rest) = .ok (.nx, pickE most) (SRC q' rest)
  | 0, _, h => nomatch h
  | n + 1, q, h => by
    by_cases hl : (decide (q.left < 2) && decide (0 < (q.cells.length : Int))) = true
    · have h2 := (Bool.and_eq_true_iff.mp hl).2
      have hc : q.cells ≠ [] := fun e => by
        rw [e] at h2
        exact absurd (of_decide_eq_true h2) (by decide)
      obtain ⟨q', il, ih⟩ := pick_while most rest n { q with cells := q.cells.dropLast, left := q.cells.getLast hc } (by
        have : 0 < q.cells.length := List.length_pos_iff.mpr hc
        show q.cells.dropLast.length < n
        rw [List.length_dropLast]
        omega)
      refine ⟨q', by
        have e : q.cells.dropLast.length ≤ q.cells.length := by rw [List.length_dropLast]; omega
        exact Nat.le_trans il e, ?_⟩
      rw [wh_go (by rw [pickT_at, hl]) (pickB_at most q rest hc)]
      exact ih
    · refine ⟨q, Nat.le_refl _, ?_⟩
      rw [wh_end (by rw [pickT_at, Bool.eq_false_iff.mpr hl])]
/-- what pick does is what it is in every law -/
def pickM : MS :=
  (sPs (sIf (tV (e2 gLt (eV 1) (eC (.int 2)))) (sRt (eC (.int 0))) sNx)
    (sPs (sSet 2 (e2 gDGet (eV 0) (eC (.str (Str.ofString "cells")))))
    (sPs (wh pickT pickB FU)
    (sPs (sSet 3 (e2 gDGet (eV 0) (eC (.str (Str.ofString "left")))))
    (sPs (sIf (tV (e2 gGt (eV 3) (eC (.int 1)))) (sPs (Mi.sDPut (eV 0) (eC (.str (Str.ofString "left"))) (e2 gFdiv (eV 3) (eV 1)))
    (sRt (e2 gMod (eL gInt (esC (eV 3) esN)) (eV 1)))) sNx)
    (sPs (Mi.sDPut (eV 0) (eC (.str (Str.ofString "turn"))) (e2 gAdd (e2 gDGet (eV 0) (eC (.str (Str.ofString "turn")))) (eC (.int 1))))
    (sPs (sSet 4 (e2 gDGet (eV 0) (eC (.str (Str.ofString "turn")))))
    (sPs (sSet 5 (e2 gMod (eL gInt (esC (e2 gAdd (e2 gDGet (eV 0) (eC (.str (Str.ofString "mixed")))) (e2 gMul (eV 4) (eC (.int 104729)))) esN)) (eC (.int 998244353))))
    (sPs (sSet 5 (e2 gMod (eL gInt (esC (e2 gAdd (e2 gMul (eV 5) (eV 5)) (e2 gMul (eV 4) (eC (.int 17)))) esN)) (eC (.int 2147483647))))
    (sRt (e2 gMod (eL gInt (esC (e2 gFdiv (eV 5) (eC (.int 16))) esN)) (eV 1))))))))))))
def Q.ok (q : Q) : Prop := q.cells.length ≤ 63
theorem FU_big {k : Nat} (h : k ≤ 20000) : 2 ^ k ≤ FU := Nat.pow_le_pow_right (by decide) h
theorem pick_while2 (most : Int) (rest : AH) (q : Q) (h : q.ok) : ∃ q', q'.ok ∧ wh pickT pickB FU (pickE most) (SRC q rest) = .ok (.nx, pickE most) (SRC q' rest) := by
  have hF : q.cells.length < FU := Nat.lt_of_lt_of_le (Nat.lt_of_le_of_lt h (by decide : 63 < 2 ^ 6)) (FU_big (by decide))
  obtain ⟨q', hl, e⟩ := pick_while most rest FU q hF
  exact ⟨q', Nat.le_trans hl h, e⟩
theorem fmod_range (a : Int) {m : Int} (h : 0 < m) : 0 ≤ a.fmod m ∧ a.fmod m < m := ⟨Int.fmod_nonneg_of_pos a h, Int.fmod_lt_of_pos a h⟩
theorem pick_ok {most : Int} (h0 : 0 < most) (h1 : most < 2 ^ 64) (q : Q) (hq : q.ok) (rest : AH) : ∃ k q', q'.ok ∧ 0 ≤ k ∧ k < most ∧ def0 6 pickM [.ref 0, .int most] (SRC q rest) = .ok (.int k) (SRC q' rest) := by
  by_cases hm : most < 2
  · refine ⟨0, q, hq, by omega, h0, def0_rt (env := pickE most |>.set 2 none) ?_⟩
    unfold pickM
    rw [sPs_if (c := true) (ah1 := SRC q rest) (by simp [tV, e2, M.andThen, eV, eC, M.lift, M.ret, gLt, gCmp, gI, M.when, hm])]
    exact sPs_rt rfl
  · obtain ⟨q1, hq1, hw⟩ := pick_while2 most rest q hq
    have ne : most ≠ 0 := by omega
    have hlog : most.natAbs.log2 < 9000 := by
      have : most.natAbs < 2 ^ 64 := by omega
      have h2 : most.natAbs ≠ 0 := by omega
      have := (Nat.log2_lt h2).mpr this
      omega
    have head : ∀ r, (sPs (sSet 3 (e2 gDGet (eV 0) (eC (.str (Str.ofString "left")))))
    (sPs (sIf (tV (e2 gGt (eV 3) (eC (.int 1)))) (sPs (Mi.sDPut (eV 0) (eC (.str (Str.ofString "left"))) (e2 gFdiv (eV 3) (eV 1)))
    (sRt (e2 gMod (eL gInt (esC (eV 3) esN)) (eV 1)))) sNx)
    (sPs (Mi.sDPut (eV 0) (eC (.str (Str.ofString "turn"))) (e2 gAdd (e2 gDGet (eV 0) (eC (.str (Str.ofString "turn")))) (eC (.int 1))))
    (sPs (sSet 4 (e2 gDGet (eV 0) (eC (.str (Str.ofString "turn")))))
    (sPs (sSet 5 (e2 gMod (eL gInt (esC (e2 gAdd (e2 gDGet (eV 0) (eC (.str (Str.ofString "mixed")))) (e2 gMul (eV 4) (eC (.int 104729)))) esN)) (eC (.int 998244353))))
    (sPs (sSet 5 (e2 gMod (eL gInt (esC (e2 gAdd (e2 gMul (eV 5) (eV 5)) (e2 gMul (eV 4) (eC (.int 17)))) esN)) (eC (.int 2147483647))))
    (sRt (e2 gMod (eL gInt (esC (e2 gFdiv (eV 5) (eC (.int 16))) esN)) (eV 1))))))))) (pickE most) (SRC q1 rest) = r → pickM [some (.ref 0), some (.int most), none, none, none, none] (SRC q rest) = r := by
      intro r hr
      unfold pickM
      rw [sPs_if (c := false) (ah1 := SRC q rest) (by simp [tV, e2, M.andThen, eV, eC, M.lift, M.ret, gLt, gCmp, gI, M.when, hm])]
      rw [sPs_nx (env1 := [some (.ref 0), some (.int most), none, none, none, none]) (ah1 := SRC q rest) rfl]
      rw [sPs_nx (env1 := pickE most) (ah1 := SRC q rest) rfl, sPs_nx hw]
      exact hr
    by_cases hl : 1 < q1.left
    · have hr := fmod_range q1.left h0
      refine ⟨q1.left.fmod most, { q1 with left := q1.left.fdiv most }, hq1, hr.1, hr.2, def0_rt (env := (pickE most).set 3 (some (.int q1.left))) (head _ ?_)⟩
      rw [sPs_nx (env1 := (pickE most).set 3 (some (.int q1.left))) (ah1 := SRC q1 rest) rfl]
      rw [sPs_if (c := true) (ah1 := SRC q1 rest) (by simp [pickE, tV, e2, M.andThen, eV, eC, M.lift, M.ret, gGt, gCmp, gI, M.when, hl])]
      refine sPs_rt ?_
      rw [if_pos rfl, sPs_nx (dput_left (rest := rest) (ah := SRC q1 rest) (q := q1) (q' := q1) (x := q1.left.fdiv most) (by simp [pickE, e2, M.andThen, eV, M.lift, M.ret, gFdiv, gI, M.when, okDiv, ne, hlog]) rfl)]
      simp [pickE, sRt, e2, eL, esC, esN, M.andThen, eV, M.lift, M.ret, gMod, gInt, gI, M.when, ne]
    · have hr := fmod_range ((((q1.mixed + (q1.turn + 1) * 104729).fmod 998244353 * (q1.mixed + (q1.turn + 1) * 104729).fmod 998244353 + (q1.turn + 1) * 17).fmod 2147483647).fdiv 16) h0
      have hb := fmod_range (q1.mixed + (q1.turn + 1) * 104729) (by decide : (0 : Int) < 998244353)
      refine ⟨_, { q1 with turn := q1.turn + 1 }, hq1, hr.1, hr.2, def0_rt (env := (((pickE most).set 3 (some (.int q1.left))).set 4 (some (.int (q1.turn + 1)))).set 5 (some (.int (((q1.mixed + (q1.turn + 1) * 104729).fmod 998244353 * (q1.mixed + (q1.turn + 1) * 104729).fmod 998244353 + (q1.turn + 1) * 17).fmod 2147483647)))) (head _ ?_)⟩
      rw [sPs_nx (env1 := (pickE most).set 3 (some (.int q1.left))) (ah1 := SRC q1 rest) rfl]
      rw [sPs_if (c := false) (ah1 := SRC q1 rest) (by simp [pickE, tV, e2, M.andThen, eV, eC, M.lift, M.ret, gGt, gCmp, gI, M.when, hl])]
      rw [sPs_nx (env1 := (pickE most).set 3 (some (.int q1.left))) (ah1 := SRC q1 rest) rfl]
      rw [sPs_nx (dput_turn (rest := rest) (ah := SRC q1 rest) (q := q1) (q' := q1) (x := q1.turn + 1) (by simp [pickE, e2, eC, M.andThen, eV, M.lift, M.ret, gAdd, dget_turn]) rfl)]
      rw [sPs_nx (env1 := ((pickE most).set 3 (some (.int q1.left))).set 4 (some (.int (q1.turn + 1)))) (ah1 := SRC { q1 with turn := q1.turn + 1 } rest) rfl]
      have c1 : okMul (q1.turn + 1) 104729 = true := by simp [okMul]
      have c2 : okMul (q1.turn + 1) 17 = true := by simp [okMul]
      have c3 : okMul ((q1.mixed + (q1.turn + 1) * 104729).fmod 998244353) ((q1.mixed + (q1.turn + 1) * 104729).fmod 998244353) = true := by
        have a : -(2 ^ 64) < (q1.mixed + (q1.turn + 1) * 104729).fmod 998244353 := by omega
        have b : (q1.mixed + (q1.turn + 1) * 104729).fmod 998244353 < 2 ^ 64 := by omega
        unfold okMul
        rw [decide_eq_true a, decide_eq_true b]
        rfl
      have c4 : okDiv ((((q1.mixed + (q1.turn + 1) * 104729).fmod 998244353 * (q1.mixed + (q1.turn + 1) * 104729).fmod 998244353 + (q1.turn + 1) * 17).fmod 2147483647)) 16 = true := by
        unfold okDiv
        rfl
      have c5 : decide (most ≠ 0) = true := decide_eq_true ne
      simp only [pickE, sPs, sSet, sRt, e2, eL, esC, esN, eC, M.andThen, eV, M.lift, M.ret, gMod, gInt, gI, gAdd, gMul, gFdiv, M.when, dget_mixed, List.set_cons_zero, List.set_cons_succ, List.getElem?_cons_zero, List.getElem?_cons_succ, Option.join_some, c1, c2, c3, c4, c5, if_true,
        (by decide : decide ((998244353 : Int) ≠ 0) = true), (by decide : decide ((2147483647 : Int) ≠ 0) = true)]
end Mi
set_option Elab.async false
set_option linter.all false
set_option maxRecDepth 100000
set_option maxHeartbeats 4000000
set_option exponentiation.threshold 30000
namespace Mi
open PySem PySem.Spec PyProof.Rows L2
/-! ## the cells are opened -/
def openM : MS :=
  (sPs (sSet 1 (eC (.int 11)))
    (sPs (sFo (iOf itD (eV 0)) (gN 2) (sSet 1 (e2 gMod (eL gInt (esC (e2 gAdd (e2 gAdd (e2 gMul (eV 1) (eC (.int 69069))) (e2 gMul (eV 2) (eC (.int 31)))) (eC (.int 5))) esN)) (eC (.int 2147483629)))))
    (sPs (sSet 3 (eLc (iOf itD (eV 0)) (oN 2) tYs (eL gAbs (esC (eV 2) esN)) [2]))
    (sRt (eDisp (pC (eC (.str (Str.ofString "cells"))) (e1 gRevN (eV 3)) (pC (eC (.str (Str.ofString "left"))) (eC (.int 1)) (pC (eC (.str (Str.ofString "mixed"))) (eV 1) (pC (eC (.str (Str.ofString "turn"))) (eC (.int 0)) pN)))))))))
theorem okMul_r {i j : Int} (h1 : -(2 ^ 64) < j) (h2 : j < 2 ^ 64) : okMul i j = true := by
  unfold okMul
  rw [decide_eq_true h1, decide_eq_true h2]
  simp
theorem okMul_l {i j : Int} (h1 : -(2 ^ 64) < i) (h2 : i < 2 ^ 64) : okMul i j = true := by
  unfold okMul
  rw [decide_eq_true h1, decide_eq_true h2]
  simp
theorem open_loop (z : D) (x3 : Option D) (ah : AH) : ∀ (ns : List Int) (m : Int) (x2 : Option D), ∃ m' x2', fo (gN 2) (sSet 1 (e2 gMod (eL gInt (esC (e2 gAdd (e2 gAdd (e2 gMul (eV 1) (eC (.int 69069))) (e2 gMul (eV 2) (eC (.int 31)))) (eC (.int 5))) esN)) (eC (.int 2147483629)))) (ns.map D.int) [some z, some (.int m), x2, x3] ah =
    .ok (.nx, [some z, some (.int m'), x2', x3]) ah
  | [], m, x2 => ⟨m, x2, rfl⟩
  | n :: ns, m, x2 => by
    obtain ⟨m', x2', ih⟩ := open_loop z x3 ah ns ((m * 69069 + n * 31 + 5).fmod 2147483629) (some (.int n))
    refine ⟨m', x2', ?_⟩
    rw [← ih, List.map_cons]
    refine fo_go (env1 := [some z, some (.int m), some (.int n), x3]) (ah1 := ah) rfl ?_
    have c1 : okMul m 69069 = true := okMul_r (by decide) (by decide)
    have c2 : okMul n 31 = true := okMul_r (by decide) (by decide)
    simp only [sSet, e2, eL, esC, esN, eC, M.andThen, eV, M.lift, M.ret, gMod, gInt, gI, gAdd, gMul, M.when, List.set_cons_zero, List.set_cons_succ, List.getElem?_cons_zero, List.getElem?_cons_succ, Option.join_some, c1, c2, if_true, (by decide : decide ((2147483629 : Int) ≠ 0) = true)]
def absI (n : Int) : Int := if n < 0 then -n else n
theorem open_comp (e0 e1' e3 : Option D) (ah : AH) : ∀ (ns : List Int) (x2 : Option D), lc (oN 2) tYs (eL gAbs (esC (eV 2) esN)) [2] [e0, e1', x2, e3] (ns.map D.int) ah = .ok ((ns.map absI).map D.int) ah
  | [], x2 => rfl
  | n :: ns, x2 => by
    have ih := open_comp e0 e1' e3 ah ns x2
    simp only [List.map_cons, lc, M.andThen, M.lift, oN, wipeE, List.set_cons_zero, List.set_cons_succ, tYs, M.ret, if_true, eL, esC, esN, eV, List.getElem?_cons_zero, List.getElem?_cons_succ, Option.join_some, gAbs, ih]
    rfl
theorem open_ok (ns : List Int) (h : ns.length ≤ 63) : ∃ q, q.ok ∧ def0 4 openM [.fro (ns.map D.int)] [] = .ok (.ref 0) (SRC q []) := by
  obtain ⟨m, x2, e1⟩ := open_loop (.fro (ns.map D.int)) none [] ns 11 none
  refine ⟨⟨(ns.map absI).reverse, 1, m, 0⟩, by show (ns.map absI).reverse.length ≤ 63; rw [List.length_reverse, List.length_map]; exact h, def0_rt (env := [some (.fro (ns.map D.int)), some (.int m), x2, some (.lst ((ns.map absI).map D.int))]) ?_⟩
  have e2 := open_comp (some (.fro (ns.map D.int))) (some (.int m)) none [] ns x2
  show openM [some (.fro (ns.map D.int)), none, none, none] [] = _
  unfold openM
  rw [sPs_nx (env1 := [some (.fro (ns.map D.int)), some (.int 11), none, none]) (ah1 := []) rfl]
  rw [sPs_nx (env1 := [some (.fro (ns.map D.int)), some (.int m), x2, none]) (ah1 := []) ((sFo_at (ds := ns.map D.int) (ah1 := []) rfl).trans e1)]
  have hl : decide ((ns.map D.int).length ≤ sizeLine) = true := decide_eq_true (by rw [sl, List.length_map]; omega)
  rw [sPs_nx (env1 := [some (.fro (ns.map D.int)), some (.int m), x2, some (.lst ((ns.map absI).map D.int))]) (ah1 := []) (by
    refine sSet_at ?_
    simp only [eLc, iOf, M.andThen, eV, M.lift, List.getElem?_cons_zero, Option.join_some, itD, M.ret, M.when, hl, if_true, hush, e2])]
  refine sRt_at ?_
  simp only [eDisp, M.andThen, newO, List.length_nil, List.nil_append, pC, pN, eC, M.ret, e1, eV, M.lift, List.getElem?_cons_zero, List.getElem?_cons_succ, Option.join_some, gRevN, Mi.e1, getO, List.singleton_append, List.cons_append, List.length_cons, getK, keysOf, toKey, Option.bind_some, Option.map_some, List.isEmpty_nil, M.when, putO, List.set_cons_zero, Bool.true_and, if_true, (by decide : decide (0 + 1 + 1 + 1 + 1 ≤ 15) = true)]
  rw [← List.map_reverse]
  rfl
/-! ## Euclid -/
def comW : MS := (sPar2 0 1 (esC (eV 1) (esC (e2 gMod (eV 0) (eV 1)) esN)))
def comT : Lc → M Bool := (tV (e2 gNe (eV 1) (eC (.int 0))))
def comM : MS :=
  (sPs (sPar2 0 1 (esC (eL gAbs (esC (eV 0) esN)) (esC (eL gAbs (esC (eV 1) esN)) esN)))
    (sPs (wh comT comW FU)
    (sRt (eV 0))))
theorem com_while (ah : AH) : ∀ (n a b : Nat), b < n → wh comT comW n [some (.int a), some (.int b)] ah = .ok (.nx, [some (.int (Nat.gcd a b)), some (.int 0)]) ah
  | 0, _, _, h => nomatch h
  | n + 1, a, b, h => by
    have t : comT [some (.int a), some (.int b)] ah = .ok (!decide ((b : Int) = 0)) ah := rfl
    by_cases hb : b = 0
    · subst hb
      rw [wh_end (ah1 := ah) t, Nat.gcd_zero_right]
      rfl
    · have hb' : (b : Int) ≠ 0 := by omega
      rw [wh_go (env2 := [some (.int b), some (.int (a % b : Nat))]) (ah1 := ah) (ah2 := ah) (by rw [t, decide_eq_false hb']; rfl) ?_, com_while ah n b (a % b) (by have := Nat.mod_lt a (Nat.pos_of_ne_zero hb); omega)]
      · rw [Nat.gcd_comm b (a % b), ← Nat.gcd_rec, Nat.gcd_comm]
      · simp only [comW, sPar2, esC, esN, eV, e2, M.andThen, M.lift, M.ret, List.getElem?_cons_zero, List.getElem?_cons_succ, Option.join_some, gMod, gI, M.when, decide_eq_true hb', if_true, List.set_cons_zero, List.set_cons_succ]
        rw [Int.fmod_eq_emod_of_nonneg _ (by omega)]
        rfl
theorem absI_eq (n : Int) : absI n = (n.natAbs : Int) := by
  unfold absI
  split <;> omega
theorem com_ok (a b : Int) (ah : AH) (h : b.natAbs < 2 ^ 20000) : def0 2 comM [.int a, .int b] ah = .ok (.int (Nat.gcd a.natAbs b.natAbs : Nat)) ah := by
  refine def0_rt (env := [some (.int (Nat.gcd a.natAbs b.natAbs : Nat)), some (.int 0)]) ?_
  show comM [some (.int a), some (.int b)] ah = _
  unfold comM
  rw [sPs_nx (env1 := [some (.int (a.natAbs : Nat)), some (.int (b.natAbs : Nat))]) (ah1 := ah) (by
    rw [← absI_eq, ← absI_eq]; rfl)]
  rw [sPs_nx (com_while ah FU a.natAbs b.natAbs h)]
  rfl
end Mi
set_option Elab.async false
set_option linter.all false
set_option maxRecDepth 100000
set_option maxHeartbeats 4000000
set_option exponentiation.threshold 30000
namespace Mi
open PySem PySem.Spec PyProof.Rows L2
/-! ## fractions -/
def nf (n d : Int) : Int × Int :=
  if d < 0 then (n.fdiv (-(Nat.gcd n.natAbs d.natAbs : Nat)), d.fdiv (-(Nat.gcd n.natAbs d.natAbs : Nat))) else (n.fdiv (Nat.gcd n.natAbs d.natAbs : Nat), d.fdiv (Nat.gcd n.natAbs d.natAbs : Nat))
/-- the one form -/
structure Nf (x : Int × Int) : Prop where
  pos : 0 < x.2
  one : Nat.gcd x.1.natAbs x.2.natAbs = 1
theorem nf_spec (n d : Int) (hd : d ≠ 0) : Nf (nf n d) ∧ ∃ k : Int, k ≠ 0 ∧ n = k * (nf n d).1 ∧ d = k * (nf n d).2 := by
  have hg : 0 < Nat.gcd n.natAbs d.natAbs := Nat.gcd_pos_of_pos_right _ (by omega)
  obtain ⟨u, hu⟩ : ((Nat.gcd n.natAbs d.natAbs : Nat) : Int) ∣ n := Int.ofNat_dvd_left.mpr (Nat.gcd_dvd_left _ _)
  obtain ⟨v, hv⟩ : ((Nat.gcd n.natAbs d.natAbs : Nat) : Int) ∣ d := Int.ofNat_dvd_left.mpr (Nat.gcd_dvd_right _ _)
  unfold nf
  generalize hG : Nat.gcd n.natAbs d.natAbs = g at hu hv hg ⊢
  have hco : Nat.gcd u.natAbs v.natAbs = 1 := by
    have h1 : g * Nat.gcd u.natAbs v.natAbs = g * 1 := by
      rw [← Nat.gcd_mul_left, Nat.mul_one]
      have e1 : g * u.natAbs = n.natAbs := by rw [hu, Int.natAbs_mul]; rfl
      have e2 : g * v.natAbs = d.natAbs := by rw [hv, Int.natAbs_mul]; rfl
      rw [e1, e2, hG]
    exact Nat.eq_of_mul_eq_mul_left hg h1
  have g0 : (g : Int) ≠ 0 := by omega
  by_cases hneg : d < 0
  · rw [if_pos hneg]
    have e1 : n.fdiv (-(g : Int)) = -u := by
      rw [show n = -(g : Int) * (-u) by rw [Int.neg_mul_neg]; exact hu]
      exact Int.mul_fdiv_cancel_left _ (by omega)
    have e2 : d.fdiv (-(g : Int)) = -v := by
      rw [show d = -(g : Int) * (-v) by rw [Int.neg_mul_neg]; exact hv]
      exact Int.mul_fdiv_cancel_left _ (by omega)
    rw [e1, e2]
    have hvneg : v < 0 := by
      by_cases z : v < 0
      · exact z
      · have : 0 ≤ (g : Int) * v := Int.mul_nonneg (by omega) (by omega)
        omega
    exact ⟨⟨by show 0 < -v; omega, by show Nat.gcd (-u).natAbs (-v).natAbs = 1; rw [Int.natAbs_neg, Int.natAbs_neg]; exact hco⟩, -(g : Int), by omega, by show n = -(g : Int) * (-u); rw [Int.neg_mul_neg]; exact hu, by show d = -(g : Int) * (-v); rw [Int.neg_mul_neg]; exact hv⟩
  · rw [if_neg hneg]
    have e1 : n.fdiv (g : Int) = u := by
      rw [show n = (g : Int) * u from hu]
      exact Int.mul_fdiv_cancel_left _ g0
    have e2 : d.fdiv (g : Int) = v := by
      rw [show d = (g : Int) * v from hv]
      exact Int.mul_fdiv_cancel_left _ g0
    rw [e1, e2]
    have hvpos : 0 < v := by
      by_cases z : 0 < v
      · exact z
      · have : (g : Int) * v ≤ 0 := Int.mul_nonpos_of_nonneg_of_nonpos (by omega) (by omega)
        omega
    exact ⟨⟨hvpos, hco⟩, (g : Int), g0, hu, hv⟩
theorem nf_cross (n d : Int) (hd : d ≠ 0) : (nf n d).1 * d = n * (nf n d).2 := by
  obtain ⟨_, k, _, h1, h2⟩ := nf_spec n d hd
  generalize nf n d = x at h1 h2
  subst h1 h2
  grind
theorem dvd_of_co {a b c : Int} (h : a ∣ b * c) (g : Nat.gcd a.natAbs b.natAbs = 1) : a ∣ c := by
  have h1 : a.natAbs ∣ b.natAbs * c.natAbs := by rw [← Int.natAbs_mul]; exact Int.natAbs_dvd_natAbs.mpr h
  exact Int.natAbs_dvd_natAbs.mp (Nat.Coprime.dvd_of_dvd_mul_left g h1)
theorem Nf.uniq {x y : Int × Int} (hx : Nf x) (hy : Nf y) (h : x.1 * y.2 = y.1 * x.2) : x = y := by
  have a : (x.2 : Int) ∣ y.2 := by
    have h1 : (x.2 : Int) ∣ x.1 * y.2 := ⟨y.1, by rw [h, Int.mul_comm]⟩
    exact dvd_of_co h1 (by rw [Nat.gcd_comm]; exact hx.one)
  have b : (y.2 : Int) ∣ x.2 := by
    have h1 : (y.2 : Int) ∣ y.1 * x.2 := ⟨x.1, by rw [← h, Int.mul_comm]⟩
    exact dvd_of_co h1 (by rw [Nat.gcd_comm]; exact hy.one)
  have e2 : x.2 = y.2 := Int.le_antisymm (Int.le_of_dvd hy.pos a) (Int.le_of_dvd hx.pos b)
  have e1 : x.1 = y.1 := by
    rw [e2] at h
    exact Int.eq_of_mul_eq_mul_right (by have := hy.pos; omega) h
  exact Prod.ext e1 e2
theorem nf_eq {n d n' d' : Int} (hd : d ≠ 0) (hd' : d' ≠ 0) (h : n * d' = n' * d) : nf n d = nf n' d' := by
  obtain ⟨a, k, k0, h1, h2⟩ := nf_spec n d hd
  obtain ⟨b, j, j0, h3, h4⟩ := nf_spec n' d' hd'
  refine a.uniq b ?_
  generalize nf n d = x at *
  generalize nf n' d' = y at *
  subst h1 h2 h3 h4
  have e : (k * j) * (x.1 * y.2) = (k * j) * (y.1 * x.2) := by grind
  exact Int.eq_of_mul_eq_mul_left (by intro z; rcases Int.mul_eq_zero.mp z with z | z; exact k0 z; exact j0 z) e
theorem Nf.nf {x : Int × Int} (h : Nf x) : nf x.1 x.2 = x := by
  have h0 : x.2 ≠ 0 := by have := h.pos; omega
  exact (nf_spec x.1 x.2 h0).1.uniq h (nf_cross x.1 x.2 h0)
theorem nf_mul {N D u v : Int} (hD : D ≠ 0) (hv : v ≠ 0) : nf ((nf N D).1 * u) ((nf N D).2 * v) = nf (N * u) (D * v) := by
  have hp := (nf_spec N D hD).1.pos
  have hc := nf_cross N D hD
  refine nf_eq (by intro z; rcases Int.mul_eq_zero.mp z with z | z; omega; exact hv z) (by intro z; rcases Int.mul_eq_zero.mp z with z | z; exact hD z; exact hv z) ?_
  generalize nf N D = x at *
  grind
theorem nf_add {N D M E : Int} (hD : D ≠ 0) (hE : E ≠ 0) : nf ((nf N D).1 * (nf M E).2 + (nf M E).1 * (nf N D).2) ((nf N D).2 * (nf M E).2) = nf (N * E + M * D) (D * E) := by
  have hp := (nf_spec N D hD).1.pos
  have hc := nf_cross N D hD
  have hq := (nf_spec M E hE).1.pos
  have he := nf_cross M E hE
  refine nf_eq (by intro z; rcases Int.mul_eq_zero.mp z with z | z <;> omega) (by intro z; rcases Int.mul_eq_zero.mp z with z | z; exact hD z; exact hE z) ?_
  generalize nf N D = x at *
  generalize nf M E = y at *
  grind
/-! bounds -/
def B (k : Nat) (n : Int) : Prop := n.natAbs < 2 ^ k
theorem B.mono {j k : Nat} {n : Int} (h : B j n) (l : j ≤ k) : B k n := Nat.lt_of_lt_of_le h (Nat.pow_le_pow_right (by decide) l)
theorem B.mul {j k : Nat} {m n : Int} (h : B j m) (l : B k n) : B (j + k) (m * n) := by
  unfold B at *
  rw [Int.natAbs_mul, Nat.pow_add]
  exact Nat.mul_lt_mul'' h l
theorem B.add {k : Nat} {m n : Int} (h : B k m) (l : B k n) : B (k + 1) (m + n) := by
  unfold B at *
  rw [Nat.pow_succ]
  omega
theorem B.sub {k : Nat} {m n : Int} (h : B k m) (l : B k n) : B (k + 1) (m - n) := by
  unfold B at *
  rw [Nat.pow_succ]
  omega
theorem B.neg {k : Nat} {m : Int} (h : B k m) : B k (-m) := by
  unfold B at *
  rw [Int.natAbs_neg]
  exact h
theorem B.of {k : Nat} {n : Int} (h : -(2 ^ k : Nat) < n) (l : n < (2 ^ k : Nat)) : B k n := by
  unfold B
  omega
theorem log_lt {k x : Nat} (h : x < 2 ^ k) (hk : 0 < k) : x.log2 < k := by
  by_cases z : x = 0
  · rw [z]; simpa using hk
  · exact (Nat.log2_lt z).mpr h
theorem okMul_B {j k : Nat} {m n : Int} (h : B j m) (l : B k n) (hj : 0 < j) (hk : 0 < k) (s : j + k ≤ 1000000) : okMul m n = true := by
  have a := log_lt h hj
  have b := log_lt l hk
  unfold okMul
  rw [decide_eq_true (show m.natAbs.log2 + n.natAbs.log2 < 1000000 by omega)]
  simp
theorem okDiv_B {k : Nat} {m n : Int} (h : B k n) (hk : 0 < k) (s : k ≤ 9000) (n0 : n ≠ 0) : okDiv m n = true := by
  have a := log_lt h hk
  unfold okDiv
  rw [decide_eq_true n0, decide_eq_true (show n.natAbs.log2 < 9000 by omega)]
  rfl
theorem natAbs_le_of_mul {k x : Int} (hk : k ≠ 0) : x.natAbs ≤ (k * x).natAbs := by
  rw [Int.natAbs_mul]
  exact Nat.le_mul_of_pos_left _ (by omega)
theorem B.nf1 {k : Nat} {n d : Int} (h : B k n) (hd : d ≠ 0) : B k (nf n d).1 := by
  obtain ⟨_, j, j0, h1, _⟩ := nf_spec n d hd
  have := natAbs_le_of_mul (k := j) (x := (nf n d).1) j0
  rw [← h1] at this
  exact Nat.lt_of_le_of_lt this h
theorem B.nf2 {k : Nat} {n d : Int} (h : B k d) (hd : d ≠ 0) : B k (nf n d).2 := by
  obtain ⟨_, j, j0, _, h2⟩ := nf_spec n d hd
  have := natAbs_le_of_mul (k := j) (x := (nf n d).2) j0
  rw [← h2] at this
  exact Nat.lt_of_le_of_lt this h
/-! fractions as values -/
def fr (x : Int × Int) : D := .tup [.int x.1, .int x.2]
def fracM : MS :=
  (sPs (sSet 2 (eL gGcd (esC (eV 0) (esC (eV 1) esN))))
    (sPs (sIf (tV (e2 gLt (eV 1) (eC (.int 0)))) (sSet 2 (e1 gNeg (eV 2))) sNx)
    (sRt (eL gTupD (esC (e2 gFdiv (eV 0) (eV 2)) (esC (e2 gFdiv (eV 1) (eV 2)) esN))))))
theorem gcd_B {k : Nat} {n d : Int} (h : B k d) (hd : d ≠ 0) : B k (Nat.gcd n.natAbs d.natAbs : Nat) := by
  unfold B
  exact Nat.lt_of_le_of_lt (Nat.le_of_dvd (by omega) (Nat.gcd_dvd_right n.natAbs d.natAbs)) h
theorem frac_ok {n d : Int} (h : B 9000 d) (hd : d ≠ 0) (ah : AH) : def0 3 fracM [.int n, .int d] ah = .ok (fr (nf n d)) ah := by
  have hg : ((Nat.gcd n.natAbs d.natAbs : Nat) : Int) ≠ 0 := by
    have : 0 < Nat.gcd n.natAbs d.natAbs := Nat.gcd_pos_of_pos_right _ (by omega)
    omega
  have b1 := gcd_B (n := n) h hd
  unfold nf fr
  by_cases hneg : d < 0
  · have c1 : okDiv n (-(Nat.gcd n.natAbs d.natAbs : Nat)) = true := okDiv_B b1.neg (by decide) (by decide) (by omega)
    have c2 : okDiv d (-(Nat.gcd n.natAbs d.natAbs : Nat)) = true := okDiv_B b1.neg (by decide) (by decide) (by omega)
    simp only [def0, fracM, sPs, sSet, sIf, sRt, tV, e2, e1, eL, esC, esN, eC, M.andThen, eV, M.lift, M.ret, gGcd, gLt, gCmp, gNeg, gFdiv, gI, gTupD, M.when, List.map_cons, List.map_nil, List.cons_append, List.nil_append, List.length_cons, List.length_nil, List.replicate, List.set_cons_zero, List.set_cons_succ, List.getElem?_cons_zero, List.getElem?_cons_succ, Option.join_some, decide_eq_true hneg, if_true, if_pos hneg, c1, c2, sl]
    rfl
  · have c1 : okDiv n (Nat.gcd n.natAbs d.natAbs : Nat) = true := okDiv_B b1 (by decide) (by decide) hg
    have c2 : okDiv d (Nat.gcd n.natAbs d.natAbs : Nat) = true := okDiv_B b1 (by decide) (by decide) hg
    simp only [def0, fracM, sPs, sSet, sIf, sRt, sNx, tV, e2, e1, eL, esC, esN, eC, M.andThen, eV, M.lift, M.ret, gGcd, gLt, gCmp, gNeg, gFdiv, gI, gTupD, M.when, List.map_cons, List.map_nil, List.cons_append, List.nil_append, List.length_cons, List.length_nil, List.replicate, List.set_cons_zero, List.set_cons_succ, List.getElem?_cons_zero, List.getElem?_cons_succ, Option.join_some, decide_eq_false hneg, if_true, if_neg hneg, c1, c2, sl, Bool.false_eq_true, if_false]
    rfl
def lfracM (m : List D → M D) : MS :=
  (sPs (sSet 2 (eI (tV (e2 gGt (eV 1) (eC (.int 0)))) (eC (.int 1)) (e2 gSub (eC (.int 0)) (eC (.int 1)))))
    (sPs (sSet 3 (e2 gMul (eCall 2 m (esC (eV 0) (esC (eV 1) esN))) (eV 2)))
    (sRt (eL gTupD (esC (e2 gFdiv (eV 0) (eV 3)) (esC (e2 gFdiv (eV 1) (eV 3)) esN))))))
theorem lfrac_ok {m : List D → M D} {n d : Int} (h : B 9000 d) (hd : d ≠ 0) (ah : AH) (hc : m [.int n, .int d] ah = .ok (.int (Nat.gcd n.natAbs d.natAbs : Nat)) ah) : def0 4 (lfracM m) [.int n, .int d] ah = .ok (fr (nf n d)) ah := by
  have hg : ((Nat.gcd n.natAbs d.natAbs : Nat) : Int) ≠ 0 := by
    have : 0 < Nat.gcd n.natAbs d.natAbs := Nat.gcd_pos_of_pos_right _ (by omega)
    omega
  have b1 := gcd_B (n := n) h hd
  unfold nf fr
  by_cases hneg : d < 0
  · have c1 : okDiv n ((Nat.gcd n.natAbs d.natAbs : Nat) * (0 - 1)) = true := okDiv_B (k := 9000) (by rw [Int.zero_sub, Int.mul_neg, Int.mul_one]; exact b1.neg) (by decide) (by decide) (by omega)
    have c2 : okDiv d ((Nat.gcd n.natAbs d.natAbs : Nat) * (0 - 1)) = true := okDiv_B (k := 9000) (by rw [Int.zero_sub, Int.mul_neg, Int.mul_one]; exact b1.neg) (by decide) (by decide) (by omega)
    have c3 : okMul (Nat.gcd n.natAbs d.natAbs : Nat) (0 - 1) = true := okMul_r (by decide) (by decide)
    have c4 : ¬ 0 < d := by omega
    have c5 : ((Nat.gcd n.natAbs d.natAbs : Nat) : Int) * (0 - 1) = -(Nat.gcd n.natAbs d.natAbs : Nat) := by omega
    simp only [def0, lfracM, sPs, sSet, sIf, sRt, tV, e2, e1, eL, eI, eCall, esC, esN, eC, M.andThen, eV, M.lift, M.ret, gSub, gMul, gGt, gCmp, gNeg, gFdiv, gI, gTupD, M.when, List.map_cons, List.map_nil, List.cons_append, List.nil_append, List.length_cons, List.length_nil, List.replicate, List.set_cons_zero, List.set_cons_succ, List.getElem?_cons_zero, List.getElem?_cons_succ, Option.join_some, decide_eq_false c4, if_true, if_pos hneg, sl, Bool.false_eq_true, if_false, Nat.zero_add, decide_true, Nat.reduceAdd]
    simp only [def0, sPs, sSet, sIf, sRt, sNx, sEx, sRtN, sPar2, sPar3, tV, tA, tO, tN, Mi.e2, Mi.e1, eL, eI, eA, eO, eCall, esC, esN, eC, M.andThen, eV, M.lift, M.ret, M.when, gI, gCmp, gLt, gLe, gGt, gGe, gSub, gMul, gAdd, gFdiv, gMod, gNeg, gNot, gGcd, gTupD, gLstD, gIx, gInt, gAbs, List.map_cons, List.map_nil, List.cons_append, List.nil_append, List.length_cons, List.length_nil, List.replicate, List.set_cons_zero, List.set_cons_succ, List.getElem?_cons_zero, List.getElem?_cons_succ, Option.join_some, if_true, Bool.false_eq_true, if_false, Nat.zero_add, decide_true, Nat.reduceAdd, Nat.reduceSub, hc, c1, c2, c3]
    rw [c5]
    rfl
  · have hp : 0 < d := by omega
    have c1 : okDiv n ((Nat.gcd n.natAbs d.natAbs : Nat) * 1) = true := okDiv_B (k := 9000) (by rw [Int.mul_one]; exact b1) (by decide) (by decide) (by omega)
    have c2 : okDiv d ((Nat.gcd n.natAbs d.natAbs : Nat) * 1) = true := okDiv_B (k := 9000) (by rw [Int.mul_one]; exact b1) (by decide) (by decide) (by omega)
    have c3 : okMul (Nat.gcd n.natAbs d.natAbs : Nat) 1 = true := okMul_r (by decide) (by decide)
    simp only [def0, lfracM, sPs, sSet, sIf, sRt, tV, e2, e1, eL, eI, eCall, esC, esN, eC, M.andThen, eV, M.lift, M.ret, gSub, gMul, gGt, gCmp, gNeg, gFdiv, gI, gTupD, M.when, List.map_cons, List.map_nil, List.cons_append, List.nil_append, List.length_cons, List.length_nil, List.replicate, List.set_cons_zero, List.set_cons_succ, List.getElem?_cons_zero, List.getElem?_cons_succ, Option.join_some, decide_eq_true hp, if_true, if_neg hneg, sl, Bool.false_eq_true, if_false, Nat.zero_add, decide_true, Nat.reduceAdd]
    simp only [def0, sPs, sSet, sIf, sRt, sNx, sEx, sRtN, sPar2, sPar3, tV, tA, tO, tN, Mi.e2, Mi.e1, eL, eI, eA, eO, eCall, esC, esN, eC, M.andThen, eV, M.lift, M.ret, M.when, gI, gCmp, gLt, gLe, gGt, gGe, gSub, gMul, gAdd, gFdiv, gMod, gNeg, gNot, gGcd, gTupD, gLstD, gIx, gInt, gAbs, List.map_cons, List.map_nil, List.cons_append, List.nil_append, List.length_cons, List.length_nil, List.replicate, List.set_cons_zero, List.set_cons_succ, List.getElem?_cons_zero, List.getElem?_cons_succ, Option.join_some, if_true, Bool.false_eq_true, if_false, Nat.zero_add, decide_true, Nat.reduceAdd, Nat.reduceSub, hc, c1, c2, c3]
    rw [Int.mul_one]
    rfl
end Mi
set_option Elab.async false
set_option linter.all false
set_option maxRecDepth 100000
set_option maxHeartbeats 4000000
set_option exponentiation.threshold 30000
namespace Mi
open PySem PySem.Spec PyProof.Rows L2
/-! ## what may be shown -/
mutual
def D.sm : D → Bool
  | .non => true
  | .bl _ => true
  | .int i => decide (i.natAbs < 2 ^ 200)
  | .str x => x.cps.toList.all fun c => decide (c < 16 ^ 8)
  | .tup xs => D.sms xs
  | .lst xs => D.sms xs
  | .fro xs => D.sms xs
  | .emp => true
  | .ref _ => true
  | .oth _ => true
def D.sms : List D → Bool
  | [] => true
  | x :: xs => D.sm x && D.sms xs
end
mutual
def D.wt : D → Nat
  | .non => 0
  | .bl _ => 0
  | .int _ => 200
  | .str x => x.cps.size
  | .tup xs => D.wts xs
  | .lst xs => D.wts xs
  | .fro xs => D.wts xs
  | .emp => 0
  | .ref _ => 0
  | .oth _ => 0
def D.wts : List D → Nat
  | [] => 0
  | x :: xs => D.wt x + 1 + D.wts xs
end
mutual
def D.dpt : D → Nat
  | .non => 0
  | .bl _ => 0
  | .int _ => 0
  | .str _ => 0
  | .tup xs => D.dpts xs + 1
  | .lst xs => D.dpts xs + 1
  | .fro xs => D.dpts xs + 1
  | .emp => 1
  | .ref _ => 0
  | .oth _ => 0
def D.dpts : List D → Nat
  | [] => 0
  | x :: xs => max (D.dpt x) (D.dpts xs)
end
theorem log200 {i : Int} (h : i.natAbs < 2 ^ 200) : i.natAbs.log2 < 200 := log_lt h (by decide)
mutual
theorem D.sm_ok : ∀ d : D, d.sm = true → d.p.leavesShort 1000 = true ∧ d.p.showable = true ∧ d.p.weight ≤ d.wt
  | .non, _ => ⟨rfl, rfl, Nat.le_refl _⟩
  | .bl _, _ => ⟨rfl, rfl, Nat.le_refl _⟩
  | .int i, h => by
    have h := of_decide_eq_true h
    have l := log200 h
    refine ⟨?_, ?_, ?_⟩
    · show decide ((PyData.shown (.int i)).length ≤ 1000) = true
      refine decide_eq_true ?_
      have := int_text_length_le (a := i) (k := 200) (by decide) l
      refine Nat.le_trans ?_ (Nat.le_trans this (by decide))
      show (Str.ofString (toString i)).length ≤ _
      rw [PyProof.Rows.ofString_len]
      exact Nat.le_refl _
    · show decide (i.natAbs.log2 < 1920) = true
      exact decide_eq_true (by omega)
    · show (if i == 0 then 0 else i.natAbs.log2 + 1) ≤ 200
      split <;> omega
  | .str x, h => ⟨h, rfl, Nat.le_refl _⟩
  | .tup xs, h => by
    obtain ⟨a, b, c⟩ := D.sms_ok xs h
    exact ⟨a, b, c⟩
  | .lst xs, h => by
    obtain ⟨a, b, c⟩ := D.sms_ok xs h
    exact ⟨a, b, c⟩
  | .fro xs, h => by
    obtain ⟨a, b, c⟩ := D.sms_ok xs h
    exact ⟨a, b, c⟩
  | .emp, _ => ⟨rfl, rfl, Nat.le_refl _⟩
  | .ref _, _ => ⟨rfl, rfl, Nat.le_refl _⟩
  | .oth _, _ => ⟨rfl, rfl, Nat.le_refl _⟩
theorem D.sms_ok : ∀ ds : List D, D.sms ds = true → PyData.leavesShortAll 1000 (D.ps ds) = true ∧ PyData.showableAll (D.ps ds) = true ∧ PyData.weightAll (D.ps ds) ≤ D.wts ds
  | [], _ => ⟨rfl, rfl, Nat.le_refl _⟩
  | x :: xs, h => by
    have h' := Bool.and_eq_true_iff.mp h
    obtain ⟨a, b, c⟩ := D.sm_ok x h'.1
    obtain ⟨a2, b2, c2⟩ := D.sms_ok xs h'.2
    refine ⟨?_, ?_, ?_⟩
    · show (PyData.leavesShort 1000 x.p && PyData.leavesShortAll 1000 (D.ps xs)) = true
      rw [a, a2]; rfl
    · show (PyData.showable x.p && PyData.showableAll (D.ps xs)) = true
      rw [b, b2]; rfl
    · show PyData.weight x.p + 1 + PyData.weightAll (D.ps xs) ≤ D.wt x + 1 + D.wts xs
      omega
end
mutual
theorem D.dpt_ok : ∀ d : D, d.p.depth ≤ d.dpt
  | .non => Nat.le_refl _
  | .bl _ => Nat.le_refl _
  | .int _ => Nat.le_refl _
  | .str _ => Nat.le_refl _
  | .tup xs => by
    have := D.dpts_ok xs
    show PyData.depth (.tuple (D.ps xs)) ≤ D.dpts xs + 1
    simp only [PyData.depth]
    omega
  | .lst xs => by
    have := D.dpts_ok xs
    show PyData.depth (.list (D.ps xs)) ≤ D.dpts xs + 1
    simp only [PyData.depth]
    omega
  | .fro xs => by
    have := D.dpts_ok xs
    show PyData.depth (.list (D.ps xs)) ≤ D.dpts xs + 1
    simp only [PyData.depth]
    omega
  | .emp => Nat.le_refl _
  | .ref _ => Nat.le_refl _
  | .oth _ => Nat.le_refl _
theorem D.dpts_ok : ∀ ds : List D, PyData.depthAll (D.ps ds) ≤ D.dpts ds
  | [] => Nat.le_refl _
  | x :: xs => by
    have := D.dpt_ok x
    have := D.dpts_ok xs
    show PyData.depthAll (x.p :: D.ps xs) ≤ max x.dpt (D.dpts xs)
    simp only [PyData.depthAll]
    omega
end
structure Shw (d : D) : Prop where
  f : (d.flat || d.shw) = true
  s : d.sm = true
  w : decide (d.wt ≤ 16000) = true
  t : decide (d.dpt ≤ 60) = true
theorem Shw.ok {d : D} (h : Shw d) : okShow d = true := by
  obtain ⟨a, b, c⟩ := D.sm_ok d h.s
  have l := PyData.shown_le 1000 (by decide) d.p a
  have w := of_decide_eq_true h.w
  have t := of_decide_eq_true h.t
  have t2 := D.dpt_ok d
  have l2 : d.p.shown.length ≤ sizeLine := by
    rw [sl]
    have : (1000 + 2) * d.p.weight ≤ (1000 + 2) * 16000 := Nat.mul_le_mul_left _ (by omega)
    omega
  unfold okShow
  rw [h.f, b, decide_eq_true l2, decide_eq_true (show d.p.depth ≤ 60 by omega)]
  rfl
theorem Shw.at {d : D} (h : Shw d) (ah : AH) : gRepr [d] ah = .ok (.str d.p.shown) ah := by
  simp only [gRepr, M.when, h.ok, if_true, M.ret]
theorem ne_str_self (x : Str) (ah : AH) : gNe (.str x) (.str x) ah = .ok (.bl false) ah := by
  simp [gNe, M.ret]
theorem okEq_fr (x y : Int × Int) : okEq (fr x) (fr y) = true := rfl
theorem ne_fr_self (x : Int × Int) (ah : AH) : gNe (fr x) (fr x) ah = .ok (.bl false) ah := by
  have e : PyData.eqv (fr x).p (fr x).p = true := by
    show ((x.1 == x.1) && ((x.2 == x.2) && true)) = true
    simp
  show M.when (okEq (fr x) (fr x)) (M.ret (D.bl (!PyData.eqv (fr x).p (fr x).p))) ah = _
  rw [okEq_fr, e]
  rfl
end Mi
set_option Elab.async false
set_option linter.all false
set_option maxRecDepth 100000
set_option maxHeartbeats 400000
set_option exponentiation.threshold 30000
namespace Mi
open PySem PySem.Spec PyProof.Rows L2
/-! ## how often p stands in n -/
structure Pr (p : Int) : Prop where
  two : 2 ≤ p
  pr : ∀ a b : Int, p ∣ a * b → p ∣ a ∨ p ∣ b
def Vl (p n : Int) (v : Nat) : Prop := ∃ m, n = p ^ v * m ∧ ¬ p ∣ m
theorem pr_of {p : Nat} (h2 : 2 ≤ p) (h : ∀ d, d ≤ p → d ∣ p → d = 1 ∨ d = p) : Pr (p : Int) := by
  refine ⟨by omega, fun a b hab => ?_⟩
  have hab' : p ∣ a.natAbs * b.natAbs := by
    rw [← Int.natAbs_mul]
    exact Int.ofNat_dvd_left.mp hab
  have hg : Nat.gcd p a.natAbs ∣ p := Nat.gcd_dvd_left _ _
  rcases h _ (Nat.le_of_dvd (by omega) hg) hg with e | e
  · exact .inr (Int.ofNat_dvd_left.mpr (Nat.Coprime.dvd_of_dvd_mul_left e hab'))
  · refine .inl (Int.ofNat_dvd_left.mpr ?_)
    rw [← e]
    exact Nat.gcd_dvd_right _ _
section
variable {p : Int} (P : Pr p)
include P
theorem Pr.ne : p ≠ 0 := by have := P.two; omega
theorem Pr.pw (k : Nat) : p ^ k ≠ 0 := by
  induction k with
  | zero => rw [Int.pow_zero]; decide
  | succ k ih => rw [Int.pow_succ]; intro z; rcases Int.mul_eq_zero.mp z with z | z; exact ih z; exact P.ne z
theorem Pr.pos (k : Nat) : 0 < p ^ k := by
  have h := P.two
  induction k with
  | zero => rw [Int.pow_zero]; decide
  | succ k ih => rw [Int.pow_succ]; exact Int.mul_pos ih (by omega)
theorem Vl.dvd {n : Int} {v k : Nat} (h : Vl p n v) : p ^ k ∣ n ↔ k ≤ v := by
  obtain ⟨m, e, hm⟩ := h
  constructor
  · intro ⟨c, hc⟩
    by_cases hk : k ≤ v
    · exact hk
    · exfalso
      apply hm
      have e1 : p ^ k = p ^ v * p ^ (k - v) := by rw [← Int.pow_add, show v + (k - v) = k by omega]
      rw [e, e1, Int.mul_assoc] at hc
      have h3 := Int.eq_of_mul_eq_mul_left (P.pw v) hc
      rw [h3, show k - v = (k - v - 1) + 1 by omega, Int.pow_succ]
      exact ⟨p ^ (k - v - 1) * c, by grind⟩
  · intro hk
    exact ⟨p ^ (v - k) * m, by rw [e, ← Int.mul_assoc, ← Int.pow_add, show k + (v - k) = v by omega]⟩
theorem Vl.uniq {n : Int} {v w : Nat} (h : Vl p n v) (l : Vl p n w) : v = w := by
  have a : v ≤ w := (l.dvd P).mp ((h.dvd P).mpr (Nat.le_refl _))
  have b : w ≤ v := (h.dvd P).mp ((l.dvd P).mpr (Nat.le_refl _))
  omega
theorem Vl.mul {m n : Int} {v w : Nat} (h : Vl p m v) (l : Vl p n w) : Vl p (m * n) (v + w) := by
  obtain ⟨a, e, ha⟩ := h
  obtain ⟨b, f, hb⟩ := l
  refine ⟨a * b, ?_, fun z => (P.pr a b z).elim ha hb⟩
  rw [e, f, Int.pow_add]
  grind
theorem Vl.one : Vl p 1 0 := ⟨1, by rw [Int.pow_zero]; rfl, fun ⟨c, hc⟩ => by
  have h := P.two
  have : p ∣ 1 := ⟨c, hc⟩
  have := Int.le_of_dvd (by decide) this
  omega⟩
theorem Vl.pw (k : Nat) : Vl p (p ^ k) k := ⟨1, by rw [Int.mul_one], fun ⟨c, hc⟩ => by
  have h := P.two
  have : p ∣ 1 := ⟨c, hc⟩
  have := Int.le_of_dvd (by decide) this
  omega⟩
theorem Vl.neg {n : Int} {v : Nat} (h : Vl p n v) : Vl p (-n) v := by
  obtain ⟨m, e, hm⟩ := h
  exact ⟨-m, by rw [e, Int.mul_neg], fun z => hm (Int.dvd_neg.mp z)⟩
theorem Vl.ne {n : Int} {v : Nat} (h : Vl p n v) : n ≠ 0 := by
  obtain ⟨m, e, hm⟩ := h
  rw [e]
  intro z
  rcases Int.mul_eq_zero.mp z with z | z
  · exact P.pw v z
  · exact hm (z ▸ Int.dvd_zero p)
theorem Vl.zero_iff {n : Int} (h : ¬ p ∣ n) : Vl p n 0 := ⟨n, by rw [Int.pow_zero, Int.one_mul], h⟩
theorem Vl.up {n : Int} {v : Nat} (h : Vl p n v) (k : Nat) : Vl p (p ^ k * n) (k + v) := (Vl.pw P k).mul P h
/-- out of p^k * n -/
theorem Vl.down {n : Int} {v k : Nat} (h : Vl p (p ^ k * n) v) : k ≤ v ∧ Vl p n (v - k) := by
  have hk : k ≤ v := (h.dvd P).mp ⟨n, rfl⟩
  obtain ⟨m, e, hm⟩ := h
  refine ⟨hk, m, ?_, hm⟩
  have e1 : p ^ v = p ^ k * p ^ (v - k) := by rw [← Int.pow_add, show k + (v - k) = v by omega]
  rw [e1, Int.mul_assoc] at e
  exact Int.eq_of_mul_eq_mul_left (P.pw k) e
theorem Vl.ex_aux : ∀ (N : Nat) (n : Int), n.natAbs ≤ N → n ≠ 0 → ∃ v, Vl p n v
  | 0, n, h, h0 => absurd (by omega) h0
  | N + 1, n, h, h0 => by
    by_cases hd : p ∣ n
    · obtain ⟨m, hm⟩ := hd
      have m0 : m ≠ 0 := by intro z; rw [z, Int.mul_zero] at hm; exact h0 hm
      have hlt : m.natAbs < n.natAbs := by
        rw [hm, Int.natAbs_mul]
        have h2 : 2 ≤ p.natAbs := by have := P.two; omega
        have h3 : 0 < m.natAbs := by omega
        have : 2 * m.natAbs ≤ p.natAbs * m.natAbs := Nat.mul_le_mul_right _ h2
        omega
      obtain ⟨v, hv⟩ := Vl.ex_aux N m (by omega) m0
      refine ⟨1 + v, ?_⟩
      have := hv.up P 1
      rw [Int.pow_one, ← hm] at this
      exact this
    · exact ⟨0, Vl.zero_iff P hd⟩
theorem Vl.ex {n : Int} (h0 : n ≠ 0) : ∃ v, Vl p n v := Vl.ex_aux P n.natAbs n (Nat.le_refl _) h0
/-- of a sum -/
theorem Vl.add {m n : Int} {v w s : Nat} (h : Vl p m v) (l : Vl p n w) (hs : Vl p (m + n) s) : min v w ≤ s ∧ (v ≠ w → s = min v w) := by
  have a : min v w ≤ s := (hs.dvd P).mp (Int.dvd_add ((h.dvd P).mpr (Nat.min_le_left _ _)) ((l.dvd P).mpr (Nat.min_le_right _ _)))
  refine ⟨a, fun ne => ?_⟩
  refine Nat.le_antisymm ?_ a
  by_cases hlt : v < w
  · rw [Nat.min_eq_left (by omega)]
    by_cases z : s ≤ v
    · exact z
    · exfalso
      have h1 : p ^ (v + 1) ∣ m + n := (hs.dvd P).mpr (by omega)
      have h2 : p ^ (v + 1) ∣ n := (l.dvd P).mpr (by omega)
      have h3 := (h.dvd P).mp ((Int.dvd_add_left h2).mp h1)
      omega
  · rw [Nat.min_eq_right (by omega)]
    by_cases z : s ≤ w
    · exact z
    · exfalso
      have h1 : p ^ (w + 1) ∣ m + n := (hs.dvd P).mpr (by omega)
      have h2 : p ^ (w + 1) ∣ m := (h.dvd P).mpr (by omega)
      have h3 := (l.dvd P).mp ((Int.dvd_add_right h2).mp h1)
      omega
/-- the difference over a fraction -/
theorem Vl.nf {n d : Int} {v w a b : Nat} (hd : d ≠ 0) (hn : Vl p n v) (h2 : Vl p d w) (ha : Vl p (Mi.nf n d).1 a) (hb : Vl p (Mi.nf n d).2 b) : (v : Int) - w = (a : Int) - b := by
  have c := nf_cross n d hd
  have e1 := ha.mul P h2
  have e2 := hn.mul P hb
  rw [c] at e1
  have := e1.uniq P e2
  omega
end
end Mi
set_option Elab.async false
set_option linter.all false
set_option maxRecDepth 100000
set_option maxHeartbeats 4000000
namespace Law
open PySem PySem.Spec PyProof.Rows L2 Mi
def topS (i : Nat) : Stmt := PySem.Challenge.pw_ballmoves_k05_parts_and_rests.main.body.getD i (.Pass ⟨0, 0, 0, 0⟩)
/-! ## the mirror -/
def b_times_in : MS :=
  (sPs (sSet 2 (eL gLstN (esC (eV 0) esN)))
    (sPs (wh (tV (e2 gEq (e2 gMod (eV 1) (e2 gIx (eV 2) (e1 gNeg (eC (.int 1))))) (eC (.int 0)))) (sEx (eApp (eV 2) (e2 gMul (e2 gIx (eV 2) (e1 gNeg (eC (.int 1)))) (e2 gIx (eV 2) (e1 gNeg (eC (.int 1))))))) FU)
    (sPs (sSet 3 (eC (.int 0)))
    (sPs (sFo (iOf1 itRR1 (eL gLen (esC (eV 2) esN))) (gN 4) (sIf (tV (e2 gEq (e2 gMod (eV 1) (e2 gIx (eV 2) (eV 4))) (eC (.int 0)))) (sPs (sSet 1 (e2 gFdiv (eV 1) (e2 gIx (eV 2) (eV 4))))
    (sAug 3 (gIp fun i j => i + j) (e2 gShl (eC (.int 1)) (eV 4)))) sNx))
    (sRt (eV 3))))))
def m_times_in : List D → M D := def0 5 b_times_in
def b_power_of : MS :=
  (sPs (sSet 2 (eC (.int 1)))
    (sPs (sSet 3 (eV 0))
    (sPs (wh (tV (e2 gGt (eV 1) (eC (.int 0)))) (sPs (sIf (tI (e2 gAnd (eV 1) (eC (.int 1)))) (sSet 2 (e2 gMul (eV 2) (eV 3))) sNx)
    (sPs (sSet 1 (e2 gShr (eV 1) (eC (.int 1))))
    (sIf (tV (e2 gGt (eV 1) (eC (.int 0)))) (sSet 3 (e2 gMul (eV 3) (eV 3))) sNx))) FU)
    (sRt (eV 2)))))
def m_power_of : List D → M D := def0 4 b_power_of
def b_parts : MS :=
  (sPs (sIf (tV (e2 gEq (e2 gIx (eV 1) (eC (.int 0))) (eC (.int 0)))) (sRt (eC .non)) sNx)
    (sRt (e2 gSub (eCall 2 m_times_in (esC (eV 0) (esC (e2 gIx (eV 1) (eC (.int 0))) esN))) (eCall 2 m_times_in (esC (eV 0) (esC (e2 gIx (eV 1) (eC (.int 1))) esN))))))
def m_parts : List D → M D := def0 2 b_parts
def b_inverse : MS :=
  (sPs (sSet 3 (e2 gIx (eLc (iOfs itR2 (esC (eC (.int 1)) (esC (eV 0) esN))) (oN 6) (tV (e2 gEq (e2 gMod (e2 gMul (eV 2) (eV 6)) (eV 0)) (eC (.int 1)))) (eV 6) [6]) (eC (.int 0))))
    (sPs (sSet 4 (eC (.int 1)))
    (sPs (sSet 5 (eV 0))
    (sPs (wh (tV (e2 gLt (eV 4) (eV 1))) (sPs (sSet 4 (e2 gMul (eC (.int 2)) (eV 4)))
    (sPs (sSet 5 (e2 gMul (eV 5) (eV 5)))
    (sSet 3 (e2 gMod (e2 gMul (eV 3) (e2 gSub (eC (.int 2)) (e2 gMul (eV 2) (eV 3)))) (eV 5))))) FU)
    (sRt (e2 gMod (eV 3) (eCall 2 m_power_of (esC (eV 0) (esC (eV 1) esN)))))))))
def m_inverse : List D → M D := def0 7 b_inverse
def b_rest : MS :=
  (sPs (sSet 3 (eCall 2 m_power_of (esC (eV 0) (esC (eV 1) esN))))
    (sPs (sIf (tV (e2 gEq (e2 gIx (eV 2) (eC (.int 1))) (eC (.int 1)))) (sRt (e2 gMod (e2 gIx (eV 2) (eC (.int 0))) (eV 3))) sNx)
    (sRt (e2 gMod (e2 gMul (e2 gIx (eV 2) (eC (.int 0))) (eCall 3 m_inverse (esC (eV 0) (esC (eV 1) (esC (e2 gIx (eV 2) (eC (.int 1))) esN))))) (eV 3)))))
def m_rest : List D → M D := def0 4 b_rest
def b__law_open_cells : MS :=
  (sPs (sSet 1 (eC (.int 11)))
    (sPs (sFo (iOf itD (eV 0)) (gN 2) (sSet 1 (e2 gMod (eL gInt (esC (e2 gAdd (e2 gAdd (e2 gMul (eV 1) (eC (.int 69069))) (e2 gMul (eV 2) (eC (.int 31)))) (eC (.int 5))) esN)) (eC (.int 2147483629)))))
    (sPs (sSet 3 (eLc (iOf itD (eV 0)) (oN 2) tYs (eL gAbs (esC (eV 2) esN)) [2]))
    (sRt (eDisp (pC (eC (.str (Str.ofString "cells"))) (e1 gRevN (eV 3)) (pC (eC (.str (Str.ofString "left"))) (eC (.int 1)) (pC (eC (.str (Str.ofString "mixed"))) (eV 1) (pC (eC (.str (Str.ofString "turn"))) (eC (.int 0)) pN)))))))))
def m__law_open_cells : List D → M D := def0 4 b__law_open_cells
def b__law_pick : MS :=
  (sPs (sIf (tV (e2 gLt (eV 1) (eC (.int 2)))) (sRt (eC (.int 0))) sNx)
    (sPs (sSet 2 (e2 gDGet (eV 0) (eC (.str (Str.ofString "cells")))))
    (sPs (wh (tA (tV (e2 gLt (e2 gDGet (eV 0) (eC (.str (Str.ofString "left")))) (eC (.int 2)))) (tV (e2 gGt (eL gLen (esC (eV 2) esN)) (eC (.int 0))))) (sDPut (eV 0) (eC (.str (Str.ofString "left"))) (e1 gPop (eV 2))) FU)
    (sPs (sSet 3 (e2 gDGet (eV 0) (eC (.str (Str.ofString "left")))))
    (sPs (sIf (tV (e2 gGt (eV 3) (eC (.int 1)))) (sPs (sDPut (eV 0) (eC (.str (Str.ofString "left"))) (e2 gFdiv (eV 3) (eV 1)))
    (sRt (e2 gMod (eL gInt (esC (eV 3) esN)) (eV 1)))) sNx)
    (sPs (sDPut (eV 0) (eC (.str (Str.ofString "turn"))) (e2 gAdd (e2 gDGet (eV 0) (eC (.str (Str.ofString "turn")))) (eC (.int 1))))
    (sPs (sSet 4 (e2 gDGet (eV 0) (eC (.str (Str.ofString "turn")))))
    (sPs (sSet 5 (e2 gMod (eL gInt (esC (e2 gAdd (e2 gDGet (eV 0) (eC (.str (Str.ofString "mixed")))) (e2 gMul (eV 4) (eC (.int 104729)))) esN)) (eC (.int 998244353))))
    (sPs (sSet 5 (e2 gMod (eL gInt (esC (e2 gAdd (e2 gMul (eV 5) (eV 5)) (e2 gMul (eV 4) (eC (.int 17)))) esN)) (eC (.int 2147483647))))
    (sRt (e2 gMod (eL gInt (esC (e2 gFdiv (eV 5) (eC (.int 16))) esN)) (eV 1))))))))))))
def m__law_pick : List D → M D := def0 6 b__law_pick
def b__law_raised : MS :=
  (sPs (sSet 2 (eC (.int 1)))
    (sPs (sFo (iOfs itR1 (esC (eV 1) esN)) (gN 3) (sSet 2 (e2 gMul (eV 2) (eV 0))))
    (sRt (eV 2))))
def m__law_raised : List D → M D := def0 4 b__law_raised
def b__law_common : MS :=
  (sPs (sPar2 0 1 (esC (eL gAbs (esC (eV 0) esN)) (esC (eL gAbs (esC (eV 1) esN)) esN)))
    (sPs (wh (tV (e2 gNe (eV 1) (eC (.int 0)))) (sPar2 0 1 (esC (eV 1) (esC (e2 gMod (eV 0) (eV 1)) esN))) FU)
    (sRt (eV 0))))
def m__law_common : List D → M D := def0 2 b__law_common
def b__law_fraction : MS :=
  (sPs (sSet 2 (eI (tV (e2 gGt (eV 1) (eC (.int 0)))) (eC (.int 1)) (e2 gSub (eC (.int 0)) (eC (.int 1)))))
    (sPs (sSet 3 (e2 gMul (eCall 2 m__law_common (esC (eV 0) (esC (eV 1) esN))) (eV 2)))
    (sRt (eL gTupD (esC (e2 gFdiv (eV 0) (eV 3)) (esC (e2 gFdiv (eV 1) (eV 3)) esN))))))
def m__law_fraction : List D → M D := def0 4 b__law_fraction
def b__law_sum : MS :=
  (sRt (eCall 2 m__law_fraction (esC (e2 gAdd (e2 gMul (e2 gIx (eV 0) (eC (.int 0))) (e2 gIx (eV 1) (eC (.int 1)))) (e2 gMul (e2 gIx (eV 1) (eC (.int 0))) (e2 gIx (eV 0) (eC (.int 1))))) (esC (e2 gMul (e2 gIx (eV 0) (eC (.int 1))) (e2 gIx (eV 1) (eC (.int 1)))) esN))))
def m__law_sum : List D → M D := def0 2 b__law_sum
def b__law_product : MS :=
  (sRt (eCall 2 m__law_fraction (esC (e2 gMul (e2 gIx (eV 0) (eC (.int 0))) (e2 gIx (eV 1) (eC (.int 0)))) (esC (e2 gMul (e2 gIx (eV 0) (eC (.int 1))) (e2 gIx (eV 1) (eC (.int 1)))) esN))))
def m__law_product : List D → M D := def0 2 b__law_product
def b__law_parts : MS :=
  (sPs (sPar3 2 3 4 (esC (eI (tV (e2 gEq (e2 gIx (eV 1) (eC (.int 0))) (eC (.int 0)))) (eC (.int 9999)) (eC (.int 0))) (esC (e2 gIx (eV 1) (eC (.int 0))) (esC (e2 gIx (eV 1) (eC (.int 1))) esN))))
    (sPs (wh (tA (tV (e2 gGt (eV 0) (eC (.int 1)))) (tA (tV (e2 gNe (eV 3) (eC (.int 0)))) (tV (e2 gEq (e2 gMod (eV 3) (eV 0)) (eC (.int 0)))))) (sPar2 2 3 (esC (e2 gAdd (eV 2) (eC (.int 1))) (esC (e2 gFdiv (eV 3) (eV 0)) esN))) FU)
    (sPs (wh (tA (tV (e2 gGt (eV 0) (eC (.int 1)))) (tA (tV (e2 gNe (eV 4) (eC (.int 0)))) (tV (e2 gEq (e2 gMod (eV 4) (eV 0)) (eC (.int 0)))))) (sPar2 2 4 (esC (e2 gSub (eV 2) (eC (.int 1))) (esC (e2 gFdiv (eV 4) (eV 0)) esN))) FU)
    (sRt (eV 2)))))
def m__law_parts : List D → M D := def0 5 b__law_parts
def b__law_power : MS :=
  (sRt (eI (tV (e2 gGe (eV 1) (eC (.int 0)))) (eL gTupD (esC (eCall 2 m__law_raised (esC (eV 0) (esC (eV 1) esN))) (esC (eC (.int 1)) esN))) (eL gTupD (esC (eC (.int 1)) (esC (eCall 2 m__law_raised (esC (eV 0) (esC (e2 gSub (eC (.int 0)) (eV 1)) esN))) esN)))))
def m__law_power : List D → M D := def0 2 b__law_power
def b__law_draw_prime : MS :=
  (sRt (e2 gIx (eL gLstD (esC (eC (.int 2)) (esC (eC (.int 3)) (esC (eC (.int 2)) (esC (eC (.int 5)) (esC (eC (.int 7)) esN)))))) (eCall 2 m__law_pick (esC (eV 0) (esC (eC (.int 5)) esN)))))
def m__law_draw_prime : List D → M D := def0 1 b__law_draw_prime
def b__law_apart : MS :=
  (sRt (eCall 2 m__law_fraction (esC (e2 gSub (e2 gMul (e2 gIx (eV 0) (eC (.int 0))) (e2 gIx (eV 1) (eC (.int 1)))) (e2 gMul (e2 gIx (eV 1) (eC (.int 0))) (e2 gIx (eV 0) (eC (.int 1))))) (esC (e2 gMul (e2 gIx (eV 0) (eC (.int 1))) (e2 gIx (eV 1) (eC (.int 1)))) esN))))
def m__law_apart : List D → M D := def0 2 b__law_apart
def b__law_draw_any : MS :=
  (sPs (sPar2 2 3 (esC (e2 gSub (eCall 2 m__law_pick (esC (eV 0) (esC (eC (.int 401)) esN))) (eC (.int 200))) (esC (e2 gIx (eL gLstD (esC (eC (.int 1)) (esC (eC (.int 1)) (esC (eC (.int 2)) (esC (eC (.int 3)) (esC (eC (.int 5)) (esC (eC (.int 7)) (esC (eC (.int 9)) (esC (eC (.int 11)) (esC (eC (.int 13)) (esC (eC (.int 6)) (esC (eC (.int 4)) (esC (eC (.int 101)) esN))))))))))))) (eCall 2 m__law_pick (esC (eV 0) (esC (eC (.int 12)) esN)))) esN)))
    (sPs (sSet 4 (eI (tV (e2 gLt (eV 1) (eC (.int 12)))) (eC (.int 5)) (eC (.int 3))))
    (sPs (sSet 5 (e2 gIx (eL gLstD (esC (eC (.int 1)) (esC (eC (.int 1)) (esC (eV 1) (esC (e2 gMul (eV 1) (eV 1)) (esC (eCall 2 m__law_raised (esC (eV 1) (esC (eV 4) esN))) esN)))))) (eCall 2 m__law_pick (esC (eV 0) (esC (eC (.int 5)) esN)))))
    (sRt (eCall 2 m__law_fraction (esC (e2 gMul (eV 2) (e2 gIx (eL gLstD (esC (eC (.int 1)) (esC (eC (.int 1)) (esC (eV 1) (esC (eCall 2 m__law_raised (esC (eV 1) (esC (e2 gSub (eV 4) (eC (.int 1))) esN))) esN))))) (eCall 2 m__law_pick (esC (eV 0) (esC (eC (.int 4)) esN))))) (esC (e2 gMul (eV 3) (eV 5)) esN)))))))
def m__law_draw_any : List D → M D := def0 6 b__law_draw_any
def b__law_two_right : MS :=
  (sPs (sPar2 3 4 (esC (eCall 2 m_parts (esC (eV 0) (esC (eV 1) esN))) (esC (eCall 2 m_parts (esC (eV 0) (esC (eV 2) esN))) esN)))
    (sPs (sIf (tO (tV (e2 gIsN (eV 3) (eC .non))) (tV (e2 gIsN (eV 4) (eC .non)))) (sRt (eC (.bl false))) sNx)
    (sPs (sIf (tO (tV (e2 gNe (eCall 2 m_parts (esC (eV 0) (esC (eCall 2 m__law_product (esC (eV 1) (esC (eV 2) esN))) esN))) (e2 gAdd (eV 3) (eV 4)))) (tV (e2 gNe (eCall 2 m_parts (esC (eV 0) (esC (eL gTupD (esC (e1 gNeg (e2 gIx (eV 1) (eC (.int 0)))) (esC (e2 gIx (eV 1) (eC (.int 1))) esN))) esN))) (eV 3)))) (sRt (eC (.bl false))) sNx)
    (sPs (sFo (iOf itT (eL gTupD (esC (eCall 2 m__law_sum (esC (eV 1) (esC (eV 2) esN))) (esC (eCall 2 m__law_apart (esC (eV 1) (esC (eV 2) esN))) esN)))) (gN 5) (sPs (sSet 6 (eCall 2 m_parts (esC (eV 0) (esC (eV 5) esN))))
    (sIf (tV (e2 gIsN (eV 6) (eC .non))) (sIf (tO (tV (e2 gNe (e2 gIx (eV 5) (eC (.int 0))) (eC (.int 0)))) (tV (e2 gNe (eV 3) (eV 4)))) (sRt (eC (.bl false))) sNx) (sIf (tO (tV (e2 gLt (eV 6) (eL gMin2 (esC (eV 3) (esC (eV 4) esN))))) (tA (tV (e2 gNe (eV 3) (eV 4))) (tV (e2 gNe (eV 6) (eL gMin2 (esC (eV 3) (esC (eV 4) esN))))))) (sRt (eC (.bl false))) sNx))))
    (sRt (eC (.bl true)))))))
def m__law_two_right : List D → M D := def0 7 b__law_two_right
def b__law_rest_right : MS :=
  (sPs (sSet 3 (eCall 3 m_rest (esC (eV 0) (esC (eV 1) (esC (eV 2) esN)))))
    (sPs (sIf (tO (tV (eL gIsi (esC (eV 3) (esC (eC (.oth (.ty "bool"))) esN)))) (tO (tN (tV (eL gIsi (esC (eV 3) (esC (eC (.oth (.ty "int"))) esN))))) (tN (tV (eCh gLe gLt (eC (.int 0)) (eV 3) (eCall 2 m__law_raised (esC (eV 0) (esC (eV 1) esN)))))))) (sRt (eC (.bl false))) sNx)
    (sPs (sSet 4 (eCall 2 m__law_apart (esC (eV 2) (esC (eL gTupD (esC (eV 3) (esC (eC (.int 1)) esN))) esN))))
    (sRt (eO (e2 gEq (e2 gIx (eV 4) (eC (.int 0))) (eC (.int 0))) (e2 gGe (eCall 2 m__law_parts (esC (eV 0) (esC (eV 4) esN))) (eV 1)))))))
def m__law_rest_right : List D → M D := def0 5 b__law_rest_right
def b_law : MS :=
  (sPs (sSet 1 (eCall 1 m__law_open_cells (esC (eV 0) esN)))
    (sPs (sFo (iOfs itR1 (esC (eC (.int 8)) esN)) (gN 2) (sPs (sSet 3 (e2 gIx (eL gLstD (esC (eCall 1 m__law_draw_prime (esC (eV 1) esN)) (esC (eC (.int 11)) (esC (eC (.int 97)) (esC (eC (.int 53)) esN))))) (e2 gIx (eL gLstD (esC (eC (.int 0)) (esC (eC (.int 0)) (esC (eC (.int 0)) (esC (eC (.int 1)) (esC (eC (.int 2)) (esC (eC (.int 3)) esN))))))) (eCall 2 m__law_pick (esC (eV 1) (esC (eC (.int 6)) esN))))))
    (sPs (sPar2 4 5 (esC (eCall 2 m__law_draw_any (esC (eV 1) (esC (eV 3) esN))) (esC (eCall 2 m__law_draw_any (esC (eV 1) (esC (eV 3) esN))) esN)))
    (sPs (sFo (iOf itT (eL gTupD (esC (eV 4) (esC (eV 5) esN)))) (gN 6) (sIf (tV (e2 gNe (eL gRepr (esC (eCall 2 m_parts (esC (eV 3) (esC (eV 6) esN))) esN)) (eL gRepr (esC (eI (tV (e2 gNe (e2 gIx (eV 6) (eC (.int 0))) (eC (.int 0)))) (eCall 2 m__law_parts (esC (eV 3) (esC (eV 6) esN))) (eC .non)) esN)))) (sRt (eC (.bl false))) sNx))
    (sPs (sIf (tA (tV (e2 gNe (e2 gIx (eV 4) (eC (.int 0))) (eC (.int 0)))) (tA (tV (e2 gNe (e2 gIx (eV 5) (eC (.int 0))) (eC (.int 0)))) (tN (tV (eCall 3 m__law_two_right (esC (eV 3) (esC (eV 4) (esC (eV 5) esN)))))))) (sRt (eC (.bl false))) sNx)
    (sPs (sSet 7 (e2 gIx (eL gLstD (esC (eC (.int 0)) (esC (eC (.int 1)) (esC (eC (.int 2)) (esC (eC (.int 5)) (esC (eC (.int 40)) esN)))))) (eCall 2 m__law_pick (esC (eV 1) (esC (eC (.int 5)) esN)))))
    (sPs (sSet 8 (e2 gIx (eV 4) (eC (.int 1))))
    (sPs (sFo (iOfs itR1 (esC (eC (.int 12)) esN)) (gN 9) (sSet 8 (eI (tV (e2 gEq (e2 gMod (eL gInt (esC (eV 8) esN)) (eV 3)) (eC (.int 0)))) (e2 gFdiv (eV 8) (eV 3)) (eV 8))))
    (sPs (sIf (tN (tV (eCall 3 m__law_rest_right (esC (eV 3) (esC (eV 7) (esC (eCall 2 m__law_fraction (esC (e2 gIx (eV 4) (eC (.int 0))) (esC (eV 8) esN))) esN)))))) (sRt (eC (.bl false))) sNx)
    (sPs (sSet 10 (eI (tV (e2 gLt (eV 3) (eC (.int 12)))) (e2 gSub (eCall 2 m__law_pick (esC (eV 1) (esC (eC (.int 19)) esN))) (eC (.int 9))) (e2 gSub (eCall 2 m__law_pick (esC (eV 1) (esC (eC (.int 9)) esN))) (eC (.int 4)))))
    (sPs (sSet 11 (eCall 2 m__law_power (esC (eV 3) (esC (eV 10) esN))))
    (sIf (tO (tV (e2 gNe (eCall 2 m_parts (esC (eV 3) (esC (eV 11) esN))) (eV 10))) (tA (tV (e2 gNe (e2 gIx (eV 4) (eC (.int 0))) (eC (.int 0)))) (tV (e2 gNe (eCall 2 m_parts (esC (eV 3) (esC (eCall 2 m__law_product (esC (eV 11) (esC (eV 4) esN))) esN))) (e2 gAdd (eV 10) (eCall 2 m__law_parts (esC (eV 3) (esC (eV 4) esN)))))))) (sRt (eC (.bl false))) sNx))))))))))))
    (sRt (eA (e2 gIsN (eCall 2 m_parts (esC (eC (.int 2)) (esC (eL gTupD (esC (eC (.int 0)) (esC (eC (.int 1)) esN))) esN))) (eC .non)) (eA (e2 gEq (eCall 3 m_rest (esC (eC (.int 2)) (esC (eC (.int 3)) (esC (eL gTupD (esC (eC (.int 0)) (esC (eC (.int 1)) esN))) esN)))) (eC (.int 0))) (e2 gEq (eCall 3 m_rest (esC (eC (.int 7)) (esC (eC (.int 0)) (esC (eL gTupD (esC (eC (.int 5)) (esC (eC (.int 3)) esN))) esN)))) (eC (.int 0))))))))
def m_law : List D → M D := def0 12 b_law
/-! ## each def keeps to its mirror -/
abbrev st_times_in : Stmt := topS 1
abbrev st_power_of : Stmt := topS 2
abbrev st_parts : Stmt := topS 3
abbrev st_inverse : Stmt := topS 4
abbrev st_rest : Stmt := topS 5
abbrev st__law_open_cells : Stmt := topS 7
abbrev st__law_pick : Stmt := topS 8
abbrev st__law_raised : Stmt := topS 9
abbrev st__law_common : Stmt := topS 10
abbrev st__law_fraction : Stmt := topS 11
abbrev st__law_sum : Stmt := topS 12
abbrev st__law_product : Stmt := topS 13
abbrev st__law_parts : Stmt := topS 14
abbrev st__law_power : Stmt := topS 15
abbrev st__law_draw_prime : Stmt := topS 16
abbrev st__law_apart : Stmt := topS 17
abbrev st__law_draw_any : Stmt := topS 18
abbrev st__law_two_right : Stmt := topS 19
abbrev st__law_rest_right : Stmt := topS 20
abbrev st_law : Stmt := topS 21
theorem sc_times_in : FnScope ["p", "n", "powers", "times", "k"] ["p", "n"] (defScope st_times_in) := ⟨rfl, rfl, rfl, by decide +kernel, rfl, by decide +kernel, by decide +kernel⟩
theorem sc_power_of : FnScope ["base", "k", "result", "square"] ["base", "k"] (defScope st_power_of) := ⟨rfl, rfl, rfl, by decide +kernel, rfl, by decide +kernel, by decide +kernel⟩
theorem sc_parts : FnScope ["p", "x"] ["p", "x"] (defScope st_parts) := ⟨rfl, rfl, rfl, by decide +kernel, rfl, by decide +kernel, by decide +kernel⟩
theorem sc_inverse : FnScope ["p", "k", "n", "found", "reach", "power", "r"] ["p", "k", "n"] (defScope st_inverse) := ⟨rfl, rfl, rfl, by decide +kernel, rfl, by decide +kernel, by decide +kernel⟩
theorem sc_rest : FnScope ["p", "k", "x", "power"] ["p", "k", "x"] (defScope st_rest) := ⟨rfl, rfl, rfl, by decide +kernel, rfl, by decide +kernel, by decide +kernel⟩
theorem sc__law_open_cells : FnScope ["_law_script", "_law_mixed", "_law_cell", "_law_cells"] ["_law_script"] (defScope st__law_open_cells) := ⟨rfl, rfl, rfl, by decide +kernel, rfl, by decide +kernel, by decide +kernel⟩
theorem sc__law_pick : FnScope ["_law_source", "_law_most", "_law_cells", "_law_left", "_law_turn", "_law_mixed"] ["_law_source", "_law_most"] (defScope st__law_pick) := ⟨rfl, rfl, rfl, by decide +kernel, rfl, by decide +kernel, by decide +kernel⟩
theorem sc__law_raised : FnScope ["_law_p", "_law_n", "_law_found", "_law_lap"] ["_law_p", "_law_n"] (defScope st__law_raised) := ⟨rfl, rfl, rfl, by decide +kernel, rfl, by decide +kernel, by decide +kernel⟩
theorem sc__law_common : FnScope ["_law_a", "_law_b"] ["_law_a", "_law_b"] (defScope st__law_common) := ⟨rfl, rfl, rfl, by decide +kernel, rfl, by decide +kernel, by decide +kernel⟩
theorem sc__law_fraction : FnScope ["_law_n", "_law_d", "_law_sign", "_law_divisor"] ["_law_n", "_law_d"] (defScope st__law_fraction) := ⟨rfl, rfl, rfl, by decide +kernel, rfl, by decide +kernel, by decide +kernel⟩
theorem sc__law_sum : FnScope ["_law_x", "_law_y"] ["_law_x", "_law_y"] (defScope st__law_sum) := ⟨rfl, rfl, rfl, by decide +kernel, rfl, by decide +kernel, by decide +kernel⟩
theorem sc__law_product : FnScope ["_law_x", "_law_y"] ["_law_x", "_law_y"] (defScope st__law_product) := ⟨rfl, rfl, rfl, by decide +kernel, rfl, by decide +kernel, by decide +kernel⟩
theorem sc__law_parts : FnScope ["_law_p", "_law_x", "_law_found", "_law_n", "_law_d"] ["_law_p", "_law_x"] (defScope st__law_parts) := ⟨rfl, rfl, rfl, by decide +kernel, rfl, by decide +kernel, by decide +kernel⟩
theorem sc__law_power : FnScope ["_law_p", "_law_n"] ["_law_p", "_law_n"] (defScope st__law_power) := ⟨rfl, rfl, rfl, by decide +kernel, rfl, by decide +kernel, by decide +kernel⟩
theorem sc__law_draw_prime : FnScope ["_law_source"] ["_law_source"] (defScope st__law_draw_prime) := ⟨rfl, rfl, rfl, by decide +kernel, rfl, by decide +kernel, by decide +kernel⟩
theorem sc__law_apart : FnScope ["_law_x", "_law_y"] ["_law_x", "_law_y"] (defScope st__law_apart) := ⟨rfl, rfl, rfl, by decide +kernel, rfl, by decide +kernel, by decide +kernel⟩
theorem sc__law_draw_any : FnScope ["_law_source", "_law_p", "_law_n", "_law_lower", "_law_most", "_law_high"] ["_law_source", "_law_p"] (defScope st__law_draw_any) := ⟨rfl, rfl, rfl, by decide +kernel, rfl, by decide +kernel, by decide +kernel⟩
theorem sc__law_two_right : FnScope ["_law_p", "_law_x", "_law_y", "_law_mine", "_law_yours", "_law_both", "_law_told"] ["_law_p", "_law_x", "_law_y"] (defScope st__law_two_right) := ⟨rfl, rfl, rfl, by decide +kernel, rfl, by decide +kernel, by decide +kernel⟩
theorem sc__law_rest_right : FnScope ["_law_p", "_law_k", "_law_x", "_law_told", "_law_gap"] ["_law_p", "_law_k", "_law_x"] (defScope st__law_rest_right) := ⟨rfl, rfl, rfl, by decide +kernel, rfl, by decide +kernel, by decide +kernel⟩
theorem sc_law : FnScope ["_law_script", "_law_source", "_law_lap", "_law_p", "_law_x", "_law_y", "_law_one", "_law_k", "_law_lower", "_law_turn", "_law_n", "_law_power_here"] ["_law_script"] (defScope st_law) := ⟨rfl, rfl, rfl, by decide +kernel, rfl, by decide +kernel, by decide +kernel⟩
structure Txt (K : PySem.W.Frag) (mg : Str → Option Value) : Type where
  times_in : DefAt K mg "times_in" st_times_in ["p", "n"]
  power_of : DefAt K mg "power_of" st_power_of ["base", "k"]
  parts : DefAt K mg "parts" st_parts ["p", "x"]
  inverse : DefAt K mg "inverse" st_inverse ["p", "k", "n"]
  rest : DefAt K mg "rest" st_rest ["p", "k", "x"]
  _law_open_cells : DefAt K mg "_law_open_cells" st__law_open_cells ["_law_script"]
  _law_pick : DefAt K mg "_law_pick" st__law_pick ["_law_source", "_law_most"]
  _law_raised : DefAt K mg "_law_raised" st__law_raised ["_law_p", "_law_n"]
  _law_common : DefAt K mg "_law_common" st__law_common ["_law_a", "_law_b"]
  _law_fraction : DefAt K mg "_law_fraction" st__law_fraction ["_law_n", "_law_d"]
  _law_sum : DefAt K mg "_law_sum" st__law_sum ["_law_x", "_law_y"]
  _law_product : DefAt K mg "_law_product" st__law_product ["_law_x", "_law_y"]
  _law_parts : DefAt K mg "_law_parts" st__law_parts ["_law_p", "_law_x"]
  _law_power : DefAt K mg "_law_power" st__law_power ["_law_p", "_law_n"]
  _law_draw_prime : DefAt K mg "_law_draw_prime" st__law_draw_prime ["_law_source"]
  _law_apart : DefAt K mg "_law_apart" st__law_apart ["_law_x", "_law_y"]
  _law_draw_any : DefAt K mg "_law_draw_any" st__law_draw_any ["_law_source", "_law_p"]
  _law_two_right : DefAt K mg "_law_two_right" st__law_two_right ["_law_p", "_law_x", "_law_y"]
  _law_rest_right : DefAt K mg "_law_rest_right" st__law_rest_right ["_law_p", "_law_k", "_law_x"]
  law : DefAt K mg "law" st_law ["_law_script"]
  z_abs : mg "abs" = none
  z_bool : mg "bool" = none
  z_int : mg "int" = none
  z_isinstance : mg "isinstance" = none
  z_len : mg "len" = none
  z_min : mg "min" = none
  z_range : mg "range" = none
  z_repr : mg "repr" = none
  z_reversed : mg "reversed" = none
section
variable {P : Program} {w : World} {K : PySem.W.Frag} {mg : Str → Option Value} {base : Heap}
theorem ok_times_in (T : Txt K mg) : FnG P w K mg base (L2.CX P w) 1 T.times_in.f T.times_in.fd ["p", "n"] (spD K mg 2 m_times_in) := by
  have nd := sc_times_in.nd
  refine okM (k := 0) (g := b_times_in) T.times_in.fn sc_times_in rfl rfl fun cdv A outer s H E hr rm => ?_
  exact (s_cons (s_set 2 nd (d_lstN (as_cons (d_var 0) as_nil)))
    (s_cons (s_while FU PassesOwn.never (t_cmp (o_eq rm.un) g_eq (d_op op_modN g_mod (d_var 1) (d_ix (d_var 2) (d_un un_neg g_neg d_int))) d_int) (s_one (s_expr (d_app (d_var 2) (d_op o_mul g_mul (d_ix (d_var 2) (d_un un_neg g_neg d_int)) (d_ix (d_var 2) (d_un un_neg g_neg d_int)))))))
    (s_cons (s_set 3 nd d_int)
    (s_cons (s_for rm PassesOwn.never (i_revR1 rfl T.z_reversed rfl T.z_range (d_bfn c_len g_len rfl T.z_len (by decide +kernel) (as_cons (d_var 2) as_nil))) (g_name 4 nd) (s_one (s_if (t_cmp (o_eq rm.un) g_eq (d_op op_modN g_mod (d_var 1) (d_ix (d_var 2) (d_var 4))) d_int) (s_cons (s_set 1 nd (d_op o_fdiv g_fdiv (d_var 1) (d_ix (d_var 2) (d_var 4))))
    (s_one (s_aug 3 nd ip_add g_ip (d_op op_shl g_shl d_int (d_var 4))))) s_nil)))
    (s_one (s_ret (d_var 3)))))))
theorem ok_power_of (T : Txt K mg) : FnG P w K mg base (L2.CX P w) 1 T.power_of.f T.power_of.fd ["base", "k"] (spD K mg 2 m_power_of) := by
  have nd := sc_power_of.nd
  refine okM (k := 0) (g := b_power_of) T.power_of.fn sc_power_of rfl rfl fun cdv A outer s H E hr rm => ?_
  exact (s_cons (s_set 2 nd d_int)
    (s_cons (s_set 3 nd (d_var 0))
    (s_cons (s_while FU PassesOwn.never (t_cmp op_gt g_gt (d_var 1) d_int) (s_cons (s_if (t_int (d_op op_and g_and (d_var 1) d_int)) (s_one (s_set 2 nd (d_op o_mul g_mul (d_var 2) (d_var 3)))) s_nil)
    (s_cons (s_set 1 nd (d_op op_shr g_shr (d_var 1) d_int))
    (s_one (s_if (t_cmp op_gt g_gt (d_var 1) d_int) (s_one (s_set 3 nd (d_op o_mul g_mul (d_var 3) (d_var 3)))) s_nil)))))
    (s_one (s_ret (d_var 2))))))
theorem ok_parts (T : Txt K mg) : FnG P w K mg base (L2.CX P w) 2 T.parts.f T.parts.fd ["p", "x"] (spD K mg 2 m_parts) := by
  have G_times_in := ok_times_in (P := P) (w := w) (base := base) T
  have nd := sc_parts.nd
  refine okM (k := 1) (g := b_parts) T.parts.fn sc_parts rfl rfl fun cdv A outer s H E hr rm => ?_
  exact (s_cons (s_if (t_cmp (o_eq rm.un) g_eq (d_ix (d_var 1) d_int) d_int) (s_one (s_ret d_non)) s_nil)
    (s_one (s_ret (d_op op_sub g_sub (d_call0 G_times_in (hr.mono (by decide)) rm rfl T.times_in.ix T.times_in.fn.kp T.times_in.bd (as_cons (d_var 0) (as_cons (d_ix (d_var 1) d_int) as_nil))) (d_call0 G_times_in (hr.mono (by decide)) rm rfl T.times_in.ix T.times_in.fn.kp T.times_in.bd (as_cons (d_var 0) (as_cons (d_ix (d_var 1) d_int) as_nil)))))))
theorem ok_inverse (T : Txt K mg) : FnG P w K mg base (L2.CX P w) 2 T.inverse.f T.inverse.fd ["p", "k", "n"] (spD K mg 3 m_inverse) := by
  have G_power_of := ok_power_of (P := P) (w := w) (base := base) T
  have nd := sc_inverse.nd
  refine okM (k := 1) (g := b_inverse) T.inverse.fn sc_inverse rfl rfl fun cdv A outer s H E hr rm => ?_
  exact (s_cons (s_set 3 nd (d_ix (d_lc (own := [("r", 6)]) (g := gName 6) rm nd (i_rng2 rfl T.z_range (as_cons d_int (as_cons (d_var 0) as_nil))) (blkOk_by (N := ["p", "k", "n", "found", "reach", "power", "r"]) (sc := defScope st_inverse) (own := [("r", 6)]) (by decide +kernel)) (raw_n (by decide)) (fun _ _ _ _ _ => pg_name (i := 6) nd rfl (Or.inl rfl)) (fun _ _ _ _ _ => (have rm := rm.blk; (ts_one (t_cmp (o_eq rm.un) g_eq (d_op op_modN g_mod (d_op o_mul g_mul (d_var 2) (d_var 6)) (d_var 0)) d_int)))) (fun _ _ _ _ _ => (d_var 6))) d_int))
    (s_cons (s_set 4 nd d_int)
    (s_cons (s_set 5 nd (d_var 0))
    (s_cons (s_while FU PassesOwn.never (t_cmp op_lt g_lt (d_var 4) (d_var 1)) (s_cons (s_set 4 nd (d_op o_mul g_mul d_int (d_var 4)))
    (s_cons (s_set 5 nd (d_op o_mul g_mul (d_var 5) (d_var 5)))
    (s_one (s_set 3 nd (d_op op_modN g_mod (d_op o_mul g_mul (d_var 3) (d_op op_sub g_sub d_int (d_op o_mul g_mul (d_var 2) (d_var 3)))) (d_var 5)))))))
    (s_one (s_ret (d_op op_modN g_mod (d_var 3) (d_call0 G_power_of (hr.mono (by decide)) rm rfl T.power_of.ix T.power_of.fn.kp T.power_of.bd (as_cons (d_var 0) (as_cons (d_var 1) as_nil))))))))))
theorem ok_rest (T : Txt K mg) : FnG P w K mg base (L2.CX P w) 3 T.rest.f T.rest.fd ["p", "k", "x"] (spD K mg 3 m_rest) := by
  have G_power_of := ok_power_of (P := P) (w := w) (base := base) T
  have G_inverse := ok_inverse (P := P) (w := w) (base := base) T
  have nd := sc_rest.nd
  refine okM (k := 2) (g := b_rest) T.rest.fn sc_rest rfl rfl fun cdv A outer s H E hr rm => ?_
  exact (s_cons (s_set 3 nd (d_call0 G_power_of (hr.mono (by decide)) rm rfl T.power_of.ix T.power_of.fn.kp T.power_of.bd (as_cons (d_var 0) (as_cons (d_var 1) as_nil))))
    (s_cons (s_if (t_cmp (o_eq rm.un) g_eq (d_ix (d_var 2) d_int) d_int) (s_one (s_ret (d_op op_modN g_mod (d_ix (d_var 2) d_int) (d_var 3)))) s_nil)
    (s_one (s_ret (d_op op_modN g_mod (d_op o_mul g_mul (d_ix (d_var 2) d_int) (d_call0 G_inverse (hr.mono (by decide)) rm rfl T.inverse.ix T.inverse.fn.kp T.inverse.bd (as_cons (d_var 0) (as_cons (d_var 1) (as_cons (d_ix (d_var 2) d_int) as_nil))))) (d_var 3))))))
theorem ok__law_open_cells (T : Txt K mg) : FnG P w K mg base (L2.CX P w) 1 T._law_open_cells.f T._law_open_cells.fd ["_law_script"] (spD K mg 1 m__law_open_cells) := by
  have nd := sc__law_open_cells.nd
  refine okM (k := 0) (g := b__law_open_cells) T._law_open_cells.fn sc__law_open_cells rfl rfl fun cdv A outer s H E hr rm => ?_
  exact (s_cons (s_set 1 nd d_int)
    (s_cons (s_for rm PassesOwn.never (i_list (d_var 0)) (g_name 2 nd) (s_one (s_set 1 nd (d_op op_modN g_mod (d_bty call_int1 g_intc rfl T.z_int (by decide +kernel) (as_cons (d_op o_add g_add (d_op o_add g_add (d_op o_mul g_mul (d_var 1) d_int) (d_op o_mul g_mul (d_var 2) d_int)) d_int) as_nil)) d_int))))
    (s_cons (s_setLc 3 (own := [("_law_cell", 2)]) (g := gName 2) rm nd (i_list (d_var 0)) (blkOk_by (N := ["_law_script", "_law_mixed", "_law_cell", "_law_cells"]) (sc := defScope st__law_open_cells) (own := [("_law_cell", 2)]) (by decide +kernel)) (raw_n (by decide)) (fun _ _ _ _ _ => pg_name (i := 2) nd rfl (Or.inl rfl)) (fun _ _ _ _ _ => ts_nil) (fun _ _ _ _ _ => (d_bfn call_abs g_abs rfl T.z_abs (by decide +kernel) (as_cons (d_var 2) as_nil))))
    (s_one (s_ret (d_disp (pps_cons d_str (d_revN (d_var 3)) (pps_cons d_str d_int (pps_cons d_str (d_var 1) (pps_cons d_str d_int pps_nil)))) (tp_cons (tp_cons (tp_cons (tp_cons tp_nil))))))))))
theorem ok__law_pick (T : Txt K mg) : FnG P w K mg base (L2.CX P w) 1 T._law_pick.f T._law_pick.fd ["_law_source", "_law_most"] (spD K mg 2 m__law_pick) := by
  have nd := sc__law_pick.nd
  refine okM (k := 0) (g := b__law_pick) T._law_pick.fn sc__law_pick rfl rfl fun cdv A outer s H E hr rm => ?_
  exact (s_cons (s_if (t_cmp op_lt g_lt (d_var 1) d_int) (s_one (s_ret d_int)) s_nil)
    (s_cons (s_set 2 nd (d_dget rm (d_var 0) d_str))
    (s_cons (s_while FU PassesOwn.never (L2.PW.pt (w_and (t_cmp op_lt g_lt (d_dget rm (d_var 0) d_str) d_int) (w_and1 (t_cmp op_gt g_gt (d_bfn c_len g_len rfl T.z_len (by decide +kernel) (as_cons (d_var 2) as_nil)) d_int)))) (s_one (s_dput rm (d_var 0) d_str (d_pop (d_var 2)))))
    (s_cons (s_set 3 nd (d_dget rm (d_var 0) d_str))
    (s_cons (s_if (t_cmp op_gt g_gt (d_var 3) d_int) (s_cons (s_dput rm (d_var 0) d_str (d_op o_fdiv g_fdiv (d_var 3) (d_var 1)))
    (s_one (s_ret (d_op op_modN g_mod (d_bty call_int1 g_intc rfl T.z_int (by decide +kernel) (as_cons (d_var 3) as_nil)) (d_var 1))))) s_nil)
    (s_cons (s_dput rm (d_var 0) d_str (d_op o_add g_add (d_dget rm (d_var 0) d_str) d_int))
    (s_cons (s_set 4 nd (d_dget rm (d_var 0) d_str))
    (s_cons (s_set 5 nd (d_op op_modN g_mod (d_bty call_int1 g_intc rfl T.z_int (by decide +kernel) (as_cons (d_op o_add g_add (d_dget rm (d_var 0) d_str) (d_op o_mul g_mul (d_var 4) d_int)) as_nil)) d_int))
    (s_cons (s_set 5 nd (d_op op_modN g_mod (d_bty call_int1 g_intc rfl T.z_int (by decide +kernel) (as_cons (d_op o_add g_add (d_op o_mul g_mul (d_var 5) (d_var 5)) (d_op o_mul g_mul (d_var 4) d_int)) as_nil)) d_int))
    (s_one (s_ret (d_op op_modN g_mod (d_bty call_int1 g_intc rfl T.z_int (by decide +kernel) (as_cons (d_op o_fdiv g_fdiv (d_var 5) d_int) as_nil)) (d_var 1)))))))))))))
theorem ok__law_raised (T : Txt K mg) : FnG P w K mg base (L2.CX P w) 1 T._law_raised.f T._law_raised.fd ["_law_p", "_law_n"] (spD K mg 2 m__law_raised) := by
  have nd := sc__law_raised.nd
  refine okM (k := 0) (g := b__law_raised) T._law_raised.fn sc__law_raised rfl rfl fun cdv A outer s H E hr rm => ?_
  exact (s_cons (s_set 2 nd d_int)
    (s_cons (s_for rm PassesOwn.never (i_rng1 rfl T.z_range (as_cons (d_var 1) as_nil)) (g_name 3 nd) (s_one (s_set 2 nd (d_op o_mul g_mul (d_var 2) (d_var 0)))))
    (s_one (s_ret (d_var 2)))))
theorem ok__law_common (T : Txt K mg) : FnG P w K mg base (L2.CX P w) 1 T._law_common.f T._law_common.fd ["_law_a", "_law_b"] (spD K mg 2 m__law_common) := by
  have nd := sc__law_common.nd
  refine okM (k := 0) (g := b__law_common) T._law_common.fn sc__law_common rfl rfl fun cdv A outer s H E hr rm => ?_
  exact (s_cons (s_par2 0 1 rm nd (as_cons (d_bfn call_abs g_abs rfl T.z_abs (by decide +kernel) (as_cons (d_var 0) as_nil)) (as_cons (d_bfn call_abs g_abs rfl T.z_abs (by decide +kernel) (as_cons (d_var 1) as_nil)) as_nil)))
    (s_cons (s_while FU PassesOwn.never (t_cmp (o_ne rm.un) g_ne (d_var 1) d_int) (s_one (s_par2 0 1 rm nd (as_cons (d_var 1) (as_cons (d_op op_modN g_mod (d_var 0) (d_var 1)) as_nil)))))
    (s_one (s_ret (d_var 0)))))
theorem ok__law_fraction (T : Txt K mg) : FnG P w K mg base (L2.CX P w) 2 T._law_fraction.f T._law_fraction.fd ["_law_n", "_law_d"] (spD K mg 2 m__law_fraction) := by
  have G__law_common := ok__law_common (P := P) (w := w) (base := base) T
  have nd := sc__law_fraction.nd
  refine okM (k := 1) (g := b__law_fraction) T._law_fraction.fn sc__law_fraction rfl rfl fun cdv A outer s H E hr rm => ?_
  exact (s_cons (s_set 2 nd (d_if (t_cmp op_gt g_gt (d_var 1) d_int) d_int (d_op op_sub g_sub d_int d_int)))
    (s_cons (s_set 3 nd (d_op o_mul g_mul (d_call0 G__law_common (hr.mono (by decide)) rm rfl T._law_common.ix T._law_common.fn.kp T._law_common.bd (as_cons (d_var 0) (as_cons (d_var 1) as_nil))) (d_var 2)))
    (s_one (s_ret (d_tup (as_cons (d_op o_fdiv g_fdiv (d_var 0) (d_var 3)) (as_cons (d_op o_fdiv g_fdiv (d_var 1) (d_var 3)) as_nil)))))))
theorem ok__law_sum (T : Txt K mg) : FnG P w K mg base (L2.CX P w) 3 T._law_sum.f T._law_sum.fd ["_law_x", "_law_y"] (spD K mg 2 m__law_sum) := by
  have G__law_fraction := ok__law_fraction (P := P) (w := w) (base := base) T
  have nd := sc__law_sum.nd
  refine okM (k := 2) (g := b__law_sum) T._law_sum.fn sc__law_sum rfl rfl fun cdv A outer s H E hr rm => ?_
  exact (s_one (s_ret (d_call0 G__law_fraction (hr.mono (by decide)) rm rfl T._law_fraction.ix T._law_fraction.fn.kp T._law_fraction.bd (as_cons (d_op o_add g_add (d_op o_mul g_mul (d_ix (d_var 0) d_int) (d_ix (d_var 1) d_int)) (d_op o_mul g_mul (d_ix (d_var 1) d_int) (d_ix (d_var 0) d_int))) (as_cons (d_op o_mul g_mul (d_ix (d_var 0) d_int) (d_ix (d_var 1) d_int)) as_nil)))))
theorem ok__law_product (T : Txt K mg) : FnG P w K mg base (L2.CX P w) 3 T._law_product.f T._law_product.fd ["_law_x", "_law_y"] (spD K mg 2 m__law_product) := by
  have G__law_fraction := ok__law_fraction (P := P) (w := w) (base := base) T
  have nd := sc__law_product.nd
  refine okM (k := 2) (g := b__law_product) T._law_product.fn sc__law_product rfl rfl fun cdv A outer s H E hr rm => ?_
  exact (s_one (s_ret (d_call0 G__law_fraction (hr.mono (by decide)) rm rfl T._law_fraction.ix T._law_fraction.fn.kp T._law_fraction.bd (as_cons (d_op o_mul g_mul (d_ix (d_var 0) d_int) (d_ix (d_var 1) d_int)) (as_cons (d_op o_mul g_mul (d_ix (d_var 0) d_int) (d_ix (d_var 1) d_int)) as_nil)))))
theorem ok__law_parts (T : Txt K mg) : FnG P w K mg base (L2.CX P w) 1 T._law_parts.f T._law_parts.fd ["_law_p", "_law_x"] (spD K mg 2 m__law_parts) := by
  have nd := sc__law_parts.nd
  refine okM (k := 0) (g := b__law_parts) T._law_parts.fn sc__law_parts rfl rfl fun cdv A outer s H E hr rm => ?_
  exact (s_cons (s_par3 2 3 4 rm nd (as_cons (d_if (t_cmp (o_eq rm.un) g_eq (d_ix (d_var 1) d_int) d_int) d_int d_int) (as_cons (d_ix (d_var 1) d_int) (as_cons (d_ix (d_var 1) d_int) as_nil))))
    (s_cons (s_while FU PassesOwn.never (L2.PW.pt (w_and (t_cmp op_gt g_gt (d_var 0) d_int) (w_and (t_cmp (o_ne rm.un) g_ne (d_var 3) d_int) (w_and1 (t_cmp (o_eq rm.un) g_eq (d_op op_modN g_mod (d_var 3) (d_var 0)) d_int))))) (s_one (s_par2 2 3 rm nd (as_cons (d_op o_add g_add (d_var 2) d_int) (as_cons (d_op o_fdiv g_fdiv (d_var 3) (d_var 0)) as_nil)))))
    (s_cons (s_while FU PassesOwn.never (L2.PW.pt (w_and (t_cmp op_gt g_gt (d_var 0) d_int) (w_and (t_cmp (o_ne rm.un) g_ne (d_var 4) d_int) (w_and1 (t_cmp (o_eq rm.un) g_eq (d_op op_modN g_mod (d_var 4) (d_var 0)) d_int))))) (s_one (s_par2 2 4 rm nd (as_cons (d_op op_sub g_sub (d_var 2) d_int) (as_cons (d_op o_fdiv g_fdiv (d_var 4) (d_var 0)) as_nil)))))
    (s_one (s_ret (d_var 2))))))
theorem ok__law_power (T : Txt K mg) : FnG P w K mg base (L2.CX P w) 2 T._law_power.f T._law_power.fd ["_law_p", "_law_n"] (spD K mg 2 m__law_power) := by
  have G__law_raised := ok__law_raised (P := P) (w := w) (base := base) T
  have nd := sc__law_power.nd
  refine okM (k := 1) (g := b__law_power) T._law_power.fn sc__law_power rfl rfl fun cdv A outer s H E hr rm => ?_
  exact (s_one (s_ret (d_if (t_cmp op_ge g_ge (d_var 1) d_int) (d_tup (as_cons (d_call0 G__law_raised (hr.mono (by decide)) rm rfl T._law_raised.ix T._law_raised.fn.kp T._law_raised.bd (as_cons (d_var 0) (as_cons (d_var 1) as_nil))) (as_cons d_int as_nil))) (d_tup (as_cons d_int (as_cons (d_call0 G__law_raised (hr.mono (by decide)) rm rfl T._law_raised.ix T._law_raised.fn.kp T._law_raised.bd (as_cons (d_var 0) (as_cons (d_op op_sub g_sub d_int (d_var 1)) as_nil))) as_nil))))))
theorem ok__law_draw_prime (T : Txt K mg) : FnG P w K mg base (L2.CX P w) 2 T._law_draw_prime.f T._law_draw_prime.fd ["_law_source"] (spD K mg 1 m__law_draw_prime) := by
  have G__law_pick := ok__law_pick (P := P) (w := w) (base := base) T
  have nd := sc__law_draw_prime.nd
  refine okM (k := 1) (g := b__law_draw_prime) T._law_draw_prime.fn sc__law_draw_prime rfl rfl fun cdv A outer s H E hr rm => ?_
  exact (s_one (s_ret (d_ix (d_lst (as_cons d_int (as_cons d_int (as_cons d_int (as_cons d_int (as_cons d_int as_nil)))))) (d_call0 G__law_pick (hr.mono (by decide)) rm rfl T._law_pick.ix T._law_pick.fn.kp T._law_pick.bd (as_cons (d_var 0) (as_cons d_int as_nil))))))
theorem ok__law_apart (T : Txt K mg) : FnG P w K mg base (L2.CX P w) 3 T._law_apart.f T._law_apart.fd ["_law_x", "_law_y"] (spD K mg 2 m__law_apart) := by
  have G__law_fraction := ok__law_fraction (P := P) (w := w) (base := base) T
  have nd := sc__law_apart.nd
  refine okM (k := 2) (g := b__law_apart) T._law_apart.fn sc__law_apart rfl rfl fun cdv A outer s H E hr rm => ?_
  exact (s_one (s_ret (d_call0 G__law_fraction (hr.mono (by decide)) rm rfl T._law_fraction.ix T._law_fraction.fn.kp T._law_fraction.bd (as_cons (d_op op_sub g_sub (d_op o_mul g_mul (d_ix (d_var 0) d_int) (d_ix (d_var 1) d_int)) (d_op o_mul g_mul (d_ix (d_var 1) d_int) (d_ix (d_var 0) d_int))) (as_cons (d_op o_mul g_mul (d_ix (d_var 0) d_int) (d_ix (d_var 1) d_int)) as_nil)))))
theorem ok__law_draw_any (T : Txt K mg) : FnG P w K mg base (L2.CX P w) 3 T._law_draw_any.f T._law_draw_any.fd ["_law_source", "_law_p"] (spD K mg 2 m__law_draw_any) := by
  have G__law_fraction := ok__law_fraction (P := P) (w := w) (base := base) T
  have G__law_pick := ok__law_pick (P := P) (w := w) (base := base) T
  have G__law_raised := ok__law_raised (P := P) (w := w) (base := base) T
  have nd := sc__law_draw_any.nd
  refine okM (k := 2) (g := b__law_draw_any) T._law_draw_any.fn sc__law_draw_any rfl rfl fun cdv A outer s H E hr rm => ?_
  exact (s_cons (s_par2 2 3 rm nd (as_cons (d_op op_sub g_sub (d_call0 G__law_pick (hr.mono (by decide)) rm rfl T._law_pick.ix T._law_pick.fn.kp T._law_pick.bd (as_cons (d_var 0) (as_cons d_int as_nil))) d_int) (as_cons (d_ix (d_lst (as_cons d_int (as_cons d_int (as_cons d_int (as_cons d_int (as_cons d_int (as_cons d_int (as_cons d_int (as_cons d_int (as_cons d_int (as_cons d_int (as_cons d_int (as_cons d_int as_nil))))))))))))) (d_call0 G__law_pick (hr.mono (by decide)) rm rfl T._law_pick.ix T._law_pick.fn.kp T._law_pick.bd (as_cons (d_var 0) (as_cons d_int as_nil)))) as_nil)))
    (s_cons (s_set 4 nd (d_if (t_cmp op_lt g_lt (d_var 1) d_int) d_int d_int))
    (s_cons (s_set 5 nd (d_ix (d_lst (as_cons d_int (as_cons d_int (as_cons (d_var 1) (as_cons (d_op o_mul g_mul (d_var 1) (d_var 1)) (as_cons (d_call0 G__law_raised (hr.mono (by decide)) rm rfl T._law_raised.ix T._law_raised.fn.kp T._law_raised.bd (as_cons (d_var 1) (as_cons (d_var 4) as_nil))) as_nil)))))) (d_call0 G__law_pick (hr.mono (by decide)) rm rfl T._law_pick.ix T._law_pick.fn.kp T._law_pick.bd (as_cons (d_var 0) (as_cons d_int as_nil)))))
    (s_one (s_ret (d_call0 G__law_fraction (hr.mono (by decide)) rm rfl T._law_fraction.ix T._law_fraction.fn.kp T._law_fraction.bd (as_cons (d_op o_mul g_mul (d_var 2) (d_ix (d_lst (as_cons d_int (as_cons d_int (as_cons (d_var 1) (as_cons (d_call0 G__law_raised (hr.mono (by decide)) rm rfl T._law_raised.ix T._law_raised.fn.kp T._law_raised.bd (as_cons (d_var 1) (as_cons (d_op op_sub g_sub (d_var 4) d_int) as_nil))) as_nil))))) (d_call0 G__law_pick (hr.mono (by decide)) rm rfl T._law_pick.ix T._law_pick.fn.kp T._law_pick.bd (as_cons (d_var 0) (as_cons d_int as_nil))))) (as_cons (d_op o_mul g_mul (d_var 3) (d_var 5)) as_nil))))))))
theorem ok__law_two_right (T : Txt K mg) : FnG P w K mg base (L2.CX P w) 4 T._law_two_right.f T._law_two_right.fd ["_law_p", "_law_x", "_law_y"] (spD K mg 3 m__law_two_right) := by
  have G_parts := ok_parts (P := P) (w := w) (base := base) T
  have G__law_sum := ok__law_sum (P := P) (w := w) (base := base) T
  have G__law_apart := ok__law_apart (P := P) (w := w) (base := base) T
  have G__law_product := ok__law_product (P := P) (w := w) (base := base) T
  have nd := sc__law_two_right.nd
  refine okM (k := 3) (g := b__law_two_right) T._law_two_right.fn sc__law_two_right rfl rfl fun cdv A outer s H E hr rm => ?_
  exact (s_cons (s_par2 3 4 rm nd (as_cons (d_call0 G_parts (hr.mono (by decide)) rm rfl T.parts.ix T.parts.fn.kp T.parts.bd (as_cons (d_var 0) (as_cons (d_var 1) as_nil))) (as_cons (d_call0 G_parts (hr.mono (by decide)) rm rfl T.parts.ix T.parts.fn.kp T.parts.bd (as_cons (d_var 0) (as_cons (d_var 2) as_nil))) as_nil)))
    (s_cons (s_if (L2.PW.pt (w_or (t_cmp op_isN g_isN (d_var 3) d_non) (w_or1 (t_cmp op_isN g_isN (d_var 4) d_non)))) (s_one (s_ret d_bl)) s_nil)
    (s_cons (s_if (L2.PW.pt (w_or (t_cmp (o_ne rm.un) g_ne (d_call0 G_parts (hr.mono (by decide)) rm rfl T.parts.ix T.parts.fn.kp T.parts.bd (as_cons (d_var 0) (as_cons (d_call0 G__law_product (hr.mono (by decide)) rm rfl T._law_product.ix T._law_product.fn.kp T._law_product.bd (as_cons (d_var 1) (as_cons (d_var 2) as_nil))) as_nil))) (d_op o_add g_add (d_var 3) (d_var 4))) (w_or1 (t_cmp (o_ne rm.un) g_ne (d_call0 G_parts (hr.mono (by decide)) rm rfl T.parts.ix T.parts.fn.kp T.parts.bd (as_cons (d_var 0) (as_cons (d_tup (as_cons (d_un un_neg g_neg (d_ix (d_var 1) d_int)) (as_cons (d_ix (d_var 1) d_int) as_nil))) as_nil))) (d_var 3))))) (s_one (s_ret d_bl)) s_nil)
    (s_cons (s_for rm PassesOwn.never (i_tup (d_tup (as_cons (d_call0 G__law_sum (hr.mono (by decide)) rm rfl T._law_sum.ix T._law_sum.fn.kp T._law_sum.bd (as_cons (d_var 1) (as_cons (d_var 2) as_nil))) (as_cons (d_call0 G__law_apart (hr.mono (by decide)) rm rfl T._law_apart.ix T._law_apart.fn.kp T._law_apart.bd (as_cons (d_var 1) (as_cons (d_var 2) as_nil))) as_nil)))) (g_name 5 nd) (s_cons (s_set 6 nd (d_call0 G_parts (hr.mono (by decide)) rm rfl T.parts.ix T.parts.fn.kp T.parts.bd (as_cons (d_var 0) (as_cons (d_var 5) as_nil))))
    (s_one (s_if (t_cmp op_isN g_isN (d_var 6) d_non) (s_one (s_if (L2.PW.pt (w_or (t_cmp (o_ne rm.un) g_ne (d_ix (d_var 5) d_int) d_int) (w_or1 (t_cmp (o_ne rm.un) g_ne (d_var 3) (d_var 4))))) (s_one (s_ret d_bl)) s_nil)) (s_one (s_if (L2.PW.pt (w_or (t_cmp op_lt g_lt (d_var 6) (d_bfn (call_min2 rm.cm) g_min2 rfl T.z_min (by decide +kernel) (as_cons (d_var 3) (as_cons (d_var 4) as_nil)))) (w_or1 (L2.PW.pt (w_and (t_cmp (o_ne rm.un) g_ne (d_var 3) (d_var 4)) (w_and1 (t_cmp (o_ne rm.un) g_ne (d_var 6) (d_bfn (call_min2 rm.cm) g_min2 rfl T.z_min (by decide +kernel) (as_cons (d_var 3) (as_cons (d_var 4) as_nil)))))))))) (s_one (s_ret d_bl)) s_nil))))))
    (s_one (s_ret d_bl))))))
theorem ok__law_rest_right (T : Txt K mg) : FnG P w K mg base (L2.CX P w) 4 T._law_rest_right.f T._law_rest_right.fd ["_law_p", "_law_k", "_law_x"] (spD K mg 3 m__law_rest_right) := by
  have G_rest := ok_rest (P := P) (w := w) (base := base) T
  have G__law_apart := ok__law_apart (P := P) (w := w) (base := base) T
  have G__law_parts := ok__law_parts (P := P) (w := w) (base := base) T
  have G__law_raised := ok__law_raised (P := P) (w := w) (base := base) T
  have nd := sc__law_rest_right.nd
  refine okM (k := 3) (g := b__law_rest_right) T._law_rest_right.fn sc__law_rest_right rfl rfl fun cdv A outer s H E hr rm => ?_
  exact (s_cons (s_set 3 nd (d_call0 G_rest (hr.mono (by decide)) rm rfl T.rest.ix T.rest.fn.kp T.rest.bd (as_cons (d_var 0) (as_cons (d_var 1) (as_cons (d_var 2) as_nil)))))
    (s_cons (s_if (L2.PW.pt (w_or (t_val (d_bfn call_isi g_isi rfl T.z_isinstance (by decide +kernel) (as_cons (d_var 3) (as_cons (d_tyname rfl T.z_bool (by decide +kernel)) as_nil)))) (w_or (t_not (t_val (d_bfn call_isi g_isi rfl T.z_isinstance (by decide +kernel) (as_cons (d_var 3) (as_cons (d_tyname rfl T.z_int (by decide +kernel)) as_nil))))) (w_or1 (t_not (t_chain op_le g_le op_lt g_lt d_int (d_var 3) (d_call0 G__law_raised (hr.mono (by decide)) rm rfl T._law_raised.ix T._law_raised.fn.kp T._law_raised.bd (as_cons (d_var 0) (as_cons (d_var 1) as_nil))))))))) (s_one (s_ret d_bl)) s_nil)
    (s_cons (s_set 4 nd (d_call0 G__law_apart (hr.mono (by decide)) rm rfl T._law_apart.ix T._law_apart.fn.kp T._law_apart.bd (as_cons (d_var 2) (as_cons (d_tup (as_cons (d_var 3) (as_cons d_int as_nil))) as_nil))))
    (s_one (s_ret (d_or (d_cmp (o_eq rm.un) g_eq (d_ix (d_var 4) d_int) d_int) (d_one (d_cmp op_ge g_ge (d_call0 G__law_parts (hr.mono (by decide)) rm rfl T._law_parts.ix T._law_parts.fn.kp T._law_parts.bd (as_cons (d_var 0) (as_cons (d_var 4) as_nil))) (d_var 1)))))))))
theorem ok_law (T : Txt K mg) : FnG P w K mg base (L2.CX P w) 5 T.law.f T.law.fd ["_law_script"] (spD K mg 1 m_law) := by
  have G__law_open_cells := ok__law_open_cells (P := P) (w := w) (base := base) T
  have G__law_power := ok__law_power (P := P) (w := w) (base := base) T
  have G__law_draw_any := ok__law_draw_any (P := P) (w := w) (base := base) T
  have G__law_pick := ok__law_pick (P := P) (w := w) (base := base) T
  have G__law_rest_right := ok__law_rest_right (P := P) (w := w) (base := base) T
  have G_parts := ok_parts (P := P) (w := w) (base := base) T
  have G_rest := ok_rest (P := P) (w := w) (base := base) T
  have G__law_draw_prime := ok__law_draw_prime (P := P) (w := w) (base := base) T
  have G__law_two_right := ok__law_two_right (P := P) (w := w) (base := base) T
  have G__law_fraction := ok__law_fraction (P := P) (w := w) (base := base) T
  have G__law_parts := ok__law_parts (P := P) (w := w) (base := base) T
  have G__law_product := ok__law_product (P := P) (w := w) (base := base) T
  have nd := sc_law.nd
  refine okM (k := 4) (g := b_law) T.law.fn sc_law rfl rfl fun cdv A outer s H E hr rm => ?_
  exact (s_cons (s_set 1 nd (d_call0 G__law_open_cells (hr.mono (by decide)) rm rfl T._law_open_cells.ix T._law_open_cells.fn.kp T._law_open_cells.bd (as_cons (d_var 0) as_nil)))
    (s_cons (s_for rm PassesOwn.never (i_rng1 rfl T.z_range (as_cons d_int as_nil)) (g_name 2 nd) (s_cons (s_set 3 nd (d_ix (d_lst (as_cons (d_call0 G__law_draw_prime (hr.mono (by decide)) rm rfl T._law_draw_prime.ix T._law_draw_prime.fn.kp T._law_draw_prime.bd (as_cons (d_var 1) as_nil)) (as_cons d_int (as_cons d_int (as_cons d_int as_nil))))) (d_ix (d_lst (as_cons d_int (as_cons d_int (as_cons d_int (as_cons d_int (as_cons d_int (as_cons d_int as_nil))))))) (d_call0 G__law_pick (hr.mono (by decide)) rm rfl T._law_pick.ix T._law_pick.fn.kp T._law_pick.bd (as_cons (d_var 1) (as_cons d_int as_nil))))))
    (s_cons (s_par2 4 5 rm nd (as_cons (d_call0 G__law_draw_any (hr.mono (by decide)) rm rfl T._law_draw_any.ix T._law_draw_any.fn.kp T._law_draw_any.bd (as_cons (d_var 1) (as_cons (d_var 3) as_nil))) (as_cons (d_call0 G__law_draw_any (hr.mono (by decide)) rm rfl T._law_draw_any.ix T._law_draw_any.fn.kp T._law_draw_any.bd (as_cons (d_var 1) (as_cons (d_var 3) as_nil))) as_nil)))
    (s_cons (s_for rm PassesOwn.never (i_tup (d_tup (as_cons (d_var 4) (as_cons (d_var 5) as_nil)))) (g_name 6 nd) (s_one (s_if (t_cmp (o_ne rm.un) g_ne (d_bfn (c_repr rm) g_repr rfl T.z_repr (by decide +kernel) (as_cons (d_call0 G_parts (hr.mono (by decide)) rm rfl T.parts.ix T.parts.fn.kp T.parts.bd (as_cons (d_var 3) (as_cons (d_var 6) as_nil))) as_nil)) (d_bfn (c_repr rm) g_repr rfl T.z_repr (by decide +kernel) (as_cons (d_if (t_cmp (o_ne rm.un) g_ne (d_ix (d_var 6) d_int) d_int) (d_call0 G__law_parts (hr.mono (by decide)) rm rfl T._law_parts.ix T._law_parts.fn.kp T._law_parts.bd (as_cons (d_var 3) (as_cons (d_var 6) as_nil))) d_non) as_nil))) (s_one (s_ret d_bl)) s_nil)))
    (s_cons (s_if (L2.PW.pt (w_and (t_cmp (o_ne rm.un) g_ne (d_ix (d_var 4) d_int) d_int) (w_and (t_cmp (o_ne rm.un) g_ne (d_ix (d_var 5) d_int) d_int) (w_and1 (t_not (t_val (d_call0 G__law_two_right (hr.mono (by decide)) rm rfl T._law_two_right.ix T._law_two_right.fn.kp T._law_two_right.bd (as_cons (d_var 3) (as_cons (d_var 4) (as_cons (d_var 5) as_nil)))))))))) (s_one (s_ret d_bl)) s_nil)
    (s_cons (s_set 7 nd (d_ix (d_lst (as_cons d_int (as_cons d_int (as_cons d_int (as_cons d_int (as_cons d_int as_nil)))))) (d_call0 G__law_pick (hr.mono (by decide)) rm rfl T._law_pick.ix T._law_pick.fn.kp T._law_pick.bd (as_cons (d_var 1) (as_cons d_int as_nil)))))
    (s_cons (s_set 8 nd (d_ix (d_var 4) d_int))
    (s_cons (s_for rm PassesOwn.never (i_rng1 rfl T.z_range (as_cons d_int as_nil)) (g_name 9 nd) (s_one (s_set 8 nd (d_if (t_cmp (o_eq rm.un) g_eq (d_op op_modN g_mod (d_bty call_int1 g_intc rfl T.z_int (by decide +kernel) (as_cons (d_var 8) as_nil)) (d_var 3)) d_int) (d_op o_fdiv g_fdiv (d_var 8) (d_var 3)) (d_var 8)))))
    (s_cons (s_if (t_not (t_val (d_call0 G__law_rest_right (hr.mono (by decide)) rm rfl T._law_rest_right.ix T._law_rest_right.fn.kp T._law_rest_right.bd (as_cons (d_var 3) (as_cons (d_var 7) (as_cons (d_call0 G__law_fraction (hr.mono (by decide)) rm rfl T._law_fraction.ix T._law_fraction.fn.kp T._law_fraction.bd (as_cons (d_ix (d_var 4) d_int) (as_cons (d_var 8) as_nil))) as_nil)))))) (s_one (s_ret d_bl)) s_nil)
    (s_cons (s_set 10 nd (d_if (t_cmp op_lt g_lt (d_var 3) d_int) (d_op op_sub g_sub (d_call0 G__law_pick (hr.mono (by decide)) rm rfl T._law_pick.ix T._law_pick.fn.kp T._law_pick.bd (as_cons (d_var 1) (as_cons d_int as_nil))) d_int) (d_op op_sub g_sub (d_call0 G__law_pick (hr.mono (by decide)) rm rfl T._law_pick.ix T._law_pick.fn.kp T._law_pick.bd (as_cons (d_var 1) (as_cons d_int as_nil))) d_int)))
    (s_cons (s_set 11 nd (d_call0 G__law_power (hr.mono (by decide)) rm rfl T._law_power.ix T._law_power.fn.kp T._law_power.bd (as_cons (d_var 3) (as_cons (d_var 10) as_nil))))
    (s_one (s_if (L2.PW.pt (w_or (t_cmp (o_ne rm.un) g_ne (d_call0 G_parts (hr.mono (by decide)) rm rfl T.parts.ix T.parts.fn.kp T.parts.bd (as_cons (d_var 3) (as_cons (d_var 11) as_nil))) (d_var 10)) (w_or1 (L2.PW.pt (w_and (t_cmp (o_ne rm.un) g_ne (d_ix (d_var 4) d_int) d_int) (w_and1 (t_cmp (o_ne rm.un) g_ne (d_call0 G_parts (hr.mono (by decide)) rm rfl T.parts.ix T.parts.fn.kp T.parts.bd (as_cons (d_var 3) (as_cons (d_call0 G__law_product (hr.mono (by decide)) rm rfl T._law_product.ix T._law_product.fn.kp T._law_product.bd (as_cons (d_var 11) (as_cons (d_var 4) as_nil))) as_nil))) (d_op o_add g_add (d_var 10) (d_call0 G__law_parts (hr.mono (by decide)) rm rfl T._law_parts.ix T._law_parts.fn.kp T._law_parts.bd (as_cons (d_var 3) (as_cons (d_var 4) as_nil))))))))))) (s_one (s_ret d_bl)) s_nil)))))))))))))
    (s_one (s_ret (d_and (d_cmp op_isN g_isN (d_call0 G_parts (hr.mono (by decide)) rm rfl T.parts.ix T.parts.fn.kp T.parts.bd (as_cons d_int (as_cons (d_tup (as_cons d_int (as_cons d_int as_nil))) as_nil))) d_non) (d_and (d_cmp (o_eq rm.un) g_eq (d_call0 G_rest (hr.mono (by decide)) rm rfl T.rest.ix T.rest.fn.kp T.rest.bd (as_cons d_int (as_cons d_int (as_cons (d_tup (as_cons d_int (as_cons d_int as_nil))) as_nil)))) d_int) (d_one (d_cmp (o_eq rm.un) g_eq (d_call0 G_rest (hr.mono (by decide)) rm rfl T.rest.ix T.rest.fn.kp T.rest.bd (as_cons d_int (as_cons d_int (as_cons (d_tup (as_cons d_int (as_cons d_int as_nil))) as_nil)))) d_int))))))))
end
theorem all_mk {l : PySem.W.OpenLaw} {w : World} {K : PySem.W.Frag} {h : Heap} {mg : Str → Option Value} {fa : Addr} (X : K.In h) (G : h.Ns mainGlobals mg) (hfa : mg "law" = some (.ref fa))
    {f0 : Addr} {oc0 : Value} {od0 an0 : Option Addr} {sl0 : Array (Option Value)} {kV0 dc0 pm0 cd0 ct0 : Value}
    {f1 : Addr} {oc1 : Value} {od1 an1 : Option Addr} {sl1 : Array (Option Value)} {kV1 dc1 pm1 cd1 ct1 : Value}
    {f2 : Addr} {oc2 : Value} {od2 an2 : Option Addr} {sl2 : Array (Option Value)} {kV2 dc2 pm2 cd2 ct2 : Value}
    {f3 : Addr} {oc3 : Value} {od3 an3 : Option Addr} {sl3 : Array (Option Value)} {kV3 dc3 pm3 cd3 ct3 : Value}
    {f4 : Addr} {oc4 : Value} {od4 an4 : Option Addr} {sl4 : Array (Option Value)} {kV4 dc4 pm4 cd4 ct4 : Value}
    {f5 : Addr} {oc5 : Value} {od5 an5 : Option Addr} {sl5 : Array (Option Value)} {kV5 dc5 pm5 cd5 ct5 : Value}
    {f6 : Addr} {oc6 : Value} {od6 an6 : Option Addr} {sl6 : Array (Option Value)} {kV6 dc6 pm6 cd6 ct6 : Value}
    {f7 : Addr} {oc7 : Value} {od7 an7 : Option Addr} {sl7 : Array (Option Value)} {kV7 dc7 pm7 cd7 ct7 : Value}
    {f8 : Addr} {oc8 : Value} {od8 an8 : Option Addr} {sl8 : Array (Option Value)} {kV8 dc8 pm8 cd8 ct8 : Value}
    {f9 : Addr} {oc9 : Value} {od9 an9 : Option Addr} {sl9 : Array (Option Value)} {kV9 dc9 pm9 cd9 ct9 : Value}
    {f10 : Addr} {oc10 : Value} {od10 an10 : Option Addr} {sl10 : Array (Option Value)} {kV10 dc10 pm10 cd10 ct10 : Value}
    {f11 : Addr} {oc11 : Value} {od11 an11 : Option Addr} {sl11 : Array (Option Value)} {kV11 dc11 pm11 cd11 ct11 : Value}
    {f12 : Addr} {oc12 : Value} {od12 an12 : Option Addr} {sl12 : Array (Option Value)} {kV12 dc12 pm12 cd12 ct12 : Value}
    {f13 : Addr} {oc13 : Value} {od13 an13 : Option Addr} {sl13 : Array (Option Value)} {kV13 dc13 pm13 cd13 ct13 : Value}
    {f14 : Addr} {oc14 : Value} {od14 an14 : Option Addr} {sl14 : Array (Option Value)} {kV14 dc14 pm14 cd14 ct14 : Value}
    {f15 : Addr} {oc15 : Value} {od15 an15 : Option Addr} {sl15 : Array (Option Value)} {kV15 dc15 pm15 cd15 ct15 : Value}
    {f16 : Addr} {oc16 : Value} {od16 an16 : Option Addr} {sl16 : Array (Option Value)} {kV16 dc16 pm16 cd16 ct16 : Value}
    {f17 : Addr} {oc17 : Value} {od17 an17 : Option Addr} {sl17 : Array (Option Value)} {kV17 dc17 pm17 cd17 ct17 : Value}
    {f18 : Addr} {oc18 : Value} {od18 an18 : Option Addr} {sl18 : Array (Option Value)} {kV18 dc18 pm18 cd18 ct18 : Value}
    {f19 : Addr} {oc19 : Value} {od19 an19 : Option Addr} {sl19 : Array (Option Value)} {kV19 dc19 pm19 cd19 ct19 : Value}
    (a0 : PySem.W.nsIn K mainGlobals "times_in" = some (some (.ref f0))) (l0 : K.lookup f0 = some ⟨oc0, od0, .func (PySem.W.fnOf "times_in" "times_in" (defArgs st_times_in) (defBody st_times_in) (defScope st_times_in) .none kV0 dc0 pm0 an0 cd0 ct0), sl0⟩) (c0 : PySem.W.codeIn K cd0 "times_in" = true) (k0 : PySem.W.keepIn K (.ref f0) = true)
    (a1 : PySem.W.nsIn K mainGlobals "power_of" = some (some (.ref f1))) (l1 : K.lookup f1 = some ⟨oc1, od1, .func (PySem.W.fnOf "power_of" "power_of" (defArgs st_power_of) (defBody st_power_of) (defScope st_power_of) .none kV1 dc1 pm1 an1 cd1 ct1), sl1⟩) (c1 : PySem.W.codeIn K cd1 "power_of" = true) (k1 : PySem.W.keepIn K (.ref f1) = true)
    (a2 : PySem.W.nsIn K mainGlobals "parts" = some (some (.ref f2))) (l2 : K.lookup f2 = some ⟨oc2, od2, .func (PySem.W.fnOf "parts" "parts" (defArgs st_parts) (defBody st_parts) (defScope st_parts) .none kV2 dc2 pm2 an2 cd2 ct2), sl2⟩) (c2 : PySem.W.codeIn K cd2 "parts" = true) (k2 : PySem.W.keepIn K (.ref f2) = true)
    (a3 : PySem.W.nsIn K mainGlobals "inverse" = some (some (.ref f3))) (l3 : K.lookup f3 = some ⟨oc3, od3, .func (PySem.W.fnOf "inverse" "inverse" (defArgs st_inverse) (defBody st_inverse) (defScope st_inverse) .none kV3 dc3 pm3 an3 cd3 ct3), sl3⟩) (c3 : PySem.W.codeIn K cd3 "inverse" = true) (k3 : PySem.W.keepIn K (.ref f3) = true)
    (a4 : PySem.W.nsIn K mainGlobals "rest" = some (some (.ref f4))) (l4 : K.lookup f4 = some ⟨oc4, od4, .func (PySem.W.fnOf "rest" "rest" (defArgs st_rest) (defBody st_rest) (defScope st_rest) .none kV4 dc4 pm4 an4 cd4 ct4), sl4⟩) (c4 : PySem.W.codeIn K cd4 "rest" = true) (k4 : PySem.W.keepIn K (.ref f4) = true)
    (a5 : PySem.W.nsIn K mainGlobals "_law_open_cells" = some (some (.ref f5))) (l5 : K.lookup f5 = some ⟨oc5, od5, .func (PySem.W.fnOf "_law_open_cells" "_law_open_cells" (defArgs st__law_open_cells) (defBody st__law_open_cells) (defScope st__law_open_cells) .none kV5 dc5 pm5 an5 cd5 ct5), sl5⟩) (c5 : PySem.W.codeIn K cd5 "_law_open_cells" = true) (k5 : PySem.W.keepIn K (.ref f5) = true)
    (a6 : PySem.W.nsIn K mainGlobals "_law_pick" = some (some (.ref f6))) (l6 : K.lookup f6 = some ⟨oc6, od6, .func (PySem.W.fnOf "_law_pick" "_law_pick" (defArgs st__law_pick) (defBody st__law_pick) (defScope st__law_pick) .none kV6 dc6 pm6 an6 cd6 ct6), sl6⟩) (c6 : PySem.W.codeIn K cd6 "_law_pick" = true) (k6 : PySem.W.keepIn K (.ref f6) = true)
    (a7 : PySem.W.nsIn K mainGlobals "_law_raised" = some (some (.ref f7))) (l7 : K.lookup f7 = some ⟨oc7, od7, .func (PySem.W.fnOf "_law_raised" "_law_raised" (defArgs st__law_raised) (defBody st__law_raised) (defScope st__law_raised) .none kV7 dc7 pm7 an7 cd7 ct7), sl7⟩) (c7 : PySem.W.codeIn K cd7 "_law_raised" = true) (k7 : PySem.W.keepIn K (.ref f7) = true)
    (a8 : PySem.W.nsIn K mainGlobals "_law_common" = some (some (.ref f8))) (l8 : K.lookup f8 = some ⟨oc8, od8, .func (PySem.W.fnOf "_law_common" "_law_common" (defArgs st__law_common) (defBody st__law_common) (defScope st__law_common) .none kV8 dc8 pm8 an8 cd8 ct8), sl8⟩) (c8 : PySem.W.codeIn K cd8 "_law_common" = true) (k8 : PySem.W.keepIn K (.ref f8) = true)
    (a9 : PySem.W.nsIn K mainGlobals "_law_fraction" = some (some (.ref f9))) (l9 : K.lookup f9 = some ⟨oc9, od9, .func (PySem.W.fnOf "_law_fraction" "_law_fraction" (defArgs st__law_fraction) (defBody st__law_fraction) (defScope st__law_fraction) .none kV9 dc9 pm9 an9 cd9 ct9), sl9⟩) (c9 : PySem.W.codeIn K cd9 "_law_fraction" = true) (k9 : PySem.W.keepIn K (.ref f9) = true)
    (a10 : PySem.W.nsIn K mainGlobals "_law_sum" = some (some (.ref f10))) (l10 : K.lookup f10 = some ⟨oc10, od10, .func (PySem.W.fnOf "_law_sum" "_law_sum" (defArgs st__law_sum) (defBody st__law_sum) (defScope st__law_sum) .none kV10 dc10 pm10 an10 cd10 ct10), sl10⟩) (c10 : PySem.W.codeIn K cd10 "_law_sum" = true) (k10 : PySem.W.keepIn K (.ref f10) = true)
    (a11 : PySem.W.nsIn K mainGlobals "_law_product" = some (some (.ref f11))) (l11 : K.lookup f11 = some ⟨oc11, od11, .func (PySem.W.fnOf "_law_product" "_law_product" (defArgs st__law_product) (defBody st__law_product) (defScope st__law_product) .none kV11 dc11 pm11 an11 cd11 ct11), sl11⟩) (c11 : PySem.W.codeIn K cd11 "_law_product" = true) (k11 : PySem.W.keepIn K (.ref f11) = true)
    (a12 : PySem.W.nsIn K mainGlobals "_law_parts" = some (some (.ref f12))) (l12 : K.lookup f12 = some ⟨oc12, od12, .func (PySem.W.fnOf "_law_parts" "_law_parts" (defArgs st__law_parts) (defBody st__law_parts) (defScope st__law_parts) .none kV12 dc12 pm12 an12 cd12 ct12), sl12⟩) (c12 : PySem.W.codeIn K cd12 "_law_parts" = true) (k12 : PySem.W.keepIn K (.ref f12) = true)
    (a13 : PySem.W.nsIn K mainGlobals "_law_power" = some (some (.ref f13))) (l13 : K.lookup f13 = some ⟨oc13, od13, .func (PySem.W.fnOf "_law_power" "_law_power" (defArgs st__law_power) (defBody st__law_power) (defScope st__law_power) .none kV13 dc13 pm13 an13 cd13 ct13), sl13⟩) (c13 : PySem.W.codeIn K cd13 "_law_power" = true) (k13 : PySem.W.keepIn K (.ref f13) = true)
    (a14 : PySem.W.nsIn K mainGlobals "_law_draw_prime" = some (some (.ref f14))) (l14 : K.lookup f14 = some ⟨oc14, od14, .func (PySem.W.fnOf "_law_draw_prime" "_law_draw_prime" (defArgs st__law_draw_prime) (defBody st__law_draw_prime) (defScope st__law_draw_prime) .none kV14 dc14 pm14 an14 cd14 ct14), sl14⟩) (c14 : PySem.W.codeIn K cd14 "_law_draw_prime" = true) (k14 : PySem.W.keepIn K (.ref f14) = true)
    (a15 : PySem.W.nsIn K mainGlobals "_law_apart" = some (some (.ref f15))) (l15 : K.lookup f15 = some ⟨oc15, od15, .func (PySem.W.fnOf "_law_apart" "_law_apart" (defArgs st__law_apart) (defBody st__law_apart) (defScope st__law_apart) .none kV15 dc15 pm15 an15 cd15 ct15), sl15⟩) (c15 : PySem.W.codeIn K cd15 "_law_apart" = true) (k15 : PySem.W.keepIn K (.ref f15) = true)
    (a16 : PySem.W.nsIn K mainGlobals "_law_draw_any" = some (some (.ref f16))) (l16 : K.lookup f16 = some ⟨oc16, od16, .func (PySem.W.fnOf "_law_draw_any" "_law_draw_any" (defArgs st__law_draw_any) (defBody st__law_draw_any) (defScope st__law_draw_any) .none kV16 dc16 pm16 an16 cd16 ct16), sl16⟩) (c16 : PySem.W.codeIn K cd16 "_law_draw_any" = true) (k16 : PySem.W.keepIn K (.ref f16) = true)
    (a17 : PySem.W.nsIn K mainGlobals "_law_two_right" = some (some (.ref f17))) (l17 : K.lookup f17 = some ⟨oc17, od17, .func (PySem.W.fnOf "_law_two_right" "_law_two_right" (defArgs st__law_two_right) (defBody st__law_two_right) (defScope st__law_two_right) .none kV17 dc17 pm17 an17 cd17 ct17), sl17⟩) (c17 : PySem.W.codeIn K cd17 "_law_two_right" = true) (k17 : PySem.W.keepIn K (.ref f17) = true)
    (a18 : PySem.W.nsIn K mainGlobals "_law_rest_right" = some (some (.ref f18))) (l18 : K.lookup f18 = some ⟨oc18, od18, .func (PySem.W.fnOf "_law_rest_right" "_law_rest_right" (defArgs st__law_rest_right) (defBody st__law_rest_right) (defScope st__law_rest_right) .none kV18 dc18 pm18 an18 cd18 ct18), sl18⟩) (c18 : PySem.W.codeIn K cd18 "_law_rest_right" = true) (k18 : PySem.W.keepIn K (.ref f18) = true)
    (a19 : PySem.W.nsIn K mainGlobals "law" = some (some (.ref f19))) (l19 : K.lookup f19 = some ⟨oc19, od19, .func (PySem.W.fnOf "law" "law" (defArgs st_law) (defBody st_law) (defScope st_law) .none kV19 dc19 pm19 an19 cd19 ct19), sl19⟩) (c19 : PySem.W.codeIn K cd19 "law" = true) (k19 : PySem.W.keepIn K (.ref f19) = true)
    (z_abs : PySem.W.nsIn K mainGlobals "abs" = some none)
    (z_bool : PySem.W.nsIn K mainGlobals "bool" = some none)
    (z_int : PySem.W.nsIn K mainGlobals "int" = some none)
    (z_isinstance : PySem.W.nsIn K mainGlobals "isinstance" = some none)
    (z_len : PySem.W.nsIn K mainGlobals "len" = some none)
    (z_min : PySem.W.nsIn K mainGlobals "min" = some none)
    (z_range : PySem.W.nsIn K mainGlobals "range" = some none)
    (z_repr : PySem.W.nsIn K mainGlobals "repr" = some none)
    (z_reversed : PySem.W.nsIn K mainGlobals "reversed" = some none) :
    ∃ fd : FuncData, (∀ (s : Shared) (v : Value), BindsTo s fd ⟨[v], []⟩ [("_law_script", v)]) ∧ ∀ base : Heap, K.In base → base.Ns mainGlobals mg → FnG l.prog w K mg base (L2.CX l.prog w) 5 fa fd ["_law_script"] (spD K mg 1 m_law) := by
  have e := hfa.symm.trans (PySem.W.mg_of X G a19)
  cases e
  exact ⟨_, fun s v => .of_eq rfl, fun base _ _ => ok_law (P := l.prog) (w := w) (base := base) (K := K) (mg := mg)
    ⟨defAt X G ["p", "n"] a0 l0 c0 k0 (fun _ _ _ _ _ _ us hl => match us, hl with | [_, _], _ => rfl),
     defAt X G ["base", "k"] a1 l1 c1 k1 (fun _ _ _ _ _ _ us hl => match us, hl with | [_, _], _ => rfl),
     defAt X G ["p", "x"] a2 l2 c2 k2 (fun _ _ _ _ _ _ us hl => match us, hl with | [_, _], _ => rfl),
     defAt X G ["p", "k", "n"] a3 l3 c3 k3 (fun _ _ _ _ _ _ us hl => match us, hl with | [_, _, _], _ => rfl),
     defAt X G ["p", "k", "x"] a4 l4 c4 k4 (fun _ _ _ _ _ _ us hl => match us, hl with | [_, _, _], _ => rfl),
     defAt X G ["_law_script"] a5 l5 c5 k5 (fun _ _ _ _ _ _ us hl => match us, hl with | [_], _ => rfl),
     defAt X G ["_law_source", "_law_most"] a6 l6 c6 k6 (fun _ _ _ _ _ _ us hl => match us, hl with | [_, _], _ => rfl),
     defAt X G ["_law_p", "_law_n"] a7 l7 c7 k7 (fun _ _ _ _ _ _ us hl => match us, hl with | [_, _], _ => rfl),
     defAt X G ["_law_a", "_law_b"] a8 l8 c8 k8 (fun _ _ _ _ _ _ us hl => match us, hl with | [_, _], _ => rfl),
     defAt X G ["_law_n", "_law_d"] a9 l9 c9 k9 (fun _ _ _ _ _ _ us hl => match us, hl with | [_, _], _ => rfl),
     defAt X G ["_law_x", "_law_y"] a10 l10 c10 k10 (fun _ _ _ _ _ _ us hl => match us, hl with | [_, _], _ => rfl),
     defAt X G ["_law_x", "_law_y"] a11 l11 c11 k11 (fun _ _ _ _ _ _ us hl => match us, hl with | [_, _], _ => rfl),
     defAt X G ["_law_p", "_law_x"] a12 l12 c12 k12 (fun _ _ _ _ _ _ us hl => match us, hl with | [_, _], _ => rfl),
     defAt X G ["_law_p", "_law_n"] a13 l13 c13 k13 (fun _ _ _ _ _ _ us hl => match us, hl with | [_, _], _ => rfl),
     defAt X G ["_law_source"] a14 l14 c14 k14 (fun _ _ _ _ _ _ us hl => match us, hl with | [_], _ => rfl),
     defAt X G ["_law_x", "_law_y"] a15 l15 c15 k15 (fun _ _ _ _ _ _ us hl => match us, hl with | [_, _], _ => rfl),
     defAt X G ["_law_source", "_law_p"] a16 l16 c16 k16 (fun _ _ _ _ _ _ us hl => match us, hl with | [_, _], _ => rfl),
     defAt X G ["_law_p", "_law_x", "_law_y"] a17 l17 c17 k17 (fun _ _ _ _ _ _ us hl => match us, hl with | [_, _, _], _ => rfl),
     defAt X G ["_law_p", "_law_k", "_law_x"] a18 l18 c18 k18 (fun _ _ _ _ _ _ us hl => match us, hl with | [_, _, _], _ => rfl),
     defAt X G ["_law_script"] a19 l19 c19 k19 (fun _ _ _ _ _ _ us hl => match us, hl with | [_], _ => rfl),
     PySem.W.mg_none_of X G z_abs,
     PySem.W.mg_none_of X G z_bool,
     PySem.W.mg_none_of X G z_int,
     PySem.W.mg_none_of X G z_isinstance,
     PySem.W.mg_none_of X G z_len,
     PySem.W.mg_none_of X G z_min,
     PySem.W.mg_none_of X G z_range,
     PySem.W.mg_none_of X G z_repr,
     PySem.W.mg_none_of X G z_reversed⟩⟩
end Law
set_option Elab.async false
set_option linter.all false
set_option maxRecDepth 100000
set_option maxHeartbeats 400000
set_option exponentiation.threshold 30000
namespace Law
open PySem PySem.Spec PyProof.Rows L2 Mi
/-! ## the pieces -/
theorem pickE_m : m__law_pick = def0 6 pickM := rfl
theorem openE_m : m__law_open_cells = def0 4 openM := rfl
theorem comE_m : m__law_common = def0 2 comM := rfl
theorem lfracE_m : m__law_fraction = def0 4 (lfracM m__law_common) := rfl
theorem pick {most : Int} (h0 : 0 < most) (h1 : most < 2 ^ 64) (q : Q) (hq : q.ok) (rest : AH) : ∃ k q', q'.ok ∧ 0 ≤ k ∧ k < most ∧ m__law_pick [.ref 0, .int most] (SRC q rest) = .ok (.int k) (SRC q' rest) := pick_ok h0 h1 q hq rest
theorem lfrac {n d : Int} (h : B 9000 d) (hd : d ≠ 0) (ah : AH) : m__law_fraction [.int n, .int d] ah = .ok (fr (nf n d)) ah := lfrac_ok h hd ah (com_ok n d ah (h.mono (by decide)))
structure Fb (k : Nat) (x : Int × Int) : Prop where
  n : B k x.1
  d : B k x.2
  z : x.2 ≠ 0
theorem Fb.nf {k : Nat} {n d : Int} (h : B k n) (l : B k d) (hd : d ≠ 0) : Fb k (nf n d) := ⟨h.nf1 hd, l.nf2 hd, by have := (nf_spec n d hd).1.pos; omega⟩
theorem Fb.mono {j k : Nat} {x : Int × Int} (h : Fb j x) (l : j ≤ k) : Fb k x := ⟨h.n.mono l, h.d.mono l, h.z⟩
theorem mul_ne {a b : Int} (h : a ≠ 0) (l : b ≠ 0) : a * b ≠ 0 := fun z => (Int.mul_eq_zero.mp z).elim h l
theorem om {m n : Int} (h : B 2000 m) (l : B 2000 n) : okMul m n = true := okMul_B h l (by decide) (by decide) (by decide)
theorem ix0 (x : Int × Int) : gIx (fr x) (.int 0) = M.ret (.int x.1) := rfl
theorem ix1 (x : Int × Int) : gIx (fr x) (.int 1) = M.ret (.int x.2) := rfl

theorem eq_int (i j : Int) (ah : AH) : gEq (.int i) (.int j) ah = .ok (.bl (decide (i = j))) ah := rfl
theorem ne_int (i j : Int) (ah : AH) : gNe (.int i) (.int j) ah = .ok (.bl (!decide (i = j))) ah := rfl
theorem fmod_dvd {a m : Int} (h : 0 < m) : a.fmod m = 0 ↔ m ∣ a := by
  rw [Int.fmod_eq_emod_of_nonneg _ (by omega)]
  exact Int.dvd_iff_emod_eq_zero.symm
/-! ## times_in -/
def pwD (p : Int) (i : Nat) : D := .int (p ^ (2 ^ i))
def pws (p : Int) (j : Nat) : List D := (List.range j).map (pwD p) ++ [pwD p j]
theorem pws_len (p : Int) (j : Nat) : (pws p j).length = j + 1 := by simp [pws]
theorem pws_at (p : Int) (j i : Nat) (h : i ≤ j) : (pws p j)[i]? = some (pwD p i) := by
  unfold pws
  by_cases z : i < j
  · rw [List.getElem?_append_left (by simpa using z), List.getElem?_map, List.getElem?_range z]
    rfl
  · have e : i = j := by omega
    subst e
    rw [List.getElem?_append_right (by simp)]
    simp
theorem pws_up (p : Int) (j : Nat) : pws p j ++ [pwD p (j + 1)] = pws p (j + 1) := by
  simp [pws, List.range_succ]
def HP (ah : AH) (xs : List D) : AH := ah ++ [some (.lst xs)]
theorem HP_get (ah : AH) (xs : List D) : getO ah.length (HP ah xs) = .ok (.lst xs) (HP ah xs) := by
  simp [getO, HP]
theorem HP_put (ah : AH) (xs ys : List D) : putO ah.length (.lst ys) (HP ah xs) = .ok () (HP ah ys) := by
  simp [putO, HP]
theorem HP_last (ah : AH) (p : Int) (j : Nat) : gIx (.ref ah.length) (.int (-1)) (HP ah (pws p j)) = .ok (pwD p j) (HP ah (pws p j)) := by
  simp only [gIx, M.andThen, HP_get, M.lift]
  unfold pws
  rw [L2.atI_last]
theorem HP_at (ah : AH) (p : Int) (j i : Nat) (h : i ≤ j) : gIx (.ref ah.length) (.int (i : Nat)) (HP ah (pws p j)) = .ok (pwD p i) (HP ah (pws p j)) := by
  simp only [gIx, M.andThen, HP_get, M.lift]
  rw [L2.atI_nat (pws_at p j i h)]
theorem HP_len (ah : AH) (p : Int) (j : Nat) : gLen [.ref ah.length] (HP ah (pws p j)) = .ok (.int ((j : Int) + 1)) (HP ah (pws p j)) := by
  simp only [gLen, M.andThen, HP_get, M.ret, pws_len]
  rfl
theorem dvd_B {k : Nat} {a n : Int} (h : a ∣ n) (n0 : n ≠ 0) (b : B k n) : B k a := by
  unfold B at *
  exact Nat.lt_of_le_of_lt (Nat.le_of_dvd (by omega) (Int.natAbs_dvd_natAbs.mpr h)) b
theorem two_lt (j : Nat) : j < 2 ^ j := Nat.lt_two_pow_self
def tiT : Lc → M Bool := (tV (e2 gEq (e2 gMod (eV 1) (e2 gIx (eV 2) (e1 gNeg (eC (.int 1))))) (eC (.int 0))))
def tiW : MS := (sEx (eApp (eV 2) (e2 gMul (e2 gIx (eV 2) (e1 gNeg (eC (.int 1)))) (e2 gIx (eV 2) (e1 gNeg (eC (.int 1)))))))
section
variable {p n : Int} {v : Nat} (P : Pr p) (hv : Vl p n v) (bn : B 1000 n) (ah : AH)
include P hv bn
theorem tiT_at (j : Nat) : tiT [some (.int p), some (.int n), some (.ref ah.length), none, none] (HP ah (pws p j)) = .ok (decide (2 ^ j ≤ v)) (HP ah (pws p j)) := by
  have hp := P.pos (2 ^ j)
  have hne : decide (p ^ (2 ^ j) ≠ 0) = true := decide_eq_true (by omega)
  have e : decide (n.fmod (p ^ (2 ^ j)) = 0) = decide (2 ^ j ≤ v) := by
    by_cases z : 2 ^ j ≤ v
    · rw [decide_eq_true z, decide_eq_true ((fmod_dvd hp).mpr ((hv.dvd P).mpr z))]
    · rw [decide_eq_false z, decide_eq_false fun q => z ((hv.dvd P).mp ((fmod_dvd hp).mp q))]
  have l := HP_last ah p j
  unfold pwD at l
  unfold tiT
  simp only [def0, sPs, sSet, sIf, sRt, sNx, sEx, sRtN, sPar2, sPar3, tV, tA, tO, tN, Mi.e2, Mi.e1, eL, eI, eA, eO, eCall, esC, esN, eC, M.andThen, eV, M.lift, M.ret, M.when, gI, gCmp, gLt, gLe, gGt, gGe, Mi.gSub, gMul, gAdd, gFdiv, gMod, gNeg, gNot, gGcd, gTupD, gLstD, gInt, gAbs, List.map_cons, List.map_nil, List.cons_append, List.nil_append, List.length_cons, List.length_nil, List.replicate, List.set_cons_zero, List.set_cons_succ, List.getElem?_cons_zero, List.getElem?_cons_succ, Option.join_some, if_true, Bool.false_eq_true, if_false, Nat.zero_add, decide_true, Nat.reduceAdd, Nat.reduceSub, l, hne, eq_int, e]
theorem tiW_at (j : Nat) (h : 2 ^ j ≤ v) (hj : j < 1000) : tiW [some (.int p), some (.int n), some (.ref ah.length), none, none] (HP ah (pws p j)) = .ok (.nx, [some (.int p), some (.int n), some (.ref ah.length), none, none]) (HP ah (pws p (j + 1))) := by
  have hd := (hv.dvd P).mpr h
  have hb := dvd_B hd (hv.ne P) bn
  have l := HP_last ah p j
  have ll : decide ((pws p j).length < sizeLine) = true := decide_eq_true (by rw [pws_len, sl]; omega)
  have e2 : p ^ (2 ^ j) * p ^ (2 ^ j) = p ^ (2 ^ (j + 1)) := by rw [← Int.pow_add, Nat.pow_succ, Nat.mul_two]
  have om : okMul (p ^ (2 ^ j)) (p ^ (2 ^ j)) = true := okMul_B hb hb (by decide) (by decide) (by decide)
  have u := pws_up p j
  unfold pwD at u l
  unfold tiW
  simp only [def0, sPs, sSet, sIf, sRt, sNx, sEx, sRtN, sPar2, sPar3, tV, tA, tO, tN, Mi.e2, Mi.e1, eL, eI, eA, eO, eCall, esC, esN, eC, M.andThen, eV, M.lift, M.ret, M.when, gI, gCmp, gLt, gLe, gGt, gGe, Mi.gSub, gMul, gAdd, gFdiv, gMod, gNeg, gNot, gGcd, gTupD, gLstD, gInt, gAbs, List.map_cons, List.map_nil, List.cons_append, List.nil_append, List.length_cons, List.length_nil, List.replicate, List.set_cons_zero, List.set_cons_succ, List.getElem?_cons_zero, List.getElem?_cons_succ, Option.join_some, if_true, Bool.false_eq_true, if_false, Nat.zero_add, decide_true, Nat.reduceAdd, Nat.reduceSub, eApp, isL, gApp, HP_get, HP_put, getL, l, om, e2, ll, u]
theorem ti_loop : ∀ (m j : Nat), v < 2 ^ j + m → (∀ i, i < j → 2 ^ i ≤ v) → v ≤ 1000 → ∃ j', v < 2 ^ j' ∧ j' ≤ 1000 ∧ wh tiT tiW (m + 1) [some (.int p), some (.int n), some (.ref ah.length), none, none] (HP ah (pws p j)) = .ok (.nx, [some (.int p), some (.int n), some (.ref ah.length), none, none]) (HP ah (pws p j')) := by
  intro m
  induction m with
  | zero =>
    intro j h hi v1
    refine ⟨j, h, ?_, wh_end (by rw [tiT_at P hv bn ah j, decide_eq_false (by omega)])⟩
    by_cases z : j = 0
    · omega
    · have := hi (j - 1) (by omega)
      have := two_lt (j - 1)
      omega
  | succ m ih =>
    intro j h hi v1
    by_cases z : 2 ^ j ≤ v
    · have hj := two_lt j
      obtain ⟨j', a, b, e⟩ := ih (j + 1) (by rw [Nat.pow_succ]; omega) (fun i hi' => by
        by_cases w : i < j
        · exact hi i w
        · have : i = j := by omega
          rw [this]; exact z) v1
      refine ⟨j', a, b, ?_⟩
      rw [wh_go (by rw [tiT_at P hv bn ah j, decide_eq_true z]) (tiW_at P hv bn ah j z (by omega))]
      exact e
    · refine ⟨j, by omega, ?_, wh_end (by rw [tiT_at P hv bn ah j, decide_eq_false z])⟩
      by_cases y : j = 0
      · omega
      · have := hi (j - 1) (by omega)
        have := two_lt (j - 1)
        omega
/-- from the end -/
def tiV : MS := (sIf (tV (e2 gEq (e2 gMod (eV 1) (e2 gIx (eV 2) (eV 4))) (eC (.int 0)))) (sPs (sSet 1 (e2 gFdiv (eV 1) (e2 gIx (eV 2) (eV 4))))
    (sAug 3 (gIp fun i j => i + j) (e2 gShl (eC (.int 1)) (eV 4)))) sNx)
omit hv bn in
theorem tiV_at {n' : Int} {v' : Nat} (hv' : Vl p n' v') (b' : B 1000 n') (t : Int) (j i : Nat) (hi : i ≤ j) (hj : j ≤ 1000) : tiV [some (.int p), some (.int n'), some (.ref ah.length), some (.int t), some (.int (i : Nat))] (HP ah (pws p j)) =
    .ok (.nx, [some (.int p), some (.int (if 2 ^ i ≤ v' then n'.fdiv (p ^ (2 ^ i)) else n')), some (.ref ah.length), some (.int (if 2 ^ i ≤ v' then t + 1 * 2 ^ i else t)), some (.int (i : Nat))]) (HP ah (pws p j)) := by
  have hp := P.pos (2 ^ i)
  have hne : decide (p ^ (2 ^ i) ≠ 0) = true := decide_eq_true (by omega)
  have l := HP_at ah p j i hi
  unfold pwD at l
  unfold tiV
  by_cases z : 2 ^ i ≤ v'
  · have e : decide (n'.fmod (p ^ (2 ^ i)) = 0) = true := decide_eq_true ((fmod_dvd hp).mpr ((hv'.dvd P).mpr z))
    have hb := dvd_B ((hv'.dvd P).mpr z) (hv'.ne P) b'
    have od : okDiv n' (p ^ (2 ^ i)) = true := okDiv_B hb (by decide) (by decide) (by omega)
    have op : okPow 1 (i : Nat) = true := by
      unfold okPow
      rw [decide_eq_true (by omega : (0 : Int) ≤ (i : Nat)), decide_eq_true (by omega : ((i : Nat) : Int) ≤ 1000000)]
      rfl
    rw [if_pos z, if_pos z]
    simp only [def0, sPs, sSet, sIf, sRt, sNx, sEx, sRtN, sPar2, sPar3, tV, tA, tO, tN, Mi.e2, Mi.e1, eL, eI, eA, eO, eCall, esC, esN, eC, M.andThen, eV, M.lift, M.ret, M.when, gI, gCmp, gLt, gLe, gGt, gGe, Mi.gSub, gMul, gAdd, gFdiv, gMod, gNeg, gNot, gGcd, gTupD, gLstD, gInt, gAbs, List.map_cons, List.map_nil, List.cons_append, List.nil_append, List.length_cons, List.length_nil, List.replicate, List.set_cons_zero, List.set_cons_succ, List.getElem?_cons_zero, List.getElem?_cons_succ, Option.join_some, if_true, Bool.false_eq_true, if_false, Nat.zero_add, decide_true, Nat.reduceAdd, Nat.reduceSub, l, hne, eq_int, e, od, sAug, gShl, op, gIp, Int.toNat_natCast]
  · have e : decide (n'.fmod (p ^ (2 ^ i)) = 0) = false := decide_eq_false fun q => z ((hv'.dvd P).mp ((fmod_dvd hp).mp q))
    rw [if_neg z, if_neg z]
    simp only [def0, sPs, sSet, sIf, sRt, sNx, sEx, sRtN, sPar2, sPar3, tV, tA, tO, tN, Mi.e2, Mi.e1, eL, eI, eA, eO, eCall, esC, esN, eC, M.andThen, eV, M.lift, M.ret, M.when, gI, gCmp, gLt, gLe, gGt, gGe, Mi.gSub, gMul, gAdd, gFdiv, gMod, gNeg, gNot, gGcd, gTupD, gLstD, gInt, gAbs, List.map_cons, List.map_nil, List.cons_append, List.nil_append, List.length_cons, List.length_nil, List.replicate, List.set_cons_zero, List.set_cons_succ, List.getElem?_cons_zero, List.getElem?_cons_succ, Option.join_some, if_true, Bool.false_eq_true, if_false, Nat.zero_add, decide_true, Nat.reduceAdd, Nat.reduceSub, l, hne, eq_int, e]
omit hv bn in
theorem ti_back (j : Nat) (hj : j ≤ 1000) : ∀ (k : Nat) (n' : Int) (v' : Nat) (t : Int) (w : Option D), k ≤ j + 1 → Vl p n' v' → B 1000 n' → v' < 2 ^ k → ∃ n'' w', fo (gN 4) tiV (rngD (k : Nat) k) [some (.int p), some (.int n'), some (.ref ah.length), some (.int t), w] (HP ah (pws p j)) = .ok (.nx, [some (.int p), some (.int n''), some (.ref ah.length), some (.int (t + v')), w']) (HP ah (pws p j)) := by
  intro k
  induction k with
  | zero =>
    intro n' v' t w _ _ _ h
    rw [Nat.pow_zero] at h
    refine ⟨n', w, ?_⟩
    have : v' = 0 := by omega
    subst this
    show R.ok _ _ = _
    rw [show t + ((0 : Nat) : Int) = t by omega]
  | succ k ih =>
    intro n' v' t w hk hv' b' h
    have s := tiV_at P ah hv' b' t j k (by omega) hj
    have e1 : ((k + 1 : Nat) : Int) - 1 = (k : Nat) := by omega
    have fin : ∃ n2 v2 t2, Vl p n2 v2 ∧ B 1000 n2 ∧ v2 < 2 ^ k ∧ t2 + (v2 : Int) = t + v' ∧ (if 2 ^ k ≤ v' then n'.fdiv (p ^ (2 ^ k)) else n') = n2 ∧ (if 2 ^ k ≤ v' then t + 1 * 2 ^ k else t) = t2 := by
      by_cases z : 2 ^ k ≤ v'
      · obtain ⟨c, hc⟩ := (hv'.dvd P).mpr z
        have e2 : n'.fdiv (p ^ (2 ^ k)) = c := by rw [hc]; exact Int.mul_fdiv_cancel_left _ (P.pw _)
        have hd := Vl.down P (hc ▸ hv')
        refine ⟨c, v' - 2 ^ k, t + 1 * 2 ^ k, hd.2, dvd_B ⟨p ^ (2 ^ k), by rw [hc, Int.mul_comm]⟩ (hv'.ne P) b', by rw [Nat.pow_succ] at h; omega, ?_, by rw [if_pos z, e2], by rw [if_pos z]⟩
        have e3 : ((v' - 2 ^ k : Nat) : Int) = (v' : Int) - ((2 ^ k : Nat) : Int) := by omega
        have e4 : ((2 ^ k : Nat) : Int) = 2 ^ k := by simp
        rw [e3, e4]
        omega
      · exact ⟨n', v', t, hv', b', by omega, rfl, by rw [if_neg z], by rw [if_neg z]⟩
    obtain ⟨n2, v2, t2, hv2, b2, l2, ht, en, et⟩ := fin
    rw [en, et] at s
    obtain ⟨n3, w3, e3⟩ := ih n2 v2 t2 (some (.int (k : Nat))) (by omega) hv2 b2 l2
    refine ⟨n3, w3, ?_⟩
    show fo (gN 4) tiV (.int (((k + 1 : Nat) : Int) - 1) :: rngD (((k + 1 : Nat) : Int) - 1) k) _ _ = _
    rw [e1, fo_go (env1 := [some (.int p), some (.int n'), some (.ref ah.length), some (.int t), some (.int (k : Nat))]) (ah1 := HP ah (pws p j)) rfl s, e3, ht]
omit P hv bn in
theorem ti_b : b_times_in = (sPs (sSet 2 (eL gLstN (esC (eV 0) esN))) (sPs (wh tiT tiW FU) (sPs (sSet 3 (eC (.int 0))) (sPs (sFo (iOf1 itRR1 (eL gLen (esC (eV 2) esN))) (gN 4) tiV) (sRt (eV 3)))))) := rfl
theorem times_ok (v1 : v ≤ 1000) : ∃ xs, m_times_in [.int p, .int n] ah = .ok (.int (v : Nat)) (HP ah xs) := by
  obtain ⟨j, h, hj, E⟩ := ti_loop P hv bn ah (FU - 1) 0 (by
    have : 2 ^ 10 ≤ FU := FU_big (by decide)
    have : 1001 < 2 ^ 10 := by decide
    omega) (fun i hi => by omega) v1
  rw [show FU - 1 + 1 = FU by have := FU_big (k := 1) (by decide); omega] at E
  obtain ⟨n'', w', E2⟩ := ti_back P ah j hj (j + 1) n v 0 none (by omega) hv bn (by rw [Nat.pow_succ]; omega)
  refine ⟨pws p j, def0_rt (env := [some (.int p), some (.int n''), some (.ref ah.length), some (.int (0 + v)), w']) ?_⟩
  show b_times_in [some (.int p), some (.int n), none, none, none] ah = _
  have S1 : sSet 2 (eL gLstN (esC (eV 0) esN)) [some (.int p), some (.int n), none, none, none] ah = .ok (.nx, [some (.int p), some (.int n), some (.ref ah.length), none, none]) (HP ah (pws p 0)) := by
    have s1' : decide (1 ≤ sizeLine) = true := decide_eq_true (by rw [sl]; omega)
    have e0 : pws p 0 = [.int p] := by
      show [D.int (p ^ 1)] = _
      rw [Int.pow_one]
    simp only [def0, sPs, sSet, sIf, sRt, sNx, sEx, sRtN, sPar2, sPar3, tV, tA, tO, tN, Mi.e2, Mi.e1, eL, eI, eA, eO, eCall, esC, esN, eC, M.andThen, eV, M.lift, M.ret, M.when, gI, gCmp, gLt, gLe, gGt, gGe, Mi.gSub, gMul, gAdd, gFdiv, gMod, gNeg, gNot, gGcd, gTupD, gLstD, gInt, gAbs, List.map_cons, List.map_nil, List.cons_append, List.nil_append, List.length_cons, List.length_nil, List.replicate, List.set_cons_zero, List.set_cons_succ, List.getElem?_cons_zero, List.getElem?_cons_succ, Option.join_some, if_true, Bool.false_eq_true, if_false, Nat.zero_add, decide_true, Nat.reduceAdd, Nat.reduceSub, gLstN, s1', newO, e0, HP]
  have okr : okRng ((j : Int) + 1) = true := by
    unfold okRng
    rw [decide_eq_true (by omega : (-(2 ^ 62) : Int) ≤ (j : Int) + 1), decide_eq_true (by omega : (j : Int) + 1 < 2 ^ 62)]
    rfl
  have it : iOf1 itRR1 (eL gLen (esC (eV 2) esN)) [some (.int p), some (.int n), some (.ref ah.length), some (.int 0), none] (HP ah (pws p j)) = .ok (rngD ((j + 1 : Nat) : Int) (j + 1)) (HP ah (pws p j)) := by
    have l := HP_len ah p j
    have e1 : ((j : Int) + 1).toNat = j + 1 := by omega
    simp only [def0, sPs, sSet, sIf, sRt, sNx, sEx, sRtN, sPar2, sPar3, tV, tA, tO, tN, Mi.e2, Mi.e1, eL, eI, eA, eO, eCall, esC, esN, eC, M.andThen, eV, M.lift, M.ret, M.when, gI, gCmp, gLt, gLe, gGt, gGe, Mi.gSub, gMul, gAdd, gFdiv, gMod, gNeg, gNot, gGcd, gTupD, gLstD, gInt, gAbs, List.map_cons, List.map_nil, List.cons_append, List.nil_append, List.length_cons, List.length_nil, List.replicate, List.set_cons_zero, List.set_cons_succ, List.getElem?_cons_zero, List.getElem?_cons_succ, Option.join_some, if_true, Bool.false_eq_true, if_false, Nat.zero_add, decide_true, Nat.reduceAdd, Nat.reduceSub, iOf1, itRR1, l, okr, e1]
  rw [ti_b, sPs_nx S1, sPs_nx E]
  rw [sPs_nx (env1 := [some (.int p), some (.int n), some (.ref ah.length), some (.int 0), none]) (ah1 := HP ah (pws p j)) rfl]
  rw [sPs_nx ((sFo_at it).trans E2)]
  rw [show (0 : Int) + (v : Int) = (v : Nat) by omega]
  rfl
end
end Law
set_option Elab.async false
set_option linter.all false
set_option maxRecDepth 100000
set_option maxHeartbeats 400000
set_option exponentiation.threshold 30000
namespace Law
open PySem PySem.Spec PyProof.Rows L2 Mi
section
variable {p : Int} (P : Pr p) (bp : B 7 p)
/-! ## parts -/
theorem vl_small {p n : Int} (P : Pr p) {v k : Nat} (h : Vl p n v) (b : B k n) : v < k := by
  have h1 : p ^ v ∣ n := (h.dvd P).mpr (Nat.le_refl _)
  have h2 := Nat.le_of_dvd (by have := h.ne P; omega) (Int.natAbs_dvd_natAbs.mpr h1)
  have h3 : 2 ^ v ≤ (p ^ v).natAbs := by
    rw [Int.natAbs_pow]
    exact Nat.pow_le_pow_left (by have := P.two; omega) v
  have h4 : 2 ^ v < 2 ^ k := Nat.lt_of_le_of_lt (Nat.le_trans h3 h2) b
  exact (Nat.pow_lt_pow_iff_right (by decide)).mp h4
include P
theorem parts_ok {x : Int × Int} {v w : Nat} (hv : Vl p x.1 v) (hw : Vl p x.2 w) (hx : Fb 900 x) (ah : AH) : ∃ ex, m_parts [.int p, fr x] ah = .ok (.int ((v : Int) - w)) (ah ++ ex) := by
  have v1 := vl_small P hv hx.n
  have w1 := vl_small P hw hx.d
  obtain ⟨xs, e1⟩ := times_ok P hv (hx.n.mono (by decide)) ah (by omega)
  obtain ⟨ys, e2⟩ := times_ok P hw (hx.d.mono (by decide)) (HP ah xs) (by omega)
  have n0 : decide (x.1 = 0) = false := decide_eq_false (hv.ne P)
  refine ⟨[some (.lst xs), some (.lst ys)], ?_⟩
  unfold m_parts b_parts
  simp only [def0, sPs, sSet, sIf, sRt, sNx, sEx, sRtN, sPar2, sPar3, tV, tA, tO, tN, Mi.e2, Mi.e1, eL, eI, eA, eO, eCall, esC, esN, eC, M.andThen, eV, M.lift, M.ret, M.when, gI, gCmp, gLt, gLe, gGt, gGe, Mi.gSub, gMul, gAdd, gFdiv, gMod, gNeg, gNot, gGcd, gTupD, gLstD, gInt, gAbs, List.map_cons, List.map_nil, List.cons_append, List.nil_append, List.length_cons, List.length_nil, List.replicate, List.set_cons_zero, List.set_cons_succ, List.getElem?_cons_zero, List.getElem?_cons_succ, Option.join_some, if_true, Bool.false_eq_true, if_false, Nat.zero_add, decide_true, Nat.reduceAdd, Nat.reduceSub, ix0, ix1, eq_int, n0, e1, e2]
  rw [HP, HP, List.append_assoc]
  rfl
omit P in
theorem parts_no {x : Int × Int} (h0 : x.1 = 0) (ah : AH) : m_parts [.int p, fr x] ah = .ok .non ah := by
  have n0 : decide (x.1 = 0) = true := decide_eq_true h0
  unfold m_parts b_parts
  simp only [def0, sPs, sSet, sIf, sRt, sNx, sEx, sRtN, sPar2, sPar3, tV, tA, tO, tN, Mi.e2, Mi.e1, eL, eI, eA, eO, eCall, esC, esN, eC, M.andThen, eV, M.lift, M.ret, M.when, gI, gCmp, gLt, gLe, gGt, gGe, Mi.gSub, gMul, gAdd, gFdiv, gMod, gNeg, gNot, gGcd, gTupD, gLstD, gInt, gAbs, List.map_cons, List.map_nil, List.cons_append, List.nil_append, List.length_cons, List.length_nil, List.replicate, List.set_cons_zero, List.set_cons_succ, List.getElem?_cons_zero, List.getElem?_cons_succ, Option.join_some, if_true, Bool.false_eq_true, if_false, Nat.zero_add, decide_true, Nat.reduceAdd, Nat.reduceSub, ix0, ix1, eq_int, n0]
/-! the law's own -/
def lpT (i : Nat) : Lc → M Bool := (tA (tV (e2 gGt (eV 0) (eC (.int 1)))) (tA (tV (e2 gNe (eV i) (eC (.int 0)))) (tV (e2 gEq (e2 gMod (eV i) (eV 0)) (eC (.int 0))))))
def lp1 : MS := (sPar2 2 3 (esC (e2 gAdd (eV 2) (eC (.int 1))) (esC (e2 gFdiv (eV 3) (eV 0)) esN)))
def lp2 : MS := (sPar2 2 4 (esC (e2 gSub (eV 2) (eC (.int 1))) (esC (e2 gFdiv (eV 4) (eV 0)) esN)))
include bp
theorem lp1_loop (ah : AH) (x d : Option D) : ∀ (v m : Nat) (n f : Int), v ≤ m → Vl p n v → wh (lpT 3) lp1 (m + 1) [some (.int p), x, some (.int f), some (.int n), d] ah = .ok (.nx, [some (.int p), x, some (.int (f + v)), some (.int (n.fdiv (p ^ v))), d]) ah := by
  have p2 : decide (1 < p) = true := decide_eq_true (by have := P.two; omega)
  have p0 : decide (p ≠ 0) = true := decide_eq_true P.ne
  have od : ∀ n, okDiv n p = true := fun n => okDiv_B bp (by decide) (by decide) P.ne
  intro v
  induction v with
  | zero =>
    intro m n f hm hv
    have n0 : decide (n = 0) = false := decide_eq_false (hv.ne P)
    have nd : decide (n.fmod p = 0) = false := decide_eq_false fun z => by
      have := (hv.dvd P (k := 1)).mp (by rw [Int.pow_one]; exact (fmod_dvd (by have := P.two; omega)).mp z)
      omega
    rw [wh_end (ah1 := ah) (by simp only [lpT, def0, sPs, sSet, sIf, sRt, sNx, sEx, sRtN, sPar2, sPar3, tV, tA, tO, tN, Mi.e2, Mi.e1, eL, eI, eA, eO, eCall, esC, esN, eC, M.andThen, eV, M.lift, M.ret, M.when, gI, gCmp, gLt, gLe, gGt, gGe, Mi.gSub, gMul, gAdd, gFdiv, gMod, gNeg, gNot, gGcd, gTupD, gLstD, gInt, gAbs, List.map_cons, List.map_nil, List.cons_append, List.nil_append, List.length_cons, List.length_nil, List.replicate, List.set_cons_zero, List.set_cons_succ, List.getElem?_cons_zero, List.getElem?_cons_succ, Option.join_some, if_true, Bool.false_eq_true, if_false, Nat.zero_add, decide_true, Nat.reduceAdd, Nat.reduceSub, p2, ne_int, n0, eq_int, p0, nd, Bool.not_false])]
    rw [Int.pow_zero, show n.fdiv 1 = n by rw [Int.fdiv_one], show f + ((0 : Nat) : Int) = f by omega]
  | succ v ih =>
    intro m n f hm hv
    obtain ⟨m', rfl⟩ : ∃ m', m = m' + 1 := ⟨m - 1, by omega⟩
    have n0 : decide (n = 0) = false := decide_eq_false (hv.ne P)
    have hd : p ∣ n := by
      have := (hv.dvd P (k := 1)).mpr (by omega)
      rw [Int.pow_one] at this
      exact this
    have nd : decide (n.fmod p = 0) = true := decide_eq_true ((fmod_dvd (by have := P.two; omega)).mpr hd)
    obtain ⟨c, hc⟩ := hd
    have e : n.fdiv p = c := by rw [hc]; exact Int.mul_fdiv_cancel_left _ P.ne
    have hc' : Vl p c v := by
      have := Vl.down P (k := 1) (n := c) (v := v + 1) (by rw [Int.pow_one, ← hc]; exact hv)
      exact this.2
    have h := ih m' c (f + 1) (by omega) hc'
    have e2 : n.fdiv (p ^ (v + 1)) = c.fdiv (p ^ v) := by
      obtain ⟨u, hu⟩ := (hc'.dvd P (k := v)).mpr (Nat.le_refl _)
      rw [hc, hu, Int.mul_fdiv_cancel_left _ (P.pw v), show p * (p ^ v * u) = p ^ (v + 1) * u by rw [Int.pow_succ]; grind]
      exact Int.mul_fdiv_cancel_left _ (P.pw _)
    rw [wh_go (env2 := [some (.int p), x, some (.int (f + 1)), some (.int c), d]) (ah1 := ah) (ah2 := ah) (by simp only [lpT, def0, sPs, sSet, sIf, sRt, sNx, sEx, sRtN, sPar2, sPar3, tV, tA, tO, tN, Mi.e2, Mi.e1, eL, eI, eA, eO, eCall, esC, esN, eC, M.andThen, eV, M.lift, M.ret, M.when, gI, gCmp, gLt, gLe, gGt, gGe, Mi.gSub, gMul, gAdd, gFdiv, gMod, gNeg, gNot, gGcd, gTupD, gLstD, gInt, gAbs, List.map_cons, List.map_nil, List.cons_append, List.nil_append, List.length_cons, List.length_nil, List.replicate, List.set_cons_zero, List.set_cons_succ, List.getElem?_cons_zero, List.getElem?_cons_succ, Option.join_some, if_true, Bool.false_eq_true, if_false, Nat.zero_add, decide_true, Nat.reduceAdd, Nat.reduceSub, p2, ne_int, n0, eq_int, p0, nd, Bool.not_false]) (by simp only [lp1, def0, sPs, sSet, sIf, sRt, sNx, sEx, sRtN, sPar2, sPar3, tV, tA, tO, tN, Mi.e2, Mi.e1, eL, eI, eA, eO, eCall, esC, esN, eC, M.andThen, eV, M.lift, M.ret, M.when, gI, gCmp, gLt, gLe, gGt, gGe, Mi.gSub, gMul, gAdd, gFdiv, gMod, gNeg, gNot, gGcd, gTupD, gLstD, gInt, gAbs, List.map_cons, List.map_nil, List.cons_append, List.nil_append, List.length_cons, List.length_nil, List.replicate, List.set_cons_zero, List.set_cons_succ, List.getElem?_cons_zero, List.getElem?_cons_succ, Option.join_some, if_true, Bool.false_eq_true, if_false, Nat.zero_add, decide_true, Nat.reduceAdd, Nat.reduceSub, od, e]), h, e2]
    rw [show f + 1 + (v : Int) = f + ((v + 1 : Nat) : Int) by omega]
theorem lp2_loop (ah : AH) (x d : Option D) : ∀ (v m : Nat) (n f : Int), v ≤ m → Vl p n v → wh (lpT 4) lp2 (m + 1) [some (.int p), x, some (.int f), d, some (.int n)] ah = .ok (.nx, [some (.int p), x, some (.int (f - v)), d, some (.int (n.fdiv (p ^ v)))]) ah := by
  have p2 : decide (1 < p) = true := decide_eq_true (by have := P.two; omega)
  have p0 : decide (p ≠ 0) = true := decide_eq_true P.ne
  have od : ∀ n, okDiv n p = true := fun n => okDiv_B bp (by decide) (by decide) P.ne
  intro v
  induction v with
  | zero =>
    intro m n f hm hv
    have n0 : decide (n = 0) = false := decide_eq_false (hv.ne P)
    have nd : decide (n.fmod p = 0) = false := decide_eq_false fun z => by
      have := (hv.dvd P (k := 1)).mp (by rw [Int.pow_one]; exact (fmod_dvd (by have := P.two; omega)).mp z)
      omega
    rw [wh_end (ah1 := ah) (by simp only [lpT, def0, sPs, sSet, sIf, sRt, sNx, sEx, sRtN, sPar2, sPar3, tV, tA, tO, tN, Mi.e2, Mi.e1, eL, eI, eA, eO, eCall, esC, esN, eC, M.andThen, eV, M.lift, M.ret, M.when, gI, gCmp, gLt, gLe, gGt, gGe, Mi.gSub, gMul, gAdd, gFdiv, gMod, gNeg, gNot, gGcd, gTupD, gLstD, gInt, gAbs, List.map_cons, List.map_nil, List.cons_append, List.nil_append, List.length_cons, List.length_nil, List.replicate, List.set_cons_zero, List.set_cons_succ, List.getElem?_cons_zero, List.getElem?_cons_succ, Option.join_some, if_true, Bool.false_eq_true, if_false, Nat.zero_add, decide_true, Nat.reduceAdd, Nat.reduceSub, p2, ne_int, n0, eq_int, p0, nd, Bool.not_false])]
    rw [Int.pow_zero, show n.fdiv 1 = n by rw [Int.fdiv_one], show f - ((0 : Nat) : Int) = f by omega]
  | succ v ih =>
    intro m n f hm hv
    obtain ⟨m', rfl⟩ : ∃ m', m = m' + 1 := ⟨m - 1, by omega⟩
    have n0 : decide (n = 0) = false := decide_eq_false (hv.ne P)
    have hd : p ∣ n := by
      have := (hv.dvd P (k := 1)).mpr (by omega)
      rw [Int.pow_one] at this
      exact this
    have nd : decide (n.fmod p = 0) = true := decide_eq_true ((fmod_dvd (by have := P.two; omega)).mpr hd)
    obtain ⟨c, hc⟩ := hd
    have e : n.fdiv p = c := by rw [hc]; exact Int.mul_fdiv_cancel_left _ P.ne
    have hc' : Vl p c v := by
      have := Vl.down P (k := 1) (n := c) (v := v + 1) (by rw [Int.pow_one, ← hc]; exact hv)
      exact this.2
    have h := ih m' c (f - 1) (by omega) hc'
    have e2 : n.fdiv (p ^ (v + 1)) = c.fdiv (p ^ v) := by
      obtain ⟨u, hu⟩ := (hc'.dvd P (k := v)).mpr (Nat.le_refl _)
      rw [hc, hu, Int.mul_fdiv_cancel_left _ (P.pw v), show p * (p ^ v * u) = p ^ (v + 1) * u by rw [Int.pow_succ]; grind]
      exact Int.mul_fdiv_cancel_left _ (P.pw _)
    rw [wh_go (env2 := [some (.int p), x, some (.int (f - 1)), d, some (.int c)]) (ah1 := ah) (ah2 := ah) (by simp only [lpT, def0, sPs, sSet, sIf, sRt, sNx, sEx, sRtN, sPar2, sPar3, tV, tA, tO, tN, Mi.e2, Mi.e1, eL, eI, eA, eO, eCall, esC, esN, eC, M.andThen, eV, M.lift, M.ret, M.when, gI, gCmp, gLt, gLe, gGt, gGe, Mi.gSub, gMul, gAdd, gFdiv, gMod, gNeg, gNot, gGcd, gTupD, gLstD, gInt, gAbs, List.map_cons, List.map_nil, List.cons_append, List.nil_append, List.length_cons, List.length_nil, List.replicate, List.set_cons_zero, List.set_cons_succ, List.getElem?_cons_zero, List.getElem?_cons_succ, Option.join_some, if_true, Bool.false_eq_true, if_false, Nat.zero_add, decide_true, Nat.reduceAdd, Nat.reduceSub, p2, ne_int, n0, eq_int, p0, nd, Bool.not_false]) (by simp only [lp2, def0, sPs, sSet, sIf, sRt, sNx, sEx, sRtN, sPar2, sPar3, tV, tA, tO, tN, Mi.e2, Mi.e1, eL, eI, eA, eO, eCall, esC, esN, eC, M.andThen, eV, M.lift, M.ret, M.when, gI, gCmp, gLt, gLe, gGt, gGe, Mi.gSub, gMul, gAdd, gFdiv, gMod, gNeg, gNot, gGcd, gTupD, gLstD, gInt, gAbs, List.map_cons, List.map_nil, List.cons_append, List.nil_append, List.length_cons, List.length_nil, List.replicate, List.set_cons_zero, List.set_cons_succ, List.getElem?_cons_zero, List.getElem?_cons_succ, Option.join_some, if_true, Bool.false_eq_true, if_false, Nat.zero_add, decide_true, Nat.reduceAdd, Nat.reduceSub, od, e]), h, e2]
    rw [show f - 1 - (v : Int) = f - ((v + 1 : Nat) : Int) by omega]
omit P bp in
theorem lp_b : b__law_parts = (sPs (sPar3 2 3 4 (esC (eI (tV (e2 gEq (e2 gIx (eV 1) (eC (.int 0))) (eC (.int 0)))) (eC (.int 9999)) (eC (.int 0))) (esC (e2 gIx (eV 1) (eC (.int 0))) (esC (e2 gIx (eV 1) (eC (.int 1))) esN)))) (sPs (wh (lpT 3) lp1 FU) (sPs (wh (lpT 4) lp2 FU) (sRt (eV 2))))) := rfl
theorem lparts_ok {x : Int × Int} {v w : Nat} (hv : Vl p x.1 v) (hw : Vl p x.2 w) (hx : Fb 900 x) (ah : AH) : m__law_parts [.int p, fr x] ah = .ok (.int ((v : Int) - w)) ah := by
  have v1 := vl_small P hv hx.n
  have w1 := vl_small P hw hx.d
  have n0 : decide (x.1 = 0) = false := decide_eq_false (hv.ne P)
  have big : 1000 < FU := Nat.lt_of_lt_of_le (by decide : 1000 < 2 ^ 10) (FU_big (by decide))
  have L1 := lp1_loop P bp ah (some (fr x)) (some (.int x.2)) v (FU - 1) x.1 0 (by omega) hv
  have L2 := lp2_loop P bp ah (some (fr x)) (some (.int (x.1.fdiv (p ^ v)))) w (FU - 1) x.2 (0 + v) (by omega) hw
  rw [show FU - 1 + 1 = FU by omega] at L1 L2
  refine def0_rt (env := [some (.int p), some (fr x), some (.int (0 + (v : Int) - w)), some (.int (x.1.fdiv (p ^ v))), some (.int (x.2.fdiv (p ^ w)))]) ?_
  show b__law_parts [some (.int p), some (fr x), none, none, none] ah = _
  have S1 : sPar3 2 3 4 (esC (eI (tV (e2 gEq (e2 gIx (eV 1) (eC (.int 0))) (eC (.int 0)))) (eC (.int 9999)) (eC (.int 0))) (esC (e2 gIx (eV 1) (eC (.int 0))) (esC (e2 gIx (eV 1) (eC (.int 1))) esN))) [some (.int p), some (fr x), none, none, none] ah = .ok (.nx, [some (.int p), some (fr x), some (.int 0), some (.int x.1), some (.int x.2)]) ah := by
    simp only [def0, sPs, sSet, sIf, sRt, sNx, sEx, sRtN, sPar2, sPar3, tV, tA, tO, tN, Mi.e2, Mi.e1, eL, eI, eA, eO, eCall, esC, esN, eC, M.andThen, eV, M.lift, M.ret, M.when, gI, gCmp, gLt, gLe, gGt, gGe, Mi.gSub, gMul, gAdd, gFdiv, gMod, gNeg, gNot, gGcd, gTupD, gLstD, gInt, gAbs, List.map_cons, List.map_nil, List.cons_append, List.nil_append, List.length_cons, List.length_nil, List.replicate, List.set_cons_zero, List.set_cons_succ, List.getElem?_cons_zero, List.getElem?_cons_succ, Option.join_some, if_true, Bool.false_eq_true, if_false, Nat.zero_add, decide_true, Nat.reduceAdd, Nat.reduceSub, ix0, ix1, eq_int, n0]
  rw [lp_b, sPs_nx S1, sPs_nx L1, sPs_nx L2]
  rw [show (0 : Int) + (v : Int) - w = (v : Int) - w by omega]
  rfl
/-! powers -/
omit P in
theorem raise_loop (ah : AH) (k : Option D) : ∀ (n : Nat) (lo : Int) (j : Nat) (w : Option D), ∃ w', fo (gN 3) (sSet 2 (e2 gMul (eV 2) (eV 0))) (rng lo n) [some (.int p), k, some (.int (p ^ j)), w] ah = .ok (.nx, [some (.int p), k, some (.int (p ^ (j + n))), w']) ah
  | 0, lo, j, w => ⟨w, rfl⟩
  | n + 1, lo, j, w => by
    obtain ⟨w', e⟩ := raise_loop ah k n (lo + 1) (j + 1) (some (.int lo))
    refine ⟨w', ?_⟩
    have m : okMul (p ^ j) p = true := by
      have h : p.natAbs < 128 := bp
      exact okMul_r (by omega) (by omega)
    rw [show rng lo (n + 1) = .int lo :: rng (lo + 1) n from rfl, fo_go (env1 := [some (.int p), k, some (.int (p ^ j)), some (.int lo)]) (ah1 := ah) (env2 := [some (.int p), k, some (.int (p ^ (j + 1))), some (.int lo)]) (ah2 := ah) rfl (by simp only [def0, sPs, sSet, sIf, sRt, sNx, sEx, sRtN, sPar2, sPar3, tV, tA, tO, tN, Mi.e2, Mi.e1, eL, eI, eA, eO, eCall, esC, esN, eC, M.andThen, eV, M.lift, M.ret, M.when, gI, gCmp, gLt, gLe, gGt, gGe, Mi.gSub, gMul, gAdd, gFdiv, gMod, gNeg, gNot, gGcd, gTupD, gLstD, gInt, gAbs, List.map_cons, List.map_nil, List.cons_append, List.nil_append, List.length_cons, List.length_nil, List.replicate, List.set_cons_zero, List.set_cons_succ, List.getElem?_cons_zero, List.getElem?_cons_succ, Option.join_some, if_true, Bool.false_eq_true, if_false, Nat.zero_add, decide_true, Nat.reduceAdd, Nat.reduceSub, m, Int.pow_succ]), e]
    rw [show j + 1 + n = j + (n + 1) by omega]
omit P bp in
theorem when_ok {α : Type} {c : Bool} {m : M α} {ah : AH} (h : c = true) : M.when c m ah = m ah := by
  subst h
  rfl
omit P bp in
theorem okr_of {k : Nat} (hk : k ≤ 1000) : okRng (k : Nat) = true := by
  unfold okRng
  rw [decide_eq_true (by omega : (-(2 ^ 62) : Int) ≤ (k : Nat)), decide_eq_true (by omega : ((k : Nat) : Int) < 2 ^ 62)]
  rfl
omit P in
theorem raised_at (i : Int) (k : Nat) (hi : i.toNat = k) (okr : okRng i = true) (ah : AH) : m__law_raised [.int p, .int i] ah = .ok (.int (p ^ k)) ah := by
  obtain ⟨w', e⟩ := raise_loop bp ah (some (.int i)) k 0 0 none
  have it : iOfs itR1 (esC (eV 1) esN) [some (.int p), some (.int i), some (.int 1), none] ah = .ok (rng 0 k) ah := by
    simp only [def0, sPs, sSet, sIf, sRt, sNx, sEx, sRtN, sPar2, sPar3, tV, tA, tO, tN, Mi.e2, Mi.e1, eL, eI, eA, eO, eCall, esC, esN, eC, M.andThen, eV, M.lift, M.ret, M.when, gI, gCmp, gLt, gLe, gGt, gGe, Mi.gSub, gMul, gAdd, gFdiv, gMod, gNeg, gNot, gGcd, gTupD, gLstD, gInt, gAbs, List.map_cons, List.map_nil, List.cons_append, List.nil_append, List.length_cons, List.length_nil, List.replicate, List.set_cons_zero, List.set_cons_succ, List.getElem?_cons_zero, List.getElem?_cons_succ, Option.join_some, if_true, Bool.false_eq_true, if_false, Nat.zero_add, decide_true, Nat.reduceAdd, Nat.reduceSub, iOfs, itR1, okr, hi]
  have S1 : sSet 2 (eC (.int 1)) [some (.int p), some (.int i), none, none] ah = .ok (.nx, [some (.int p), some (.int i), some (.int 1), none]) ah := by
    simp only [def0, sPs, sSet, sIf, sRt, sNx, sEx, sRtN, sPar2, sPar3, tV, tA, tO, tN, Mi.e2, Mi.e1, eL, eI, eA, eO, eCall, esC, esN, eC, M.andThen, eV, M.lift, M.ret, M.when, gI, gCmp, gLt, gLe, gGt, gGe, Mi.gSub, gMul, gAdd, gFdiv, gMod, gNeg, gNot, gGcd, gTupD, gLstD, gInt, gAbs, List.map_cons, List.map_nil, List.cons_append, List.nil_append, List.length_cons, List.length_nil, List.replicate, List.set_cons_zero, List.set_cons_succ, List.getElem?_cons_zero, List.getElem?_cons_succ, Option.join_some, if_true, Bool.false_eq_true, if_false, Nat.zero_add, decide_true, Nat.reduceAdd, Nat.reduceSub]
  have e' : fo (gN 3) (sSet 2 (e2 gMul (eV 2) (eV 0))) (rng 0 k) [some (.int p), some (.int i), some (.int 1), none] ah = .ok (.nx, [some (.int p), some (.int i), some (.int (p ^ k)), w']) ah := by
    rw [Int.pow_zero, Nat.zero_add] at e
    exact e
  have L : b__law_raised [some (.int p), some (.int i), none, none] ah = .ok (.rt (.int (p ^ k)), [some (.int p), some (.int i), some (.int (p ^ k)), w']) ah := by
    unfold b__law_raised
    rw [sPs_nx S1, sPs_nx ((sFo_at it).trans e')]
    simp only [def0, sPs, sSet, sIf, sRt, sNx, sEx, sRtN, sPar2, sPar3, tV, tA, tO, tN, Mi.e2, Mi.e1, eL, eI, eA, eO, eCall, esC, esN, eC, M.andThen, eV, M.lift, M.ret, M.when, gI, gCmp, gLt, gLe, gGt, gGe, Mi.gSub, gMul, gAdd, gFdiv, gMod, gNeg, gNot, gGcd, gTupD, gLstD, gInt, gAbs, List.map_cons, List.map_nil, List.cons_append, List.nil_append, List.length_cons, List.length_nil, List.replicate, List.set_cons_zero, List.set_cons_succ, List.getElem?_cons_zero, List.getElem?_cons_succ, Option.join_some, if_true, Bool.false_eq_true, if_false, Nat.zero_add, decide_true, Nat.reduceAdd, Nat.reduceSub]
  exact def0_rt L
omit P in
theorem raised_ok (k : Nat) (hk : k ≤ 1000) (ah : AH) : m__law_raised [.int p, .int (k : Nat)] ah = .ok (.int (p ^ k)) ah := raised_at bp (k : Nat) k (Int.toNat_natCast k) (okr_of hk) ah
def poB : MS := (sPs (sIf (tI (e2 gAnd (eV 1) (eC (.int 1)))) (sSet 2 (e2 gMul (eV 2) (eV 3))) sNx)
    (sPs (sSet 1 (e2 gShr (eV 1) (eC (.int 1))))
    (sIf (tV (e2 gGt (eV 1) (eC (.int 0)))) (sSet 3 (e2 gMul (eV 3) (eV 3))) sNx)))
def poT : Lc → M Bool := (tV (e2 gGt (eV 1) (eC (.int 0))))
omit P in
theorem powB (j : Nat) : B (7 * j + 1) (p ^ j) := by
  unfold B
  rw [Int.natAbs_pow]
  have h : p.natAbs < 2 ^ 7 := bp
  have h2 : p.natAbs ^ j ≤ (2 ^ 7) ^ j := Nat.pow_le_pow_left (by omega) j
  rw [← Nat.pow_mul] at h2
  exact Nat.lt_of_le_of_lt h2 (Nat.pow_lt_pow_right (by decide) (by omega))
omit P in
theorem po_loop (ah : AH) : ∀ (m k i j : Nat), k ≤ m → k < 64 → i + k * j ≤ 64 → (0 < k → j ≤ 64) → ∃ w0 w3, wh poT poB (m + 1) [some (.int p), some (.int (k : Nat)), some (.int (p ^ i)), some (.int (p ^ j))] ah = .ok (.nx, [some (.int p), w0, some (.int (p ^ (i + k * j))), w3]) ah := by
  intro m
  induction m with
  | zero =>
    intro k i j hm _ _ _
    have : k = 0 := by omega
    subst this
    exact ⟨_, _, by rw [wh_end (ah1 := ah) (by rfl), Nat.zero_mul]; rfl⟩
  | succ m ih =>
    intro k i j hm h64 hb hj
    by_cases h0 : k = 0
    · subst h0
      exact ⟨_, _, by rw [wh_end (ah1 := ah) (by rfl), Nat.zero_mul]; rfl⟩
    · have hj' := hj (by omega)
      have t : poT [some (.int p), some (.int (k : Nat)), some (.int (p ^ i)), some (.int (p ^ j))] ah = .ok true ah := by
        have : decide ((0 : Int) < (k : Nat)) = true := decide_eq_true (by omega)
        simp only [poT, def0, sPs, sSet, sIf, sRt, sNx, sEx, sRtN, sPar2, sPar3, tV, tA, tO, tN, Mi.e2, Mi.e1, eL, eI, eA, eO, eCall, esC, esN, eC, M.andThen, eV, M.lift, M.ret, M.when, gI, gCmp, gLt, gLe, gGt, gGe, Mi.gSub, gMul, gAdd, gFdiv, gMod, gNeg, gNot, gGcd, gTupD, gLstD, gInt, gAbs, List.map_cons, List.map_nil, List.cons_append, List.nil_append, List.length_cons, List.length_nil, List.replicate, List.set_cons_zero, List.set_cons_succ, List.getElem?_cons_zero, List.getElem?_cons_succ, Option.join_some, if_true, Bool.false_eq_true, if_false, Nat.zero_add, decide_true, Nat.reduceAdd, Nat.reduceSub, this]
      have hi : i ≤ 64 := by omega
      have m1 : okMul (p ^ i) (p ^ j) = true := okMul_B ((powB bp i).mono (k := 1000) (by omega)) ((powB bp j).mono (k := 1000) (by omega)) (by decide) (by decide) (by decide)
      have m2 : okMul (p ^ j) (p ^ j) = true := okMul_B ((powB bp j).mono (k := 1000) (by omega)) ((powB bp j).mono (k := 1000) (by omega)) (by decide) (by decide) (by decide)
      have sh : ((k : Nat) : Int) / 2 ^ (1 : Int).toNat = ((k / 2 : Nat) : Int) := by
        show ((k : Nat) : Int) / 2 ^ 1 = _
        omega
      have an : PySem.Builtin.bitAnd ((k : Nat) : Int) 1 = ((k % 2 : Nat) : Int) := by
        rw [PyProof.Rows.bitAnd_m1]
        omega
      have p1 : p ^ i * p ^ j = p ^ (i + j) := (Int.pow_add p i j).symm
      have p2 : p ^ j * p ^ j = p ^ (j + j) := (Int.pow_add p j j).symm
      have body : poB [some (.int p), some (.int (k : Nat)), some (.int (p ^ i)), some (.int (p ^ j))] ah = .ok (.nx, [some (.int p), some (.int ((k / 2 : Nat) : Int)), some (.int (p ^ (if k % 2 = 1 then i + j else i))), some (.int (p ^ (if 0 < k / 2 then j + j else j)))]) ah := by
        by_cases c1 : k % 2 = 1
        · have b1 : (((k % 2 : Nat) : Int) != 0) = true := by rw [c1]; rfl
          rw [if_pos c1]
          by_cases c2 : 0 < k / 2
          · have b2 : decide ((0 : Int) < ((k / 2 : Nat) : Int)) = true := decide_eq_true (by omega)
            rw [if_pos c2]
            simp only [poB, def0, sPs, sSet, sIf, sRt, sNx, sEx, sRtN, sPar2, sPar3, tV, tA, tO, tN, Mi.e2, Mi.e1, eL, eI, eA, eO, eCall, esC, esN, eC, M.andThen, eV, M.lift, M.ret, M.when, gI, gCmp, gLt, gLe, gGt, gGe, Mi.gSub, gMul, gAdd, gFdiv, gMod, gNeg, gNot, gGcd, gTupD, gLstD, gInt, gAbs, List.map_cons, List.map_nil, List.cons_append, List.nil_append, List.length_cons, List.length_nil, List.replicate, List.set_cons_zero, List.set_cons_succ, List.getElem?_cons_zero, List.getElem?_cons_succ, Option.join_some, if_true, Bool.false_eq_true, if_false, Nat.zero_add, decide_true, Nat.reduceAdd, Nat.reduceSub, tI, gAnd, gShr, an, b1, m1, p1, sh, b2, m2, p2, (by decide : decide ((0 : Int) ≤ 1) = true)]
          · have b2 : decide ((0 : Int) < ((k / 2 : Nat) : Int)) = false := decide_eq_false (by omega)
            rw [if_neg c2]
            simp only [poB, def0, sPs, sSet, sIf, sRt, sNx, sEx, sRtN, sPar2, sPar3, tV, tA, tO, tN, Mi.e2, Mi.e1, eL, eI, eA, eO, eCall, esC, esN, eC, M.andThen, eV, M.lift, M.ret, M.when, gI, gCmp, gLt, gLe, gGt, gGe, Mi.gSub, gMul, gAdd, gFdiv, gMod, gNeg, gNot, gGcd, gTupD, gLstD, gInt, gAbs, List.map_cons, List.map_nil, List.cons_append, List.nil_append, List.length_cons, List.length_nil, List.replicate, List.set_cons_zero, List.set_cons_succ, List.getElem?_cons_zero, List.getElem?_cons_succ, Option.join_some, if_true, Bool.false_eq_true, if_false, Nat.zero_add, decide_true, Nat.reduceAdd, Nat.reduceSub, tI, gAnd, gShr, an, b1, m1, p1, sh, b2, m2, p2, (by decide : decide ((0 : Int) ≤ 1) = true)]
        · have b1 : (((k % 2 : Nat) : Int) != 0) = false := by rw [show k % 2 = 0 by omega]; rfl
          rw [if_neg c1]
          by_cases c2 : 0 < k / 2
          · have b2 : decide ((0 : Int) < ((k / 2 : Nat) : Int)) = true := decide_eq_true (by omega)
            rw [if_pos c2]
            simp only [poB, def0, sPs, sSet, sIf, sRt, sNx, sEx, sRtN, sPar2, sPar3, tV, tA, tO, tN, Mi.e2, Mi.e1, eL, eI, eA, eO, eCall, esC, esN, eC, M.andThen, eV, M.lift, M.ret, M.when, gI, gCmp, gLt, gLe, gGt, gGe, Mi.gSub, gMul, gAdd, gFdiv, gMod, gNeg, gNot, gGcd, gTupD, gLstD, gInt, gAbs, List.map_cons, List.map_nil, List.cons_append, List.nil_append, List.length_cons, List.length_nil, List.replicate, List.set_cons_zero, List.set_cons_succ, List.getElem?_cons_zero, List.getElem?_cons_succ, Option.join_some, if_true, Bool.false_eq_true, if_false, Nat.zero_add, decide_true, Nat.reduceAdd, Nat.reduceSub, tI, gAnd, gShr, an, b1, m1, p1, sh, b2, m2, p2, (by decide : decide ((0 : Int) ≤ 1) = true)]
          · have b2 : decide ((0 : Int) < ((k / 2 : Nat) : Int)) = false := decide_eq_false (by omega)
            rw [if_neg c2]
            simp only [poB, def0, sPs, sSet, sIf, sRt, sNx, sEx, sRtN, sPar2, sPar3, tV, tA, tO, tN, Mi.e2, Mi.e1, eL, eI, eA, eO, eCall, esC, esN, eC, M.andThen, eV, M.lift, M.ret, M.when, gI, gCmp, gLt, gLe, gGt, gGe, Mi.gSub, gMul, gAdd, gFdiv, gMod, gNeg, gNot, gGcd, gTupD, gLstD, gInt, gAbs, List.map_cons, List.map_nil, List.cons_append, List.nil_append, List.length_cons, List.length_nil, List.replicate, List.set_cons_zero, List.set_cons_succ, List.getElem?_cons_zero, List.getElem?_cons_succ, Option.join_some, if_true, Bool.false_eq_true, if_false, Nat.zero_add, decide_true, Nat.reduceAdd, Nat.reduceSub, tI, gAnd, gShr, an, b1, m1, p1, sh, b2, m2, p2, (by decide : decide ((0 : Int) ≤ 1) = true)]
      have sum : (if k % 2 = 1 then i + j else i) + k / 2 * (if 0 < k / 2 then j + j else j) = i + k * j := by
        have e : k = 2 * (k / 2) + k % 2 := by omega
        have e3 : k * j = 2 * (k / 2) * j + (k % 2) * j := by rw [← Nat.add_mul, ← e]
        have e4 : k / 2 * (j + j) = 2 * (k / 2) * j := by grind
        by_cases c2 : 0 < k / 2
        · rw [if_pos c2, e3, e4]
          by_cases c1 : k % 2 = 1
          · rw [if_pos c1, c1]; omega
          · rw [if_neg c1, show k % 2 = 0 by omega]; omega
        · have z : k / 2 = 0 := by omega
          have c1 : k % 2 = 1 := by omega
          rw [if_pos c1, z, e3, z, c1]
          omega
      obtain ⟨w0, w3, e⟩ := ih (k / 2) (if k % 2 = 1 then i + j else i) (if 0 < k / 2 then j + j else j) (by omega) (by omega) (by rw [sum]; exact hb) (fun h => by
        rw [if_pos h]
        have : 2 * j ≤ k * j := Nat.mul_le_mul_right _ (by omega)
        omega)
      refine ⟨w0, w3, ?_⟩
      rw [wh_go t body, e, sum]
omit P in
theorem power_ok (k : Nat) (hk : k < 64) (ah : AH) : m_power_of [.int p, .int (k : Nat)] ah = .ok (.int (p ^ k)) ah := by
  have big : 100 < FU := Nat.lt_of_lt_of_le (by decide : 100 < 2 ^ 10) (FU_big (by decide))
  obtain ⟨w0, w3, e⟩ := po_loop bp ah (FU - 1) k 0 1 (by omega) hk (by omega) (fun _ => by decide)
  rw [show FU - 1 + 1 = FU by omega, Int.pow_zero, Int.pow_one, Nat.zero_add, Nat.mul_one] at e
  refine def0_rt (env := [some (.int p), w0, some (.int (p ^ k)), w3]) ?_
  show b_power_of [some (.int p), some (.int (k : Nat)), none, none] ah = _
  have pb : b_power_of = (sPs (sSet 2 (eC (.int 1))) (sPs (sSet 3 (eV 0)) (sPs (wh poT poB FU) (sRt (eV 2))))) := rfl
  rw [pb, sPs_nx (env1 := [some (.int p), some (.int (k : Nat)), some (.int 1), none]) (ah1 := ah) rfl, sPs_nx (env1 := [some (.int p), some (.int (k : Nat)), some (.int 1), some (.int p)]) (ah1 := ah) rfl, sPs_nx e]
  rfl
end
end Law
set_option Elab.async false
set_option linter.all false
set_option maxRecDepth 100000
set_option maxHeartbeats 400000
set_option exponentiation.threshold 30000
namespace Law
open PySem PySem.Spec PyProof.Rows L2 Mi
structure Pq (p : Int) : Prop where
  P : Pr p
  b : B 7 p
  inv : ∀ n : Int, ¬ p ∣ n → ∃ r : Int, 1 ≤ r ∧ r < p ∧ (n * r).fmod p = 1
theorem inv_of {p : Nat} (h2 : 2 ≤ p) (h : ∀ a, a < p → a ≠ 0 → ∃ r, r < p ∧ a * r % p = 1) (n : Int) (hn : ¬ (p : Int) ∣ n) : ∃ r : Int, 1 ≤ r ∧ r < (p : Int) ∧ (n * r).fmod p = 1 := by
  have h0 : 0 ≤ n % (p : Int) := Int.emod_nonneg _ (by omega)
  have h1 : n % (p : Int) < p := Int.emod_lt_of_pos _ (by omega)
  have h3 : n % (p : Int) ≠ 0 := fun z => hn (Int.dvd_of_emod_eq_zero z)
  obtain ⟨a, ha⟩ := Int.eq_ofNat_of_zero_le h0
  obtain ⟨r, hr, e⟩ := h a (by omega) (by omega)
  refine ⟨r, ?_, by omega, ?_⟩
  · by_cases z : r = 0
    · subst z
      rw [Nat.mul_zero, Nat.zero_mod] at e
      omega
    · omega
  · rw [Int.fmod_eq_emod_of_nonneg _ (by omega), Int.mul_emod, ha]
    have e2 : ((a * (r % p) % p : Nat) : Int) = 1 := by
      rw [Nat.mod_eq_of_lt hr, e]; rfl
    rw [← e2]
    norm_cast
def invP (n p : Int) : D → Bool
  | .int r => decide ((n * r).fmod p = 1)
  | _ => false
def invT : Lc → M Bool := (tV (e2 gEq (e2 gMod (e2 gMul (eV 2) (eV 6)) (eV 0)) (eC (.int 1))))
theorem inv_comp {p n : Int} (hp : p ≠ 0) (ah : AH) (k w : Option D) : ∀ (m : Nat) (lo : Int), 0 ≤ lo → lo + m < 1000 → lc (oN 6) invT (eV 6) [6] [some (.int p), k, some (.int n), none, none, none, w] (rng lo m) ah = .ok ((rng lo m).filter (invP n p)) ah
  | 0, _, _, _ => rfl
  | m + 1, lo, h0, h1 => by
    have ih := inv_comp (n := n) hp ah k w m (lo + 1) (by omega) (by omega)
    have c1 : okMul n lo = true := okMul_r (by omega) (by omega)
    have c2 : decide (p ≠ 0) = true := decide_eq_true hp
    have T : invT [some (.int p), k, some (.int n), none, none, none, some (.int lo)] ah = .ok (decide ((n * lo).fmod p = 1)) ah := by
      simp only [invT, def0, sPs, sSet, sIf, sRt, sNx, sEx, sRtN, sPar2, sPar3, tV, tA, tO, tN, Mi.e2, Mi.e1, eL, eI, eA, eO, eCall, esC, esN, eC, M.andThen, eV, M.lift, M.ret, M.when, gI, gCmp, gLt, gLe, gGt, gGe, Mi.gSub, gMul, gAdd, gFdiv, gMod, gNeg, gNot, gGcd, gTupD, gLstD, gInt, gAbs, List.map_cons, List.map_nil, List.cons_append, List.nil_append, List.length_cons, List.length_nil, List.replicate, List.set_cons_zero, List.set_cons_succ, List.getElem?_cons_zero, List.getElem?_cons_succ, Option.join_some, if_true, Bool.false_eq_true, if_false, Nat.zero_add, decide_true, Nat.reduceAdd, Nat.reduceSub, c1, c2, eq_int]
    rw [show rng lo (m + 1) = .int lo :: rng (lo + 1) m from rfl, lc]
    cases hx : decide ((n * lo).fmod p = 1) with
    | true =>
      rw [List.filter_cons_of_pos (by exact hx)]
      simp only [def0, sPs, sSet, sIf, sRt, sNx, sEx, sRtN, sPar2, sPar3, tV, tA, tO, tN, Mi.e2, Mi.e1, eL, eI, eA, eO, eCall, esC, esN, eC, M.andThen, eV, M.lift, M.ret, M.when, gI, gCmp, gLt, gLe, gGt, gGe, Mi.gSub, gMul, gAdd, gFdiv, gMod, gNeg, gNot, gGcd, gTupD, gLstD, gInt, gAbs, List.map_cons, List.map_nil, List.cons_append, List.nil_append, List.length_cons, List.length_nil, List.replicate, List.set_cons_zero, List.set_cons_succ, List.getElem?_cons_zero, List.getElem?_cons_succ, Option.join_some, if_true, Bool.false_eq_true, if_false, Nat.zero_add, decide_true, Nat.reduceAdd, Nat.reduceSub, oN, wipeE, T, hx, ih]
    | false =>
      rw [List.filter_cons_of_neg (by intro z; have z : decide ((n * lo).fmod p = 1) = true := z; rw [hx] at z; cases z)]
      simp only [def0, sPs, sSet, sIf, sRt, sNx, sEx, sRtN, sPar2, sPar3, tV, tA, tO, tN, Mi.e2, Mi.e1, eL, eI, eA, eO, eCall, esC, esN, eC, M.andThen, eV, M.lift, M.ret, M.when, gI, gCmp, gLt, gLe, gGt, gGe, Mi.gSub, gMul, gAdd, gFdiv, gMod, gNeg, gNot, gGcd, gTupD, gLstD, gInt, gAbs, List.map_cons, List.map_nil, List.cons_append, List.nil_append, List.length_cons, List.length_nil, List.replicate, List.set_cons_zero, List.set_cons_succ, List.getElem?_cons_zero, List.getElem?_cons_succ, Option.join_some, if_true, Bool.false_eq_true, if_false, Nat.zero_add, decide_true, Nat.reduceAdd, Nat.reduceSub, oN, wipeE, T, hx, ih]
theorem mem_rng : ∀ (m : Nat) (lo r : Int), lo ≤ r → r < lo + m → D.int r ∈ rng lo m
  | 0, lo, r, h, l => by omega
  | m + 1, lo, r, h, l => by
    by_cases z : r = lo
    · subst z; exact List.mem_cons_self
    · exact List.mem_cons_of_mem _ (mem_rng m (lo + 1) r (by omega) (by omega))
theorem rng_mem : ∀ (m : Nat) (lo : Int) (d : D), d ∈ rng lo m → ∃ r, d = .int r ∧ lo ≤ r ∧ r < lo + m
  | 0, lo, d, h => nomatch h
  | m + 1, lo, d, h => by
    rcases List.mem_cons.mp h with rfl | h
    · exact ⟨lo, rfl, by omega, by omega⟩
    · obtain ⟨r, e, a, b⟩ := rng_mem m (lo + 1) d h
      exact ⟨r, e, by omega, by omega⟩
section
variable {p n : Int} (Q : Pq p) (hn : ¬ p ∣ n) (bn : B 100 n) (ah : AH)
include Q hn
theorem inv_first (k w : Option D) : ∃ r : Int, 1 ≤ r ∧ r < p ∧ p ∣ n * r - 1 ∧ e2 gIx (eLc (iOfs itR2 (esC (eC (.int 1)) (esC (eV 0) esN))) (oN 6) invT (eV 6) [6]) (eC (.int 0)) [some (.int p), k, some (.int n), none, none, none, w] ah = .ok (.int r) ah := by
  have two := Q.P.two
  have b7 : p.natAbs < 2 ^ 7 := Q.b
  have e := inv_comp (p := p) (n := n) Q.P.ne ah k w (p - 1).toNat 1 (by decide) (by omega)
  obtain ⟨r0, a0, b0, c0⟩ := Q.inv n hn
  have m0 : D.int r0 ∈ (rng 1 (p - 1).toNat).filter (invP n p) := List.mem_filter.mpr ⟨mem_rng _ _ _ a0 (by omega), decide_eq_true c0⟩
  have hlen : (rng 1 (p - 1).toNat).length = (p - 1).toNat := rng_length _ _
  obtain ⟨d, l, hl⟩ := List.exists_cons_of_ne_nil (List.ne_nil_of_mem m0)
  have md : d ∈ (rng 1 (p - 1).toNat).filter (invP n p) := by rw [hl]; exact List.mem_cons_self
  obtain ⟨m1, m2⟩ := List.mem_filter.mp md
  obtain ⟨r, rfl, ra, rb⟩ := rng_mem _ _ _ m1
  have rc : (n * r).fmod p = 1 := of_decide_eq_true m2
  rw [hl] at e
  have ok1 : (okRng 1 && okRng p) = true := by
    unfold okRng
    rw [decide_eq_true (by omega : (-(2 ^ 62) : Int) ≤ p), decide_eq_true (by omega : p < 2 ^ 62)]
    rfl
  have lz : decide ((rng 1 (p - 1).toNat).length ≤ sizeLine) = true := decide_eq_true (by rw [hlen, sl]; omega)
  have g : gIx (.lst (.int r :: l)) (.int 0) ah = .ok (.int r) ah := by
    show M.lift (L2.atI (.int r :: l) ((0 : Nat) : Int)) ah = _
    rw [L2.atI_nat (v := D.int r) rfl]
    rfl
  refine ⟨r, ra, by omega, ?_, ?_⟩
  · have h1 := Int.emod_add_mul_ediv (n * r) p
    rw [Int.fmod_eq_emod_of_nonneg _ (by omega)] at rc
    exact ⟨n * r / p, by omega⟩
  · simp only [def0, sPs, sSet, sIf, sRt, sNx, sEx, sRtN, sPar2, sPar3, tV, tA, tO, tN, Mi.e2, Mi.e1, eL, eI, eA, eO, eCall, esC, esN, eC, M.andThen, eV, M.lift, M.ret, M.when, gI, gCmp, gLt, gLe, gGt, gGe, Mi.gSub, gMul, gAdd, gFdiv, gMod, gNeg, gNot, gGcd, gTupD, gLstD, gInt, gAbs, List.map_cons, List.map_nil, List.cons_append, List.nil_append, List.length_cons, List.length_nil, List.replicate, List.set_cons_zero, List.set_cons_succ, List.getElem?_cons_zero, List.getElem?_cons_succ, Option.join_some, if_true, Bool.false_eq_true, if_false, Nat.zero_add, decide_true, Nat.reduceAdd, Nat.reduceSub, eLc, iOfs, itR2, ok1, lz, hush, e, g]
def invB : MS := (sPs (sSet 4 (e2 gMul (eC (.int 2)) (eV 4)))
    (sPs (sSet 5 (e2 gMul (eV 5) (eV 5)))
    (sSet 3 (e2 gMod (e2 gMul (eV 3) (e2 Mi.gSub (eC (.int 2)) (e2 gMul (eV 2) (eV 3)))) (eV 5)))))
def invC : Lc → M Bool := (tV (e2 gLt (eV 4) (eV 1)))
include bn
omit hn in
theorem inv_loop (k : Nat) (w : Option D) (hk : k ≤ 40) : ∀ (m R : Nat) (f : Int), k ≤ R + m → 1 ≤ R → R ≤ 80 → p ^ R ∣ n * f - 1 → B 700 f → ∃ R' f' w', k ≤ R' ∧ p ^ R' ∣ n * f' - 1 ∧ B 700 f' ∧
    wh invC invB (m + 1) [some (.int p), some (.int (k : Nat)), some (.int n), some (.int f), some (.int (R : Nat)), some (.int (p ^ R)), w] ah = .ok (.nx, [some (.int p), some (.int (k : Nat)), some (.int n), some (.int f'), some (.int (R' : Nat)), some (.int (p ^ R')), w']) ah := by
  intro m
  induction m with
  | zero =>
    intro R f h _ _ hd hb
    have t : decide (((R : Nat) : Int) < (k : Nat)) = false := decide_eq_false (by omega)
    exact ⟨R, f, w, by omega, hd, hb, wh_end (by simp only [invC, def0, sPs, sSet, sIf, sRt, sNx, sEx, sRtN, sPar2, sPar3, tV, tA, tO, tN, Mi.e2, Mi.e1, eL, eI, eA, eO, eCall, esC, esN, eC, M.andThen, eV, M.lift, M.ret, M.when, gI, gCmp, gLt, gLe, gGt, gGe, Mi.gSub, gMul, gAdd, gFdiv, gMod, gNeg, gNot, gGcd, gTupD, gLstD, gInt, gAbs, List.map_cons, List.map_nil, List.cons_append, List.nil_append, List.length_cons, List.length_nil, List.replicate, List.set_cons_zero, List.set_cons_succ, List.getElem?_cons_zero, List.getElem?_cons_succ, Option.join_some, if_true, Bool.false_eq_true, if_false, Nat.zero_add, decide_true, Nat.reduceAdd, Nat.reduceSub, t])⟩
  | succ m ih =>
    intro R f h h1 h80 hd hb
    by_cases z : k ≤ R
    · have t : decide (((R : Nat) : Int) < (k : Nat)) = false := decide_eq_false (by omega)
      exact ⟨R, f, w, z, hd, hb, wh_end (by simp only [invC, def0, sPs, sSet, sIf, sRt, sNx, sEx, sRtN, sPar2, sPar3, tV, tA, tO, tN, Mi.e2, Mi.e1, eL, eI, eA, eO, eCall, esC, esN, eC, M.andThen, eV, M.lift, M.ret, M.when, gI, gCmp, gLt, gLe, gGt, gGe, Mi.gSub, gMul, gAdd, gFdiv, gMod, gNeg, gNot, gGcd, gTupD, gLstD, gInt, gAbs, List.map_cons, List.map_nil, List.cons_append, List.nil_append, List.length_cons, List.length_nil, List.replicate, List.set_cons_zero, List.set_cons_succ, List.getElem?_cons_zero, List.getElem?_cons_succ, Option.join_some, if_true, Bool.false_eq_true, if_false, Nat.zero_add, decide_true, Nat.reduceAdd, Nat.reduceSub, t])⟩
    · have t : decide (((R : Nat) : Int) < (k : Nat)) = true := decide_eq_true (by omega)
      have pb := (powB Q.b R).mono (k := 1000) (by omega)
      have pb2 := powB Q.b (R + R)
      have pe : p ^ R * p ^ R = p ^ (R + R) := (Int.pow_add p R R).symm
      have r2 : (2 : Int) * ((R : Nat) : Int) = ((R + R : Nat) : Int) := by omega
      have m0 : okMul 2 ((R : Nat) : Int) = true := okMul_l (by decide) (by decide)
      have m1 : okMul (p ^ R) (p ^ R) = true := okMul_B pb pb (by decide) (by decide) (by decide)
      have m2 : okMul n f = true := okMul_B bn hb (by decide) (by decide) (by decide)
      have bs : B 801 (2 - n * f) := B.sub (k := 800) (B.of (by decide) (by decide)) (bn.mul hb)
      have m3 : okMul f (2 - n * f) = true := okMul_B hb bs (by decide) (by decide) (by decide)
      have hpos := Q.P.pos (R + R)
      have d0 : decide (p ^ (R + R) ≠ 0) = true := decide_eq_true (by omega)
      have mr := fmod_range (f * (2 - n * f)) hpos
      have nb : B 700 ((f * (2 - n * f)).fmod (p ^ (R + R))) := by
        have hlt : ((f * (2 - n * f)).fmod (p ^ (R + R))).natAbs < (p ^ (R + R)).natAbs := by omega
        have h3 : R + R ≤ 80 := by omega
        exact Nat.lt_trans hlt (pb2.mono (k := 700) (by omega))
      have nd : p ^ (R + R) ∣ n * (f * (2 - n * f)).fmod (p ^ (R + R)) - 1 := by
        obtain ⟨c, hc⟩ := hd
        have hm := Int.emod_add_mul_ediv (f * (2 - n * f)) (p ^ (R + R))
        rw [Int.fmod_eq_emod_of_nonneg _ (by omega)]
        refine ⟨-(c * c) - n * (f * (2 - n * f) / p ^ (R + R)), ?_⟩
        have e1 : n * f = p ^ R * c + 1 := by omega
        generalize (f * (2 - n * f)) / p ^ (R + R) = q at *
        generalize (f * (2 - n * f)) % p ^ (R + R) = u at *
        rw [← pe] at hm ⊢
        generalize p ^ R = T at *
        grind
      obtain ⟨R', f', w', a1, a2, a3, a4⟩ := ih (R + R) _ (by omega) (by omega) (by omega) nd nb
      refine ⟨R', f', w', a1, a2, a3, ?_⟩
      rw [wh_go (env2 := [some (.int p), some (.int (k : Nat)), some (.int n), some (.int ((f * (2 - n * f)).fmod (p ^ (R + R)))), some (.int ((R + R : Nat) : Int)), some (.int (p ^ (R + R))), w]) (ah1 := ah) (ah2 := ah) (by simp only [invC, def0, sPs, sSet, sIf, sRt, sNx, sEx, sRtN, sPar2, sPar3, tV, tA, tO, tN, Mi.e2, Mi.e1, eL, eI, eA, eO, eCall, esC, esN, eC, M.andThen, eV, M.lift, M.ret, M.when, gI, gCmp, gLt, gLe, gGt, gGe, Mi.gSub, gMul, gAdd, gFdiv, gMod, gNeg, gNot, gGcd, gTupD, gLstD, gInt, gAbs, List.map_cons, List.map_nil, List.cons_append, List.nil_append, List.length_cons, List.length_nil, List.replicate, List.set_cons_zero, List.set_cons_succ, List.getElem?_cons_zero, List.getElem?_cons_succ, Option.join_some, if_true, Bool.false_eq_true, if_false, Nat.zero_add, decide_true, Nat.reduceAdd, Nat.reduceSub, t]) (by simp only [invB, def0, sPs, sSet, sIf, sRt, sNx, sEx, sRtN, sPar2, sPar3, tV, tA, tO, tN, Mi.e2, Mi.e1, eL, eI, eA, eO, eCall, esC, esN, eC, M.andThen, eV, M.lift, M.ret, M.when, gI, gCmp, gLt, gLe, gGt, gGe, Mi.gSub, gMul, gAdd, gFdiv, gMod, gNeg, gNot, gGcd, gTupD, gLstD, gInt, gAbs, List.map_cons, List.map_nil, List.cons_append, List.nil_append, List.length_cons, List.length_nil, List.replicate, List.set_cons_zero, List.set_cons_succ, List.getElem?_cons_zero, List.getElem?_cons_succ, Option.join_some, if_true, Bool.false_eq_true, if_false, Nat.zero_add, decide_true, Nat.reduceAdd, Nat.reduceSub, m0, m1, m2, m3, pe, r2, d0])]
      exact a4
end
end Law
set_option Elab.async false
set_option linter.all false
set_option maxRecDepth 100000
set_option maxHeartbeats 400000
set_option exponentiation.threshold 30000
namespace Law
open PySem PySem.Spec PyProof.Rows L2 Mi
section
variable {p n : Int} (Q : Pq p) (hn : ¬ p ∣ n) (bn : B 100 n) (ah : AH)
include Q
omit Q in
theorem inv_b : b_inverse = (sPs (sSet 3 (e2 gIx (eLc (iOfs itR2 (esC (eC (.int 1)) (esC (eV 0) esN))) (oN 6) invT (eV 6) [6]) (eC (.int 0)))) (sPs (sSet 4 (eC (.int 1))) (sPs (sSet 5 (eV 0)) (sPs (wh invC invB FU) (sRt (e2 gMod (eV 3) (eCall 2 m_power_of (esC (eV 0) (esC (eV 1) esN))))))))) := rfl
include hn bn
theorem inverse_ok (k : Nat) (hk : k ≤ 40) : ∃ g : Int, 0 ≤ g ∧ g < p ^ k ∧ p ^ k ∣ n * g - 1 ∧ m_inverse [.int p, .int (k : Nat), .int n] ah = .ok (.int g) ah := by
  obtain ⟨r, r1, r2, r3, e1⟩ := inv_first Q hn ah (some (.int (k : Nat))) none
  have big : 100 < FU := Nat.lt_of_lt_of_le (by decide : 100 < 2 ^ 10) (FU_big (by decide))
  have b7 : p.natAbs < 2 ^ 7 := Q.b
  obtain ⟨R', f', w', a1, a2, a3, a4⟩ := inv_loop Q bn ah k none hk (FU - 1) 1 r (by omega) (by decide) (by decide) (by rw [Int.pow_one]; exact r3) ((show B 7 r by unfold B; omega).mono (by decide))
  rw [show FU - 1 + 1 = FU by omega, Int.pow_one, show ((1 : Nat) : Int) = 1 from rfl] at a4
  have hp := Q.P.pos k
  have d0 : decide (p ^ k ≠ 0) = true := decide_eq_true (by omega)
  have pw := power_ok Q.b k (by omega) ah
  have mr := fmod_range f' hp
  refine ⟨f'.fmod (p ^ k), mr.1, mr.2, ?_, ?_⟩
  · obtain ⟨c, hc⟩ := a2
    have hm := Int.emod_add_mul_ediv f' (p ^ k)
    rw [Int.fmod_eq_emod_of_nonneg _ (by omega)]
    have e2 : p ^ R' = p ^ k * p ^ (R' - k) := by rw [← Int.pow_add, show k + (R' - k) = R' by omega]
    rw [e2] at hc
    refine ⟨p ^ (R' - k) * c - n * (f' / p ^ k), ?_⟩
    generalize f' / p ^ k = q at *
    generalize f' % p ^ k = u at *
    generalize p ^ k = T at *
    generalize p ^ (R' - k) = S at *
    grind
  · have S1 : sSet 3 (e2 gIx (eLc (iOfs itR2 (esC (eC (.int 1)) (esC (eV 0) esN))) (oN 6) invT (eV 6) [6]) (eC (.int 0))) [some (.int p), some (.int (k : Nat)), some (.int n), none, none, none, none] ah = .ok (.nx, [some (.int p), some (.int (k : Nat)), some (.int n), some (.int r), none, none, none]) ah := by
      rw [sSet_at e1]
      rfl
    have L : b_inverse [some (.int p), some (.int (k : Nat)), some (.int n), none, none, none, none] ah = .ok (.rt (.int (f'.fmod (p ^ k))), [some (.int p), some (.int (k : Nat)), some (.int n), some (.int f'), some (.int (R' : Nat)), some (.int (p ^ R')), w']) ah := by
      rw [inv_b, sPs_nx S1]
      rw [sPs_nx (env1 := [some (.int p), some (.int (k : Nat)), some (.int n), some (.int r), some (.int 1), none, none]) (ah1 := ah) rfl]
      rw [sPs_nx (env1 := [some (.int p), some (.int (k : Nat)), some (.int n), some (.int r), some (.int 1), some (.int p), none]) (ah1 := ah) rfl]
      rw [sPs_nx a4]
      simp only [def0, sPs, sSet, sIf, sRt, sNx, sEx, sRtN, sPar2, sPar3, tV, tA, tO, tN, Mi.e2, Mi.e1, eL, eI, eA, eO, eCall, esC, esN, eC, M.andThen, eV, M.lift, M.ret, M.when, gI, gCmp, gLt, gLe, gGt, gGe, Mi.gSub, gMul, gAdd, gFdiv, gMod, gNeg, gNot, gGcd, gTupD, gLstD, gInt, gAbs, List.map_cons, List.map_nil, List.cons_append, List.nil_append, List.length_cons, List.length_nil, List.replicate, List.set_cons_zero, List.set_cons_succ, List.getElem?_cons_zero, List.getElem?_cons_succ, Option.join_some, if_true, Bool.false_eq_true, if_false, Nat.zero_add, decide_true, Nat.reduceAdd, Nat.reduceSub, pw, d0]
    exact def0_rt L
omit hn bn
theorem rest_ok (k : Nat) (hk : k ≤ 40) {x : Int × Int} (hx : Fb 100 x) (hd : ¬ p ∣ x.2) : ∃ t : Int, 0 ≤ t ∧ t < p ^ k ∧ p ^ k ∣ x.1 - t * x.2 ∧ m_rest [.int p, .int (k : Nat), fr x] ah = .ok (.int t) ah := by
  have hp := Q.P.pos k
  have d0 : decide (p ^ k ≠ 0) = true := decide_eq_true (by omega)
  have pw := power_ok Q.b k (by omega) ah
  by_cases h1 : x.2 = 1
  · have e1 : decide (x.2 = 1) = true := decide_eq_true h1
    have mr := fmod_range x.1 hp
    refine ⟨x.1.fmod (p ^ k), mr.1, mr.2, ?_, ?_⟩
    · have hm := Int.emod_add_mul_ediv x.1 (p ^ k)
      rw [Int.fmod_eq_emod_of_nonneg _ (by omega), h1, Int.mul_one]
      exact ⟨x.1 / p ^ k, by omega⟩
    · unfold m_rest b_rest
      simp only [def0, sPs, sSet, sIf, sRt, sNx, sEx, sRtN, sPar2, sPar3, tV, tA, tO, tN, Mi.e2, Mi.e1, eL, eI, eA, eO, eCall, esC, esN, eC, M.andThen, eV, M.lift, M.ret, M.when, gI, gCmp, gLt, gLe, gGt, gGe, Mi.gSub, gMul, gAdd, gFdiv, gMod, gNeg, gNot, gGcd, gTupD, gLstD, gInt, gAbs, List.map_cons, List.map_nil, List.cons_append, List.nil_append, List.length_cons, List.length_nil, List.replicate, List.set_cons_zero, List.set_cons_succ, List.getElem?_cons_zero, List.getElem?_cons_succ, Option.join_some, if_true, Bool.false_eq_true, if_false, Nat.zero_add, decide_true, Nat.reduceAdd, Nat.reduceSub, pw, ix0, ix1, eq_int, e1, d0]
  · have e1 : decide (x.2 = 1) = false := decide_eq_false h1
    obtain ⟨g, g0, g1, g2, g3⟩ := inverse_ok Q hd hx.d ah k hk
    have mr := fmod_range (x.1 * g) hp
    have gb : B 700 g := by
      have h2 := (powB Q.b k).mono (k := 700) (by omega)
      unfold B at *
      omega
    have m : okMul x.1 g = true := okMul_B (hx.n.mono (k := 700) (by decide)) gb (by decide) (by decide) (by decide)
    refine ⟨(x.1 * g).fmod (p ^ k), mr.1, mr.2, ?_, ?_⟩
    · have hm := Int.emod_add_mul_ediv (x.1 * g) (p ^ k)
      obtain ⟨c, hc⟩ := g2
      rw [Int.fmod_eq_emod_of_nonneg _ (by omega)]
      refine ⟨x.2 * (x.1 * g / p ^ k) - x.1 * c, ?_⟩
      generalize x.1 * g / p ^ k = q at *
      generalize x.1 * g % p ^ k = u at *
      generalize p ^ k = T at *
      grind
    · unfold m_rest b_rest
      simp only [def0, sPs, sSet, sIf, sRt, sNx, sEx, sRtN, sPar2, sPar3, tV, tA, tO, tN, Mi.e2, Mi.e1, eL, eI, eA, eO, eCall, esC, esN, eC, M.andThen, eV, M.lift, M.ret, M.when, gI, gCmp, gLt, gLe, gGt, gGe, Mi.gSub, gMul, gAdd, gFdiv, gMod, gNeg, gNot, gGcd, gTupD, gLstD, gInt, gAbs, List.map_cons, List.map_nil, List.cons_append, List.nil_append, List.length_cons, List.length_nil, List.replicate, List.set_cons_zero, List.set_cons_succ, List.getElem?_cons_zero, List.getElem?_cons_succ, Option.join_some, if_true, Bool.false_eq_true, if_false, Nat.zero_add, decide_true, Nat.reduceAdd, Nat.reduceSub, pw, ix0, ix1, eq_int, e1, d0, g3, m]
end
def pl (x y : Int × Int) : Int × Int := nf (x.1 * y.2 + y.1 * x.2) (x.2 * y.2)
def mi (x y : Int × Int) : Int × Int := nf (x.1 * y.2 - y.1 * x.2) (x.2 * y.2)
def ti (x y : Int × Int) : Int × Int := nf (x.1 * y.1) (x.2 * y.2)
section
variable {x y : Int × Int} (hx : Fb 500 x) (hy : Fb 500 y) (ah : AH)
include hx hy
theorem o5 : okMul x.1 y.2 = true ∧ okMul y.1 x.2 = true ∧ okMul x.2 y.2 = true ∧ okMul x.1 y.1 = true := ⟨om (hx.n.mono (by decide)) (hy.d.mono (by decide)), om (hy.n.mono (by decide)) (hx.d.mono (by decide)), om (hx.d.mono (by decide)) (hy.d.mono (by decide)), om (hx.n.mono (by decide)) (hy.n.mono (by decide))⟩
theorem lsum_ok : m__law_sum [fr x, fr y] ah = .ok (fr (pl x y)) ah := by
  have h := lfrac (n := x.1 * y.2 + y.1 * x.2) (d := x.2 * y.2) ((hx.d.mul hy.d).mono (by decide)) (mul_ne hx.z hy.z) ah
  obtain ⟨a, b, c, d⟩ := o5 hx hy
  unfold m__law_sum b__law_sum
  simp only [def0, sPs, sSet, sIf, sRt, sNx, sEx, sRtN, sPar2, sPar3, tV, tA, tO, tN, Mi.e2, Mi.e1, eL, eI, eA, eO, eCall, esC, esN, eC, M.andThen, eV, M.lift, M.ret, M.when, gI, gCmp, gLt, gLe, gGt, gGe, Mi.gSub, gMul, gAdd, gFdiv, gMod, gNeg, gNot, gGcd, gTupD, gLstD, gInt, gAbs, List.map_cons, List.map_nil, List.cons_append, List.nil_append, List.length_cons, List.length_nil, List.replicate, List.set_cons_zero, List.set_cons_succ, List.getElem?_cons_zero, List.getElem?_cons_succ, Option.join_some, if_true, Bool.false_eq_true, if_false, Nat.zero_add, decide_true, Nat.reduceAdd, Nat.reduceSub, ix0, ix1, a, b, c, h]
  rfl
theorem lapart_ok : m__law_apart [fr x, fr y] ah = .ok (fr (mi x y)) ah := by
  have h := lfrac (n := x.1 * y.2 - y.1 * x.2) (d := x.2 * y.2) ((hx.d.mul hy.d).mono (by decide)) (mul_ne hx.z hy.z) ah
  obtain ⟨a, b, c, d⟩ := o5 hx hy
  unfold m__law_apart b__law_apart
  simp only [def0, sPs, sSet, sIf, sRt, sNx, sEx, sRtN, sPar2, sPar3, tV, tA, tO, tN, Mi.e2, Mi.e1, eL, eI, eA, eO, eCall, esC, esN, eC, M.andThen, eV, M.lift, M.ret, M.when, gI, gCmp, gLt, gLe, gGt, gGe, Mi.gSub, gMul, gAdd, gFdiv, gMod, gNeg, gNot, gGcd, gTupD, gLstD, gInt, gAbs, List.map_cons, List.map_nil, List.cons_append, List.nil_append, List.length_cons, List.length_nil, List.replicate, List.set_cons_zero, List.set_cons_succ, List.getElem?_cons_zero, List.getElem?_cons_succ, Option.join_some, if_true, Bool.false_eq_true, if_false, Nat.zero_add, decide_true, Nat.reduceAdd, Nat.reduceSub, ix0, ix1, a, b, c, h]
  rfl
theorem lprod_ok : m__law_product [fr x, fr y] ah = .ok (fr (ti x y)) ah := by
  have h := lfrac (n := x.1 * y.1) (d := x.2 * y.2) ((hx.d.mul hy.d).mono (by decide)) (mul_ne hx.z hy.z) ah
  obtain ⟨a, b, c, d⟩ := o5 hx hy
  unfold m__law_product b__law_product
  simp only [def0, sPs, sSet, sIf, sRt, sNx, sEx, sRtN, sPar2, sPar3, tV, tA, tO, tN, Mi.e2, Mi.e1, eL, eI, eA, eO, eCall, esC, esN, eC, M.andThen, eV, M.lift, M.ret, M.when, gI, gCmp, gLt, gLe, gGt, gGe, Mi.gSub, gMul, gAdd, gFdiv, gMod, gNeg, gNot, gGcd, gTupD, gLstD, gInt, gAbs, List.map_cons, List.map_nil, List.cons_append, List.nil_append, List.length_cons, List.length_nil, List.replicate, List.set_cons_zero, List.set_cons_succ, List.getElem?_cons_zero, List.getElem?_cons_succ, Option.join_some, if_true, Bool.false_eq_true, if_false, Nat.zero_add, decide_true, Nat.reduceAdd, Nat.reduceSub, ix0, ix1, c, d, h]
  rfl
end
/-- what p makes of a fraction that is not 0 -/
theorem vfrac {p n d : Int} (P : Pr p) (hn : n ≠ 0) (hd : d ≠ 0) : ∃ v w a b : Nat, Vl p n v ∧ Vl p d w ∧ Vl p (nf n d).1 a ∧ Vl p (nf n d).2 b ∧ (v : Int) - w = (a : Int) - b := by
  obtain ⟨v, hv⟩ := Vl.ex P hn
  obtain ⟨w, hw⟩ := Vl.ex P hd
  have z := (nf_spec n d hd).1.pos
  have y : (nf n d).1 ≠ 0 := by
    intro h
    have c := nf_cross n d hd
    rw [h, Int.zero_mul] at c
    rcases Int.mul_eq_zero.mp c.symm with c | c
    · exact hn c
    · omega
  obtain ⟨a, ha⟩ := Vl.ex P y
  obtain ⟨b, hb⟩ := Vl.ex P (show (nf n d).2 ≠ 0 by omega)
  exact ⟨v, w, a, b, hv, hw, ha, hb, Vl.nf P hd hv hw ha hb⟩
theorem nf_zero {n d : Int} (hd : d ≠ 0) (hn : n = 0) : (nf n d).1 = 0 := by
  subst hn
  have c := nf_cross 0 d hd
  rw [Int.zero_mul] at c
  rcases Int.mul_eq_zero.mp c with c | c
  · exact c
  · exact absurd c hd
theorem rr_ok {p : Int} (Q : Pq p) (i : Int) (k : Nat) (hi : i = (k : Nat)) (hk : k ≤ 40) {x : Int × Int} (hx : Fb 100 x) (hd : ¬ p ∣ x.2) (ah : AH) : m__law_rest_right [.int p, .int i, fr x] ah = .ok (.bl true) ah := by
  obtain ⟨t, t0, t1, t2, e⟩ := rest_ok Q ah k hk hx hd
  have bp := powB Q.b k
  have bt : B 400 t := by
    have h2 := bp.mono (k := 400) (by omega)
    unfold B at *
    omega
  have r := raised_ok Q.b k (by omega) ah
  rw [← hi] at e r
  have g := lapart_ok (x := x) (y := (t, 1)) (hx.mono (by decide)) ⟨bt.mono (by decide), (B.of (by decide) (by decide) : B 500 1), (by decide : (1 : Int) ≠ 0)⟩ ah
  have c0 : decide (0 ≤ t) = true := decide_eq_true t0
  have c1 : decide (t < p ^ k) = true := decide_eq_true t1
  have kb : ∀ ah, gIsi [.int t, .oth (.ty "bool")] ah = .ok (.bl false) ah := by
    intro ah
    simp only [gIsi, D.ty, Option.bind_some, (by decide +kernel : kitB "int" "bool" = some false)]
  have ki : ∀ ah, gIsi [.int t, .oth (.ty "int")] ah = .ok (.bl true) ah := by
    intro ah
    simp only [gIsi, D.ty, Option.bind_some, (by decide +kernel : kitB "int" "int" = some true)]
  have s2' : decide (2 ≤ sizeLine) = true := decide_eq_true (by rw [sl]; omega)
  have ft : D.tup [.int t, .int 1] = fr (t, 1) := rfl
  by_cases h0 : (mi x (t, 1)).1 = 0
  · have z0 : decide ((mi x (t, 1)).1 = 0) = true := decide_eq_true h0
    unfold m__law_rest_right b__law_rest_right
    simp only [def0, sPs, sSet, sIf, sRt, sNx, sEx, sRtN, sPar2, sPar3, tV, tA, tO, tN, Mi.e2, Mi.e1, eL, eI, eA, eO, eCall, esC, esN, eC, M.andThen, eV, M.lift, M.ret, M.when, gI, gCmp, gLt, gLe, gGt, gGe, Mi.gSub, gMul, gAdd, gFdiv, gMod, gNeg, gNot, gGcd, gTupD, gLstD, gInt, gAbs, List.map_cons, List.map_nil, List.cons_append, List.nil_append, List.length_cons, List.length_nil, List.replicate, List.set_cons_zero, List.set_cons_succ, List.getElem?_cons_zero, List.getElem?_cons_succ, Option.join_some, if_true, Bool.false_eq_true, if_false, Nat.zero_add, decide_true, Nat.reduceAdd, Nat.reduceSub, e, kb, ki, eCh, c0, r, c1, s2', ft, g, ix0, eq_int, z0, Bool.not_true]
  · have z0 : decide ((mi x (t, 1)).1 = 0) = false := decide_eq_false h0
    have hN : x.1 * 1 - t * x.2 ≠ 0 := fun z => h0 (nf_zero (mul_ne hx.z (by decide : (1 : Int) ≠ 0)) z)
    obtain ⟨v, w, a, b, hv, hw, ha, hb, eq⟩ := vfrac Q.P hN (mul_ne hx.z (by decide : (1 : Int) ≠ 0))
    have hkv : k ≤ v := (hv.dvd Q.P).mp (by rw [Int.mul_one]; exact t2)
    have hw0 : w = 0 := by
      have := Vl.zero_iff Q.P hd
      rw [Int.mul_one] at hw
      exact hw.uniq Q.P this
    have bN : B 800 (x.1 * 1 - t * x.2) := by
      rw [Int.mul_one]
      exact B.sub (k := 799) (hx.n.mono (by decide)) ((bt.mul hx.d).mono (by decide))
    have fb : Fb 900 (mi x (t, 1)) := Fb.nf (bN.mono (by decide)) ((hx.d.mul (B.of (by decide) (by decide) : B 2 1)).mono (by decide)) (mul_ne hx.z (by decide : (1 : Int) ≠ 0))
    have lp := lparts_ok Q.P Q.b ha hb fb ah
    have c2 : decide (i ≤ (a : Int) - b) = true := decide_eq_true (by omega)
    have lp' : m__law_parts [.int p, fr (mi x (t, 1))] ah = .ok (.int ((a : Int) - b)) ah := lp
    unfold m__law_rest_right b__law_rest_right
    simp only [def0, sPs, sSet, sIf, sRt, sNx, sEx, sRtN, sPar2, sPar3, tV, tA, tO, tN, Mi.e2, Mi.e1, eL, eI, eA, eO, eCall, esC, esN, eC, M.andThen, eV, M.lift, M.ret, M.when, gI, gCmp, gLt, gLe, gGt, gGe, Mi.gSub, gMul, gAdd, gFdiv, gMod, gNeg, gNot, gGcd, gTupD, gLstD, gInt, gAbs, List.map_cons, List.map_nil, List.cons_append, List.nil_append, List.length_cons, List.length_nil, List.replicate, List.set_cons_zero, List.set_cons_succ, List.getElem?_cons_zero, List.getElem?_cons_succ, Option.join_some, if_true, Bool.false_eq_true, if_false, Nat.zero_add, decide_true, Nat.reduceAdd, Nat.reduceSub, e, kb, ki, eCh, c0, r, c1, s2', ft, g, ix0, eq_int, z0, lp', c2, Bool.not_true]
end Law
set_option Elab.async false
set_option linter.all false
set_option maxRecDepth 100000
set_option maxHeartbeats 400000
set_option exponentiation.threshold 30000
namespace Law
open PySem PySem.Spec PyProof.Rows L2 Mi
/-- what p makes of a fraction, as an int -/
def Vf (p : Int) (x : Int × Int) (m : Int) : Prop := ∃ v w : Nat, Vl p x.1 v ∧ Vl p x.2 w ∧ m = (v : Int) - w
theorem Vf.parts {p : Int} (P : Pr p) {x : Int × Int} {m : Int} (h : Vf p x m) (hx : Fb 900 x) (ah : AH) : ∃ ex, m_parts [.int p, fr x] ah = .ok (.int m) (ah ++ ex) := by
  obtain ⟨v, w, a, b, rfl⟩ := h
  exact parts_ok P a b hx ah
theorem Vf.lparts {p : Int} (Q : Pq p) {x : Int × Int} {m : Int} (h : Vf p x m) (hx : Fb 900 x) (ah : AH) : m__law_parts [.int p, fr x] ah = .ok (.int m) ah := by
  obtain ⟨v, w, a, b, rfl⟩ := h
  exact lparts_ok Q.P Q.b a b hx ah
theorem Vf.ex {p : Int} (P : Pr p) {x : Int × Int} (h1 : x.1 ≠ 0) (h2 : x.2 ≠ 0) : ∃ m, Vf p x m := by
  obtain ⟨v, a⟩ := Vl.ex P h1
  obtain ⟨w, b⟩ := Vl.ex P h2
  exact ⟨_, v, w, a, b, rfl⟩
theorem Vf.nf {p n d : Int} (P : Pr p) {v w : Nat} (hv : Vl p n v) (hw : Vl p d w) : Vf p (nf n d) ((v : Int) - w) := by
  obtain ⟨v', w', a, b, h1, h2, h3, h4, e⟩ := vfrac P (hv.ne P) (hw.ne P)
  have e1 := h1.uniq P hv
  have e2 := h2.uniq P hw
  subst e1 e2
  exact ⟨a, b, h3, h4, e⟩
theorem Vf.ti {p : Int} (P : Pr p) {x y : Int × Int} {m k : Int} (h : Vf p x m) (l : Vf p y k) : Vf p (ti x y) (m + k) := by
  obtain ⟨v, w, a, b, rfl⟩ := h
  obtain ⟨v', w', a', b', rfl⟩ := l
  have := Vf.nf P (a.mul P a') (b.mul P b')
  rw [show ((v + v' : Nat) : Int) - ((w + w' : Nat) : Int) = (v : Int) - w + ((v' : Int) - w') by omega] at this
  exact this
/-- a sum's -/
theorem sum_v {p : Int} (P : Pr p) {x y : Int × Int} {m k : Int} (h : Vf p x m) (l : Vf p y k) (N : Int) (hN : N = x.1 * y.2 + y.1 * x.2) :
    (N = 0 → m = k) ∧ (N ≠ 0 → ∃ s, Vf p (Mi.nf N (x.2 * y.2)) s ∧ min m k ≤ s ∧ (m ≠ k → s = min m k)) := by
  obtain ⟨v, w, a, b, rfl⟩ := h
  obtain ⟨v', w', a', b', rfl⟩ := l
  have h1 := a.mul P b'
  have h2 := a'.mul P b
  refine ⟨fun z => ?_, fun z => ?_⟩
  · have e : x.1 * y.2 = -(y.1 * x.2) := by omega
    rw [e] at h1
    have := h1.uniq P (h2.neg P)
    omega
  · obtain ⟨s, hs⟩ := Vl.ex P z
    have hs' := hs
    rw [hN] at hs'
    obtain ⟨c1, c2⟩ := Vl.add P h1 h2 hs'
    refine ⟨_, Vf.nf P hs (b.mul P b'), ?_, fun ne => ?_⟩
    · omega
    · have := c2 (by omega)
      omega
theorem min_at (i j : Int) (ah : AH) : gMin2 [.int i, .int j] ah = .ok (.int (if j < i then j else i)) ah := rfl
theorem isn_int (i : Int) (ah : AH) : gIsN (.int i) .non ah = .ok (.bl false) ah := rfl
theorem isn_non (ah : AH) : gIsN .non .non ah = .ok (.bl true) ah := rfl
def bothB : MS := (sPs (sSet 6 (eCall 2 m_parts (esC (eV 0) (esC (eV 5) esN))))
    (sIf (tV (e2 gIsN (eV 6) (eC .non))) (sIf (tO (tV (e2 gNe (e2 gIx (eV 5) (eC (.int 0))) (eC (.int 0)))) (tV (e2 gNe (eV 3) (eV 4)))) (sRt (eC (.bl false))) sNx) (sIf (tO (tV (e2 gLt (eV 6) (eL gMin2 (esC (eV 3) (esC (eV 4) esN))))) (tA (tV (e2 gNe (eV 3) (eV 4))) (tV (e2 gNe (eV 6) (eL gMin2 (esC (eV 3) (esC (eV 4) esN))))))) (sRt (eC (.bl false))) sNx)))
theorem both_ok {p : Int} (Q : Pq p) {m k : Int} {N Dn : Int} (hD : Dn ≠ 0) (bN : B 400 N) (bD : B 400 Dn) (h0 : N = 0 → m = k) (h1 : N ≠ 0 → ∃ s, Vf p (Mi.nf N Dn) s ∧ min m k ≤ s ∧ (m ≠ k → s = min m k)) (w1 w2 w6 : Option D) (ah : AH) :
    ∃ ex w, bothB [some (.int p), w1, w2, some (.int m), some (.int k), some (fr (Mi.nf N Dn)), w6] ah = .ok (.nx, [some (.int p), w1, w2, some (.int m), some (.int k), some (fr (Mi.nf N Dn)), w]) (ah ++ ex) := by
  have fb : Fb 900 (Mi.nf N Dn) := Fb.nf (bN.mono (by decide)) (bD.mono (by decide)) hD
  by_cases hN : N = 0
  · have e := parts_no (p := p) (nf_zero hD hN) ah
    have z1 : decide ((Mi.nf N Dn).1 = 0) = true := decide_eq_true (nf_zero hD hN)
    have z2 : decide (m = k) = true := decide_eq_true (h0 hN)
    refine ⟨[], some .non, ?_⟩
    rw [List.append_nil]
    unfold bothB
    simp only [def0, sPs, sSet, sIf, sRt, sNx, sEx, sRtN, sPar2, sPar3, tV, tA, tO, tN, Mi.e2, Mi.e1, eL, eI, eA, eO, eCall, esC, esN, eC, M.andThen, eV, M.lift, M.ret, M.when, gI, gCmp, gLt, gLe, gGt, gGe, Mi.gSub, gMul, gAdd, gFdiv, gMod, gNeg, gNot, gGcd, gTupD, gLstD, gInt, gAbs, List.map_cons, List.map_nil, List.cons_append, List.nil_append, List.length_cons, List.length_nil, List.replicate, List.set_cons_zero, List.set_cons_succ, List.getElem?_cons_zero, List.getElem?_cons_succ, Option.join_some, if_true, Bool.false_eq_true, if_false, Nat.zero_add, decide_true, Nat.reduceAdd, Nat.reduceSub, e, isn_non, ix0, ne_int, z1, z2, Bool.not_true]
  · obtain ⟨s, hs, s1, s2⟩ := h1 hN
    obtain ⟨ex, e⟩ := hs.parts Q.P fb ah
    refine ⟨ex, some (.int s), ?_⟩
    have mn : (if k < m then k else m) = min m k := by
      split <;> omega
    have c1 : decide (s < min m k) = false := decide_eq_false (by omega)
    unfold bothB
    by_cases hm : m = k
    · have z2 : decide (m = k) = true := decide_eq_true hm
      simp only [def0, sPs, sSet, sIf, sRt, sNx, sEx, sRtN, sPar2, sPar3, tV, tA, tO, tN, Mi.e2, Mi.e1, eL, eI, eA, eO, eCall, esC, esN, eC, M.andThen, eV, M.lift, M.ret, M.when, gI, gCmp, gLt, gLe, gGt, gGe, Mi.gSub, gMul, gAdd, gFdiv, gMod, gNeg, gNot, gGcd, gTupD, gLstD, gInt, gAbs, List.map_cons, List.map_nil, List.cons_append, List.nil_append, List.length_cons, List.length_nil, List.replicate, List.set_cons_zero, List.set_cons_succ, List.getElem?_cons_zero, List.getElem?_cons_succ, Option.join_some, if_true, Bool.false_eq_true, if_false, Nat.zero_add, decide_true, Nat.reduceAdd, Nat.reduceSub, e, isn_int, min_at, mn, c1, ne_int, z2, Bool.not_true]
    · have z2 : decide (m = k) = false := decide_eq_false hm
      have z3 : decide (s = min m k) = true := decide_eq_true (s2 hm)
      simp only [def0, sPs, sSet, sIf, sRt, sNx, sEx, sRtN, sPar2, sPar3, tV, tA, tO, tN, Mi.e2, Mi.e1, eL, eI, eA, eO, eCall, esC, esN, eC, M.andThen, eV, M.lift, M.ret, M.when, gI, gCmp, gLt, gLe, gGt, gGe, Mi.gSub, gMul, gAdd, gFdiv, gMod, gNeg, gNot, gGcd, gTupD, gLstD, gInt, gAbs, List.map_cons, List.map_nil, List.cons_append, List.nil_append, List.length_cons, List.length_nil, List.replicate, List.set_cons_zero, List.set_cons_succ, List.getElem?_cons_zero, List.getElem?_cons_succ, Option.join_some, if_true, Bool.false_eq_true, if_false, Nat.zero_add, decide_true, Nat.reduceAdd, Nat.reduceSub, e, isn_int, min_at, mn, c1, ne_int, z2, z3, Bool.not_true, Bool.not_false]
theorem two_b : b__law_two_right = (sPs (sPar2 3 4 (esC (eCall 2 m_parts (esC (eV 0) (esC (eV 1) esN))) (esC (eCall 2 m_parts (esC (eV 0) (esC (eV 2) esN))) esN)))
    (sPs (sIf (tO (tV (e2 gIsN (eV 3) (eC .non))) (tV (e2 gIsN (eV 4) (eC .non)))) (sRt (eC (.bl false))) sNx)
    (sPs (sIf (tO (tV (e2 gNe (eCall 2 m_parts (esC (eV 0) (esC (eCall 2 m__law_product (esC (eV 1) (esC (eV 2) esN))) esN))) (e2 gAdd (eV 3) (eV 4)))) (tV (e2 gNe (eCall 2 m_parts (esC (eV 0) (esC (eL gTupD (esC (e1 gNeg (e2 gIx (eV 1) (eC (.int 0)))) (esC (e2 gIx (eV 1) (eC (.int 1))) esN))) esN))) (eV 3)))) (sRt (eC (.bl false))) sNx)
    (sPs (sFo (iOf itT (eL gTupD (esC (eCall 2 m__law_sum (esC (eV 1) (esC (eV 2) esN))) (esC (eCall 2 m__law_apart (esC (eV 1) (esC (eV 2) esN))) esN)))) (gN 5) bothB)
    (sRt (eC (.bl true))))))) := rfl
theorem two_ok {p : Int} (Q : Pq p) {x y : Int × Int} {m k : Int} (hx : Fb 100 x) (hy : Fb 100 y) (h : Vf p x m) (l : Vf p y k) (ah : AH) : ∃ ex, m__law_two_right [.int p, fr x, fr y] ah = .ok (.bl true) (ah ++ ex) := by
  obtain ⟨t1, E1⟩ := h.parts Q.P (hx.mono (by decide)) ah
  obtain ⟨t2, E2⟩ := l.parts Q.P (hy.mono (by decide)) (ah ++ t1)
  have pr := lprod_ok (hx.mono (by decide)) (hy.mono (by decide)) (ah ++ t1 ++ t2)
  obtain ⟨t3, E3⟩ := (h.ti Q.P l).parts Q.P (Fb.nf ((hx.n.mul hy.n).mono (by decide)) ((hx.d.mul hy.d).mono (by decide)) (mul_ne hx.z hy.z)) (ah ++ t1 ++ t2)
  have hneg : Vf p (-x.1, x.2) m := by
    obtain ⟨v, w, a, b, e⟩ := h
    exact ⟨v, w, a.neg Q.P, b, e⟩
  obtain ⟨t4, E4⟩ := hneg.parts Q.P ⟨hx.n.neg.mono (by decide), hx.d.mono (by decide), hx.z⟩ (ah ++ t1 ++ t2 ++ t3)
  have E4' : m_parts [.int p, .tup [.int (-x.1), .int x.2]] (ah ++ t1 ++ t2 ++ t3) = .ok (.int m) (ah ++ t1 ++ t2 ++ t3 ++ t4) := E4
  have su := lsum_ok (hx.mono (by decide)) (hy.mono (by decide)) (ah ++ t1 ++ t2 ++ t3 ++ t4)
  have ap := lapart_ok (hx.mono (by decide)) (hy.mono (by decide)) (ah ++ t1 ++ t2 ++ t3 ++ t4)
  have s2' : decide (2 ≤ sizeLine) = true := decide_eq_true (by rw [sl]; omega)
  have bD : B 400 (x.2 * y.2) := (hx.d.mul hy.d).mono (by decide)
  have v1 := sum_v Q.P h l (x.1 * y.2 + y.1 * x.2) rfl
  have lneg : Vf p (-y.1, y.2) k := by
    obtain ⟨v, w, a, b, e⟩ := l
    exact ⟨v, w, a.neg Q.P, b, e⟩
  have v2 := sum_v Q.P h lneg (x.1 * y.2 - y.1 * x.2) (by show _ = x.1 * y.2 + -y.1 * x.2; rw [Int.neg_mul]; omega)
  obtain ⟨t5, w5, E5⟩ := both_ok Q (mul_ne hx.z hy.z) (((hx.n.mul hy.d).add (hy.n.mul hx.d)).mono (by decide)) bD v1.1 v1.2 (some (fr x)) (some (fr y)) none (ah ++ t1 ++ t2 ++ t3 ++ t4)
  obtain ⟨t6, w6, E6⟩ := both_ok Q (mul_ne hx.z hy.z) (((hx.n.mul hy.d).sub (hy.n.mul hx.d)).mono (by decide)) bD v2.1 v2.2 (some (fr x)) (some (fr y)) w5 (ah ++ t1 ++ t2 ++ t3 ++ t4 ++ t5)
  refine ⟨t1 ++ t2 ++ t3 ++ t4 ++ t5 ++ t6, ?_⟩
  have S1 : sPar2 3 4 (esC (eCall 2 m_parts (esC (eV 0) (esC (eV 1) esN))) (esC (eCall 2 m_parts (esC (eV 0) (esC (eV 2) esN))) esN)) [some (.int p), some (fr x), some (fr y), none, none, none, none] ah = .ok (.nx, [some (.int p), some (fr x), some (fr y), some (.int m), some (.int k), none, none]) (ah ++ t1 ++ t2) := by
    simp only [def0, sPs, sSet, sIf, sRt, sNx, sEx, sRtN, sPar2, sPar3, tV, tA, tO, tN, Mi.e2, Mi.e1, eL, eI, eA, eO, eCall, esC, esN, eC, M.andThen, eV, M.lift, M.ret, M.when, gI, gCmp, gLt, gLe, gGt, gGe, Mi.gSub, gMul, gAdd, gFdiv, gMod, gNeg, gNot, gGcd, gTupD, gLstD, gInt, gAbs, List.map_cons, List.map_nil, List.cons_append, List.nil_append, List.length_cons, List.length_nil, List.replicate, List.set_cons_zero, List.set_cons_succ, List.getElem?_cons_zero, List.getElem?_cons_succ, Option.join_some, if_true, Bool.false_eq_true, if_false, Nat.zero_add, decide_true, Nat.reduceAdd, Nat.reduceSub, E1, E2]
  have S2 : sIf (tO (tV (e2 gIsN (eV 3) (eC .non))) (tV (e2 gIsN (eV 4) (eC .non)))) (sRt (eC (.bl false))) sNx [some (.int p), some (fr x), some (fr y), some (.int m), some (.int k), none, none] (ah ++ t1 ++ t2) = .ok (.nx, [some (.int p), some (fr x), some (fr y), some (.int m), some (.int k), none, none]) (ah ++ t1 ++ t2) := by
    simp only [def0, sPs, sSet, sIf, sRt, sNx, sEx, sRtN, sPar2, sPar3, tV, tA, tO, tN, Mi.e2, Mi.e1, eL, eI, eA, eO, eCall, esC, esN, eC, M.andThen, eV, M.lift, M.ret, M.when, gI, gCmp, gLt, gLe, gGt, gGe, Mi.gSub, gMul, gAdd, gFdiv, gMod, gNeg, gNot, gGcd, gTupD, gLstD, gInt, gAbs, List.map_cons, List.map_nil, List.cons_append, List.nil_append, List.length_cons, List.length_nil, List.replicate, List.set_cons_zero, List.set_cons_succ, List.getElem?_cons_zero, List.getElem?_cons_succ, Option.join_some, if_true, Bool.false_eq_true, if_false, Nat.zero_add, decide_true, Nat.reduceAdd, Nat.reduceSub, isn_int]
  have S3 : sIf (tO (tV (e2 gNe (eCall 2 m_parts (esC (eV 0) (esC (eCall 2 m__law_product (esC (eV 1) (esC (eV 2) esN))) esN))) (e2 gAdd (eV 3) (eV 4)))) (tV (e2 gNe (eCall 2 m_parts (esC (eV 0) (esC (eL gTupD (esC (e1 gNeg (e2 gIx (eV 1) (eC (.int 0)))) (esC (e2 gIx (eV 1) (eC (.int 1))) esN))) esN))) (eV 3)))) (sRt (eC (.bl false))) sNx [some (.int p), some (fr x), some (fr y), some (.int m), some (.int k), none, none] (ah ++ t1 ++ t2) = .ok (.nx, [some (.int p), some (fr x), some (fr y), some (.int m), some (.int k), none, none]) (ah ++ t1 ++ t2 ++ t3 ++ t4) := by
    simp only [def0, sPs, sSet, sIf, sRt, sNx, sEx, sRtN, sPar2, sPar3, tV, tA, tO, tN, Mi.e2, Mi.e1, eL, eI, eA, eO, eCall, esC, esN, eC, M.andThen, eV, M.lift, M.ret, M.when, gI, gCmp, gLt, gLe, gGt, gGe, Mi.gSub, gMul, gAdd, gFdiv, gMod, gNeg, gNot, gGcd, gTupD, gLstD, gInt, gAbs, List.map_cons, List.map_nil, List.cons_append, List.nil_append, List.length_cons, List.length_nil, List.replicate, List.set_cons_zero, List.set_cons_succ, List.getElem?_cons_zero, List.getElem?_cons_succ, Option.join_some, if_true, Bool.false_eq_true, if_false, Nat.zero_add, decide_true, Nat.reduceAdd, Nat.reduceSub, pr, E3, E4', ne_int, ix0, ix1, s2', Bool.not_true]
  have it : iOf itT (eL gTupD (esC (eCall 2 m__law_sum (esC (eV 1) (esC (eV 2) esN))) (esC (eCall 2 m__law_apart (esC (eV 1) (esC (eV 2) esN))) esN))) [some (.int p), some (fr x), some (fr y), some (.int m), some (.int k), none, none] (ah ++ t1 ++ t2 ++ t3 ++ t4) = .ok [fr (pl x y), fr (mi x y)] (ah ++ t1 ++ t2 ++ t3 ++ t4) := by
    simp only [def0, sPs, sSet, sIf, sRt, sNx, sEx, sRtN, sPar2, sPar3, tV, tA, tO, tN, Mi.e2, Mi.e1, eL, eI, eA, eO, eCall, esC, esN, eC, M.andThen, eV, M.lift, M.ret, M.when, gI, gCmp, gLt, gLe, gGt, gGe, Mi.gSub, gMul, gAdd, gFdiv, gMod, gNeg, gNot, gGcd, gTupD, gLstD, gInt, gAbs, List.map_cons, List.map_nil, List.cons_append, List.nil_append, List.length_cons, List.length_nil, List.replicate, List.set_cons_zero, List.set_cons_succ, List.getElem?_cons_zero, List.getElem?_cons_succ, Option.join_some, if_true, Bool.false_eq_true, if_false, Nat.zero_add, decide_true, Nat.reduceAdd, Nat.reduceSub, iOf, itT, su, ap, s2']
  have L : fo (gN 5) bothB [fr (pl x y), fr (mi x y)] [some (.int p), some (fr x), some (fr y), some (.int m), some (.int k), none, none] (ah ++ t1 ++ t2 ++ t3 ++ t4) = .ok (.nx, [some (.int p), some (fr x), some (fr y), some (.int m), some (.int k), some (fr (mi x y)), w6]) (ah ++ t1 ++ t2 ++ t3 ++ t4 ++ t5 ++ t6) := by
    rw [fo_go (env1 := [some (.int p), some (fr x), some (fr y), some (.int m), some (.int k), some (fr (pl x y)), none]) (ah1 := ah ++ t1 ++ t2 ++ t3 ++ t4) rfl E5]
    rw [fo_go (env1 := [some (.int p), some (fr x), some (fr y), some (.int m), some (.int k), some (fr (mi x y)), w5]) (ah1 := ah ++ t1 ++ t2 ++ t3 ++ t4 ++ t5) rfl E6]
    rfl
  have F : b__law_two_right [some (.int p), some (fr x), some (fr y), none, none, none, none] ah = .ok (.rt (.bl true), [some (.int p), some (fr x), some (fr y), some (.int m), some (.int k), some (fr (mi x y)), w6]) (ah ++ t1 ++ t2 ++ t3 ++ t4 ++ t5 ++ t6) := by
    rw [two_b, sPs_nx S1, sPs_nx S2, sPs_nx S3, sPs_nx ((sFo_at it).trans L)]
    rfl
  rw [show ah ++ (t1 ++ t2 ++ t3 ++ t4 ++ t5 ++ t6) = ah ++ t1 ++ t2 ++ t3 ++ t4 ++ t5 ++ t6 by simp only [List.append_assoc]]
  exact def0_rt F
/-! ## what is drawn -/
theorem q_of {p : Nat} (h2 : 2 ≤ p) (h3 : p < 128) (h : ∀ d, d ≤ p → d ∣ p → d = 1 ∨ d = p) (h4 : ∀ a, a < p → a ≠ 0 → ∃ r, r < p ∧ a * r % p = 1) : Pq (p : Int) := ⟨pr_of h2 h, (by unfold B; omega), inv_of h2 h4⟩
theorem q2 : Pq 2 := q_of (p := 2) (by decide) (by decide) (by decide +kernel) (by decide +kernel)
theorem q3 : Pq 3 := q_of (p := 3) (by decide) (by decide) (by decide +kernel) (by decide +kernel)
theorem q5 : Pq 5 := q_of (p := 5) (by decide) (by decide) (by decide +kernel) (by decide +kernel)
theorem q7 : Pq 7 := q_of (p := 7) (by decide) (by decide) (by decide +kernel) (by decide +kernel)
theorem q11 : Pq 11 := q_of (p := 11) (by decide) (by decide) (by decide +kernel) (by decide +kernel)
theorem q53 : Pq 53 := q_of (p := 53) (by decide) (by decide) (by decide +kernel) (by decide +kernel)
theorem q97 : Pq 97 := q_of (p := 97) (by decide) (by decide) (by decide +kernel) (by decide +kernel)
end Law
set_option Elab.async false
set_option linter.all false
set_option maxRecDepth 100000
set_option maxHeartbeats 400000
set_option exponentiation.threshold 30000
namespace Law
open PySem PySem.Spec PyProof.Rows L2 Mi
theorem atI_get {xs : List D} {k : Int} (h0 : 0 ≤ k) (h1 : k < xs.length) : ∃ x, x ∈ xs ∧ L2.atI xs k = some x := by
  obtain ⟨j, rfl⟩ := Int.eq_ofNat_of_zero_le h0
  have hk : j < xs.length := by omega
  exact ⟨xs[j], List.getElem_mem hk, L2.atI_nat (List.getElem?_eq_getElem hk)⟩
theorem s1 : decide (1 ≤ sizeLine) = true := decide_eq_true (by rw [sl]; omega)
theorem s2 : decide (2 ≤ sizeLine) = true := decide_eq_true (by rw [sl]; omega)
theorem s3 : decide (3 ≤ sizeLine) = true := decide_eq_true (by rw [sl]; omega)
theorem s4 : decide (4 ≤ sizeLine) = true := decide_eq_true (by rw [sl]; omega)
theorem s5 : decide (5 ≤ sizeLine) = true := decide_eq_true (by rw [sl]; omega)
theorem s6 : decide (6 ≤ sizeLine) = true := decide_eq_true (by rw [sl]; omega)
theorem s12 : decide (12 ≤ sizeLine) = true := decide_eq_true (by rw [sl]; omega)

variable {q : Q} (hq : q.ok) (rest : AH)
theorem ix_at {xs : List D} {k : Int} {d : D} (h : L2.atI xs k = some d) (ah : AH) : gIx (.lst xs) (.int k) ah = .ok d ah := by
  simp only [gIx, h, M.lift]
include hq
theorem prime_ok : ∃ p q', Pq p ∧ q'.ok ∧ m__law_draw_prime [.ref 0] (SRC q rest) = .ok (.int p) (SRC q' rest) := by
  obtain ⟨k, q1, o1, a, b, e⟩ := pick (most := 5) (by decide) (by decide) q hq rest
  have l : ∃ p, Pq p ∧ L2.atI [D.int 2, .int 3, .int 2, .int 5, .int 7] k = some (.int p) := by
    have : k = 0 ∨ k = 1 ∨ k = 2 ∨ k = 3 ∨ k = 4 := by omega
    rcases this with rfl | rfl | rfl | rfl | rfl
    · exact ⟨2, q2, rfl⟩
    · exact ⟨3, q3, rfl⟩
    · exact ⟨2, q2, rfl⟩
    · exact ⟨5, q5, rfl⟩
    · exact ⟨7, q7, rfl⟩
  obtain ⟨p, P, g⟩ := l
  have g' := ix_at g (SRC q1 rest)
  refine ⟨p, q1, P, o1, ?_⟩
  unfold m__law_draw_prime b__law_draw_prime
  simp only [def0, sPs, sSet, sIf, sRt, sNx, sEx, sRtN, sPar2, sPar3, tV, tA, tO, tN, Mi.e2, Mi.e1, eL, eI, eA, eO, eCall, esC, esN, eC, M.andThen, eV, M.lift, M.ret, M.when, gI, gCmp, gLt, gLe, gGt, gGe, Mi.gSub, gMul, gAdd, gFdiv, gMod, gNeg, gNot, gGcd, gTupD, gLstD, gInt, gAbs, List.map_cons, List.map_nil, List.cons_append, List.nil_append, List.length_cons, List.length_nil, List.replicate, List.set_cons_zero, List.set_cons_succ, List.getElem?_cons_zero, List.getElem?_cons_succ, Option.join_some, if_true, Bool.false_eq_true, if_false, Nat.zero_add, decide_true, Nat.reduceAdd, Nat.reduceSub, s5, e, g']
theorem p_ok (w0 w2 w3 w4 w5 w6 w7 w8 w9 w10 w11 : Option D) : ∃ p q', Pq p ∧ q'.ok ∧ sSet 3 (e2 gIx (eL gLstD (esC (eCall 1 m__law_draw_prime (esC (eV 1) esN)) (esC (eC (.int 11)) (esC (eC (.int 97)) (esC (eC (.int 53)) esN))))) (e2 gIx (eL gLstD (esC (eC (.int 0)) (esC (eC (.int 0)) (esC (eC (.int 0)) (esC (eC (.int 1)) (esC (eC (.int 2)) (esC (eC (.int 3)) esN))))))) (eCall 2 m__law_pick (esC (eV 1) (esC (eC (.int 6)) esN))))) [w0, some (.ref 0), w2, w3, w4, w5, w6, w7, w8, w9, w10, w11] (SRC q rest) =
    .ok (.nx, [w0, some (.ref 0), w2, some (.int p), w4, w5, w6, w7, w8, w9, w10, w11]) (SRC q' rest) := by
  obtain ⟨p0, q1, P0, o1, e1⟩ := prime_ok hq rest
  obtain ⟨k, q2', o2, a, b, e2'⟩ := pick (most := 6) (by decide) (by decide) q1 o1 rest
  have l : ∃ i p, Pq p ∧ L2.atI [D.int 0, .int 0, .int 0, .int 1, .int 2, .int 3] k = some (.int i) ∧ L2.atI [D.int p0, .int 11, .int 97, .int 53] i = some (.int p) := by
    have : k = 0 ∨ k = 1 ∨ k = 2 ∨ k = 3 ∨ k = 4 ∨ k = 5 := by omega
    rcases this with rfl | rfl | rfl | rfl | rfl | rfl
    · exact ⟨0, p0, P0, rfl, rfl⟩
    · exact ⟨0, p0, P0, rfl, rfl⟩
    · exact ⟨0, p0, P0, rfl, rfl⟩
    · exact ⟨1, 11, q11, rfl, rfl⟩
    · exact ⟨2, 97, q97, rfl, rfl⟩
    · exact ⟨3, 53, q53, rfl, rfl⟩
  obtain ⟨i, p, P, g1, g2⟩ := l
  have g1' := ix_at g1 (SRC q2' rest)
  have g2' := ix_at g2 (SRC q2' rest)
  refine ⟨p, q2', P, o2, ?_⟩
  simp only [def0, sPs, sSet, sIf, sRt, sNx, sEx, sRtN, sPar2, sPar3, tV, tA, tO, tN, Mi.e2, Mi.e1, eL, eI, eA, eO, eCall, esC, esN, eC, M.andThen, eV, M.lift, M.ret, M.when, gI, gCmp, gLt, gLe, gGt, gGe, Mi.gSub, gMul, gAdd, gFdiv, gMod, gNeg, gNot, gGcd, gTupD, gLstD, gInt, gAbs, List.map_cons, List.map_nil, List.cons_append, List.nil_append, List.length_cons, List.length_nil, List.replicate, List.set_cons_zero, List.set_cons_succ, List.getElem?_cons_zero, List.getElem?_cons_succ, Option.join_some, if_true, Bool.false_eq_true, if_false, Nat.zero_add, decide_true, Nat.reduceAdd, Nat.reduceSub, s4, s6, e1, e2', g1', g2']
omit hq in
/-- a drawn fraction -/
structure Dr (p : Int) (x : Int × Int) : Prop where
  b : Fb 50 x
  low : ∃ v, Vl p x.2 v ∧ v < 12
omit hq in
theorem dr_of {p : Int} (Q : Pq p) {n l : Int} {i j : Nat} (hn : B 8 n) (hl : 1 ≤ l) (hl2 : l ≤ 101) (hi : i ≤ 5) (hj : j ≤ 4) : Dr p (nf (n * p ^ j) (l * p ^ i)) := by
  have bl : B 7 l := B.of (by omega) (by omega)
  have z := mul_ne (show l ≠ 0 by omega) (Q.P.pw i)
  refine ⟨Fb.nf ((hn.mul (powB Q.b j)).mono (by omega)) ((bl.mul (powB Q.b i)).mono (by omega)) z, ?_⟩
  obtain ⟨hN, k, k0, e1, e2⟩ := nf_spec (n * p ^ j) (l * p ^ i) z
  obtain ⟨v, hv⟩ := Vl.ex Q.P (show (nf (n * p ^ j) (l * p ^ i)).2 ≠ 0 by have := hN.pos; omega)
  refine ⟨v, hv, ?_⟩
  obtain ⟨a, ha⟩ := Vl.ex Q.P k0
  have h1 := ha.mul Q.P hv
  rw [← e2] at h1
  obtain ⟨b, hb⟩ := Vl.ex Q.P (show l ≠ 0 by omega)
  have h2 := (hb.mul Q.P (Vl.pw Q.P i)).uniq Q.P h1
  have h3 := vl_small Q.P hb bl
  omega
theorem draw_ok {p : Int} (Q : Pq p) : ∃ x q', q'.ok ∧ Dr p x ∧ m__law_draw_any [.ref 0, .int p] (SRC q rest) = .ok (fr x) (SRC q' rest) := by
  obtain ⟨n0, q1, o1, a1, b1, f1⟩ := pick (most := 401) (by decide) (by decide) q hq rest
  obtain ⟨k2, q2', o2, a2, b2, f2⟩ := pick (most := 12) (by decide) (by decide) q1 o1 rest
  obtain ⟨k3, q3', o3, a3, b3, f3⟩ := pick (most := 5) (by decide) (by decide) q2' o2 rest
  obtain ⟨k4, q4', o4, a4, b4, f4⟩ := pick (most := 4) (by decide) (by decide) q3' o3 rest
  have l2 : ∃ l : Int, 1 ≤ l ∧ l ≤ 101 ∧ L2.atI [D.int 1, .int 1, .int 2, .int 3, .int 5, .int 7, .int 9, .int 11, .int 13, .int 6, .int 4, .int 101] k2 = some (.int l) := by
    have : k2 = 0 ∨ k2 = 1 ∨ k2 = 2 ∨ k2 = 3 ∨ k2 = 4 ∨ k2 = 5 ∨ k2 = 6 ∨ k2 = 7 ∨ k2 = 8 ∨ k2 = 9 ∨ k2 = 10 ∨ k2 = 11 := by omega
    rcases this with rfl | rfl | rfl | rfl | rfl | rfl | rfl | rfl | rfl | rfl | rfl | rfl <;> exact ⟨_, by decide, by decide, rfl⟩
  obtain ⟨l, l0, l1, g2⟩ := l2
  have g2' := ix_at g2 (SRC q2' rest)
  have hp7 : p.natAbs < 2 ^ 7 := Q.b
  have mp : ∀ i, okMul i p = true := fun i => okMul_r (by omega) (by omega)
  have l3 : ∀ ms : Nat, ms ≤ 5 → ∃ i : Nat, i ≤ 5 ∧ L2.atI [D.int 1, .int 1, .int p, .int (p * p), .int (p ^ ms)] k3 = some (.int (p ^ i)) := by
    intro ms hms
    have : k3 = 0 ∨ k3 = 1 ∨ k3 = 2 ∨ k3 = 3 ∨ k3 = 4 := by omega
    rcases this with rfl | rfl | rfl | rfl | rfl
    · exact ⟨0, by decide, by rw [Int.pow_zero]; rfl⟩
    · exact ⟨0, by decide, by rw [Int.pow_zero]; rfl⟩
    · exact ⟨1, by decide, by rw [Int.pow_one]; rfl⟩
    · exact ⟨2, by decide, by rw [Int.pow_succ, Int.pow_one]; rfl⟩
    · exact ⟨ms, hms, rfl⟩
  have l4 : ∀ ms : Nat, ms ≤ 4 → ∃ i : Nat, i ≤ 4 ∧ L2.atI [D.int 1, .int 1, .int p, .int (p ^ ms)] k4 = some (.int (p ^ i)) := by
    intro ms hms
    have : k4 = 0 ∨ k4 = 1 ∨ k4 = 2 ∨ k4 = 3 := by omega
    rcases this with rfl | rfl | rfl | rfl
    · exact ⟨0, by decide, by rw [Int.pow_zero]; rfl⟩
    · exact ⟨0, by decide, by rw [Int.pow_zero]; rfl⟩
    · exact ⟨1, by decide, by rw [Int.pow_one]; rfl⟩
    · exact ⟨ms, hms, rfl⟩
  have bn : B 8 (n0 - 200) := B.of (by omega) (by omega)
  have bl : B 7 l := B.of (by omega) (by omega)
  by_cases hc : p < 12
  · have c0 : decide (p < 12) = true := decide_eq_true hc
    obtain ⟨i, hi, g3⟩ := l3 5 (by decide)
    obtain ⟨j, hj, g4⟩ := l4 4 (by decide)
    have g3' := ix_at g3 (SRC q3' rest)
    have g4' := ix_at g4 (SRC q4' rest)
    have r1 : ∀ ah, m__law_raised [.int p, .int 5] ah = .ok (.int (p ^ 5)) ah := fun ah => raised_ok Q.b 5 (by decide) ah
    have r2 : ∀ ah, m__law_raised [.int p, .int (5 - 1)] ah = .ok (.int (p ^ 4)) ah := fun ah => raised_ok Q.b 4 (by decide) ah
    have m1 : okMul (n0 - 200) (p ^ j) = true := okMul_B bn (powB Q.b j) (by decide) (by omega) (by omega)
    have m2 : okMul l (p ^ i) = true := okMul_B bl (powB Q.b i) (by decide) (by omega) (by omega)
    have f := lfrac (n := (n0 - 200) * p ^ j) (d := l * p ^ i) ((bl.mul (powB Q.b i)).mono (by omega)) (mul_ne (show l ≠ 0 by omega) (Q.P.pw i)) (SRC q4' rest)
    refine ⟨_, q4', o4, dr_of Q bn l0 l1 hi hj, ?_⟩
    unfold m__law_draw_any b__law_draw_any
    simp only [def0, sPs, sSet, sIf, sRt, sNx, sEx, sRtN, sPar2, sPar3, tV, tA, tO, tN, Mi.e2, Mi.e1, eL, eI, eA, eO, eCall, esC, esN, eC, M.andThen, eV, M.lift, M.ret, M.when, gI, gCmp, gLt, gLe, gGt, gGe, Mi.gSub, gMul, gAdd, gFdiv, gMod, gNeg, gNot, gGcd, gTupD, gLstD, gInt, gAbs, List.map_cons, List.map_nil, List.cons_append, List.nil_append, List.length_cons, List.length_nil, List.replicate, List.set_cons_zero, List.set_cons_succ, List.getElem?_cons_zero, List.getElem?_cons_succ, Option.join_some, if_true, Bool.false_eq_true, if_false, Nat.zero_add, decide_true, Nat.reduceAdd, Nat.reduceSub, f1, f2, f3, f4, s12, s5, s4, g2', g3', g4', c0, r1, r2, mp, m1, m2, f]
  · have c0 : decide (p < 12) = false := decide_eq_false hc
    obtain ⟨i, hi, g3⟩ := l3 3 (by decide)
    obtain ⟨j, hj, g4⟩ := l4 2 (by decide)
    have g3' := ix_at g3 (SRC q3' rest)
    have g4' := ix_at g4 (SRC q4' rest)
    have r1 : ∀ ah, m__law_raised [.int p, .int 3] ah = .ok (.int (p ^ 3)) ah := fun ah => raised_ok Q.b 3 (by decide) ah
    have r2 : ∀ ah, m__law_raised [.int p, .int (3 - 1)] ah = .ok (.int (p ^ 2)) ah := fun ah => raised_ok Q.b 2 (by decide) ah
    have m1 : okMul (n0 - 200) (p ^ j) = true := okMul_B bn (powB Q.b j) (by decide) (by omega) (by omega)
    have m2 : okMul l (p ^ i) = true := okMul_B bl (powB Q.b i) (by decide) (by omega) (by omega)
    have f := lfrac (n := (n0 - 200) * p ^ j) (d := l * p ^ i) ((bl.mul (powB Q.b i)).mono (by omega)) (mul_ne (show l ≠ 0 by omega) (Q.P.pw i)) (SRC q4' rest)
    refine ⟨_, q4', o4, dr_of Q bn l0 l1 hi hj, ?_⟩
    unfold m__law_draw_any b__law_draw_any
    simp only [def0, sPs, sSet, sIf, sRt, sNx, sEx, sRtN, sPar2, sPar3, tV, tA, tO, tN, Mi.e2, Mi.e1, eL, eI, eA, eO, eCall, esC, esN, eC, M.andThen, eV, M.lift, M.ret, M.when, gI, gCmp, gLt, gLe, gGt, gGe, Mi.gSub, gMul, gAdd, gFdiv, gMod, gNeg, gNot, gGcd, gTupD, gLstD, gInt, gAbs, List.map_cons, List.map_nil, List.cons_append, List.nil_append, List.length_cons, List.length_nil, List.replicate, List.set_cons_zero, List.set_cons_succ, List.getElem?_cons_zero, List.getElem?_cons_succ, Option.join_some, if_true, Bool.false_eq_true, if_false, Nat.zero_add, decide_true, Nat.reduceAdd, Nat.reduceSub, f1, f2, f3, f4, s12, s5, s4, g2', g3', g4', c0, r1, r2, mp, m1, m2, f]
omit hq in
theorem power_of_ok {p : Int} (Q : Pq p) (i : Int) (h1 : -9 ≤ i) (h2 : i ≤ 9) (ah : AH) : ∃ y, Fb 100 y ∧ Vf p y i ∧ m__law_power [.int p, .int i] ah = .ok (fr y) ah := by
  have one : B 2 (1 : Int) := B.of (by decide) (by decide)
  by_cases h : 0 ≤ i
  · have c : decide (0 ≤ i) = true := decide_eq_true h
    have okr : okRng i = true := by
      unfold okRng
      rw [decide_eq_true (by omega : (-(2 ^ 62) : Int) ≤ i), decide_eq_true (by omega : i < 2 ^ 62)]
      rfl
    have r := raised_at Q.b i i.toNat rfl okr ah
    refine ⟨(p ^ i.toNat, 1), ⟨(powB Q.b _).mono (by omega), one.mono (by decide), (by decide : (1 : Int) ≠ 0)⟩, ⟨i.toNat, 0, Vl.pw Q.P _, Vl.one Q.P, by omega⟩, ?_⟩
    unfold m__law_power b__law_power
    simp only [def0, sPs, sSet, sIf, sRt, sNx, sEx, sRtN, sPar2, sPar3, tV, tA, tO, tN, Mi.e2, Mi.e1, eL, eI, eA, eO, eCall, esC, esN, eC, M.andThen, eV, M.lift, M.ret, M.when, gI, gCmp, gLt, gLe, gGt, gGe, Mi.gSub, gMul, gAdd, gFdiv, gMod, gNeg, gNot, gGcd, gTupD, gLstD, gInt, gAbs, List.map_cons, List.map_nil, List.cons_append, List.nil_append, List.length_cons, List.length_nil, List.replicate, List.set_cons_zero, List.set_cons_succ, List.getElem?_cons_zero, List.getElem?_cons_succ, Option.join_some, if_true, Bool.false_eq_true, if_false, Nat.zero_add, decide_true, Nat.reduceAdd, Nat.reduceSub, c, r, s2]
    rfl
  · have c : decide (0 ≤ i) = false := decide_eq_false h
    have okr : okRng (0 - i) = true := by
      unfold okRng
      rw [decide_eq_true (by omega : (-(2 ^ 62) : Int) ≤ 0 - i), decide_eq_true (by omega : 0 - i < 2 ^ 62)]
      rfl
    have r := raised_at Q.b (0 - i) (0 - i).toNat rfl okr ah
    refine ⟨(1, p ^ (0 - i).toNat), ⟨one.mono (by decide), (powB Q.b _).mono (by omega), Q.P.pw _⟩, ⟨0, (0 - i).toNat, Vl.one Q.P, Vl.pw Q.P _, by omega⟩, ?_⟩
    unfold m__law_power b__law_power
    simp only [def0, sPs, sSet, sIf, sRt, sNx, sEx, sRtN, sPar2, sPar3, tV, tA, tO, tN, Mi.e2, Mi.e1, eL, eI, eA, eO, eCall, esC, esN, eC, M.andThen, eV, M.lift, M.ret, M.when, gI, gCmp, gLt, gLe, gGt, gGe, Mi.gSub, gMul, gAdd, gFdiv, gMod, gNeg, gNot, gGcd, gTupD, gLstD, gInt, gAbs, List.map_cons, List.map_nil, List.cons_append, List.nil_append, List.length_cons, List.length_nil, List.replicate, List.set_cons_zero, List.set_cons_succ, List.getElem?_cons_zero, List.getElem?_cons_succ, Option.join_some, if_true, Bool.false_eq_true, if_false, Nat.zero_add, decide_true, Nat.reduceAdd, Nat.reduceSub, c, r, s2]
    rfl
end Law
set_option Elab.async false
set_option linter.all false
set_option maxRecDepth 100000
set_option maxHeartbeats 400000
set_option exponentiation.threshold 30000
namespace Law
open PySem PySem.Spec PyProof.Rows L2 Mi
theorem ne_str_self' (x : Str) (ah : AH) : gNe (.str x) (.str x) ah = .ok (.bl false) ah := ne_str_self x ah
theorem src_app (q : Q) (rest ex : AH) : SRC q rest ++ ex = SRC q (rest ++ ex) := rfl
def oneB : MS := (sIf (tV (e2 gNe (eL gRepr (esC (eCall 2 m_parts (esC (eV 3) (esC (eV 6) esN))) esN)) (eL gRepr (esC (eI (tV (e2 gNe (e2 gIx (eV 6) (eC (.int 0))) (eC (.int 0)))) (eCall 2 m__law_parts (esC (eV 3) (esC (eV 6) esN))) (eC .non)) esN)))) (sRt (eC (.bl false))) sNx)
def lowB : MS := (sSet 8 (eI (tV (e2 gEq (e2 gMod (eL gInt (esC (eV 8) esN)) (eV 3)) (eC (.int 0)))) (e2 gFdiv (eV 8) (eV 3)) (eV 8)))
theorem shw_int {m : Int} (h : B 200 m) : Shw (.int m) := ⟨rfl, decide_eq_true h, by show decide (200 ≤ 16000) = true; rfl, rfl⟩
theorem shw_non : Shw .non := ⟨rfl, rfl, rfl, rfl⟩
theorem one_ok {p : Int} (Q : Pq p) {x : Int × Int} (hx : Fb 100 x) (w0 w1 w2 w4 w5 w7 w8 w9 w10 w11 : Option D) (ah : AH) : ∃ ex, oneB [w0, w1, w2, some (.int p), w4, w5, some (fr x), w7, w8, w9, w10, w11] ah = .ok (.nx, [w0, w1, w2, some (.int p), w4, w5, some (fr x), w7, w8, w9, w10, w11]) (ah ++ ex) := by
  by_cases h0 : x.1 = 0
  · have e := parts_no (p := p) h0 ah
    have z : decide (x.1 = 0) = true := decide_eq_true h0
    have s := shw_non.at ah
    refine ⟨[], ?_⟩
    rw [List.append_nil]
    unfold oneB
    simp only [def0, sPs, sSet, sIf, sRt, sNx, sEx, sRtN, sPar2, sPar3, tV, tA, tO, tN, Mi.e2, Mi.e1, eL, eI, eA, eO, eCall, esC, esN, eC, M.andThen, eV, M.lift, M.ret, M.when, gI, gCmp, gLt, gLe, gGt, gGe, Mi.gSub, gMul, gAdd, gFdiv, gMod, gNeg, gNot, gGcd, gTupD, gLstD, gInt, gAbs, List.map_cons, List.map_nil, List.cons_append, List.nil_append, List.length_cons, List.length_nil, List.replicate, List.set_cons_zero, List.set_cons_succ, List.getElem?_cons_zero, List.getElem?_cons_succ, Option.join_some, if_true, Bool.false_eq_true, if_false, Nat.zero_add, decide_true, Nat.reduceAdd, Nat.reduceSub, e, s, ix0, ne_int, z, ne_str_self, Bool.not_true]
  · obtain ⟨m, hm⟩ := Vf.ex Q.P h0 hx.z
    obtain ⟨ex, e⟩ := hm.parts Q.P (hx.mono (by decide)) ah
    have l := hm.lparts Q (hx.mono (by decide)) (ah ++ ex)
    have z : decide (x.1 = 0) = false := decide_eq_false h0
    have bm : B 200 m := by
      obtain ⟨v, w, a, b, e⟩ := hm
      have h1 := vl_small Q.P a hx.n
      have h2 := vl_small Q.P b hx.d
      have : (100 : Nat) < 2 ^ 200 := by decide
      unfold B
      omega
    have s := (shw_int bm).at (ah ++ ex)
    refine ⟨ex, ?_⟩
    unfold oneB
    simp only [def0, sPs, sSet, sIf, sRt, sNx, sEx, sRtN, sPar2, sPar3, tV, tA, tO, tN, Mi.e2, Mi.e1, eL, eI, eA, eO, eCall, esC, esN, eC, M.andThen, eV, M.lift, M.ret, M.when, gI, gCmp, gLt, gLe, gGt, gGe, Mi.gSub, gMul, gAdd, gFdiv, gMod, gNeg, gNot, gGcd, gTupD, gLstD, gInt, gAbs, List.map_cons, List.map_nil, List.cons_append, List.nil_append, List.length_cons, List.length_nil, List.replicate, List.set_cons_zero, List.set_cons_succ, List.getElem?_cons_zero, List.getElem?_cons_succ, Option.join_some, if_true, Bool.false_eq_true, if_false, Nat.zero_add, decide_true, Nat.reduceAdd, Nat.reduceSub, e, l, s, ix0, ne_int, z, ne_str_self, Bool.not_true, Bool.not_false]
theorem low_ok {p : Int} (Q : Pq p) (w0 w1 w2 w4 w5 w6 w7 w10 w11 : Option D) (ah : AH) : ∀ (n : Nat) (lo l : Int) (v : Nat) (w9 : Option D), Vl p l v → v ≤ n → B 50 l → ∃ l' w', ¬ p ∣ l' ∧ l' ≠ 0 ∧ B 50 l' ∧ fo (gN 9) lowB (rng lo n) [w0, w1, w2, some (.int p), w4, w5, w6, w7, some (.int l), w9, w10, w11] ah = .ok (.nx, [w0, w1, w2, some (.int p), w4, w5, w6, w7, some (.int l'), w', w10, w11]) ah := by
  intro n
  induction n with
  | zero =>
    intro lo l v w9 hv hn bl
    refine ⟨l, w9, fun z => ?_, hv.ne Q.P, bl, rfl⟩
    have := (hv.dvd Q.P (k := 1)).mp (by rw [Int.pow_one]; exact z)
    omega
  | succ n ih =>
    intro lo l v w9 hv hn bl
    have two := Q.P.two
    have p0 : decide (p ≠ 0) = true := decide_eq_true Q.P.ne
    have od : okDiv l p = true := okDiv_B Q.b (by decide) (by decide) Q.P.ne
    by_cases hd : p ∣ l
    · obtain ⟨c, hc⟩ := hd
      have z : decide (l.fmod p = 0) = true := decide_eq_true ((fmod_dvd (by omega)).mpr ⟨c, hc⟩)
      have e : l.fdiv p = c := by rw [hc]; exact Int.mul_fdiv_cancel_left _ Q.P.ne
      have hv1 := Vl.down Q.P (k := 1) (n := c) (v := v) (by rw [Int.pow_one, ← hc]; exact hv)
      obtain ⟨l', w', a, b, c', E⟩ := ih (lo + 1) c (v - 1) (some (.int lo)) hv1.2 (by omega) (dvd_B ⟨p, by rw [hc, Int.mul_comm]⟩ (hv.ne Q.P) bl)
      refine ⟨l', w', a, b, c', ?_⟩
      rw [show rng lo (n + 1) = .int lo :: rng (lo + 1) n from rfl, fo_go (env1 := [w0, w1, w2, some (.int p), w4, w5, w6, w7, some (.int l), some (.int lo), w10, w11]) (ah1 := ah) (env2 := [w0, w1, w2, some (.int p), w4, w5, w6, w7, some (.int c), some (.int lo), w10, w11]) (ah2 := ah) rfl (by simp only [lowB, def0, sPs, sSet, sIf, sRt, sNx, sEx, sRtN, sPar2, sPar3, tV, tA, tO, tN, Mi.e2, Mi.e1, eL, eI, eA, eO, eCall, esC, esN, eC, M.andThen, eV, M.lift, M.ret, M.when, gI, gCmp, gLt, gLe, gGt, gGe, Mi.gSub, gMul, gAdd, gFdiv, gMod, gNeg, gNot, gGcd, gTupD, gLstD, gInt, gAbs, List.map_cons, List.map_nil, List.cons_append, List.nil_append, List.length_cons, List.length_nil, List.replicate, List.set_cons_zero, List.set_cons_succ, List.getElem?_cons_zero, List.getElem?_cons_succ, Option.join_some, if_true, Bool.false_eq_true, if_false, Nat.zero_add, decide_true, Nat.reduceAdd, Nat.reduceSub, p0, eq_int, z, od, e])]
      exact E
    · have z : decide (l.fmod p = 0) = false := decide_eq_false fun y => hd ((fmod_dvd (by omega)).mp y)
      have hv0 : v = 0 := hv.uniq Q.P (Vl.zero_iff Q.P hd)
      obtain ⟨l', w', a, b, c', E⟩ := ih (lo + 1) l v (some (.int lo)) hv (by omega) bl
      refine ⟨l', w', a, b, c', ?_⟩
      rw [show rng lo (n + 1) = .int lo :: rng (lo + 1) n from rfl, fo_go (env1 := [w0, w1, w2, some (.int p), w4, w5, w6, w7, some (.int l), some (.int lo), w10, w11]) (ah1 := ah) (env2 := [w0, w1, w2, some (.int p), w4, w5, w6, w7, some (.int l), some (.int lo), w10, w11]) (ah2 := ah) rfl (by simp only [lowB, def0, sPs, sSet, sIf, sRt, sNx, sEx, sRtN, sPar2, sPar3, tV, tA, tO, tN, Mi.e2, Mi.e1, eL, eI, eA, eO, eCall, esC, esN, eC, M.andThen, eV, M.lift, M.ret, M.when, gI, gCmp, gLt, gLe, gGt, gGe, Mi.gSub, gMul, gAdd, gFdiv, gMod, gNeg, gNot, gGcd, gTupD, gLstD, gInt, gAbs, List.map_cons, List.map_nil, List.cons_append, List.nil_append, List.length_cons, List.length_nil, List.replicate, List.set_cons_zero, List.set_cons_succ, List.getElem?_cons_zero, List.getElem?_cons_succ, Option.join_some, if_true, Bool.false_eq_true, if_false, Nat.zero_add, decide_true, Nat.reduceAdd, Nat.reduceSub, p0, eq_int, z])]
      exact E
def bodyL : MS := (sPs (sSet 3 (e2 gIx (eL gLstD (esC (eCall 1 m__law_draw_prime (esC (eV 1) esN)) (esC (eC (.int 11)) (esC (eC (.int 97)) (esC (eC (.int 53)) esN))))) (e2 gIx (eL gLstD (esC (eC (.int 0)) (esC (eC (.int 0)) (esC (eC (.int 0)) (esC (eC (.int 1)) (esC (eC (.int 2)) (esC (eC (.int 3)) esN))))))) (eCall 2 m__law_pick (esC (eV 1) (esC (eC (.int 6)) esN))))))
    (sPs (sPar2 4 5 (esC (eCall 2 m__law_draw_any (esC (eV 1) (esC (eV 3) esN))) (esC (eCall 2 m__law_draw_any (esC (eV 1) (esC (eV 3) esN))) esN)))
    (sPs (sFo (iOf itT (eL gTupD (esC (eV 4) (esC (eV 5) esN)))) (gN 6) oneB)
    (sPs (sIf (tA (tV (e2 gNe (e2 gIx (eV 4) (eC (.int 0))) (eC (.int 0)))) (tA (tV (e2 gNe (e2 gIx (eV 5) (eC (.int 0))) (eC (.int 0)))) (tN (tV (eCall 3 m__law_two_right (esC (eV 3) (esC (eV 4) (esC (eV 5) esN)))))))) (sRt (eC (.bl false))) sNx)
    (sPs (sSet 7 (e2 gIx (eL gLstD (esC (eC (.int 0)) (esC (eC (.int 1)) (esC (eC (.int 2)) (esC (eC (.int 5)) (esC (eC (.int 40)) esN)))))) (eCall 2 m__law_pick (esC (eV 1) (esC (eC (.int 5)) esN)))))
    (sPs (sSet 8 (e2 gIx (eV 4) (eC (.int 1))))
    (sPs (sFo (iOfs itR1 (esC (eC (.int 12)) esN)) (gN 9) lowB)
    (sPs (sIf (tN (tV (eCall 3 m__law_rest_right (esC (eV 3) (esC (eV 7) (esC (eCall 2 m__law_fraction (esC (e2 gIx (eV 4) (eC (.int 0))) (esC (eV 8) esN))) esN)))))) (sRt (eC (.bl false))) sNx)
    (sPs (sSet 10 (eI (tV (e2 gLt (eV 3) (eC (.int 12)))) (e2 gSub (eCall 2 m__law_pick (esC (eV 1) (esC (eC (.int 19)) esN))) (eC (.int 9))) (e2 gSub (eCall 2 m__law_pick (esC (eV 1) (esC (eC (.int 9)) esN))) (eC (.int 4)))))
    (sPs (sSet 11 (eCall 2 m__law_power (esC (eV 3) (esC (eV 10) esN))))
    (sIf (tO (tV (e2 gNe (eCall 2 m_parts (esC (eV 3) (esC (eV 11) esN))) (eV 10))) (tA (tV (e2 gNe (e2 gIx (eV 4) (eC (.int 0))) (eC (.int 0)))) (tV (e2 gNe (eCall 2 m_parts (esC (eV 3) (esC (eCall 2 m__law_product (esC (eV 11) (esC (eV 4) esN))) esN))) (e2 gAdd (eV 10) (eCall 2 m__law_parts (esC (eV 3) (esC (eV 4) esN)))))))) (sRt (eC (.bl false))) sNx)))))))))))
theorem len12 {env : Lc} (h : env.length = 12) : ∃ w0 w1 w2 w3 w4 w5 w6 w7 w8 w9 w10 w11, env = [w0, w1, w2, w3, w4, w5, w6, w7, w8, w9, w10, w11] := by
  match env, h with
  | [w0, w1, w2, w3, w4, w5, w6, w7, w8, w9, w10, w11], _ => exact ⟨w0, w1, w2, w3, w4, w5, w6, w7, w8, w9, w10, w11, rfl⟩
theorem lap_ok {q : Q} (hq : q.ok) (rest : AH) {env : Lc} (hl : env.length = 12) (h1 : env[1]? = some (some (.ref 0))) : ∃ env' q' rest', q'.ok ∧ env'.length = 12 ∧ env'[1]? = some (some (.ref 0)) ∧ bodyL env (SRC q rest) = .ok (.nx, env') (SRC q' rest') := by
  obtain ⟨w0, w1, w2, w3, w4, w5, w6, w7, w8, w9, w10, w11, rfl⟩ := len12 hl
  have h1 : w1 = some (.ref 0) := Option.some.inj h1
  subst h1
  obtain ⟨p, q1, Q, o1, E1⟩ := p_ok hq rest w0 w2 w3 w4 w5 w6 w7 w8 w9 w10 w11
  obtain ⟨x, q2, o2, dx, ex⟩ := draw_ok o1 rest Q
  obtain ⟨y, q3, o3, dy, ey⟩ := draw_ok o2 rest Q
  have fx : Fb 100 x := dx.b.mono (by decide)
  have fy : Fb 100 y := dy.b.mono (by decide)
  have E2 : (sPar2 4 5 (esC (eCall 2 m__law_draw_any (esC (eV 1) (esC (eV 3) esN))) (esC (eCall 2 m__law_draw_any (esC (eV 1) (esC (eV 3) esN))) esN))) [w0, some (.ref 0), w2, some (.int p), w4, w5, w6, w7, w8, w9, w10, w11] (SRC q1 rest) = .ok (.nx, [w0, some (.ref 0), w2, some (.int p), some (fr x), some (fr y), w6, w7, w8, w9, w10, w11]) (SRC q3 rest) := by
    simp only [def0, sPs, sSet, sIf, sRt, sNx, sEx, sRtN, sPar2, sPar3, tV, tA, tO, tN, Mi.e2, Mi.e1, eL, eI, eA, eO, eCall, esC, esN, eC, M.andThen, eV, M.lift, M.ret, M.when, gI, gCmp, gLt, gLe, gGt, gGe, Mi.gSub, gMul, gAdd, gFdiv, gMod, gNeg, gNot, gGcd, gTupD, gLstD, gInt, gAbs, List.map_cons, List.map_nil, List.cons_append, List.nil_append, List.length_cons, List.length_nil, List.replicate, List.set_cons_zero, List.set_cons_succ, List.getElem?_cons_zero, List.getElem?_cons_succ, Option.join_some, if_true, Bool.false_eq_true, if_false, Nat.zero_add, decide_true, Nat.reduceAdd, Nat.reduceSub, ex, ey]
  obtain ⟨x1, A1⟩ := one_ok Q fx w0 (some (.ref 0)) w2 (some (fr x)) (some (fr y)) w7 w8 w9 w10 w11 (SRC q3 rest)
  obtain ⟨x2, A2⟩ := one_ok Q fy w0 (some (.ref 0)) w2 (some (fr x)) (some (fr y)) w7 w8 w9 w10 w11 (SRC q3 rest ++ x1)
  have it : iOf itT (eL gTupD (esC (eV 4) (esC (eV 5) esN))) [w0, some (.ref 0), w2, some (.int p), some (fr x), some (fr y), w6, w7, w8, w9, w10, w11] (SRC q3 rest) = .ok [fr x, fr y] (SRC q3 rest) := by
    simp only [def0, sPs, sSet, sIf, sRt, sNx, sEx, sRtN, sPar2, sPar3, tV, tA, tO, tN, Mi.e2, Mi.e1, eL, eI, eA, eO, eCall, esC, esN, eC, M.andThen, eV, M.lift, M.ret, M.when, gI, gCmp, gLt, gLe, gGt, gGe, Mi.gSub, gMul, gAdd, gFdiv, gMod, gNeg, gNot, gGcd, gTupD, gLstD, gInt, gAbs, List.map_cons, List.map_nil, List.cons_append, List.nil_append, List.length_cons, List.length_nil, List.replicate, List.set_cons_zero, List.set_cons_succ, List.getElem?_cons_zero, List.getElem?_cons_succ, Option.join_some, if_true, Bool.false_eq_true, if_false, Nat.zero_add, decide_true, Nat.reduceAdd, Nat.reduceSub, iOf, itT, s2]
  have E3 : (sFo (iOf itT (eL gTupD (esC (eV 4) (esC (eV 5) esN)))) (gN 6) oneB) [w0, some (.ref 0), w2, some (.int p), some (fr x), some (fr y), w6, w7, w8, w9, w10, w11] (SRC q3 rest) = .ok (.nx, [w0, some (.ref 0), w2, some (.int p), some (fr x), some (fr y), some (fr y), w7, w8, w9, w10, w11]) (SRC q3 (rest ++ x1 ++ x2)) := by
    rw [sFo_at it]
    rw [fo_go (env1 := [w0, some (.ref 0), w2, some (.int p), some (fr x), some (fr y), some (fr x), w7, w8, w9, w10, w11]) (ah1 := SRC q3 rest) rfl A1]
    rw [fo_go (env1 := [w0, some (.ref 0), w2, some (.int p), some (fr x), some (fr y), some (fr y), w7, w8, w9, w10, w11]) (ah1 := SRC q3 rest ++ x1) rfl A2]
    rfl
  have E4 : ∃ x3, (sIf (tA (tV (e2 gNe (e2 gIx (eV 4) (eC (.int 0))) (eC (.int 0)))) (tA (tV (e2 gNe (e2 gIx (eV 5) (eC (.int 0))) (eC (.int 0)))) (tN (tV (eCall 3 m__law_two_right (esC (eV 3) (esC (eV 4) (esC (eV 5) esN)))))))) (sRt (eC (.bl false))) sNx) [w0, some (.ref 0), w2, some (.int p), some (fr x), some (fr y), some (fr y), w7, w8, w9, w10, w11] (SRC q3 (rest ++ x1 ++ x2)) = .ok (.nx, [w0, some (.ref 0), w2, some (.int p), some (fr x), some (fr y), some (fr y), w7, w8, w9, w10, w11]) (SRC q3 (rest ++ x1 ++ x2 ++ x3)) := by
    by_cases c1 : x.1 = 0
    · have z : decide (x.1 = 0) = true := decide_eq_true c1
      refine ⟨[], ?_⟩
      rw [List.append_nil]
      simp only [def0, sPs, sSet, sIf, sRt, sNx, sEx, sRtN, sPar2, sPar3, tV, tA, tO, tN, Mi.e2, Mi.e1, eL, eI, eA, eO, eCall, esC, esN, eC, M.andThen, eV, M.lift, M.ret, M.when, gI, gCmp, gLt, gLe, gGt, gGe, Mi.gSub, gMul, gAdd, gFdiv, gMod, gNeg, gNot, gGcd, gTupD, gLstD, gInt, gAbs, List.map_cons, List.map_nil, List.cons_append, List.nil_append, List.length_cons, List.length_nil, List.replicate, List.set_cons_zero, List.set_cons_succ, List.getElem?_cons_zero, List.getElem?_cons_succ, Option.join_some, if_true, Bool.false_eq_true, if_false, Nat.zero_add, decide_true, Nat.reduceAdd, Nat.reduceSub, ix0, ne_int, z, Bool.not_true]
    · have z : decide (x.1 = 0) = false := decide_eq_false c1
      by_cases c2 : y.1 = 0
      · have z2 : decide (y.1 = 0) = true := decide_eq_true c2
        refine ⟨[], ?_⟩
        rw [List.append_nil]
        simp only [def0, sPs, sSet, sIf, sRt, sNx, sEx, sRtN, sPar2, sPar3, tV, tA, tO, tN, Mi.e2, Mi.e1, eL, eI, eA, eO, eCall, esC, esN, eC, M.andThen, eV, M.lift, M.ret, M.when, gI, gCmp, gLt, gLe, gGt, gGe, Mi.gSub, gMul, gAdd, gFdiv, gMod, gNeg, gNot, gGcd, gTupD, gLstD, gInt, gAbs, List.map_cons, List.map_nil, List.cons_append, List.nil_append, List.length_cons, List.length_nil, List.replicate, List.set_cons_zero, List.set_cons_succ, List.getElem?_cons_zero, List.getElem?_cons_succ, Option.join_some, if_true, Bool.false_eq_true, if_false, Nat.zero_add, decide_true, Nat.reduceAdd, Nat.reduceSub, ix0, ne_int, z, z2, Bool.not_true, Bool.not_false]
      · have z2 : decide (y.1 = 0) = false := decide_eq_false c2
        obtain ⟨m, hm⟩ := Vf.ex Q.P c1 fx.z
        obtain ⟨k, hk⟩ := Vf.ex Q.P c2 fy.z
        obtain ⟨x3, T⟩ := two_ok Q fx fy hm hk (SRC q3 (rest ++ x1 ++ x2))
        refine ⟨x3, ?_⟩
        simp only [def0, sPs, sSet, sIf, sRt, sNx, sEx, sRtN, sPar2, sPar3, tV, tA, tO, tN, Mi.e2, Mi.e1, eL, eI, eA, eO, eCall, esC, esN, eC, M.andThen, eV, M.lift, M.ret, M.when, gI, gCmp, gLt, gLe, gGt, gGe, Mi.gSub, gMul, gAdd, gFdiv, gMod, gNeg, gNot, gGcd, gTupD, gLstD, gInt, gAbs, List.map_cons, List.map_nil, List.cons_append, List.nil_append, List.length_cons, List.length_nil, List.replicate, List.set_cons_zero, List.set_cons_succ, List.getElem?_cons_zero, List.getElem?_cons_succ, Option.join_some, if_true, Bool.false_eq_true, if_false, Nat.zero_add, decide_true, Nat.reduceAdd, Nat.reduceSub, ix0, ne_int, z, z2, T, Bool.not_true, Bool.not_false, src_app]
  obtain ⟨x3, E4⟩ := E4
  generalize rest ++ x1 ++ x2 ++ x3 = r3 at E4
  obtain ⟨kk, q4, o4, a4, b4, e4⟩ := pick (most := 5) (by decide) (by decide) q3 o3 r3
  have lk : ∃ (i : Int) (k : Nat), i = (k : Nat) ∧ k ≤ 40 ∧ L2.atI [D.int 0, .int 1, .int 2, .int 5, .int 40] kk = some (.int i) := by
    have : kk = 0 ∨ kk = 1 ∨ kk = 2 ∨ kk = 3 ∨ kk = 4 := by omega
    rcases this with rfl | rfl | rfl | rfl | rfl
    · exact ⟨0, 0, rfl, by decide, rfl⟩
    · exact ⟨1, 1, rfl, by decide, rfl⟩
    · exact ⟨2, 2, rfl, by decide, rfl⟩
    · exact ⟨5, 5, rfl, by decide, rfl⟩
    · exact ⟨40, 40, rfl, by decide, rfl⟩
  obtain ⟨i, k, hi, hk, gk⟩ := lk
  have gk' := ix_at gk (SRC q4 r3)
  have E5 : (sSet 7 (e2 gIx (eL gLstD (esC (eC (.int 0)) (esC (eC (.int 1)) (esC (eC (.int 2)) (esC (eC (.int 5)) (esC (eC (.int 40)) esN)))))) (eCall 2 m__law_pick (esC (eV 1) (esC (eC (.int 5)) esN))))) [w0, some (.ref 0), w2, some (.int p), some (fr x), some (fr y), some (fr y), w7, w8, w9, w10, w11] (SRC q3 r3) = .ok (.nx, [w0, some (.ref 0), w2, some (.int p), some (fr x), some (fr y), some (fr y), some (.int i), w8, w9, w10, w11]) (SRC q4 r3) := by
    simp only [def0, sPs, sSet, sIf, sRt, sNx, sEx, sRtN, sPar2, sPar3, tV, tA, tO, tN, Mi.e2, Mi.e1, eL, eI, eA, eO, eCall, esC, esN, eC, M.andThen, eV, M.lift, M.ret, M.when, gI, gCmp, gLt, gLe, gGt, gGe, Mi.gSub, gMul, gAdd, gFdiv, gMod, gNeg, gNot, gGcd, gTupD, gLstD, gInt, gAbs, List.map_cons, List.map_nil, List.cons_append, List.nil_append, List.length_cons, List.length_nil, List.replicate, List.set_cons_zero, List.set_cons_succ, List.getElem?_cons_zero, List.getElem?_cons_succ, Option.join_some, if_true, Bool.false_eq_true, if_false, Nat.zero_add, decide_true, Nat.reduceAdd, Nat.reduceSub, s5, e4, gk']
  have E6 : (sSet 8 (e2 gIx (eV 4) (eC (.int 1)))) [w0, some (.ref 0), w2, some (.int p), some (fr x), some (fr y), some (fr y), some (.int i), w8, w9, w10, w11] (SRC q4 r3) = .ok (.nx, [w0, some (.ref 0), w2, some (.int p), some (fr x), some (fr y), some (fr y), some (.int i), some (.int x.2), w9, w10, w11]) (SRC q4 r3) := by
    simp only [def0, sPs, sSet, sIf, sRt, sNx, sEx, sRtN, sPar2, sPar3, tV, tA, tO, tN, Mi.e2, Mi.e1, eL, eI, eA, eO, eCall, esC, esN, eC, M.andThen, eV, M.lift, M.ret, M.when, gI, gCmp, gLt, gLe, gGt, gGe, Mi.gSub, gMul, gAdd, gFdiv, gMod, gNeg, gNot, gGcd, gTupD, gLstD, gInt, gAbs, List.map_cons, List.map_nil, List.cons_append, List.nil_append, List.length_cons, List.length_nil, List.replicate, List.set_cons_zero, List.set_cons_succ, List.getElem?_cons_zero, List.getElem?_cons_succ, Option.join_some, if_true, Bool.false_eq_true, if_false, Nat.zero_add, decide_true, Nat.reduceAdd, Nat.reduceSub, ix1]
  obtain ⟨v, hv, v12⟩ := dx.low
  obtain ⟨l, w9', l1, l2, l3, L⟩ := low_ok Q w0 (some (.ref 0)) w2 (some (fr x)) (some (fr y)) (some (fr y)) (some (.int i)) w10 w11 (SRC q4 r3) 12 0 x.2 v w9 hv (by omega) dx.b.d
  have E7 : (sFo (iOfs itR1 (esC (eC (.int 12)) esN)) (gN 9) lowB) [w0, some (.ref 0), w2, some (.int p), some (fr x), some (fr y), some (fr y), some (.int i), some (.int x.2), w9, w10, w11] (SRC q4 r3) = .ok (.nx, [w0, some (.ref 0), w2, some (.int p), some (fr x), some (fr y), some (fr y), some (.int i), some (.int l), w9', w10, w11]) (SRC q4 r3) := by
    rw [sFo_at (ds := rng 0 12) (ah1 := SRC q4 r3) rfl]
    exact L
  have fl := lfrac (n := x.1) (d := l) (l3.mono (by decide)) l2 (SRC q4 r3)
  have nl : ¬ p ∣ (nf x.1 l).2 := by
    obtain ⟨_, c, c0, e1, e2⟩ := nf_spec x.1 l l2
    intro z
    exact l1 (e2 ▸ Int.dvd_mul_of_dvd_right z)
  have rr := rr_ok Q i k hi hk (x := nf x.1 l) (Fb.nf fx.n (l3.mono (by decide)) l2) nl (SRC q4 r3)
  have E8 : (sIf (tN (tV (eCall 3 m__law_rest_right (esC (eV 3) (esC (eV 7) (esC (eCall 2 m__law_fraction (esC (e2 gIx (eV 4) (eC (.int 0))) (esC (eV 8) esN))) esN)))))) (sRt (eC (.bl false))) sNx) [w0, some (.ref 0), w2, some (.int p), some (fr x), some (fr y), some (fr y), some (.int i), some (.int l), w9', w10, w11] (SRC q4 r3) = .ok (.nx, [w0, some (.ref 0), w2, some (.int p), some (fr x), some (fr y), some (fr y), some (.int i), some (.int l), w9', w10, w11]) (SRC q4 r3) := by
    simp only [def0, sPs, sSet, sIf, sRt, sNx, sEx, sRtN, sPar2, sPar3, tV, tA, tO, tN, Mi.e2, Mi.e1, eL, eI, eA, eO, eCall, esC, esN, eC, M.andThen, eV, M.lift, M.ret, M.when, gI, gCmp, gLt, gLe, gGt, gGe, Mi.gSub, gMul, gAdd, gFdiv, gMod, gNeg, gNot, gGcd, gTupD, gLstD, gInt, gAbs, List.map_cons, List.map_nil, List.cons_append, List.nil_append, List.length_cons, List.length_nil, List.replicate, List.set_cons_zero, List.set_cons_succ, List.getElem?_cons_zero, List.getElem?_cons_succ, Option.join_some, if_true, Bool.false_eq_true, if_false, Nat.zero_add, decide_true, Nat.reduceAdd, Nat.reduceSub, ix0, fl, rr, Bool.not_true]
  have E9 : ∃ n q5, q5.ok ∧ -9 ≤ n ∧ n ≤ 9 ∧ (sSet 10 (eI (tV (e2 gLt (eV 3) (eC (.int 12)))) (e2 gSub (eCall 2 m__law_pick (esC (eV 1) (esC (eC (.int 19)) esN))) (eC (.int 9))) (e2 gSub (eCall 2 m__law_pick (esC (eV 1) (esC (eC (.int 9)) esN))) (eC (.int 4))))) [w0, some (.ref 0), w2, some (.int p), some (fr x), some (fr y), some (fr y), some (.int i), some (.int l), w9', w10, w11] (SRC q4 r3) = .ok (.nx, [w0, some (.ref 0), w2, some (.int p), some (fr x), some (fr y), some (fr y), some (.int i), some (.int l), w9', some (.int n), w11]) (SRC q5 r3) := by
    by_cases c : p < 12
    · have z : decide (p < 12) = true := decide_eq_true c
      obtain ⟨n, q5, o5, a5, b5, e5⟩ := pick (most := 19) (by decide) (by decide) q4 o4 r3
      refine ⟨n - 9, q5, o5, by omega, by omega, ?_⟩
      simp only [def0, sPs, sSet, sIf, sRt, sNx, sEx, sRtN, sPar2, sPar3, tV, tA, tO, tN, Mi.e2, Mi.e1, eL, eI, eA, eO, eCall, esC, esN, eC, M.andThen, eV, M.lift, M.ret, M.when, gI, gCmp, gLt, gLe, gGt, gGe, Mi.gSub, gMul, gAdd, gFdiv, gMod, gNeg, gNot, gGcd, gTupD, gLstD, gInt, gAbs, List.map_cons, List.map_nil, List.cons_append, List.nil_append, List.length_cons, List.length_nil, List.replicate, List.set_cons_zero, List.set_cons_succ, List.getElem?_cons_zero, List.getElem?_cons_succ, Option.join_some, if_true, Bool.false_eq_true, if_false, Nat.zero_add, decide_true, Nat.reduceAdd, Nat.reduceSub, z, e5]
    · have z : decide (p < 12) = false := decide_eq_false c
      obtain ⟨n, q5, o5, a5, b5, e5⟩ := pick (most := 9) (by decide) (by decide) q4 o4 r3
      refine ⟨n - 4, q5, o5, by omega, by omega, ?_⟩
      simp only [def0, sPs, sSet, sIf, sRt, sNx, sEx, sRtN, sPar2, sPar3, tV, tA, tO, tN, Mi.e2, Mi.e1, eL, eI, eA, eO, eCall, esC, esN, eC, M.andThen, eV, M.lift, M.ret, M.when, gI, gCmp, gLt, gLe, gGt, gGe, Mi.gSub, gMul, gAdd, gFdiv, gMod, gNeg, gNot, gGcd, gTupD, gLstD, gInt, gAbs, List.map_cons, List.map_nil, List.cons_append, List.nil_append, List.length_cons, List.length_nil, List.replicate, List.set_cons_zero, List.set_cons_succ, List.getElem?_cons_zero, List.getElem?_cons_succ, Option.join_some, if_true, Bool.false_eq_true, if_false, Nat.zero_add, decide_true, Nat.reduceAdd, Nat.reduceSub, z, e5]
  obtain ⟨n, q5, o5, n1, n2, E9⟩ := E9
  obtain ⟨u, fu, vu, pu⟩ := power_of_ok Q n n1 n2 (SRC q5 r3)
  have E10 : (sSet 11 (eCall 2 m__law_power (esC (eV 3) (esC (eV 10) esN)))) [w0, some (.ref 0), w2, some (.int p), some (fr x), some (fr y), some (fr y), some (.int i), some (.int l), w9', some (.int n), w11] (SRC q5 r3) = .ok (.nx, [w0, some (.ref 0), w2, some (.int p), some (fr x), some (fr y), some (fr y), some (.int i), some (.int l), w9', some (.int n), some (fr u)]) (SRC q5 r3) := by
    simp only [def0, sPs, sSet, sIf, sRt, sNx, sEx, sRtN, sPar2, sPar3, tV, tA, tO, tN, Mi.e2, Mi.e1, eL, eI, eA, eO, eCall, esC, esN, eC, M.andThen, eV, M.lift, M.ret, M.when, gI, gCmp, gLt, gLe, gGt, gGe, Mi.gSub, gMul, gAdd, gFdiv, gMod, gNeg, gNot, gGcd, gTupD, gLstD, gInt, gAbs, List.map_cons, List.map_nil, List.cons_append, List.nil_append, List.length_cons, List.length_nil, List.replicate, List.set_cons_zero, List.set_cons_succ, List.getElem?_cons_zero, List.getElem?_cons_succ, Option.join_some, if_true, Bool.false_eq_true, if_false, Nat.zero_add, decide_true, Nat.reduceAdd, Nat.reduceSub, pu]
  obtain ⟨x4, F1⟩ := vu.parts Q.P (fu.mono (by decide)) (SRC q5 r3)
  have nn : decide (n = n) = true := decide_eq_true rfl
  have E11 : ∃ r5, (sIf (tO (tV (e2 gNe (eCall 2 m_parts (esC (eV 3) (esC (eV 11) esN))) (eV 10))) (tA (tV (e2 gNe (e2 gIx (eV 4) (eC (.int 0))) (eC (.int 0)))) (tV (e2 gNe (eCall 2 m_parts (esC (eV 3) (esC (eCall 2 m__law_product (esC (eV 11) (esC (eV 4) esN))) esN))) (e2 gAdd (eV 10) (eCall 2 m__law_parts (esC (eV 3) (esC (eV 4) esN)))))))) (sRt (eC (.bl false))) sNx) [w0, some (.ref 0), w2, some (.int p), some (fr x), some (fr y), some (fr y), some (.int i), some (.int l), w9', some (.int n), some (fr u)] (SRC q5 r3) = .ok (.nx, [w0, some (.ref 0), w2, some (.int p), some (fr x), some (fr y), some (fr y), some (.int i), some (.int l), w9', some (.int n), some (fr u)]) (SRC q5 r5) := by
    by_cases c1 : x.1 = 0
    · have z : decide (x.1 = 0) = true := decide_eq_true c1
      refine ⟨r3 ++ x4, ?_⟩
      simp only [def0, sPs, sSet, sIf, sRt, sNx, sEx, sRtN, sPar2, sPar3, tV, tA, tO, tN, Mi.e2, Mi.e1, eL, eI, eA, eO, eCall, esC, esN, eC, M.andThen, eV, M.lift, M.ret, M.when, gI, gCmp, gLt, gLe, gGt, gGe, Mi.gSub, gMul, gAdd, gFdiv, gMod, gNeg, gNot, gGcd, gTupD, gLstD, gInt, gAbs, List.map_cons, List.map_nil, List.cons_append, List.nil_append, List.length_cons, List.length_nil, List.replicate, List.set_cons_zero, List.set_cons_succ, List.getElem?_cons_zero, List.getElem?_cons_succ, Option.join_some, if_true, Bool.false_eq_true, if_false, Nat.zero_add, decide_true, Nat.reduceAdd, Nat.reduceSub, F1, ix0, ne_int, z, Bool.not_true, src_app]
    · have z : decide (x.1 = 0) = false := decide_eq_false c1
      obtain ⟨m, hm⟩ := Vf.ex Q.P c1 fx.z
      have pr := lprod_ok (fu.mono (by decide)) (fx.mono (by decide)) (SRC q5 (r3 ++ x4))
      obtain ⟨x5, F2⟩ := (vu.ti Q.P hm).parts Q.P (Fb.nf ((fu.n.mul fx.n).mono (by decide)) ((fu.d.mul fx.d).mono (by decide)) (mul_ne fu.z fx.z)) (SRC q5 (r3 ++ x4))
      have F2' : m_parts [.int p, fr (ti u x)] (SRC q5 (r3 ++ x4)) = .ok (.int (n + m)) (SRC q5 (r3 ++ x4 ++ x5)) := F2
      have lq := hm.lparts Q (fx.mono (by decide)) (SRC q5 (r3 ++ x4 ++ x5))
      refine ⟨r3 ++ x4 ++ x5, ?_⟩
      simp only [def0, sPs, sSet, sIf, sRt, sNx, sEx, sRtN, sPar2, sPar3, tV, tA, tO, tN, Mi.e2, Mi.e1, eL, eI, eA, eO, eCall, esC, esN, eC, M.andThen, eV, M.lift, M.ret, M.when, gI, gCmp, gLt, gLe, gGt, gGe, Mi.gSub, gMul, gAdd, gFdiv, gMod, gNeg, gNot, gGcd, gTupD, gLstD, gInt, gAbs, List.map_cons, List.map_nil, List.cons_append, List.nil_append, List.length_cons, List.length_nil, List.replicate, List.set_cons_zero, List.set_cons_succ, List.getElem?_cons_zero, List.getElem?_cons_succ, Option.join_some, if_true, Bool.false_eq_true, if_false, Nat.zero_add, decide_true, Nat.reduceAdd, Nat.reduceSub, F1, ix0, ne_int, z, Bool.not_true, Bool.not_false, src_app, pr, F2', lq]
  obtain ⟨r5, E11⟩ := E11
  refine ⟨[w0, some (.ref 0), w2, some (.int p), some (fr x), some (fr y), some (fr y), some (.int i), some (.int l), w9', some (.int n), some (fr u)], q5, r5, o5, rfl, rfl, ?_⟩
  unfold bodyL
  rw [sPs_nx E1, sPs_nx E2, sPs_nx E3, sPs_nx E4, sPs_nx E5, sPs_nx E6, sPs_nx E7, sPs_nx E8, sPs_nx E9, sPs_nx E10]
  exact E11
theorem laps_ok : ∀ (ds : List D) (rest : AH) (q : Q) (env : Lc), q.ok → env.length = 12 → env[1]? = some (some (.ref 0)) → ∃ env' q' rest', fo (gN 2) bodyL ds env (SRC q rest) = .ok (.nx, env') (SRC q' rest')
  | [], rest, q, env, _, _, _ => ⟨env, q, rest, rfl⟩
  | d :: ds, rest, q, env, hq, hl, h1 => by
    obtain ⟨env1, q1, r1, o1, l1, g1, E⟩ := lap_ok hq rest (env := env.set 2 (some d)) (by rw [List.length_set]; exact hl) (by rw [List.getElem?_set_ne (by decide)]; exact h1)
    obtain ⟨env2, q2, r2, E2⟩ := laps_ok ds r1 q1 env1 o1 l1 g1
    refine ⟨env2, q2, r2, ?_⟩
    rw [fo_go (env1 := env.set 2 (some d)) (ah1 := SRC q rest) rfl E]
    exact E2
def lastE : Lc → M D := (eA (e2 gIsN (eCall 2 m_parts (esC (eC (.int 2)) (esC (eL gTupD (esC (eC (.int 0)) (esC (eC (.int 1)) esN))) esN))) (eC .non)) (eA (e2 gEq (eCall 3 m_rest (esC (eC (.int 2)) (esC (eC (.int 3)) (esC (eL gTupD (esC (eC (.int 0)) (esC (eC (.int 1)) esN))) esN)))) (eC (.int 0))) (e2 gEq (eCall 3 m_rest (esC (eC (.int 7)) (esC (eC (.int 0)) (esC (eL gTupD (esC (eC (.int 5)) (esC (eC (.int 3)) esN))) esN)))) (eC (.int 0)))))
theorem last_ok (env : Lc) (ah : AH) : lastE env ah = .ok (.bl true) ah := by
  have f0 : m_parts [.int 2, .tup [.int 0, .int 1]] ah = .ok .non ah := parts_no (p := 2) (x := (0, 1)) rfl ah
  have f1 : ∃ t, m_rest [.int 2, .int 3, .tup [.int 0, .int 1]] ah = .ok (.int t) ah ∧ t = 0 := by
    obtain ⟨t, t0, t1, t2, e⟩ := rest_ok q2 ah 3 (by decide) (x := (0, 1)) ⟨B.of (by decide) (by decide), B.of (by decide) (by decide), by decide⟩ (by decide)
    refine ⟨t, e, ?_⟩
    have t1 : t < 8 := t1
    have t2 : (8 : Int) ∣ 0 - t * 1 := t2
    omega
  obtain ⟨t, f1, t0⟩ := f1
  subst t0
  have f2 : ∃ t, m_rest [.int 7, .int 0, .tup [.int 5, .int 3]] ah = .ok (.int t) ah ∧ t = 0 := by
    obtain ⟨t, t0, t1, t2, e⟩ := rest_ok q7 ah 0 (by decide) (x := (5, 3)) ⟨B.of (by decide) (by decide), B.of (by decide) (by decide), by decide⟩ (by decide)
    refine ⟨t, e, ?_⟩
    have t1 : t < 1 := t1
    omega
  obtain ⟨t, f2, t0⟩ := f2
  subst t0
  have z : decide ((0 : Int) = 0) = true := rfl
  unfold lastE
  simp only [def0, sPs, sSet, sIf, sRt, sNx, sEx, sRtN, sPar2, sPar3, tV, tA, tO, tN, Mi.e2, Mi.e1, eL, eI, eA, eO, eCall, esC, esN, eC, M.andThen, eV, M.lift, M.ret, M.when, gI, gCmp, gLt, gLe, gGt, gGe, Mi.gSub, gMul, gAdd, gFdiv, gMod, gNeg, gNot, gGcd, gTupD, gLstD, gInt, gAbs, List.map_cons, List.map_nil, List.cons_append, List.nil_append, List.length_cons, List.length_nil, List.replicate, List.set_cons_zero, List.set_cons_succ, List.getElem?_cons_zero, List.getElem?_cons_succ, Option.join_some, if_true, Bool.false_eq_true, if_false, Nat.zero_add, decide_true, Nat.reduceAdd, Nat.reduceSub, s2, f0, f1, f2, isn_non, eq_int, z]
theorem law_b : b_law = (sPs (sSet 1 (eCall 1 m__law_open_cells (esC (eV 0) esN)))
    (sPs (sFo (iOfs itR1 (esC (eC (.int 8)) esN)) (gN 2) bodyL)
    (sRt lastE))) := rfl
theorem law_true (ns : List Int) (h : ns.length ≤ 63) : ∃ ah', m_law [.fro (ns.map D.int)] [] = .ok (.bl true) ah' := by
  obtain ⟨q, hq, E⟩ := open_ok ns h
  obtain ⟨env', q', r', E2⟩ := laps_ok (rng 0 8) [] q [some (.fro (ns.map D.int)), some (.ref 0), none, none, none, none, none, none, none, none, none, none] hq rfl rfl
  refine ⟨SRC q' r', ?_⟩
  have E' : m__law_open_cells [.fro (ns.map D.int)] [] = .ok (.ref 0) (SRC q []) := E
  have S1 : sSet 1 (eCall 1 m__law_open_cells (esC (eV 0) esN)) [some (.fro (ns.map D.int)), none, none, none, none, none, none, none, none, none, none, none] [] = .ok (.nx, [some (.fro (ns.map D.int)), some (.ref 0), none, none, none, none, none, none, none, none, none, none]) (SRC q []) := by
    simp only [def0, sPs, sSet, sIf, sRt, sNx, sEx, sRtN, sPar2, sPar3, tV, tA, tO, tN, Mi.e2, Mi.e1, eL, eI, eA, eO, eCall, esC, esN, eC, M.andThen, eV, M.lift, M.ret, M.when, gI, gCmp, gLt, gLe, gGt, gGe, Mi.gSub, gMul, gAdd, gFdiv, gMod, gNeg, gNot, gGcd, gTupD, gLstD, gInt, gAbs, List.map_cons, List.map_nil, List.cons_append, List.nil_append, List.length_cons, List.length_nil, List.replicate, List.set_cons_zero, List.set_cons_succ, List.getElem?_cons_zero, List.getElem?_cons_succ, Option.join_some, if_true, Bool.false_eq_true, if_false, Nat.zero_add, decide_true, Nat.reduceAdd, Nat.reduceSub, E']
  have L : b_law [some (.fro (ns.map D.int)), none, none, none, none, none, none, none, none, none, none, none] [] = .ok (.rt (.bl true), env') (SRC q' r') := by
    rw [law_b, sPs_nx S1, sPs_nx ((sFo_at (ds := rng 0 8) (ah1 := SRC q []) rfl).trans E2)]
    exact sRt_at (last_ok _ _)
  exact def0_rt L
end Law
open PySem PySem.W PyProof.Rows
set_option maxHeartbeats 0 in
theorem PySem.Challenge.cw_ballmoves_k05_parts_and_rests_holds : PySem.Challenge.rw_ballmoves_k05_parts_and_rests.Holds := by
  w_on; o_law; k_head; (case hw => w_witness2)
  k_fill
  refine Mi.walk_g (l := PySem.Challenge.rw_ballmoves_k05_parts_and_rests) (n := 63) (k := 5) (x := "_law_script") (m := Law.m_law) rfl (by decide) rfl ⟨rfl, by decide, by decide⟩ (fun w h Y => PySem.W.kIn_of Y) ?F Law.law_true
  case F =>
    intro w mg fa h KX G hmg
    refine' Law.all_mk KX G hmg ?a0 ?l0 ?c0 ?k0 ?a1 ?l1 ?c1 ?k1 ?a2 ?l2 ?c2 ?k2 ?a3 ?l3 ?c3 ?k3 ?a4 ?l4 ?c4 ?k4 ?a5 ?l5 ?c5 ?k5 ?a6 ?l6 ?c6 ?k6 ?a7 ?l7 ?c7 ?k7 ?a8 ?l8 ?c8 ?k8 ?a9 ?l9 ?c9 ?k9 ?a10 ?l10 ?c10 ?k10 ?a11 ?l11 ?c11 ?k11 ?a12 ?l12 ?c12 ?k12 ?a13 ?l13 ?c13 ?k13 ?a14 ?l14 ?c14 ?k14 ?a15 ?l15 ?c15 ?k15 ?a16 ?l16 ?c16 ?k16 ?a17 ?l17 ?c17 ?k17 ?a18 ?l18 ?c18 ?k18 ?a19 ?l19 ?c19 ?k19 ?z_abs ?z_bool ?z_int ?z_isinstance ?z_len ?z_min ?z_range ?z_repr ?z_reversed
    (case a0 => k_is)
    (case l0 => k_is)
    (case c0 => k_is)
    (case k0 => k_is)
    (case a1 => k_is)
    (case l1 => k_is)
    (case c1 => k_is)
    (case k1 => k_is)
    (case a2 => k_is)
    (case l2 => k_is)
    (case c2 => k_is)
    (case k2 => k_is)
    (case a3 => k_is)
    (case l3 => k_is)
    (case c3 => k_is)
    (case k3 => k_is)
    (case a4 => k_is)
    (case l4 => k_is)
    (case c4 => k_is)
    (case k4 => k_is)
    (case a5 => k_is)
    (case l5 => k_is)
    (case c5 => k_is)
    (case k5 => k_is)
    (case a6 => k_is)
    (case l6 => k_is)
    (case c6 => k_is)
    (case k6 => k_is)
    (case a7 => k_is)
    (case l7 => k_is)
    (case c7 => k_is)
    (case k7 => k_is)
    (case a8 => k_is)
    (case l8 => k_is)
    (case c8 => k_is)
    (case k8 => k_is)
    (case a9 => k_is)
    (case l9 => k_is)
    (case c9 => k_is)
    (case k9 => k_is)
    (case a10 => k_is)
    (case l10 => k_is)
    (case c10 => k_is)
    (case k10 => k_is)
    (case a11 => k_is)
    (case l11 => k_is)
    (case c11 => k_is)
    (case k11 => k_is)
    (case a12 => k_is)
    (case l12 => k_is)
    (case c12 => k_is)
    (case k12 => k_is)
    (case a13 => k_is)
    (case l13 => k_is)
    (case c13 => k_is)
    (case k13 => k_is)
    (case a14 => k_is)
    (case l14 => k_is)
    (case c14 => k_is)
    (case k14 => k_is)
    (case a15 => k_is)
    (case l15 => k_is)
    (case c15 => k_is)
    (case k15 => k_is)
    (case a16 => k_is)
    (case l16 => k_is)
    (case c16 => k_is)
    (case k16 => k_is)
    (case a17 => k_is)
    (case l17 => k_is)
    (case c17 => k_is)
    (case k17 => k_is)
    (case a18 => k_is)
    (case l18 => k_is)
    (case c18 => k_is)
    (case k18 => k_is)
    (case a19 => k_is)
    (case l19 => k_is)
    (case c19 => k_is)
    (case k19 => k_is)
    (case z_abs => k_is)
    (case z_bool => k_is)
    (case z_int => k_is)
    (case z_isinstance => k_is)
    (case z_len => k_is)
    (case z_min => k_is)
    (case z_range => k_is)
    (case z_repr => k_is)
    (case z_reversed => k_is)
