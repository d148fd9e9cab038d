import PyProof.Rows.All
import Wide.All
import OpenK.AllK
import Wide.FinOn
import HandS.ForMost
import HandS.Wide
import HandS.IsInst
import HandS.Conv
import HandS.Flow
import HandS.Deep
import HandS.TupAny
import PySem.Challenge.RW_commonground_k02_literal_implies
set_option Elab.async false
set_option linter.all false
set_option maxRecDepth 100000
set_option maxHeartbeats 4000000
namespace MP
open PySem PySem.Spec PyProof.Rows L2

/-! ### data of the mirror: tuples are values, lists, dicts and instances stand in a store -/
inductive D where
  | non | bl (b : Bool) | int (i : Int) | str (s : Str) | tup (ds : List D) | ref (n : Nat) | fn (x : Str) | ty (n : String) | scr (ns : List Int)
  deriving Inhabited
inductive O where
  | lst (ds : List D) | dct (kvs : List (Key × D)) | ins (C : Str) (fs : List (Str × D))
abbrev Store := List O
inductive Res (α : Type) where
  | ok (a : α) (st : Store) | exc (c : Str) (d : D) (st : Store) | bad
abbrev Env := List (Option D)
abbrev Ev (α : Type) := Env → Store → Res α
inductive SR where
  | next (e : Env) (st : Store) | ret (d : D) (st : Store) | brk (e : Env) (st : Store) | cnt (e : Env) (st : Store) | exc (c : Str) (d : D) (e : Env) (st : Store) | bad

/-- a list that nobody writes: the script -/
def SqF (K : PySem.W.Frag) (H : Hp) (a : Addr) (xs : List V) : Prop := (∃ o, H a = some (.frz o (.lst xs))) ∨
  ∃ (o : Obj) (its : Array Value) (n : Nat), K.lookup a = some o ∧ o.cls = .type "list" ∧ o.dict = none ∧ o.data = .seq its n ∧ its.size ≤ sizeLine ∧ Vals xs its.toList
theorem SqF.seq {K : PySem.W.Frag} {H : Hp} {a : Addr} {xs : List V} (h : SqF K H a xs) : SqL K H a xs := h.elim (fun q => .inl (.inr q)) .inr
section
variable (K : PySem.W.Frag) (mg : Str → Option Value)
mutual
inductive Rep (ρ : List Addr) (H : Hp) : D → V → Prop
  | non : Rep ρ H .non .non
  | bl (b : Bool) : Rep ρ H (.bl b) (.bl b)
  | int (i : Int) : Rep ρ H (.int i) (.int i)
  | str (x : Str) : Rep ρ H (.str x) (.str x)
  | tup {a : Addr} {xs : List V} {ds : List D} : SqT K H a xs → Reps ρ H ds xs → Rep ρ H (.tup ds) (.ref a)
  | ref {a : Addr} {n : Nat} : ρ[n]? = some a → Rep ρ H (.ref n) (.ref a)
  | fn {a : Addr} {x : Str} : mg x = some (.ref a) → Rep ρ H (.fn x) (.ref a)
  | ty (n : String) : Rep ρ H (.ty n) (.ty n)
  | scr {a : Addr} {ns : List Int} : SqF K H a (ns.map V.int) → Rep ρ H (.scr ns) (.ref a)
inductive Reps (ρ : List Addr) (H : Hp) : List D → List V → Prop
  | nil : Reps ρ H [] []
  | cons {d : D} {v : V} {ds : List D} {vs : List V} : Rep ρ H d v → Reps ρ H ds vs → Reps ρ H (d :: ds) (v :: vs)
end
/-- tuples stay -/
structure Ext (H H' : Hp) : Prop where
  tup : ∀ a xs, SqT K H a xs → SqT K H' a xs
  scr : ∀ a xs, SqF K H a xs → SqF K H' a xs
inductive RepO (ρ : List Addr) (H : Hp) : O → HO → Prop
  | lst {ds : List D} {xs : List V} : Reps K mg ρ H ds xs → RepO ρ H (.lst ds) (.lst xs)
  | dct {kvs : List (Key × D)} {ws : List (Key × V)} : Paired (fun p q => p.1 = q.1 ∧ Rep K mg ρ H p.2 q.2) kvs ws → RepO ρ H (.dct kvs) (.dK ws)
  | ins {C : Str} {a dx : Addr} {fs : List (Str × D)} {ws : List (Str × V)} : mg C = some (.ref a) → Paired (fun p q => p.1 = q.1 ∧ Rep K mg ρ H p.2 q.2) fs ws → RepO ρ H (.ins C fs) (.ins a dx ws)
structure Sim (ρ : List Addr) (st : Store) (H : Hp) : Prop where
  len : ρ.length = st.length
  nd : ρ.Nodup
  at_ : ∀ (n : Nat) (o : O), st[n]? = some o → ∃ a ho, ρ[n]? = some a ∧ H a = some ho ∧ RepO K mg ρ H o ho
structure Go (ρ : List Addr) (H : Hp) (ρ' : List Addr) (st' : Store) (H' : Hp) : Prop where
  pre : ρ <+: ρ'
  sim : Sim K mg ρ' st' H'
  ext : Ext K H H'
/-- slots -/
def EnvR (ρ : List Addr) (H : Hp) (env : Env) (σ : L2.St) : Prop := Paired (fun d v => ∀ x, d = some x → ∃ y, v = some y ∧ Rep K mg ρ H x y) env σ
end

section
variable {K : PySem.W.Frag} {mg : Str → Option Value} {ρ ρ' ρ'' : List Addr} {H H' H'' : Hp} {st st' st'' : Store}
theorem Ext.refl : Ext K H H := ⟨fun _ _ h => h, fun _ _ h => h⟩
theorem Ext.trans (a : Ext K H H') (b : Ext K H' H'') : Ext K H H'' := ⟨fun p xs h => b.tup p xs (a.tup p xs h), fun p xs h => b.scr p xs (a.scr p xs h)⟩
mutual
theorem Rep.mono (hp : ρ <+: ρ') (he : Ext K H H') : ∀ {d : D} {v : V}, Rep K mg ρ H d v → Rep K mg ρ' H' d v
  | _, _, .non => .non
  | _, _, .bl b => .bl b
  | _, _, .int i => .int i
  | _, _, .str x => .str x
  | _, _, .tup h r => .tup (he.tup _ _ h) (Reps.mono hp he r)
  | _, _, .ref h => .ref (by
      obtain ⟨t, rfl⟩ := hp
      rw [List.getElem?_append_left (List.getElem?_eq_some_iff.mp h).1]
      exact h)
  | _, _, .fn h => .fn h
  | _, _, .ty n => .ty n
  | _, _, .scr h => .scr (he.scr _ _ h)
theorem Reps.mono (hp : ρ <+: ρ') (he : Ext K H H') : ∀ {ds : List D} {vs : List V}, Reps K mg ρ H ds vs → Reps K mg ρ' H' ds vs
  | _, _, .nil => .nil
  | _, _, .cons r t => .cons (Rep.mono hp he r) (Reps.mono hp he t)
end
theorem paired_imp {α β : Type} {P Q : α → β → Prop} (h : ∀ a b, P a b → Q a b) : ∀ {xs : List α} {ys : List β}, Paired P xs ys → Paired Q xs ys
  | _, _, .nil => .nil
  | _, _, .cons r t => .cons (h _ _ r) (paired_imp h t)
theorem RepO.mono (hp : ρ <+: ρ') (he : Ext K H H') {o : O} {ho : HO} (h : RepO K mg ρ H o ho) : RepO K mg ρ' H' o ho := by
  cases h with
  | lst h => exact .lst (h.mono hp he)
  | dct h => exact .dct (paired_imp (fun _ _ ⟨a, b⟩ => ⟨a, b.mono hp he⟩) h)
  | ins m h => exact .ins m (paired_imp (fun _ _ ⟨a, b⟩ => ⟨a, b.mono hp he⟩) h)
theorem EnvR.mono (hp : ρ <+: ρ') (he : Ext K H H') {env : Env} {σ : L2.St} (h : EnvR K mg ρ H env σ) : EnvR K mg ρ' H' env σ :=
  paired_imp (fun _ _ q x e => let ⟨y, e1, r⟩ := q x e; ⟨y, e1, r.mono hp he⟩) h
theorem Go.refl (s : Sim K mg ρ st H) : Go K mg ρ H ρ st H := ⟨List.prefix_refl _, s, .refl⟩
theorem Go.trans (a : Go K mg ρ H ρ' st' H') (b : Go K mg ρ' H' ρ'' st'' H'') : Go K mg ρ H ρ'' st'' H'' := ⟨a.pre.trans b.pre, b.sim, a.ext.trans b.ext⟩

theorem paired_get {α β : Type} {P : α → β → Prop} : ∀ {xs : List α} {ys : List β} {i : Nat} {x : α}, Paired P xs ys → xs[i]? = some x → ∃ y, ys[i]? = some y ∧ P x y
  | _, _, _, _, .nil, e => by simp at e
  | _, _, 0, _, .cons r _, e => by simp at e; subst e; exact ⟨_, rfl, r⟩
  | _, _, i + 1, x, .cons _ t, e => by
    obtain ⟨u, h1, h2⟩ := paired_get (i := i) (x := x) t (by simpa using e)
    exact ⟨u, by simpa using h1, h2⟩
theorem paired_set {α β : Type} {P : α → β → Prop} {x : α} {y : β} (r : P x y) : ∀ {xs : List α} {ys : List β} (i : Nat), Paired P xs ys → Paired P (xs.set i x) (ys.set i y)
  | _, _, _, .nil => .nil
  | _, _, 0, .cons _ t => .cons r t
  | _, _, i + 1, .cons q t => .cons q (paired_set r i t)
theorem Reps.length : ∀ {ds : List D} {vs : List V}, Reps K mg ρ H ds vs → ds.length = vs.length
  | _, _, .nil => rfl
  | _, _, .cons _ t => by simp [Reps.length t]
theorem Reps.get : ∀ {ds : List D} {vs : List V} {i : Nat} {d : D}, Reps K mg ρ H ds vs → ds[i]? = some d → ∃ v, vs[i]? = some v ∧ Rep K mg ρ H d v
  | _, _, _, _, .nil, e => by simp at e
  | _, _, 0, _, .cons r _, e => by simp at e; subst e; exact ⟨_, rfl, r⟩
  | _, _, i + 1, x, .cons _ t, e => by
    obtain ⟨u, h1, h2⟩ := Reps.get (i := i) (d := x) t (by simpa using e)
    exact ⟨u, by simpa using h1, h2⟩
theorem Reps.set {d : D} {v : V} (r : Rep K mg ρ H d v) : ∀ {ds : List D} {vs : List V} (i : Nat), Reps K mg ρ H ds vs → Reps K mg ρ H (ds.set i d) (vs.set i v)
  | _, _, _, .nil => .nil
  | _, _, 0, .cons _ t => .cons r t
  | _, _, i + 1, .cons q t => .cons q (Reps.set r i t)
theorem Reps.append : ∀ {ds es : List D} {vs us : List V}, Reps K mg ρ H ds vs → Reps K mg ρ H es us → Reps K mg ρ H (ds ++ es) (vs ++ us)
  | _, _, _, _, .nil, s => s
  | _, _, _, _, .cons r t, s => .cons r (Reps.append t s)
theorem Reps.take : ∀ {ds : List D} {vs : List V} (n : Nat), Reps K mg ρ H ds vs → Reps K mg ρ H (ds.take n) (vs.take n)
  | _, _, 0, _ => .nil
  | _, _, _ + 1, .nil => .nil
  | _, _, n + 1, .cons r t => .cons r (Reps.take n t)
theorem Reps.drop : ∀ {ds : List D} {vs : List V} (n : Nat), Reps K mg ρ H ds vs → Reps K mg ρ H (ds.drop n) (vs.drop n)
  | _, _, 0, r => r
  | _, _, _ + 1, .nil => .nil
  | _, _, n + 1, .cons _ t => Reps.drop n t
theorem Reps.paired : ∀ {ds : List D} {vs : List V}, Reps K mg ρ H ds vs → Paired (Rep K mg ρ H) ds vs
  | _, _, .nil => .nil
  | _, _, .cons r t => .cons r (Reps.paired t)
theorem reps_ints : ∀ (ns : List Int), Reps K mg ρ H (ns.map D.int) (ns.map V.int)
  | [] => .nil
  | n :: r => .cons (.int n) (reps_ints r)

theorem ext_upd {a : Addr} {o : HO} (h : ∀ xs, H a ≠ some (.tup xs)) (h2 : ∀ ob u, H a ≠ some (.frz ob u)) : Ext K H (upd H a o) := by
  refine ⟨fun p xs hs => ?_, fun p xs hs => ?_⟩
  · rcases hs with (hs | ⟨ob, hs⟩) | hs
    · have : p ≠ a := fun e => by rw [e] at hs; exact h _ hs
      exact .inl (.inl (by rw [upd_ne this]; exact hs))
    · have : p ≠ a := fun e => by rw [e] at hs; exact h2 _ _ hs
      exact .inl (.inr ⟨ob, by rw [upd_ne this]; exact hs⟩)
    · exact .inr hs
  · rcases hs with ⟨ob, hs⟩ | hs
    · have : p ≠ a := fun e => by rw [e] at hs; exact h2 _ _ hs
      exact .inl ⟨ob, by rw [upd_ne this]; exact hs⟩
    · exact .inr hs
theorem ext_new {a : Addr} {o : HO} (h : H a = none) : Ext K H (upd H a o) := ext_upd (fun xs e => by rw [h] at e; cases e) fun ob u e => by rw [h] at e; cases e
theorem RepO.ext {o : O} {ho : HO} (r : RepO K mg ρ H o ho) {a : Addr} (h : H a = some ho) {u : HO} : Ext K H (upd H a u) := by
  refine ext_upd (fun xs e => ?_) fun ob q e => ?_ <;> (rw [h] at e; cases e; cases r)
/-- something new that the store does not know -/
theorem Sim.fresh (s : Sim K mg ρ st H) {a : Addr} {u : HO} (h : H a = none) : Sim K mg ρ st (upd H a u) :=
  ⟨s.len, s.nd, fun n o e => by
    obtain ⟨p, ho, e1, e2, r⟩ := s.at_ n o e
    have : p ≠ a := fun q => by rw [q, h] at e2; cases e2
    exact ⟨p, ho, e1, by rw [upd_ne this]; exact e2, r.mono (List.prefix_refl _) (ext_new h)⟩⟩
theorem Go.fresh (s : Sim K mg ρ st H) {a : Addr} {u : HO} (h : H a = none) : Go K mg ρ H ρ st (upd H a u) := ⟨List.prefix_refl _, s.fresh h, ext_new h⟩
/-- a new object of the store -/
theorem Go.new (s : Sim K mg ρ st H) {a : Addr} {u : HO} {o : O} (h : H a = none) (r : RepO K mg ρ H o u) : Go K mg ρ H (ρ ++ [a]) (st ++ [o]) (upd H a u) := by
  have hp : ρ <+: ρ ++ [a] := List.prefix_append _ _
  have na : a ∉ ρ := fun m => by
    obtain ⟨i, hi, e⟩ := List.getElem_of_mem m
    have hi2 : i < st.length := by rw [← s.len]; exact hi
    obtain ⟨p, ho, e1, e2, _⟩ := s.at_ i _ (List.getElem?_eq_getElem hi2)
    rw [List.getElem?_eq_getElem hi, e] at e1
    cases e1
    rw [h] at e2
    cases e2
  refine ⟨hp, ⟨by simp [s.len], ?_, fun n x e => ?_⟩, ext_new h⟩
  · rw [List.nodup_append]
    refine ⟨s.nd, by simp, fun x hx y hy => ?_⟩
    rw [List.mem_singleton] at hy
    subst hy
    intro e
    subst e
    exact na hx
  · by_cases hn : n < st.length
    · rw [List.getElem?_append_left hn] at e
      obtain ⟨p, ho, e1, e2, q⟩ := s.at_ n x e
      have : p ≠ a := fun q => by rw [q, h] at e2; cases e2
      exact ⟨p, ho, by rw [List.getElem?_append_left (by rw [s.len]; exact hn)]; exact e1, by rw [upd_ne this]; exact e2, q.mono hp (ext_new h)⟩
    · have hn' : n = st.length := by
        have := (List.getElem?_eq_some_iff.mp e).1
        simp at this
        omega
      subst hn'
      simp at e
      subst e
      exact ⟨a, u, by rw [← s.len]; simp, upd_same, r.mono hp (ext_new h)⟩
/-- an object of the store is stored anew -/
theorem Go.set (s : Sim K mg ρ st H) {n : Nat} {a : Addr} {o o' : O} {u u' : HO} (hn : st[n]? = some o) (ha : ρ[n]? = some a) (hu : H a = some u) (r : RepO K mg ρ H o u) (r' : RepO K mg ρ H o' u') : Go K mg ρ H ρ (st.set n o') (upd H a u') := by
  have hx : Ext K H (upd H a u') := r.ext hu
  refine ⟨List.prefix_refl _, ⟨by simp [s.len], s.nd, fun m x e => ?_⟩, hx⟩
  have hlt := (List.getElem?_eq_some_iff.mp hn).1
  by_cases hm : n = m
  · subst hm
    rw [List.getElem?_set_self hlt] at e
    cases e
    exact ⟨a, u', ha, upd_same, r'.mono (List.prefix_refl _) hx⟩
  · rw [List.getElem?_set_ne hm] at e
    obtain ⟨p, ho, e1, e2, q⟩ := s.at_ m x e
    have : p ≠ a := fun z => by
      subst z
      exact hm ((List.getElem?_inj (List.getElem?_eq_some_iff.mp ha).1 s.nd).mp (ha.trans e1.symm))
    exact ⟨p, ho, e1, by rw [upd_ne this]; exact e2, q.mono (List.prefix_refl _) hx⟩
theorem Sim.get (s : Sim K mg ρ st H) {n : Nat} {o : O} {v : V} (hn : st[n]? = some o) (r : Rep K mg ρ H (.ref n) v) : ∃ a ho, v = .ref a ∧ ρ[n]? = some a ∧ H a = some ho ∧ RepO K mg ρ H o ho := by
  cases r with
  | ref h =>
    obtain ⟨p, ho, e1, e2, q⟩ := s.at_ n o hn
    rw [h] at e1
    cases e1
    exact ⟨_, ho, rfl, h, e2, q⟩
end
end MP

namespace MP
open PySem PySem.Spec PyProof.Rows L2

/-- what an exception carries -/
inductive XRep (K : PySem.W.Frag) (mg : Str → Option Value) (ρ : List Addr) (H : Hp) : Str → D → Value → Option Addr → Prop
  | plain {c : Str} {u : Value} {od : Option Addr} : mg c = some u → XRep K mg ρ H c .non u od
  | what {c : Str} {u : Value} {a : Addr} {d : D} {v : V} : mg c = some u → H a = some (.xd [("what", v)]) → Rep K mg ρ H d v → XRep K mg ρ H c (.tup [d]) u (some a)

section
variable (K : PySem.W.Frag) (mg : Str → Option Value)
abbrev RL (α β : Type) := List Addr → Hp → α → β → Prop
def XPost (E : XK) (ρ : List Addr) (H : Hp) (c : Str) (d : D) (st' : Store) : Prop := ∀ ρ' H' u od, Go K mg ρ H ρ' st' H' → XRep K mg ρ' H' c d u od → E u od H'
def Post {α β : Type} (R : RL α β) (E : XK) (ρ : List Addr) (H : Hp) (Q : β → Hp → Prop) : Res α → Prop
  | .ok a st' => ∀ ρ' H' v, Go K mg ρ H ρ' st' H' → R ρ' H' a v → Q v H'
  | .exc c d st' => XPost K mg E ρ H c d st'
  | .bad => False
def SPost (E : XK) (ρ : List Addr) (H : Hp) (Dn : Ends) : SR → Prop
  | .next env' st' => ∀ ρ' σ' H', Go K mg ρ H ρ' st' H' → EnvR K mg ρ' H' env' σ' → Dn.nx σ' H'
  | .ret d st' => ∀ ρ' H' v, Go K mg ρ H ρ' st' H' → Rep K mg ρ' H' d v → Dn.rt v H'
  | .brk env' st' => ∀ ρ' σ' H', Go K mg ρ H ρ' st' H' → EnvR K mg ρ' H' env' σ' → Dn.bk σ' H'
  | .cnt env' st' => ∀ ρ' σ' H', Go K mg ρ H ρ' st' H' → EnvR K mg ρ' H' env' σ' → Dn.ct σ' H'
  | .exc c d _ st' => XPost K mg E ρ H c d st'
  | .bad => False
/-- a reading is served by a mirror -/
def Real {α β : Type} (R : RL α β) (E : XK) (t : L2.St → Hp → (β → Hp → Prop) → Prop) (f : Ev α) : Prop :=
  ∀ ρ env st σ H Q, Sim K mg ρ st H → EnvR K mg ρ H env σ → Post K mg R E ρ H Q (f env st) → t σ H Q
def RealS (E : XK) (t : TS) (g : Env → Store → SR) : Prop :=
  ∀ ρ env st σ H Dn, Sim K mg ρ st H → EnvR K mg ρ H env σ → SPost K mg E ρ H Dn (g env st) → t Dn σ H
def REq (α : Type) : RL α α := fun _ _ a b => a = b
end
def bindR {α β : Type} (r : Res α) (k : α → Store → Res β) : Res β := match r with
  | .ok a st => k a st
  | .exc c d st => .exc c d st
  | .bad => .bad
@[simp] theorem bindR_ok {α β : Type} (a : α) (st : Store) (k : α → Store → Res β) : bindR (.ok a st) k = k a st := rfl
@[simp] theorem bindR_bad {α β : Type} (k : α → Store → Res β) : bindR .bad k = .bad := rfl
@[simp] theorem bindR_exc {α β : Type} (c : Str) (d : D) (st : Store) (k : α → Store → Res β) : bindR (.exc c d st) k = .exc c d st := rfl
/-- from an expression into a statement -/
def bindS {α : Type} (env : Env) (r : Res α) (k : α → Store → SR) : SR := match r with
  | .ok a st => k a st
  | .exc c d st => .exc c d env st
  | .bad => .bad
@[simp] theorem bindS_ok {α : Type} (env : Env) (a : α) (st : Store) (k : α → Store → SR) : bindS env (.ok a st) k = k a st := rfl
@[simp] theorem bindS_bad {α : Type} (env : Env) (k : α → Store → SR) : bindS env .bad k = .bad := rfl
@[simp] theorem bindS_exc {α : Type} (env : Env) (c : Str) (d : D) (st : Store) (k : α → Store → SR) : bindS env (.exc c d st) k = .exc c d env st := rfl

section
variable {K : PySem.W.Frag} {mg : Str → Option Value} {E : XK} {α β γ δ : Type} {R : RL α β} {R2 : RL γ δ} {ρ ρ' : List Addr} {H H' : Hp} {st st' : Store}
theorem XPost.from {c : Str} {d : D} {st2 : Store} (g : Go K mg ρ H ρ' st' H') (h : XPost K mg E ρ H c d st2) : XPost K mg E ρ' H' c d st2 := fun ρ'' H'' u od g2 r => h ρ'' H'' u od (g.trans g2) r
theorem Post.from {Q : β → Hp → Prop} {r : Res α} (g : Go K mg ρ H ρ' st' H') (h : Post K mg R E ρ H Q r) : Post K mg R E ρ' H' Q r := by
  cases r with
  | ok a st2 => exact fun ρ'' H'' v g2 q => h ρ'' H'' v (g.trans g2) q
  | exc c d st2 => exact XPost.from g h
  | bad => exact h
theorem SPost.from {Dn : Ends} {r : SR} (g : Go K mg ρ H ρ' st' H') (h : SPost K mg E ρ H Dn r) : SPost K mg E ρ' H' Dn r := by
  cases r with
  | next e st2 => exact fun ρ'' σ'' H'' g2 q => h ρ'' σ'' H'' (g.trans g2) q
  | ret e st2 => exact fun ρ'' H'' v g2 q => h ρ'' H'' v (g.trans g2) q
  | brk e st2 => exact fun ρ'' σ'' H'' g2 q => h ρ'' σ'' H'' (g.trans g2) q
  | cnt e st2 => exact fun ρ'' σ'' H'' g2 q => h ρ'' σ'' H'' (g.trans g2) q
  | exc c d e st2 => exact XPost.from g h
  | bad => exact h
theorem Post.split {Q : δ → Hp → Prop} {r : Res α} {k : α → Store → Res γ} {Q1 : β → Hp → Prop} (h : Post K mg R2 E ρ H Q (bindR r k))
    (hk : ∀ a st1 ρ1 H1 v, Go K mg ρ H ρ1 st1 H1 → R ρ1 H1 a v → Post K mg R2 E ρ1 H1 Q (k a st1) → Q1 v H1) : Post K mg R E ρ H Q1 r := by
  cases r with
  | ok a st2 => exact fun ρ1 H1 v g q => hk a st2 ρ1 H1 v g q (Post.from g h)
  | exc c d st2 => exact h
  | bad => exact h
theorem SPost.split {Dn : Ends} {env : Env} {r : Res α} {k : α → Store → SR} {Q1 : β → Hp → Prop} (h : SPost K mg E ρ H Dn (bindS env r k))
    (hk : ∀ a st1 ρ1 H1 v, Go K mg ρ H ρ1 st1 H1 → R ρ1 H1 a v → SPost K mg E ρ1 H1 Dn (k a st1) → Q1 v H1) : Post K mg R E ρ H Q1 r := by
  cases r with
  | ok a st2 => exact fun ρ1 H1 v g q => hk a st2 ρ1 H1 v g q (SPost.from g h)
  | exc c d st2 => exact h
  | bad => exact h
theorem Post.done {Q : β → Hp → Prop} {a : α} {v : β} (s : Sim K mg ρ st H) (h : Post K mg R E ρ H Q (.ok a st)) (r : R ρ H a v) : Q v H := h ρ H v (.refl s) r
end

/-! ### the judgements -/
structure ME (X : Cx) (E : XK) (e : Expr) (f : Ev D) : Prop where
  ex : ∃ t, PE X e t ∧ Real X.K X.mg (Rep X.K X.mg) E t f
structure MT (X : Cx) (E : XK) (e : Expr) (f : Ev Bool) : Prop where
  ex : ∃ t, PT X e t ∧ Real X.K X.mg (REq Bool) E t f
structure MW (X : Cx) (E : XK) (e : Expr) (f : Ev Bool) : Prop where
  ex : ∃ t, PW X e t ∧ Real X.K X.mg (REq Bool) E t f
structure MA (X : Cx) (E : XK) (es : List Expr) (f : Ev (List D)) : Prop where
  ex : ∃ t, PA X es t ∧ Real X.K X.mg (Reps X.K X.mg) E t f
structure MS (X : Cx) (E : XK) (s : Stmt) (g : Env → Store → SR) : Prop where
  ex : ∃ t, PS X s t ∧ RealS X.K X.mg E t g
structure MSs (X : Cx) (E : XK) (s : List Stmt) (g : Env → Store → SR) : Prop where
  ex : ∃ t, PSs X s t ∧ RealS X.K X.mg E t g

/-! ### names, constants -/
def eVar (i : Nat) : Ev D := fun env st => match env[i]? with
  | some (some d) => .ok d st
  | _ => .bad
def eC (d : D) : Ev D := fun _ st => .ok d st
section
variable {X : Cx} {E : XK} {pos : Pos}
theorem me_var (i : Nat) {x : Str} (hN : X.N[i]? = some x := by rfl) (hv : Vis X.env.scope x := by first | exact Or.inl rfl | exact Or.inr (Or.inl rfl) | exact Or.inr (Or.inr rfl)) (hd : (x == ("__debug__" : Str)) = false := by decide)
    (hcd : (x == ("__classdict__" : Str)) = false := by decide) : ME X E (.Name x pos) (eVar i) := by
  refine ⟨_, pe_var hN hv hd hcd, fun ρ env st σ H Q s e h => ?_⟩
  unfold eVar at h
  cases q : env[i]? with
  | none => rw [q] at h; exact h.elim
  | some o =>
    cases o with
    | none => rw [q] at h; exact h.elim
    | some d =>
      rw [q] at h
      obtain ⟨v, e1, r⟩ := paired_get e q
      obtain ⟨y, e2, r⟩ := r d rfl
      rw [e2] at e1
      exact ⟨y, e1, h.done s r⟩
theorem real_C {d : D} {v : V} (r : ∀ ρ H, Rep X.K X.mg ρ H d v) : Real X.K X.mg (Rep X.K X.mg) E (tC v) (eC d) := fun ρ env st σ H Q s e h => h.done s (r ρ H)
theorem me_int {i j} : ME X E (.Constant (.int i) j pos) (eC (.int i)) := ⟨_, pe_int, real_C fun _ _ => .int i⟩
theorem me_bl {b j} : ME X E (.Constant (.bool b) j pos) (eC (.bl b)) := ⟨_, pe_bl, real_C fun _ _ => .bl b⟩
theorem me_non {j} : ME X E (.Constant .none j pos) (eC .non) := ⟨_, pe_non, real_C fun _ _ => .non⟩
theorem me_str {x j} : ME X E (.Constant (.str x) j pos) (eC (.str x)) := ⟨_, pe_str, real_C fun _ _ => .str x⟩
theorem me_ty {x : Str} {n : String} (hg : Gl X x) (hm : X.mg x = none) (hv : bootBuiltins x = some (.type n)) (hn : x ≠ "__name__" := by decide) (hd : (x == ("__debug__" : Str)) = false := by decide) : ME X E (.Name x pos) (eC (.ty n)) :=
  ⟨_, pe_bltn (v := .ty n) hg hm hv rfl hn hd, real_C fun _ _ => .ty n⟩
theorem me_fn {x : Str} {a : Addr} (hg : Gl X x) (hm : X.mg x = some (.ref a)) (hd : (x == ("__debug__" : Str)) = false := by decide) : ME X E (.Name x pos) (eC (.fn x)) :=
  ⟨_, pe_glob (v := .ref a) hg hm rfl hd, real_C fun _ _ => .fn hm⟩
theorem me_gint {x : Str} {i : Int} (hg : Gl X x) (hm : ∃ t, X.mg x = some (.int i t)) (hd : (x == ("__debug__" : Str)) = false := by decide) : ME X E (.Name x pos) (eC (.int i)) := by
  obtain ⟨t, hm⟩ := hm
  exact ⟨_, pe_glob (v := .int i) hg hm ⟨t, rfl⟩ hd, real_C fun _ _ => .int i⟩

/-! ### argument lists, displays -/
def aNil : Ev (List D) := fun _ st => .ok [] st
def aCons (f : Ev D) (g : Ev (List D)) : Ev (List D) := fun env st => bindR (f env st) fun d st1 => bindR (g env st1) fun ds st2 => .ok (d :: ds) st2
theorem ma_nil : MA X E [] aNil := ⟨_, pa_nil, fun ρ env st σ H Q s e h => h.done s .nil⟩
theorem ma_cons {e : Expr} {es : List Expr} {f : Ev D} {g : Ev (List D)} (h1 : ME X E e f) (h2 : MA X E es g) (hs : starEach (e :: es) X.env = (false, eval e X.env) :: starEach es X.env := by rfl) : MA X E (e :: es) (aCons f g) := by
  obtain ⟨t1, p1, r1⟩ := h1
  obtain ⟨t2, p2, r2⟩ := h2
  refine ⟨_, pa_cons p1 p2 hs, fun ρ env st σ H Q s e h => ?_⟩
  exact r1 ρ env st σ H _ s e (h.split fun a st1 ρ1 H1 v g1 ra h1 => r2 ρ1 env st1 σ H1 _ g1.sim (e.mono g1.pre g1.ext) (h1.split fun b st2 ρ2 H2 v2 g2 rb h2 => h2.done g2.sim (.cons (ra.mono g2.pre g2.ext) rb)))
def eTup (f : Ev (List D)) : Ev D := fun env st => bindR (f env st) fun ds st1 => if ds.length ≤ sizeLine then .ok (.tup ds) st1 else .bad
def eLst (f : Ev (List D)) : Ev D := fun env st => bindR (f env st) fun ds st1 => if ds.length ≤ sizeLine then .ok (.ref st1.length) (st1 ++ [.lst ds]) else .bad
theorem Go.lst {K : PySem.W.Frag} {mg : Str → Option Value} {ρ : List Addr} {H : Hp} {st : Store} {ds : List D} {vs : List V} (s : Sim K mg ρ st H) (r : Reps K mg ρ H ds vs) {p : Addr} (hp : H p = none) :
    Go K mg ρ H (ρ ++ [p]) (st ++ [.lst ds]) (upd H p (.lst vs)) ∧ Rep K mg (ρ ++ [p]) (upd H p (.lst vs)) (.ref st.length) (.ref p) :=
  ⟨Go.new s hp (.lst r), .ref (by rw [← s.len]; simp)⟩
theorem me_tup {es : List Expr} {k : Nat} {f : Ev (List D)} (h : MA X E es f) : ME X E (.Tuple es k pos) (eTup f) := by
  obtain ⟨t1, p1, r1⟩ := h
  refine ⟨_, pe_tup p1, fun ρ env st σ H Q s e h => ?_⟩
  refine r1 ρ env st σ H _ s e (h.split fun a st1 ρ1 H1 v g1 ra h1 => ?_)
  by_cases hz : a.length ≤ sizeLine
  · rw [if_pos hz] at h1
    refine ⟨by rw [← ra.length]; exact hz, fun p hp => ?_⟩
    have g := Go.fresh (u := .tup v) g1.sim hp
    exact h1 _ _ _ g (.tup (.inl (.inl upd_same)) (ra.mono g.pre g.ext))
  · rw [if_neg hz] at h1
    exact h1.elim
theorem me_lst {es : List Expr} {f : Ev (List D)} (h : MA X E es f) : ME X E (.List es pos) (eLst f) := by
  obtain ⟨t1, p1, r1⟩ := h
  refine ⟨_, pe_lst p1, fun ρ env st σ H Q s e h => ?_⟩
  refine r1 ρ env st σ H _ s e (h.split fun a st1 ρ1 H1 v g1 ra h1 => ?_)
  by_cases hz : a.length ≤ sizeLine
  · rw [if_pos hz] at h1
    refine ⟨by rw [← ra.length]; exact hz, fun p hp => ?_⟩
    obtain ⟨g, r⟩ := Go.lst g1.sim ra hp
    exact h1 _ _ _ g r
  · rw [if_neg hz] at h1
    exact h1.elim
end

/-! ### operators by values -/
abbrev G2 := D → D → Store → Res D
section
variable (K : PySem.W.Frag) (mg : Str → Option Value) (E : XK)
def Real2 (r : R2) (g : G2) : Prop := ∀ ρ st H x y a b Q, Sim K mg ρ st H → Rep K mg ρ H a x → Rep K mg ρ H b y → Post K mg (Rep K mg) E ρ H Q (g a b st) → r x y H Q
def Real1 (r : V → Hp → VK → Prop) (g : D → Store → Res D) : Prop := ∀ ρ st H x a Q, Sim K mg ρ st H → Rep K mg ρ H a x → Post K mg (Rep K mg) E ρ H Q (g a st) → r x H Q
def RealC (r : List V → Hp → VK → Prop) (g : List D → Store → Res D) : Prop := ∀ ρ st H xs as Q, Sim K mg ρ st H → Reps K mg ρ H as xs → Post K mg (Rep K mg) E ρ H Q (g as st) → r xs H Q
end
def eBin (g : G2) (fa fb : Ev D) : Ev D := fun env st => bindR (fa env st) fun x st1 => bindR (fb env st1) fun y st2 => g x y st2
def eUn (g : D → Store → Res D) (fa : Ev D) : Ev D := fun env st => bindR (fa env st) g
def eCall (g : List D → Store → Res D) (fa : Ev (List D)) : Ev D := fun env st => bindR (fa env st) g
section
variable {X : Cx} {E : XK} {pos : Pos} {a b : Expr} {fa fb : Ev D} {g : G2}
theorem Real.op {r : R2} {ta tb : TE} (ra : Real X.K X.mg (Rep X.K X.mg) E ta fa) (rb : Real X.K X.mg (Rep X.K X.mg) E tb fb) (hr : Real2 X.K X.mg E r g) : Real X.K X.mg (Rep X.K X.mg) E (tOp r ta tb) (eBin g fa fb) := fun ρ env st σ H Q s e h =>
  ra ρ env st σ H _ s e (h.split fun a st1 ρ1 H1 v g1 qa h1 => rb ρ1 env st1 σ H1 _ g1.sim (e.mono g1.pre g1.ext) (h1.split fun b st2 ρ2 H2 v2 g2 qb h2 => hr ρ2 st2 H2 _ _ _ _ Q g2.sim (qa.mono g2.pre g2.ext) qb h2))
theorem me_op {op : Operator} {r : R2} (ho : OpR X (binaryOp op) r) (hr : Real2 X.K X.mg E r g) (ha : ME X E a fa) (hb : ME X E b fb) : ME X E (.BinOp a op b pos) (eBin g fa fb) := by
  obtain ⟨t1, p1, r1⟩ := ha
  obtain ⟨t2, p2, r2⟩ := hb
  exact ⟨_, pe_op ho p1 p2, r1.op r2 hr⟩
theorem me_un {op : UnaryOp} {r : V → Hp → VK → Prop} {g : D → Store → Res D} (ho : UnR X (unaryOp op) r) (hr : Real1 X.K X.mg E r g) (ha : ME X E a fa) : ME X E (.UnaryOp op a pos) (eUn g fa) := by
  obtain ⟨t1, p1, r1⟩ := ha
  exact ⟨_, pe_un ho p1, fun ρ env st σ H Q s e h => r1 ρ env st σ H _ s e (h.split fun a st1 ρ1 H1 v g1 qa h1 => hr ρ1 st1 H1 v a Q g1.sim qa h1)⟩
theorem me_cmp {op : CmpOp} {r : R2} (ho : OpR X (compareOp op) r) (hr : Real2 X.K X.mg E r g) (ha : ME X E a fa) (hb : ME X E b fb) (hm : behindInMarks op b = false) : ME X E (.Compare a [op] [b] pos) (eBin g fa fb) := by
  obtain ⟨t1, p1, r1⟩ := ha
  obtain ⟨t2, p2, r2⟩ := hb
  exact ⟨_, pe_cmpR ho p1 p2 hm, r1.op r2 hr⟩
/-- a value that is a bool, as a test -/
def asB (f : Ev D) : Ev Bool := fun env st => bindR (f env st) fun d st1 => match d with
  | .bl b => .ok b st1
  | _ => .bad
theorem Real.test {t : TE} {f : Ev D} (r : Real X.K X.mg (Rep X.K X.mg) E t f) : Real X.K X.mg (REq Bool) E (tTest t) (asB f) := fun ρ env st σ H Q s e h =>
  r ρ env st σ H _ s e (h.split fun a st1 ρ1 H1 v g1 qa h1 => by
    cases a with
    | bl c => cases qa; exact ⟨c, rfl, h1.done g1.sim rfl⟩
    | _ => exact h1.elim)
theorem mt_cmp {op : CmpOp} {r : R2} (ho : OpR X (compareOp op) r) (hr : Real2 X.K X.mg E r g) (ha : ME X E a fa) (hb : ME X E b fb) (hm : behindInMarks op b = false) : MT X E (.Compare a [op] [b] pos) (asB (eBin g fa fb)) := by
  obtain ⟨t1, p1, r1⟩ := ha
  obtain ⟨t2, p2, r2⟩ := hb
  exact ⟨_, pt_cmpR ho p1 p2 hm, (r1.op r2 hr).test⟩
/-- any other expression, by its truth -/
def truD (st : Store) : D → Option Bool
  | .non => some false
  | .bl b => some b
  | .int i => some (i != 0)
  | .tup ds => some (!ds.isEmpty)
  | .ref n => match st[n]? with
    | some (.lst ds) => some (!ds.isEmpty)
    | some (.dct kvs) => some (!kvs.isEmpty)
    | _ => none
  | _ => none
def asT (f : Ev D) : Ev Bool := fun env st => bindR (f env st) fun d st1 => match truD st1 d with
  | some b => .ok b st1
  | none => .bad
end
end MP

namespace MP
open PySem PySem.Spec PyProof.Rows L2
section
variable {X : Cx} {E : XK} {pos : Pos} {a b : Expr} {fa fb : Ev D}

/-! ### tests -/
theorem truV_of {ρ : List Addr} {H : Hp} {st : Store} {d : D} {v : V} {b : Bool} (s : Sim X.K X.mg ρ st H) (r : Rep X.K X.mg ρ H d v) (h : truD st d = some b) : TruV X.K v H b := by
  cases r with
  | non => exact (Option.some.inj h).symm
  | bl c => exact (Option.some.inj h).symm
  | int i => exact (Option.some.inj h).symm
  | str x => cases h
  | fn _ => cases h
  | ty _ => cases h
  | scr _ => cases h
  | tup hs rs =>
    refine .inr (.inl ⟨_, hs, ?_⟩)
    rw [← Option.some.inj h]
    cases rs <;> rfl
  | @ref a n hr =>
    unfold truD at h
    cases q : st[n]? with
    | none => simp only [q] at h; cases h
    | some o =>
      obtain ⟨p, ho, e0, e1, e2, q2⟩ := s.get q (.ref hr)
      cases e0
      simp only [q] at h
      cases q2 with
      | lst rs =>
        refine .inl ⟨_, .inl (.inl e2), ?_⟩
        rw [← Option.some.inj h]
        cases rs <;> rfl
      | dct rs =>
        refine .inr (.inr ⟨_, e2, ?_⟩)
        rw [← Option.some.inj h]
        cases rs <;> rfl
      | ins _ _ => cases h
theorem mt_truth (ha : ME X E a fa) (he : ∀ whole, isTrue a X.env whole = (do let v ← whole; standAt a.pos; holding [v] (truthy v)) := by intro _; rfl) : MT X E a (asT fa) := by
  obtain ⟨t1, p1, r1⟩ := ha
  refine ⟨_, pt_truth p1 he, fun ρ env st σ H Q s e h => ?_⟩
  refine r1 ρ env st σ H _ s e (h.split fun a st1 ρ1 H1 v g1 qa h1 => ?_)
  cases q : truD st1 a with
  | none => rw [q] at h1; exact h1.elim
  | some b => rw [q] at h1; exact ⟨b, truV_of g1.sim qa q, h1.done g1.sim rfl⟩
def tNotM (f : Ev Bool) : Ev Bool := fun env st => bindR (f env st) fun b st1 => .ok (!b) st1
def tAndM (f g : Ev Bool) : Ev Bool := fun env st => bindR (f env st) fun b st1 => if b = true then g env st1 else .ok false st1
def tOrM (f g : Ev Bool) : Ev Bool := fun env st => bindR (f env st) fun b st1 => if b = true then .ok true st1 else g env st1
theorem mt_not {f : Ev Bool} (h : MT X E a f) : MT X E (.UnaryOp .Not a pos) (tNotM f) := by
  obtain ⟨t1, p1, r1⟩ := h
  refine ⟨_, pt_not p1, fun ρ env st σ H Q s e h => ?_⟩
  exact r1 ρ env st σ H _ s e (h.split fun b st1 ρ1 H1 v g1 qa h1 => by cases qa; exact h1.done g1.sim rfl)
theorem mw_one_and {f : Ev Bool} (h : MT X E a f) : MW X E (.BoolOp .And [a] pos) f := by
  obtain ⟨t1, p1, r1⟩ := h
  exact ⟨_, pw_and1 p1, r1⟩
theorem mw_one_or {f : Ev Bool} (h : MT X E a f) : MW X E (.BoolOp .Or [a] pos) f := by
  obtain ⟨t1, p1, r1⟩ := h
  exact ⟨_, pw_or1 p1, r1⟩
theorem mw_and {f g : Ev Bool} {rest : List Expr} (h : MT X E a f) (h2 : MW X E (.BoolOp .And (b :: rest) pos) g) : MW X E (.BoolOp .And (a :: b :: rest) pos) (tAndM f g) := by
  obtain ⟨t1, p1, r1⟩ := h
  obtain ⟨t2, p2, r2⟩ := h2
  refine ⟨_, pw_and p1 p2, fun ρ env st σ H Q s e h => ?_⟩
  refine r1 ρ env st σ H _ s e (h.split fun b st1 ρ1 H1 v g1 qa h1 => ?_)
  cases qa
  cases b with
  | true => exact r2 ρ1 env st1 σ H1 Q g1.sim (e.mono g1.pre g1.ext) h1
  | false => exact h1.done g1.sim rfl
theorem mw_or {f g : Ev Bool} {rest : List Expr} (h : MT X E a f) (h2 : MW X E (.BoolOp .Or (b :: rest) pos) g) : MW X E (.BoolOp .Or (a :: b :: rest) pos) (tOrM f g) := by
  obtain ⟨t1, p1, r1⟩ := h
  obtain ⟨t2, p2, r2⟩ := h2
  refine ⟨_, pw_or p1 p2, fun ρ env st σ H Q s e h => ?_⟩
  refine r1 ρ env st σ H _ s e (h.split fun b st1 ρ1 H1 v g1 qa h1 => ?_)
  cases qa
  cases b with
  | false => exact r2 ρ1 env st1 σ H1 Q g1.sim (e.mono g1.pre g1.ext) h1
  | true => exact h1.done g1.sim rfl
theorem MW.mt {f : Ev Bool} (h : MW X E a f) : MT X E a f := let ⟨t, p, r⟩ := h; ⟨t, p.pt, r⟩

/-! ### and, or, not as values -/
def eNot (f : Ev D) : Ev D := fun env st => bindR (f env st) fun d st1 => match truD st1 d with
  | some b => .ok (.bl (!b)) st1
  | none => .bad
def eAnd (f g : Ev D) : Ev D := fun env st => bindR (f env st) fun d st1 => match truD st1 d with
  | some true => g env st1
  | some false => .ok d st1
  | none => .bad
def eOr (f g : Ev D) : Ev D := fun env st => bindR (f env st) fun d st1 => match truD st1 d with
  | some true => .ok d st1
  | some false => g env st1
  | none => .bad
theorem me_not (ha : ME X E a fa) : ME X E (.UnaryOp .Not a pos) (eNot fa) := by
  obtain ⟨t1, p1, r1⟩ := ha
  refine ⟨_, pe_notT p1, fun ρ env st σ H Q s e h => ?_⟩
  refine r1 ρ env st σ H _ s e (h.split fun a st1 ρ1 H1 v g1 qa h1 => ?_)
  cases q : truD st1 a with
  | none => rw [q] at h1; exact h1.elim
  | some b => rw [q] at h1; exact ⟨b, truV_of g1.sim qa q, h1.done g1.sim (.bl _)⟩
theorem me_bone {op} (ha : ME X E a fa) : ME X E (.BoolOp op [a] pos) fa := let ⟨t, p, r⟩ := ha; ⟨t, pe_one p, r⟩
theorem me_and {rest : List Expr} (ha : ME X E a fa) (hb : ME X E (.BoolOp .And (b :: rest) pos) fb) : ME X E (.BoolOp .And (a :: b :: rest) pos) (eAnd fa fb) := by
  obtain ⟨t1, p1, r1⟩ := ha
  obtain ⟨t2, p2, r2⟩ := hb
  refine ⟨_, pe_andT p1 p2, fun ρ env st σ H Q s e h => ?_⟩
  refine r1 ρ env st σ H _ s e (h.split fun a st1 ρ1 H1 v g1 qa h1 => ?_)
  cases q : truD st1 a with
  | none => rw [q] at h1; exact h1.elim
  | some b =>
    rw [q] at h1
    refine ⟨b, truV_of g1.sim qa q, ?_⟩
    cases b with
    | true => exact r2 ρ1 env st1 σ H1 Q g1.sim (e.mono g1.pre g1.ext) h1
    | false => exact h1.done g1.sim qa
theorem me_or {rest : List Expr} (ha : ME X E a fa) (hb : ME X E (.BoolOp .Or (b :: rest) pos) fb) : ME X E (.BoolOp .Or (a :: b :: rest) pos) (eOr fa fb) := by
  obtain ⟨t1, p1, r1⟩ := ha
  obtain ⟨t2, p2, r2⟩ := hb
  refine ⟨_, pe_orT p1 p2, fun ρ env st σ H Q s e h => ?_⟩
  refine r1 ρ env st σ H _ s e (h.split fun a st1 ρ1 H1 v g1 qa h1 => ?_)
  cases q : truD st1 a with
  | none => rw [q] at h1; exact h1.elim
  | some b =>
    rw [q] at h1
    refine ⟨b, truV_of g1.sim qa q, ?_⟩
    cases b with
    | false => exact r2 ρ1 env st1 σ H1 Q g1.sim (e.mono g1.pre g1.ext) h1
    | true => exact h1.done g1.sim qa
def eIf (c : Ev Bool) (f g : Ev D) : Ev D := fun env st => bindR (c env st) fun b st1 => if b = true then f env st1 else g env st1
theorem me_ifExp {c : Expr} {fc : Ev Bool} (hc : MT X E c fc) (ha : ME X E a fa) (hb : ME X E b fb) : ME X E (.IfExp c a b pos) (eIf fc fa fb) := by
  obtain ⟨t0, p0, r0⟩ := hc
  obtain ⟨t1, p1, r1⟩ := ha
  obtain ⟨t2, p2, r2⟩ := hb
  refine ⟨_, pe_ifExp p0 p1 p2, fun ρ env st σ H Q s e h => ?_⟩
  refine r0 ρ env st σ H _ s e (h.split fun b st1 ρ1 H1 v g1 qa h1 => ?_)
  cases qa
  cases b with
  | true => exact r1 ρ1 env st1 σ H1 Q g1.sim (e.mono g1.pre g1.ext) h1
  | false => exact r2 ρ1 env st1 σ H1 Q g1.sim (e.mono g1.pre g1.ext) h1
/-- a < b < c -/
def eChain (g1 g2 : G2) (fa fb fc : Ev D) : Ev D := fun env st => bindR (fa env st) fun x st1 => bindR (fb env st1) fun y st2 => bindR (g1 x y st2) fun z st3 => match z with
  | .bl true => bindR (fc env st3) fun u st4 => g2 y u st4
  | .bl false => .ok (.bl false) st3
  | _ => .bad
end

/-! ### the operators -/
section
variable {K : PySem.W.Frag} {mg : Str → Option Value} {E : XK}
theorem Real2.or {r r' : R2} {g : G2} (h : ∀ ρ st H x y a b Q, Sim K mg ρ st H → Rep K mg ρ H a x → Rep K mg ρ H b y → Post K mg (Rep K mg) E ρ H Q (g a b st) → r x y H Q ∨ r' x y H Q) :
    Real2 K mg E (fun x y H Q => r x y H Q ∨ r' x y H Q) g := h
def gII (c : Int → Int → Prop) [∀ i j, Decidable (c i j)] (f : Int → Int → D) : G2 := fun x y st => match x, y with
  | .int i, .int j => if c i j then .ok (f i j) st else .bad
  | _, _ => .bad
instance (i j : Int) : Decidable (CDiv i j) := by unfold CDiv; infer_instance
instance (i j : Int) : Decidable (CMul i j) := by unfold CMul; infer_instance
instance (i j : Int) : Decidable (CPow i j) := by unfold CPow; infer_instance
theorem real_II {c : Int → Int → Prop} [∀ i j, Decidable (c i j)] {f : Int → Int → D} {fv : Int → Int → V} (hf : ∀ i j ρ H, Rep K mg ρ H (f i j) (fv i j)) : Real2 K mg E (rI c fv) (gII c f) := by
  intro ρ st H x y a b Q s ra rb h
  cases ra with
  | int i =>
    cases rb with
    | int j =>
      by_cases hc : c i j
      · simp only [gII, if_pos hc] at h
        exact ⟨i, j, rfl, rfl, hc, h.done s (hf i j ρ H)⟩
      · simp only [gII, if_neg hc] at h
        exact h.elim
    | _ => exact h.elim
  | _ => exact h.elim
def gSub : G2 := fun x y st => match x, y with
  | .int i, .int j => .ok (.int (i - j)) st
  | _, _ => .bad
theorem real_sub : Real2 K mg E (rI0 fun i j => .int (i - j)) gSub := by
  intro ρ st H x y a b Q s ra rb h
  cases ra with
  | int i =>
    cases rb with
    | int j => exact ⟨i, j, rfl, rfl, h.done s (.int _)⟩
    | _ => exact h.elim
  | _ => exact h.elim
def gMul : G2 := gII CMul fun i j => .int (i * j)
def gDiv : G2 := gII CDiv fun i j => .int (i / j)
def gMod : G2 := gII (fun _ j => 0 < j) fun i j => .int (i % j)
def gPow : G2 := gII CPow fun i j => .int (i ^ j.toNat)
theorem real_mul : Real2 K mg E (rI CMul fun i j => .int (i * j)) gMul := real_II fun _ _ _ _ => .int _
theorem real_div : Real2 K mg E (rI CDiv fun i j => .int (i / j)) gDiv := real_II fun _ _ _ _ => .int _
theorem real_mod : Real2 K mg E (rI (fun _ j => 0 < j) fun i j => .int (i % j)) gMod := real_II fun _ _ _ _ => .int _
theorem real_pow : Real2 K mg E (rI CPow fun i j => .int (i ^ j.toNat)) gPow := real_II fun _ _ _ _ => .int _
/-- + of ints, texts, tuples, lists -/
def gAdd : G2 := fun x y st => match x, y with
  | .int i, .int j => .ok (.int (i + j)) st
  | .str i, .str j => if i.length + j.length ≤ sizeLine then .ok (.str (i ++ j)) st else .bad
  | .tup i, .tup j => if i.length + j.length ≤ sizeLine then .ok (.tup (i ++ j)) st else .bad
  | .ref n, .ref m => match st[n]?, st[m]? with
    | some (.lst i), some (.lst j) => if i.length + j.length ≤ sizeLine then .ok (.ref st.length) (st ++ [.lst (i ++ j)]) else .bad
    | _, _ => .bad
  | _, _ => .bad
abbrev rAddA (K : PySem.W.Frag) : R2 := fun x y H Q => rI0 (fun i j => .int (i + j)) x y H Q ∨ ((∃ i j, x = .str i ∧ y = .str j ∧ i.length + j.length ≤ sizeLine ∧ Q (.str (i ++ j)) H) ∨ (rCatA K x y H Q ∨ rCat x y H Q))
theorem op_addA {X : Cx} : OpR X (binaryOp .Add) (rAddA X.K) := op_add.or (op_add_str.or (op_catA.or op_cat))
theorem real_add : Real2 K mg E (rAddA K) gAdd := by
  intro ρ st H x y a b Q s ra rb h
  cases ra with
  | int i =>
    cases rb with
    | int j => exact .inl ⟨i, j, rfl, rfl, h.done s (.int _)⟩
    | _ => exact h.elim
  | str i =>
    cases rb with
    | str j =>
      by_cases hz : i.length + j.length ≤ sizeLine
      · simp only [gAdd, if_pos hz] at h
        exact .inr (.inl ⟨i, j, rfl, rfl, hz, h.done s (.str _)⟩)
      · simp only [gAdd, if_neg hz] at h
        exact h.elim
    | _ => exact h.elim
  | @tup p xs ds hp rp =>
    cases rb with
    | @tup q ys es hq rq =>
      by_cases hz : ds.length + es.length ≤ sizeLine
      · simp only [gAdd, if_pos hz] at h
        refine .inr (.inr (.inl ⟨p, q, xs, ys, rfl, rfl, hp, hq, by rw [← rp.length, ← rq.length]; exact hz, fun e => ?_, fun _ e => ?_, fun _ _ c hc => ?_⟩))
        · subst e
          cases rp
          exact h.done s (.tup hq rq)
        · subst e
          cases rq
          exact h.done s (by rw [List.append_nil]; exact .tup hp rp)
        · have g := Go.fresh (u := .tup (xs ++ ys)) s hc
          exact h _ _ _ g (.tup (.inl (.inl upd_same)) ((rp.append rq).mono g.pre g.ext))
      · simp only [gAdd, if_neg hz] at h
        exact h.elim
    | _ => exact h.elim
  | @ref p n hn =>
    cases rb with
    | @ref q m hm =>
      cases e1 : st[n]? with
      | none => simp only [gAdd, e1] at h; exact h.elim
      | some o1 =>
        cases e2 : st[m]? with
        | none => cases o1 <;> (simp only [gAdd, e1, e2] at h; exact h.elim)
        | some o2 =>
          obtain ⟨_, ho1, z1, w1, u1, q1⟩ := s.get e1 (.ref hn)
          obtain ⟨_, ho2, z2, w2, u2, q2⟩ := s.get e2 (.ref hm)
          cases z1
          cases z2
          cases q1 with
          | @lst ds xs r1 =>
            cases q2 with
            | @lst es ys r2 =>
              by_cases hz : ds.length + es.length ≤ sizeLine
              · simp only [gAdd, e1, e2, if_pos hz] at h
                refine .inr (.inr (.inr ⟨p, q, xs, ys, rfl, rfl, u1, u2, by rw [← r1.length, ← r2.length]; exact hz, fun c hc => ?_⟩))
                obtain ⟨g, r⟩ := Go.lst s (r1.append r2) hc
                exact h _ _ _ g r
              · simp only [gAdd, e1, e2, if_neg hz] at h
                exact h.elim
            | _ => simp only [gAdd, e1, e2] at h; exact h.elim
          | _ => simp only [gAdd, e1, e2] at h; exact h.elim
    | _ => exact h.elim
  | _ => exact h.elim
def gNeg : D → Store → Res D := fun x st => match x with
  | .int i => .ok (.int (-i)) st
  | _ => .bad
theorem real_neg : Real1 K mg E (rU fun i => .int (-i)) gNeg := by
  intro ρ st H x a Q s ra h
  cases ra with
  | int i => exact ⟨i, rfl, h.done s (.int _)⟩
  | _ => exact h.elim
def gCmp (f : Int → Int → Bool) : G2 := fun x y st => match x, y with
  | .int i, .int j => .ok (.bl (f i j)) st
  | _, _ => .bad
theorem real_cmp {f : Int → Int → Bool} : Real2 K mg E (rI0 fun i j => .bl (f i j)) (gCmp f) := by
  intro ρ st H x y a b Q s ra rb h
  cases ra with
  | int i =>
    cases rb with
    | int j => exact ⟨i, j, rfl, rfl, h.done s (.bl _)⟩
    | _ => exact h.elim
  | _ => exact h.elim
/-- is None -/
def gIsN (neg : Bool) : G2 := fun x y st => match y with
  | .non => match x with
    | .non => .ok (.bl (!neg)) st
    | _ => .ok (.bl neg) st
  | _ => .bad
theorem real_isN : Real2 K mg E (fun x y H Q => y = .non ∧ Q (.bl (decide (x = .non))) H) (gIsN false) := by
  intro ρ st H x y a b Q s ra rb h
  cases rb with
  | non => cases ra <;> exact ⟨rfl, h.done s (.bl _)⟩
  | _ => exact h.elim
theorem real_notN : Real2 K mg E (fun x y H Q => y = .non ∧ Q (.bl (!decide (x = .non))) H) (gIsN true) := by
  intro ρ st H x y a b Q s ra rb h
  cases rb with
  | non => cases ra <;> exact ⟨rfl, h.done s (.bl _)⟩
  | _ => exact h.elim
end

/-! ### == -/
/-- as plain data; n: how deep -/
def toP (st : Store) : Nat → D → Option PyData
  | _, .non => some .none
  | _, .bl b => some (.bool b)
  | _, .int i => some (.int i)
  | _, .str x => some (.str x)
  | n + 1, .tup ds => (ds.mapM (toP st n)).map .tuple
  | n + 1, .ref k => match st[k]? with
    | some (.lst ds) => (ds.mapM (toP st n)).map .list
    | _ => none
  | _, _ => none
section
variable {K : PySem.W.Frag} {mg : Str → Option Value} {E : XK} {ρ : List Addr} {H : Hp} {st : Store}
theorem toPs_of {n : Nat} (ih : ∀ (d : D) (v : V) (p : PyData), Rep K mg ρ H d v → toP st n d = some p → Dp K H v p) : ∀ {ds : List D} {vs : List V} {ps : List PyData}, Reps K mg ρ H ds vs → ds.mapM (toP st n) = some ps → DpAll K H vs ps
  | _, _, ps, .nil, h => by
    simp at h
    subst h
    exact .nil
  | _, _, ps, .cons (d := d) (ds := ds) r t, h => by
    rw [List.mapM_cons] at h
    cases e : toP st n d with
    | none => rw [e] at h; cases h
    | some p =>
      cases e2 : ds.mapM (toP st n) with
      | none => rw [e, e2] at h; cases h
      | some qs =>
        rw [e, e2] at h
        cases h
        exact .cons (ih _ _ _ r e) (toPs_of ih t e2)
theorem toP_of (s : Sim K mg ρ st H) : ∀ (n : Nat) (d : D) (v : V) (p : PyData), Rep K mg ρ H d v → toP st n d = some p → Dp K H v p
  | n, _, _, _, .non, h => by unfold toP at h; cases h; exact .non
  | n, _, _, _, .bl b, h => by unfold toP at h; cases h; exact .bl b
  | n, _, _, _, .int b, h => by unfold toP at h; cases h; exact .int b
  | n, _, _, _, .str b, h => by unfold toP at h; cases h; exact .str b
  | 0, _, _, _, .tup _ _, h => by unfold toP at h; cases h
  | 0, _, _, _, .ref _, h => by unfold toP at h; cases h
  | n + 1, _, _, _, .tup (ds := ds) hs rs, h => by
    unfold toP at h
    cases e : ds.mapM (toP st n) with
    | none => rw [e] at h; cases h
    | some ps =>
      rw [e] at h
      cases h
      exact .tup hs (toPs_of (toP_of s n) rs e)
  | n + 1, _, _, _, .ref (n := k) hk, h => by
    unfold toP at h
    cases e : st[k]? with
    | none => simp only [e] at h; cases h
    | some o =>
      obtain ⟨p, ho, e0, e1, e2, q⟩ := s.get e (.ref hk)
      cases e0
      cases q with
      | @lst ds xs rs =>
        simp only [e] at h
        cases e3 : ds.mapM (toP st n) with
        | none => rw [e3] at h; cases h
        | some ps =>
          rw [e3] at h
          cases h
          exact .lst (.inl (.inl e2)) (toPs_of (toP_of s n) rs e3)
      | _ => simp only [e] at h; cases h
  | 0, _, _, _, .fn _, h => by unfold toP at h; cases h
  | 0, _, _, _, .ty _, h => by unfold toP at h; cases h
  | n + 1, _, _, _, .fn _, h => by unfold toP at h; cases h
  | n + 1, _, _, _, .ty _, h => by unfold toP at h; cases h
  | 0, _, _, _, .scr _, h => by unfold toP at h; cases h
  | n + 1, _, _, _, .scr _, h => by unfold toP at h; cases h
/-- == by the data -/
def deepEq (st : Store) (x y : D) : Option Bool := match toP st 64 x, toP st 64 y with
  | some p, some q => if SeqAt.shaped p = true ∧ SeqAt.shaped q = true then some (PyData.eqv p q) else none
  | _, _ => none
def eqD (st : Store) : D → D → Option Bool
  | .int i, .int j => some (decide (i = j))
  | .str i, .str j => some (decide (i = j))
  | .bl i, .bl j => some (decide (i = j))
  | .non, .non => some true
  | .int _, .str _ => some false
  | .str _, .int _ => some false
  | x, y => deepEq st x y
def gEq (neg : Bool) : G2 := fun x y st => match eqD st x y with
  | some b => .ok (.bl (b ^^ neg)) st
  | none => .bad
abbrev rEqA (K : PySem.W.Frag) : R2 := fun x y H Q => rEq x y H Q ∨ rEqD K x y H Q
abbrev rNeA (K : PySem.W.Frag) : R2 := fun x y H Q => rNe x y H Q ∨ rNeD K x y H Q
theorem op_eqA {X : Cx} (hu : X.A.units + 64 < cLine) : OpR X (compareOp .Eq) (rEqA X.K) := op_eq.or (op_eqD hu)
theorem op_neA {X : Cx} (hu : X.A.units + 64 < cLine) : OpR X (compareOp .NotEq) (rNeA X.K) := op_ne.or (op_neD hu)
theorem eqD_cases {x y : D} {v u : V} {b : Bool} (s : Sim K mg ρ st H) (rx : Rep K mg ρ H x v) (ry : Rep K mg ρ H y u) (h : eqD st x y = some b) :
    (scal v u = true ∧ b = decide (v = u)) ∨ ∃ p q, Dp K H v p ∧ Dp K H u q ∧ SeqAt.shaped p = true ∧ SeqAt.shaped q = true ∧ b = PyData.eqv p q := by
  have deep : deepEq st x y = some b → ∃ p q, Dp K H v p ∧ Dp K H u q ∧ SeqAt.shaped p = true ∧ SeqAt.shaped q = true ∧ b = PyData.eqv p q := fun h => by
    unfold deepEq at h
    cases e1 : toP st 64 x with
    | none => simp only [e1] at h; cases h
    | some p =>
      cases e2 : toP st 64 y with
      | none => simp only [e1, e2] at h; cases h
      | some q =>
        simp only [e1, e2] at h
        by_cases hs : SeqAt.shaped p = true ∧ SeqAt.shaped q = true
        · rw [if_pos hs] at h
          cases h
          exact ⟨p, q, toP_of s _ _ _ _ rx e1, toP_of s _ _ _ _ ry e2, hs.1, hs.2, rfl⟩
        · rw [if_neg hs] at h
          cases h
  cases rx <;> cases ry <;> first
    | exact .inr (deep h)
    | (refine .inl ⟨rfl, ?_⟩; rw [← Option.some.inj h]; simp)
theorem real_eq : Real2 K mg E (rEqA K) (gEq false) := by
  intro ρ st H x y a b Q s ra rb h
  unfold gEq at h
  cases e : eqD st a b with
  | none => simp only [e] at h; exact h.elim
  | some c =>
    simp only [e, Bool.xor_false] at h
    rcases eqD_cases s ra rb e with ⟨h1, h2⟩ | ⟨p, q, h1, h2, h3, h4, h5⟩
    · subst h2
      exact .inl ⟨h1, h.done s (.bl _)⟩
    · subst h5
      exact .inr ⟨p, q, h1, h2, h3, h4, h.done s (.bl _)⟩
theorem real_ne : Real2 K mg E (rNeA K) (gEq true) := by
  intro ρ st H x y a b Q s ra rb h
  unfold gEq at h
  cases e : eqD st a b with
  | none => simp only [e] at h; exact h.elim
  | some c =>
    simp only [e, Bool.xor_true] at h
    rcases eqD_cases s ra rb e with ⟨h1, h2⟩ | ⟨p, q, h1, h2, h3, h4, h5⟩
    · subst h2
      exact .inl ⟨h1, h.done s (.bl _)⟩
    · subst h5
      exact .inr ⟨p, q, h1, h2, h3, h4, h.done s (.bl _)⟩
end
end MP

namespace MP
open PySem PySem.Spec PyProof.Rows L2

/-! ### in -/
def flat : D → Option V
  | .non => some .non
  | .bl b => some (.bl b)
  | .int i => some (.int i)
  | .str x => some (.str x)
  | _ => none
/-- the items of a tuple or a list -/
def itemsOf (st : Store) : D → Option (List D)
  | .tup ds => some ds
  | .scr ns => some (ns.map D.int)
  | .ref n => match st[n]? with
    | some (.lst ds) => some ds
    | _ => none
  | _ => none
def inFlat (x : D) (ds : List D) : Option Bool := match flat x, ds.mapM flat with
  | some v, some vs => some (inV v vs)
  | _, _ => none
def inDeep (st : Store) (x y : D) : Option Bool := match toP st 64 x, toP st 64 y with
  | some p, some (.list qs) => if SeqAt.shaped p = true ∧ SeqAt.shaped (.list qs) = true then some (qs.any fun z => PyData.eqv z p) else none
  | _, _ => none
def inD (st : Store) (x y : D) : Option Bool := match itemsOf st y with
  | some ds => match inFlat x ds with
    | some b => some b
    | none => inDeep st x y
  | none => none
def gIn (neg : Bool) : G2 := fun x y st => match inD st x y with
  | some b => .ok (.bl (b ^^ neg)) st
  | none => .bad
section
variable {K : PySem.W.Frag} {mg : Str → Option Value} {E : XK} {ρ : List Addr} {H : Hp} {st : Store}
theorem flat_of {d : D} {v u : V} (r : Rep K mg ρ H d v) (h : flat d = some u) : v = u ∧ flatV v = true := by
  cases r <;> first
    | exact ⟨Option.some.inj h, rfl⟩
    | cases h
theorem flats_of : ∀ {ds : List D} {vs us : List V}, Reps K mg ρ H ds vs → ds.mapM flat = some us → vs = us ∧ vs.all flatV = true
  | _, _, us, .nil, h => by simp at h; subst h; exact ⟨rfl, rfl⟩
  | _, _, us, .cons (d := d) (ds := ds) r t, h => by
    rw [List.mapM_cons] at h
    cases e : flat d with
    | none => rw [e] at h; cases h
    | some u =>
      cases e2 : ds.mapM flat with
      | none => rw [e, e2] at h; cases h
      | some ws =>
        rw [e, e2] at h
        cases h
        obtain ⟨h1, h2⟩ := flat_of r e
        obtain ⟨h3, h4⟩ := flats_of t e2
        subst h1 h3
        exact ⟨rfl, by rw [List.all_cons, h2, h4]; rfl⟩
theorem items_of {d : D} {v : V} {ds : List D} (s : Sim K mg ρ st H) (r : Rep K mg ρ H d v) (h : itemsOf st d = some ds) : ∃ p xs, v = .ref p ∧ Reps K mg ρ H ds xs ∧ ((∃ es, d = .tup es ∧ SqT K H p xs) ∨ SqL K H p xs) := by
  cases r with
  | @tup p xs es hs rs => cases h; exact ⟨p, xs, rfl, rs, .inl ⟨_, rfl, hs⟩⟩
  | @scr p ns hs => cases h; exact ⟨p, _, rfl, reps_ints ns, .inr hs.seq⟩
  | @ref p n hn =>
    unfold itemsOf at h
    cases e : st[n]? with
    | none => simp only [e] at h; cases h
    | some o =>
      obtain ⟨q, ho, e0, e1, e2, q2⟩ := s.get e (.ref hn)
      cases e0
      cases q2 with
      | @lst ds' xs rs => simp only [e] at h; cases h; exact ⟨p, xs, rfl, rs, .inr (.inl (.inl e2))⟩
      | _ => simp only [e] at h; cases h
  | _ => cases h
theorem inD_cases {x y : D} {v u : V} {b : Bool} (s : Sim K mg ρ st H) (rx : Rep K mg ρ H x v) (ry : Rep K mg ρ H y u) (h : inD st x y = some b) :
    (∃ p xs, u = .ref p ∧ (SqL K H p xs ∨ SqT K H p xs) ∧ flatV v = true ∧ xs.all flatV = true ∧ b = inV v xs) ∨
    ∃ d ds, Dp K H v d ∧ Dp K H u (.list ds) ∧ SeqAt.shaped d = true ∧ SeqAt.shaped (.list ds) = true ∧ b = ds.any fun z => PyData.eqv z d := by
  unfold inD at h
  cases e : itemsOf st y with
  | none => simp only [e] at h; cases h
  | some ds =>
    simp only [e] at h
    cases e2 : inFlat x ds with
    | none =>
      simp only [e2] at h
      unfold inDeep at h
      cases e3 : toP st 64 x with
      | none => simp only [e3] at h; cases h
      | some p =>
        cases e4 : toP st 64 y with
        | none => simp only [e3, e4] at h; cases h
        | some q =>
          cases q with
          | list qs =>
            simp only [e3, e4] at h
            by_cases hs : SeqAt.shaped p = true ∧ SeqAt.shaped (.list qs) = true
            · rw [if_pos hs] at h
              cases h
              exact .inr ⟨p, qs, toP_of s _ _ _ _ rx e3, toP_of s _ _ _ _ ry e4, hs.1, hs.2, rfl⟩
            · rw [if_neg hs] at h
              cases h
          | _ => simp only [e3, e4] at h; cases h
    | some c =>
      simp only [e2] at h
      cases h
      unfold inFlat at e2
      cases e3 : flat x with
      | none => simp only [e3] at e2; cases e2
      | some v' =>
        cases e4 : ds.mapM flat with
        | none => simp only [e3, e4] at e2; cases e2
        | some vs =>
          simp only [e3, e4] at e2
          cases e2
          obtain ⟨h1, h2⟩ := flat_of rx e3
          subst h1
          obtain ⟨p, xs, rfl, rs, hs⟩ := items_of s ry e
          obtain ⟨h3, h4⟩ := flats_of rs e4
          subst h3
          refine .inl ⟨p, xs, rfl, ?_, h2, h4, rfl⟩
          rcases hs with ⟨es, _, hs⟩ | hs
          · exact .inr hs
          · exact .inl hs
abbrev rInA (K : PySem.W.Frag) : R2 := fun x y H Q => rIn K false x y H Q ∨ rInD K x y H Q
abbrev rNotInA (K : PySem.W.Frag) : R2 := fun x y H Q => rIn K true x y H Q ∨ rNotInD K x y H Q
theorem op_inA {X : Cx} (hu : X.A.units + 65 < cLine) : OpR X (compareOp .In) (rInA X.K) := op_in_seq.or (op_inD hu)
theorem op_notInA {X : Cx} (hu : X.A.units + 65 < cLine) : OpR X (compareOp .NotIn) (rNotInA X.K) := op_notIn_seq.or (op_notInD hu)
theorem real_in : Real2 K mg E (rInA K) (gIn false) := by
  intro ρ st H x y a b Q s ra rb h
  unfold gIn at h
  cases e : inD st a b with
  | none => simp only [e] at h; exact h.elim
  | some c =>
    simp only [e, Bool.xor_false] at h
    rcases inD_cases s ra rb e with ⟨p, xs, h1, h2, h3, h4, h5⟩ | ⟨d, ds, h1, h2, h3, h4, h5⟩
    · subst h5
      exact .inl ⟨p, xs, h1, h2, h3, h4, h.done s (.bl _)⟩
    · subst h5
      exact .inr ⟨d, ds, h1, h2, h3, h4, h.done s (.bl _)⟩
theorem real_notIn : Real2 K mg E (rNotInA K) (gIn true) := by
  intro ρ st H x y a b Q s ra rb h
  unfold gIn at h
  cases e : inD st a b with
  | none => simp only [e] at h; exact h.elim
  | some c =>
    simp only [e, Bool.xor_true] at h
    rcases inD_cases s ra rb e with ⟨p, xs, h1, h2, h3, h4, h5⟩ | ⟨d, ds, h1, h2, h3, h4, h5⟩
    · subst h5
      exact .inl ⟨p, xs, h1, h2, h3, h4, h.done s (.bl _)⟩
    · subst h5
      exact .inr ⟨d, ds, h1, h2, h3, h4, h.done s (.bl _)⟩

/-! ### items -/
def ixSeq (st : Store) (i : Int) : Option (List D) → Res D
  | some ds => match atI ds i with
    | some d => .ok d st
    | none => .bad
  | none => .bad
def gIx : G2 := fun x y st => match y with
  | .int i => match x with
    | .str z => if z.length ≤ sizeLine then match atI z.cps.toList i with
        | some c => .ok (.str ⟨#[c]⟩) st
        | none => .bad
      else .bad
    | x => ixSeq st i (itemsOf st x)
  | _ => .bad
theorem reps_at {ds : List D} {xs : List V} {i : Int} {d : D} (r : Reps K mg ρ H ds xs) (h : atI ds i = some d) : ∃ v, atI xs i = some v ∧ Rep K mg ρ H d v := by
  unfold atI at h ⊢
  rw [← r.length]
  cases e : ixN ds.length i with
  | none => rw [e] at h; cases h
  | some j =>
    rw [e] at h
    obtain ⟨v, h1, h2⟩ := r.get (i := j) h
    exact ⟨v, h1, h2⟩
theorem real_ix : Real2 K mg E (rIx K) gIx := by
  intro ρ st H x y a b Q s ra rb h
  cases rb with
  | int i =>
    have seq : ∀ {a : D}, Rep K mg ρ H a x → Post K mg (Rep K mg) E ρ H Q (ixSeq st i (itemsOf st a)) → rIx K x (.int i) H Q := fun {a} ra h => by
      cases e : itemsOf st a with
      | none => simp only [e, ixSeq] at h; exact h.elim
      | some ds =>
        obtain ⟨p, xs, rfl, rs, hs⟩ := items_of s ra e
        simp only [e, ixSeq] at h
        cases e2 : atI ds i with
        | none => simp only [e2] at h; exact h.elim
        | some d =>
          simp only [e2] at h
          obtain ⟨v, h1, h2⟩ := reps_at rs e2
          rcases hs with ⟨es, _, hs⟩ | hs
          · exact .inr (.inl ⟨p, xs, i, v, rfl, rfl, hs, h1, h.done s h2⟩)
          · exact .inl ⟨p, xs, i, v, rfl, rfl, hs, h1, h.done s h2⟩
    cases a with
    | str z =>
      cases ra
      simp only [gIx] at h
      by_cases hz : z.length ≤ sizeLine
      · rw [if_pos hz] at h
        cases e : atI z.cps.toList i with
        | none => simp only [e] at h; exact h.elim
        | some c =>
          simp only [e] at h
          exact .inr (.inr ⟨z, i, c, rfl, rfl, hz, e, h.done s (.str _)⟩)
      · rw [if_neg hz] at h
        exact h.elim
    | _ => exact seq ra h
  | _ => exact h.elim
theorem me_ix {X : Cx} {pos : Pos} {a b : Expr} {fa fb : Ev D} (ha : ME X E a fa) (hb : ME X E b fb) (hs : PlainIx b := by exact fun _ _ => rfl) : ME X E (.Subscript a b pos) (eBin gIx fa fb) := by
  obtain ⟨t1, p1, r1⟩ := ha
  obtain ⟨t2, p2, r2⟩ := hb
  exact ⟨_, pe_ix ix_seq p1 p2 hs, r1.op r2 real_ix⟩

/-! ### built-in calls -/
theorem me_callB {X : Cx} {pos p : Pos} {x : Str} {id : String} {e : Expr} {es : List Expr} {r : List V → Hp → VK → Prop} {g : List D → Store → Res D} {f : Ev (List D)} (hc : CallR X (.builtin id) r) (hr : RealC X.K X.mg E r g) (hm : X.mg x = none) (hv : bootBuiltins x = some (.builtin id)) (ha : MA X E (e :: es) f) (hg : Gl X x := by rfl) (hn : x ≠ "__name__" := by decide) (hdb : (x == ("__debug__" : Str)) = false := by decide)
    (he : starEach (e :: es) X.env = (false, eval e X.env) :: starEach es X.env := by rfl) (hpl : (backTo pos (starEach es X.env)).any (·.1) = false := by rfl) : ME X E (.Call (.Name x p) (e :: es) [] pos) (eCall g f) := by
  obtain ⟨t, pa, ra⟩ := ha
  exact ⟨_, pe_callB hc hg hm hv pa hn hdb he hpl, fun ρ env st σ H Q s e h => ra ρ env st σ H _ s e (h.split fun a st1 ρ1 H1 v g1 qa h1 => hr ρ1 st1 H1 v a Q g1.sim qa h1)⟩
theorem me_callTy {X : Cx} {pos p : Pos} {x : Str} {T : String} {e : Expr} {es : List Expr} {r : List V → Hp → VK → Prop} {g : List D → Store → Res D} {f : Ev (List D)} (hc : CallR X (.type T) r) (hr : RealC X.K X.mg E r g) (hm : X.mg x = none) (hv : bootBuiltins x = some (.type T)) (ha : MA X E (e :: es) f) (hg : Gl X x := by rfl) (hn : x ≠ "__name__" := by decide) (hdb : (x == ("__debug__" : Str)) = false := by decide)
    (he : starEach (e :: es) X.env = (false, eval e X.env) :: starEach es X.env := by rfl) (hpl : (backTo pos (starEach es X.env)).any (·.1) = false := by rfl) : ME X E (.Call (.Name x p) (e :: es) [] pos) (eCall g f) := by
  obtain ⟨t, pa, ra⟩ := ha
  exact ⟨_, pe_callTy hc hg hm hv pa hn hdb he hpl, fun ρ env st σ H Q s e h => ra ρ env st σ H _ s e (h.split fun a st1 ρ1 H1 v g1 qa h1 => hr ρ1 st1 H1 v a Q g1.sim qa h1)⟩
/-- len -/
def gLen : List D → Store → Res D := fun ds st => match ds with
  | [.str z] => if z.length ≤ sizeLine then .ok (.int z.length) st else .bad
  | [.ref n] => match st[n]? with
    | some (.lst ds) => .ok (.int ds.length) st
    | some (.dct kvs) => .ok (.int kvs.length) st
    | _ => .bad
  | [.tup ds] => .ok (.int ds.length) st
  | _ => .bad
abbrev rLenA (K : PySem.W.Frag) : List V → Hp → VK → Prop := fun xs H Q => (∃ p ys, xs = [.ref p] ∧ (SqL K H p ys ∨ SqT K H p ys) ∧ Q (.int ys.length) H) ∨ ((∃ z, xs = [.str z] ∧ z.length ≤ sizeLine ∧ Q (.int z.length) H) ∨ ∃ a kvs, xs = [V.ref a] ∧ H a = some (.dK kvs) ∧ Q (.int kvs.length) H)
theorem call_lenA {X : Cx} : CallR X (.builtin "len") (rLenA X.K) := call_len_seq.or (call_len_str.or call_lenD)
theorem paired_len {α β : Type} {P : α → β → Prop} : ∀ {xs : List α} {ys : List β}, Paired P xs ys → xs.length = ys.length
  | _, _, .nil => rfl
  | _, _, .cons _ t => by simp [paired_len t]
theorem real_len : RealC K mg E (rLenA K) gLen := by
  intro ρ st H xs as Q s rs h
  cases rs with
  | nil => exact h.elim
  | cons r t =>
    cases t with
    | cons _ _ => cases r <;> exact h.elim
    | nil =>
      cases r with
      | str z =>
        simp only [gLen] at h
        by_cases hz : z.length ≤ sizeLine
        · rw [if_pos hz] at h
          exact .inr (.inl ⟨z, rfl, hz, h.done s (.int _)⟩)
        · rw [if_neg hz] at h
          exact h.elim
      | tup hs rs =>
        simp only [gLen, rs.length] at h
        exact .inl ⟨_, _, rfl, .inr hs, h.done s (.int _)⟩
      | @ref p n hn =>
        simp only [gLen] at h
        cases e : st[n]? with
        | none => simp only [e] at h; exact h.elim
        | some o =>
          obtain ⟨q, ho, e0, e1, e2, q2⟩ := s.get e (.ref hn)
          cases e0
          cases q2 with
          | lst rs =>
            simp only [e, rs.length] at h
            exact .inl ⟨_, _, rfl, .inl (.inl (.inl e2)), h.done s (.int _)⟩
          | dct rs =>
            simp only [e, paired_len rs] at h
            exact .inr (.inr ⟨_, _, rfl, e2, h.done s (.int _)⟩)
          | ins _ _ => simp only [e] at h; exact h.elim
      | _ => exact h.elim
/-- int of an int or a bool -/
def gInt : List D → Store → Res D := fun ds st => match ds with
  | [.int i] => .ok (.int i) st
  | [.bl b] => .ok (.int (if b then 1 else 0)) st
  | _ => .bad
theorem real_int : RealC K mg E (fun xs H Q => (∃ i, xs = [.int i] ∧ Q (.int i) H) ∨ ∃ k, xs = [.bl k] ∧ Q (.int (if k then 1 else 0)) H) gInt := by
  intro ρ st H xs as Q s rs h
  cases rs with
  | nil => exact h.elim
  | cons r t =>
    cases t with
    | cons _ _ => cases r <;> exact h.elim
    | nil =>
      cases r with
      | int i => exact .inl ⟨i, rfl, h.done s (.int _)⟩
      | bl b => exact .inr ⟨b, rfl, h.done s (.int _)⟩
      | _ => exact h.elim
/-- isinstance(x, T) -/
def tyOfD (st : Store) : D → Option String
  | .non => some "NoneType"
  | .bl _ => some "bool"
  | .int _ => some "int"
  | .str _ => some "str"
  | .tup _ => some "tuple"
  | .ref n => match st[n]? with
    | some (.lst _) => some "list"
    | some (.dct _) => some "dict"
    | _ => none
  | _ => none
def gIsi : List D → Store → Res D := fun ds st => match ds with
  | [x, .ty n] => match tyOfD st x with
    | some t => match kitB t n with
      | some b => .ok (.bl b) st
      | none => .bad
    | none => .bad
  | _ => .bad
theorem tyX_of {d : D} {v : V} {t : String} (s : Sim K mg ρ st H) (r : Rep K mg ρ H d v) (h : tyOfD st d = some t) : TyX K H v (.type t) := by
  cases r with
  | non => cases h; exact .base .non
  | bl b => cases h; exact .base (.bl b)
  | int b => cases h; exact .base (.int b)
  | str b => cases h; exact .base (.str b)
  | fn _ => cases h
  | ty _ => cases h
  | scr _ => cases h
  | tup hs rs =>
    cases h
    rcases hs with (hs | ⟨o, hs⟩) | ⟨o, its, n, hk, hc, _⟩
    · exact .base (.tup hs)
    · exact .fTuple hs
    · exact .kTuple hk hc
  | @ref p n hn =>
    unfold tyOfD at h
    cases e : st[n]? with
    | none => simp only [e] at h; cases h
    | some o =>
      obtain ⟨q, ho, e0, e1, e2, q2⟩ := s.get e (.ref hn)
      cases e0
      cases q2 with
      | lst rs => simp only [e] at h; cases h; exact .base (.lst e2)
      | dct rs => simp only [e] at h; cases h; exact .base (.dK e2)
      | ins _ _ => simp only [e] at h; cases h
theorem real_isi : RealC K mg E (rIsi K) gIsi := by
  intro ρ st H xs as Q s rs h
  match as, xs, rs with
  | [], _, .nil => exact h.elim
  | [a], _, .cons r .nil => cases a <;> exact h.elim
  | a :: b :: c :: l, _, .cons _ (.cons _ (.cons _ _)) => cases a <;> cases b <;> exact h.elim
  | [a, b], _, .cons ra (.cons rb .nil) =>
    cases rb with
    | ty n =>
      simp only [gIsi] at h
      cases e : tyOfD st a with
      | none => simp only [e] at h; exact h.elim
      | some t =>
        simp only [e] at h
        cases e2 : kitB t n with
        | none => simp only [e2] at h; exact h.elim
        | some c =>
          simp only [e2] at h
          exact ⟨_, _, _, _, c, rfl, .ty n, tyX_of s ra e, kit_ty e2, h.done s (.bl _)⟩
    | _ => exact h.elim
/-- list(x), tuple(x) -/
def gList : List D → Store → Res D := fun ds st => match ds with
  | [x] => match itemsOf st x with
    | some ds => .ok (.ref st.length) (st ++ [.lst ds])
    | none => .bad
  | _ => .bad
theorem real_list : RealC K mg E (fun xs H Q => ∃ p ys, xs = [.ref p] ∧ (SqL K H p ys ∨ SqT K H p ys) ∧ ∀ l, H l = none → Q (.ref l) (upd H l (.lst ys))) gList := by
  intro ρ st H xs as Q s rs h
  match as, xs, rs with
  | [], _, .nil => exact h.elim
  | a :: c :: l, _, .cons _ (.cons _ _) => exact h.elim
  | [a], _, .cons ra .nil =>
    simp only [gList] at h
    cases e : itemsOf st a with
    | none => simp only [e] at h; exact h.elim
    | some ds =>
      simp only [e] at h
      obtain ⟨p, ys, rfl, rs, hs⟩ := items_of s ra e
      refine ⟨p, ys, rfl, ?_, fun l hl => ?_⟩
      · rcases hs with ⟨es, _, hs⟩ | hs
        · exact .inr hs
        · exact .inl hs
      · obtain ⟨g, r⟩ := Go.lst s rs hl
        exact h _ _ _ g r
def gTuple : List D → Store → Res D := fun ds st => match ds with
  | [x] => match itemsOf st x with
    | some ds => .ok (.tup ds) st
    | none => .bad
  | _ => .bad
theorem real_tuple : RealC K mg E (fun xs H Q => ∃ p ys, xs = [.ref p] ∧ ((SqL K H p ys ∧ ∀ l, H l = none → Q (.ref l) (upd H l (.tup ys))) ∨ (SqT K H p ys ∧ Q (.ref p) H))) gTuple := by
  intro ρ st H xs as Q s rs h
  match as, xs, rs with
  | [], _, .nil => exact h.elim
  | a :: c :: l, _, .cons _ (.cons _ _) => exact h.elim
  | [a], _, .cons ra .nil =>
    simp only [gTuple] at h
    cases e : itemsOf st a with
    | none => simp only [e] at h; exact h.elim
    | some ds =>
      simp only [e] at h
      obtain ⟨p, ys, rfl, rs, hs⟩ := items_of s ra e
      refine ⟨p, ys, rfl, ?_⟩
      rcases hs with ⟨es, _, hs⟩ | hs
      · exact .inr ⟨hs, h.done s (.tup hs rs)⟩
      · refine .inl ⟨hs, fun l hl => ?_⟩
        have g := Go.fresh (u := .tup ys) s hl
        exact h _ _ _ g (.tup (.inl (.inl upd_same)) (rs.mono g.pre g.ext))
end

/-! ### defs -/
/-- a def keeps the mirror m -/
def spM (K : PySem.W.Frag) (mg : Str → Option Value) (n : Nat) (m : List D → Store → Res D) : Sp := fun vs H Q E => vs.length = n ∧ ∃ ρ st ds, Sim K mg ρ st H ∧ Reps K mg ρ H ds vs ∧ Post K mg (Rep K mg) E ρ H Q (m ds st)
/-- what a body gives -/
def ofBody (N : Nat) (g : Env → Store → SR) : List D → Store → Res D := fun ds st => match g (ds.map some ++ List.replicate (N - ds.length) none) st with
  | .ret d st' => .ok d st'
  | .next _ st' => .ok .non st'
  | _ => .bad
theorem envR_start {K : PySem.W.Frag} {mg : Str → Option Value} {ρ : List Addr} {H : Hp} {N : Nat} : ∀ {ds : List D} {vs : List V}, Reps K mg ρ H ds vs → EnvR K mg ρ H (ds.map some ++ List.replicate (N - ds.length) none) (vs.map some ++ List.replicate (N - vs.length) none) := by
  intro ds vs r
  have hl := r.length
  rw [← hl]
  have app : ∀ {ds : List D} {vs : List V} {e : Env} {σ : L2.St}, Reps K mg ρ H ds vs → EnvR K mg ρ H e σ → EnvR K mg ρ H (ds.map some ++ e) (vs.map some ++ σ) := fun {ds vs e σ} r q => by
    induction r using Reps.rec (motive_1 := fun _ _ _ => True) with
    | nil => exact q
    | cons r t _ ih => exact .cons (fun x e => ⟨_, rfl, by cases e; exact r⟩) ih
    | _ => trivial
  have rep : ∀ n : Nat, EnvR K mg ρ H (List.replicate n none) (List.replicate n none) := fun n => by
    induction n with
    | zero => exact .nil
    | succ n ih => exact .cons (fun x e => by cases e) ih
  exact app r (rep _)
end MP

namespace MP
open PySem PySem.Spec PyProof.Rows L2

/-! ### targets -/
abbrev Tg := D → Env → Store → Res Env
section
variable (K : PySem.W.Frag) (mg : Str → Option Value)
def REnv : RL Env L2.St := fun ρ H e σ => EnvR K mg ρ H e σ
def RealG (E : XK) (t : TG) (g : Tg) : Prop := ∀ ρ env st σ H v d (Q : L2.St → Hp → Prop), Sim K mg ρ st H → EnvR K mg ρ H env σ → Rep K mg ρ H d v → Post K mg (REnv K mg) E ρ H Q (g d env st) → t v σ H Q
def RealGs (E : XK) (t : TGs) (g : List D → Env → Store → Res Env) : Prop := ∀ ρ env st σ H vs ds (Q : L2.St → Hp → Prop), Sim K mg ρ st H → EnvR K mg ρ H env σ → Reps K mg ρ H ds vs → Post K mg (REnv K mg) E ρ H Q (g ds env st) → t vs σ H Q
end
structure MG (X : Cx) (E : XK) (e : Expr) (g : Tg) : Prop where
  ex : ∃ t, PG X e t ∧ RealG X.K X.mg E t g
structure MGs (X : Cx) (E : XK) (es : List Expr) (g : List D → Env → Store → Res Env) : Prop where
  ex : ∃ t, PGs X es t ∧ RealGs X.K X.mg E t g
def gN (i : Nat) : Tg := fun d env st => .ok (env.set i (some d)) st
def gsNil : List D → Env → Store → Res Env := fun ds env st => match ds with
  | [] => .ok env st
  | _ => .bad
def gsCons (g : Tg) (gs : List D → Env → Store → Res Env) : List D → Env → Store → Res Env := fun ds env st => match ds with
  | [] => .bad
  | d :: r => bindR (g d env st) fun env1 st1 => gs r env1 st1
def gT (n : Nat) (gs : List D → Env → Store → Res Env) : Tg := fun d env st => match d with
  | .tup ds => if ds.length = n then gs ds env st else .bad
  | _ => .bad
section
variable {X : Cx} {E : XK} {pos : Pos}
theorem envR_set {K : PySem.W.Frag} {mg : Str → Option Value} {ρ : List Addr} {H : Hp} {env : Env} {σ : L2.St} {d : D} {v : V} (e : EnvR K mg ρ H env σ) (r : Rep K mg ρ H d v) (i : Nat) : EnvR K mg ρ H (env.set i (some d)) (σ.set i (some v)) :=
  paired_set (fun x q => by cases q; exact ⟨v, rfl, r⟩) i e
theorem mg_name (i : Nat) {x : Str} (hN : X.N.Nodup) (hi : X.N[i]? = some x := by rfl) (hx : Loc X.env.scope x := by first | exact Or.inl rfl | exact Or.inr rfl) (hf : X.fn x = true ∨ X.env.scope.names.lookup x = some .local := by first | exact .inl rfl | exact .inr rfl | assumption) : MG X E (.Name x pos) (gN i) :=
  ⟨_, pg_name hN hi hx hf, fun ρ env st σ H v d Q s e r h => h.done s (envR_set e r i)⟩
theorem mgs_nil : MGs X E [] gsNil := by
  refine ⟨_, pgs_nil, fun ρ env st σ H vs ds Q s e r h => ?_⟩
  cases r with
  | nil => exact ⟨rfl, h.done s e⟩
  | cons _ _ => exact h.elim
theorem mgs_cons {e : Expr} {es : List Expr} {g : Tg} {gs : List D → Env → Store → Res Env} (h1 : MG X E e g) (h2 : MGs X E es gs) (hs : (assignEach (e :: es) X.env).map (·.2) = assign e X.env :: (assignEach es X.env).map (·.2) := by rfl) : MGs X E (e :: es) (gsCons g gs) := by
  obtain ⟨t1, p1, r1⟩ := h1
  obtain ⟨t2, p2, r2⟩ := h2
  refine ⟨_, pgs_cons p1 p2 hs, fun ρ env st σ H vs ds Q s e r h => ?_⟩
  cases r with
  | nil => exact h.elim
  | cons r t => exact ⟨_, _, rfl, r1 ρ env st σ H _ _ _ s e r (Post.split (R := REnv X.K X.mg) h fun env1 st1 ρ1 H1 σ1 g1 q1 h1 => r2 ρ1 env1 st1 σ1 H1 _ _ Q g1.sim q1 (t.mono g1.pre g1.ext) h1)⟩
theorem mg_tup {es : List Expr} {k : Nat} {gs : List D → Env → Store → Res Env} (n : Nat) (hc : X.calm = true) (h : MGs X E es gs)
    (hn : (assignEach es X.env).length = n := by rfl) (hst : (assignEach es X.env).findIdx? (·.1) = none := by rfl) : MG X E (.Tuple es k pos) (gT n gs) := by
  obtain ⟨t, p, q⟩ := h
  refine ⟨_, pg_tup hc p hn hst, fun ρ env st σ H v d Q s e r h => ?_⟩
  cases r with
  | @tup a xs ds hs rs =>
    simp only [gT] at h
    by_cases hl : ds.length = n
    · rw [if_pos hl] at h
      exact ⟨a, xs, rfl, hs, by rw [← rs.length]; exact hl, q ρ env st σ H _ _ Q s e rs h⟩
    · rw [if_neg hl] at h
      exact h.elim
  | _ => exact h.elim
/-- o[i] = v, o a list -/
def gI (fo fi : Ev D) : Tg := fun d env st => bindR (fo env st) fun o st1 => bindR (fi env st1) fun i st2 => match o, i with
  | .ref n, .int k => match st2[n]? with
    | some (.lst ds) => match ixN ds.length k with
      | some j => .ok env (st2.set n (.lst (ds.set j d)))
      | none => .bad
    | _ => .bad
  | _, _ => .bad
theorem mg_sub {o i : Expr} {fo fi : Ev D} (ho : ME X E o fo) (hi : ME X E i fi)
    (ha : ∀ v, assign (.Subscript o i pos) X.env v = (do
      let ov ← holding [v] (eval o X.env)
      let iv ← holding [v, ov] (eval i X.env)
      standAt pos
      holding [v, ov, iv] (setItem ov iv v)
      release [v, ov, iv] []) := by intro _; rfl) : MG X E (.Subscript o i pos) (gI fo fi) := by
  obtain ⟨t1, p1, r1⟩ := ho
  obtain ⟨t2, p2, r2⟩ := hi
  refine ⟨_, pg_sub p1 p2 set_list ha, fun ρ env st σ H v d Q s e r h => ?_⟩
  refine r1 ρ env st σ H _ s e (h.split fun x st1 ρ1 H1 xv g1 q1 h1 => r2 ρ1 env st1 σ H1 _ g1.sim (e.mono g1.pre g1.ext) (h1.split fun y st2 ρ2 H2 yv g2 q2 h2 => ?_))
  have q1 := q1.mono g2.pre g2.ext
  have g := g1.trans g2
  cases x with
  | ref n =>
    cases q2 with
    | int k =>
      simp only at h2
      cases e1 : st2[n]? with
      | none => simp only [e1] at h2; exact h2.elim
      | some o =>
        obtain ⟨a, ho, z, w, u, q⟩ := g2.sim.get e1 q1
        subst z
        cases q with
        | @lst ds xs rs =>
          simp only [e1] at h2
          cases e2 : ixN ds.length k with
          | none => simp only [e2] at h2; exact h2.elim
          | some j =>
            simp only [e2] at h2
            refine ⟨a, xs, k, j, rfl, rfl, u, by rw [← rs.length]; exact e2, ?_⟩
            have g3 := Go.set (o' := .lst (ds.set j d)) (u' := .lst (xs.set j v)) g2.sim e1 w u (.lst rs) (.lst (rs.set (r.mono g.pre g.ext) j))
            exact h2 _ _ σ g3 ((e.mono g.pre g.ext).mono g3.pre g3.ext)
        | _ => simp only [e1] at h2; exact h2.elim
    | _ => exact h2.elim
  | _ => exact h2.elim
end

/-! ### statements -/
def sAsg (f : Ev D) (g : Tg) : Env → Store → SR := fun env st => bindS env (f env st) fun d st1 => bindS env (g d env st1) fun env1 st2 => .next env1 st2
def sIf (c : Ev Bool) (g1 g2 : Env → Store → SR) : Env → Store → SR := fun env st => bindS env (c env st) fun b st1 => if b = true then g1 env st1 else g2 env st1
def sRet (f : Ev D) : Env → Store → SR := fun env st => bindS env (f env st) fun d st1 => .ret d st1
def sRetN : Env → Store → SR := fun env st => .ret .non st
def sExpr (f : Ev D) : Env → Store → SR := fun env st => bindS env (f env st) fun _ st1 => .next env st1
def sNil : Env → Store → SR := fun env st => .next env st
def sSeq (g1 g2 : Env → Store → SR) : Env → Store → SR := fun env st => match g1 env st with
  | .next env1 st1 => g2 env1 st1
  | r => r
def sNever : Env → Store → SR := fun _ _ => .bad
section
variable {X : Cx} {E : XK} {pos : Pos} {e : Expr} {f : Ev D}
theorem real_asg {te : TE} {tg : TG} {g : Tg} (r1 : Real X.K X.mg (Rep X.K X.mg) E te f) (r2 : RealG X.K X.mg E tg g) : RealS X.K X.mg E (tAsg te tg) (sAsg f g) := fun ρ env st σ H Dn s e h =>
  r1 ρ env st σ H _ s e (h.split fun a st1 ρ1 H1 v g1 qa h1 => r2 ρ1 env st1 σ H1 v a _ g1.sim (e.mono g1.pre g1.ext) qa (h1.split fun env2 st2 ρ2 H2 σ2 g2 q2 h2 => h2 ρ2 σ2 H2 (.refl g2.sim) q2))
theorem ms_asg {tg : Expr} {g : Tg} (he : ME X E e f) (hg : MG X E tg g) (hs : swapsWithSole [tg] e pos.line X.env = pure false := by rfl) (hw : swappedStores [tg] e X.env = pure none := by rfl)
    (h1 : (assignEach [tg] X.env).map (·.2) = [assign tg X.env] := by rfl) : MS X E (.Assign [tg] e pos) (sAsg f g) := by
  obtain ⟨t1, p1, r1⟩ := he
  obtain ⟨t2, p2, r2⟩ := hg
  exact ⟨_, ps_asg p1 p2 hs hw h1, real_asg r1 r2⟩
theorem ms_set (i : Nat) {x : Str} {pos' : Pos} (hN : X.N.Nodup) (he : ME X E e f) (hi : X.N[i]? = some x := by rfl) (hx : Loc X.env.scope x := by first | exact Or.inl rfl | exact Or.inr rfl) (hs : swapsWith e (some (.Name x pos')) pos.line X.env = pure false := by rfl) (hf : X.fn x = true ∨ X.env.scope.names.lookup x = some .local := by first | exact .inl rfl | exact .inr rfl | assumption) :
    MS X E (.Assign [.Name x pos'] e pos) (sAsg f (gN i)) := by
  obtain ⟨t1, p1, r1⟩ := he
  exact ⟨_, ps_set hN hi hx p1 hs hf, real_asg r1 fun ρ env st σ H v d Q s e r h => h.done s (envR_set e r i)⟩
theorem ms_if {c : Expr} {as bs : List Stmt} {fc : Ev Bool} {ga gb : Env → Store → SR} (hc : MT X E c fc) (ha : MSs X E as ga) (hb : MSs X E bs gb) : MS X E (.If c as bs pos) (sIf fc ga gb) := by
  obtain ⟨t0, p0, r0⟩ := hc
  obtain ⟨t1, p1, r1⟩ := ha
  obtain ⟨t2, p2, r2⟩ := hb
  refine ⟨_, ps_if p0 p1 p2, fun ρ env st σ H Dn s e h => ?_⟩
  refine r0 ρ env st σ H _ s e (h.split fun b st1 ρ1 H1 v g1 qa h1 => ?_)
  cases qa
  cases b with
  | true => exact r1 ρ1 env st1 σ H1 Dn g1.sim (e.mono g1.pre g1.ext) h1
  | false => exact r2 ρ1 env st1 σ H1 Dn g1.sim (e.mono g1.pre g1.ext) h1
theorem ms_ret (he : ME X E e f) : MS X E (.Return (some e) pos) (sRet f) := by
  obtain ⟨t1, p1, r1⟩ := he
  exact ⟨_, ps_ret p1, fun ρ env st σ H Dn s e h => r1 ρ env st σ H _ s e (h.split fun a st1 ρ1 H1 v g1 qa h1 => h1 ρ1 H1 v (.refl g1.sim) qa)⟩
theorem ms_retN : MS X E (.Return none pos) sRetN := ⟨_, ps_retN, fun ρ env st σ H Dn s e h => h ρ H .non (.refl s) .non⟩
theorem ms_expr (he : ME X E e f) (hs : swapsWith e none pos.line X.env = pure false := by rfl) : MS X E (.Expr e pos) (sExpr f) := by
  obtain ⟨t1, p1, r1⟩ := he
  exact ⟨_, ps_expr p1 hs, fun ρ env st σ H Dn s e h => r1 ρ env st σ H _ s e (h.split fun a st1 ρ1 H1 v g1 qa h1 => h1 ρ1 σ H1 (.refl g1.sim) (e.mono g1.pre g1.ext))⟩
theorem ms_pass : MS X E (.Pass pos) sNil := ⟨_, ps_pass, fun ρ env st σ H Dn s e h => h ρ σ H (.refl s) e⟩
theorem ms_brk : MS X E (.Break pos) (fun env st => .brk env st) := ⟨_, ps_break, fun ρ env st σ H Dn s e h => h ρ σ H (.refl s) e⟩
theorem ms_cnt : MS X E (.Continue pos) (fun env st => .cnt env st) := ⟨_, ps_continue, fun ρ env st σ H Dn s e h => h ρ σ H (.refl s) e⟩
theorem ms_never {s : Stmt} : MS X E s sNever := ⟨_, ps_never, fun ρ env st σ H Dn s e h => h.elim⟩
theorem mss_nil : MSs X E [] sNil := ⟨_, pss_nil, fun ρ env st σ H Dn s e h => h ρ σ H (.refl s) e⟩
theorem mss_one {s : Stmt} {g : Env → Store → SR} (h : MS X E s g) : MSs X E [s] g := let ⟨t, p, r⟩ := h; ⟨t, pss_one p, r⟩
theorem real_seq {K : PySem.W.Frag} {mg : Str → Option Value} {t1 t2 : TS} {g1 g2 : Env → Store → SR} (r1 : RealS K mg E t1 g1) (r2 : RealS K mg E t2 g2) : RealS K mg E (tSeq t1 t2) (sSeq g1 g2) := fun ρ env st σ H Dn s e h => by
  refine r1 ρ env st σ H _ s e ?_
  unfold sSeq at h
  cases q : g1 env st with
  | next env1 st1 =>
    rw [q] at h
    exact fun ρ' σ' H' g' e' => r2 ρ' env1 st1 σ' H' Dn g'.sim e' (SPost.from g' h)
  | ret d st1 => rw [q] at h; exact h
  | brk env1 st1 => rw [q] at h; exact h
  | cnt env1 st1 => rw [q] at h; exact h
  | exc c d env1 st1 => rw [q] at h; exact h
  | bad => rw [q] at h; exact h.elim
theorem mss_cons {s : Stmt} {rest : List Stmt} {g1 g2 : Env → Store → SR} (h1 : MS X E s g1) (h2 : MSs X E rest g2) : MSs X E (s :: rest) (sSeq g1 g2) := by
  obtain ⟨t1, p1, r1⟩ := h1
  obtain ⟨t2, p2, r2⟩ := h2
  exact ⟨_, pss_cons p1 p2, real_seq r1 r2⟩
end

/-! ### loops -/
/-- what is walked: the items, and the list object that must stay as it is -/
structure Src where
  items : List D
  obj : Option Nat := none
def Src.Ok (s : Src) (st : Store) : Prop := match s.obj with
  | none => True
  | some n => st[n]? = some (.lst s.items)
section
variable (K : PySem.W.Frag) (mg : Str → Option Value)
def RIt : RL Src It := fun ρ H s J => ∀ ρ' st' H', Go K mg ρ H ρ' st' H' → s.Ok st' →
  (∀ i d, s.items[i]? = some d → J.go i H' ∧ ∀ x H2, J.yld i H' x H2 → Go K mg ρ' H' ρ' st' H2 ∧ Rep K mg ρ' H2 d x) ∧ ∀ i, s.items.length ≤ i → J.stop i H'
end
structure MI (X : Cx) (E : XK) (tg iter : Expr) (f : Ev Src) : Prop where
  ex : ∃ t, PI X tg iter t ∧ Real X.K X.mg (RIt X.K X.mg) E t f
open Classical in
noncomputable def forM (s : Src) (g : Tg) (body : Env → Store → SR) : List D → Env → Store → SR
  | [], env, st => if s.Ok st then .next env st else .bad
  | d :: ds, env, st => if s.Ok st then match g d env st with
    | .ok env1 st1 => match body env1 st1 with
      | .next env2 st2 => forM s g body ds env2 st2
      | .cnt env2 st2 => forM s g body ds env2 st2
      | .brk env2 st2 => .next env2 st2
      | r => r
    | .exc c d st1 => .exc c d env st1
    | .bad => .bad
    else .bad
noncomputable def sFor (f : Ev Src) (g : Tg) (body : Env → Store → SR) : Env → Store → SR := fun env st => bindS env (f env st) fun s st1 => forM s g body s.items env st1
theorem ms_for {X : Cx} {E : XK} {pos : Pos} {tg iter : Expr} {body : List Stmt} {f : Ev Src} {g : Tg} {gb : Env → Store → SR} (hc : X.calm = true) (hi : MI X E tg iter f) (hg : MG X E tg g) (hb : MSs X E body gb)
    (hp : PassesOwn (model X.prog X.w) X.A X.env X.xe := by exact PassesOwn.never) (hs : ∀ x, foldedSetIterable iter X.env x = pure x := by intro _; rfl) : MS X E (.For tg iter body [] pos) (sFor f g gb) := by
  obtain ⟨t0, p0, r0⟩ := hi
  obtain ⟨t1, p1, r1⟩ := hg
  obtain ⟨t2, p2, r2⟩ := hb
  refine ⟨_, ps_for hp hc p0 p1 p2 hs, fun ρ env st σ H Dn s e h => ?_⟩
  refine r0 ρ env st σ H _ s e (h.split fun src st1 ρ1 H1 J g1 qJ h1 => ?_)
  refine ⟨fun i m σ' H' => i ≤ src.items.length ∧ m = src.items.length - i ∧ ∃ ρ' env' st', Go X.K X.mg ρ1 H1 ρ' st' H' ∧ EnvR X.K X.mg ρ' H' env' σ' ∧ SPost X.K X.mg E ρ' H' Dn (forM src g gb (src.items.drop i) env' st'),
    ⟨_, Nat.zero_le _, rfl, ρ1, env, st1, .refl g1.sim, e.mono g1.pre g1.ext, h1⟩, fun i m σ' H' hW => ?_⟩
  obtain ⟨hi, rfl, ρ2, env2, st2, g2, e2, h2⟩ := hW
  by_cases hok : src.Ok st2
  · obtain ⟨q1, q2⟩ := qJ ρ2 st2 H' g2 hok
    by_cases hlt : i < src.items.length
    · rw [List.drop_eq_getElem_cons hlt] at h2
      obtain ⟨go, yld⟩ := q1 i _ (List.getElem?_eq_getElem hlt)
      refine .inr ⟨go, fun σ3 H3 => i + 1 ≤ src.items.length ∧ ∃ ρ' env' st', Go X.K X.mg ρ1 H1 ρ' st' H3 ∧ EnvR X.K X.mg ρ' H3 env' σ3 ∧ SPost X.K X.mg E ρ' H3 Dn (forM src g gb (src.items.drop (i + 1)) env' st'), fun σ3 H3 hN => ?_, fun x H3 hy => ?_⟩
      · exact ⟨src.items.length - (i + 1), by omega, hN.1, rfl, hN.2⟩
      · obtain ⟨g3, rx⟩ := yld x H3 hy
        simp only [forM, if_pos hok] at h2
        refine r1 ρ2 env2 st2 σ' H3 x _ _ g3.sim (e2.mono g3.pre g3.ext) rx ?_
        have h3 := SPost.from g3 h2
        cases q : g src.items[i] env2 st2 with
        | bad => simp only [q] at h3; exact h3.elim
        | exc c d st4 => simp only [q] at h3; exact h3
        | ok env4 st4 =>
          simp only [q] at h3
          intro ρ5 H5 σ5 g5 e5
          refine r2 ρ5 env4 st4 σ5 H5 _ g5.sim e5 ?_
          have h5 := SPost.from g5 h3
          have gg : ∀ {ρ6 st6 H6}, Go X.K X.mg ρ5 H5 ρ6 st6 H6 → Go X.K X.mg ρ1 H1 ρ6 st6 H6 := fun g6 => g2.trans (g3.trans (g5.trans g6))
          cases qb : gb env4 st4 with
          | next env6 st6 =>
            simp only [qb] at h5
            exact fun ρ6 σ6 H6 g6 e6 => ⟨hlt, ρ6, env6, st6, gg g6, e6, SPost.from g6 h5⟩
          | cnt env6 st6 =>
            simp only [qb] at h5
            exact fun ρ6 σ6 H6 g6 e6 => ⟨hlt, ρ6, env6, st6, gg g6, e6, SPost.from g6 h5⟩
          | brk env6 st6 => simp only [qb] at h5; exact h5
          | ret d st6 => simp only [qb] at h5; exact h5
          | exc c d env6 st6 => simp only [qb] at h5; exact h5
          | bad => simp only [qb] at h5; exact h5.elim
    · have ei : src.items.drop i = [] := List.drop_eq_nil_of_le (Nat.le_of_not_lt hlt)
      rw [ei] at h2
      simp only [forM, if_pos hok] at h2
      exact .inl ⟨q2 i (Nat.le_of_not_lt hlt), h2 ρ2 σ' H' (.refl g2.sim) e2⟩
  · exfalso
    cases hd : src.items.drop i with
    | nil => rw [hd] at h2; simp only [forM, if_neg hok] at h2; exact h2
    | cons d ds => rw [hd] at h2; simp only [forM, if_neg hok] at h2; exact h2
/-- while -/
def whileM (c : Ev Bool) (body : Env → Store → SR) : Nat → Env → Store → SR
  | 0, _, _ => .bad
  | n + 1, env, st => bindS env (c env st) fun b st1 => if b = true then match body env st1 with
    | .next env2 st2 => whileM c body n env2 st2
    | .cnt env2 st2 => whileM c body n env2 st2
    | .brk env2 st2 => .next env2 st2
    | r => r
    else .next env st1
open Classical in
/-- the loop, however often it turns -/
noncomputable def sWhile (c : Ev Bool) (body : Env → Store → SR) : Env → Store → SR := fun env st => if h : ∃ n, whileM c body n env st ≠ .bad then whileM c body (choose h) env st else .bad
theorem ms_while {X : Cx} {E : XK} {pos : Pos} {c : Expr} {body : List Stmt} {fc : Ev Bool} {gb : Env → Store → SR} (hc : MT X E c fc) (hb : MSs X E body gb)
    (hp : PassesOwn (model X.prog X.w) X.A X.env X.xe := by exact PassesOwn.never) : MS X E (.While c body [] pos) (sWhile fc gb) := by
  obtain ⟨t0, p0, r0⟩ := hc
  obtain ⟨t2, p2, r2⟩ := hb
  refine ⟨_, ps_while hp p0 p2, fun ρ env st σ H Dn s e h => ?_⟩
  unfold sWhile at h
  by_cases hn : ∃ n, whileM fc gb n env st ≠ .bad
  · rw [dif_pos hn] at h
    generalize Classical.choose hn = n at h
    refine ⟨fun m σ' H' => ∃ ρ' env' st', Go X.K X.mg ρ H ρ' st' H' ∧ EnvR X.K X.mg ρ' H' env' σ' ∧ SPost X.K X.mg E ρ' H' Dn (whileM fc gb m env' st'), ⟨n, ρ, env, st, .refl s, e, h⟩, fun m σ' H' hW => ?_⟩
    obtain ⟨ρ2, env2, st2, g2, e2, h2⟩ := hW
    cases m with
    | zero => exact h2.elim
    | succ m =>
      refine r0 ρ2 env2 st2 σ' H' _ g2.sim e2 (SPost.split (R := REq Bool) h2 fun b st3 ρ3 H3 v g3 qa h3 => ?_)
      cases qa
      cases b with
      | false => exact h3 ρ3 σ' H3 (.refl g3.sim) (e2.mono g3.pre g3.ext)
      | true =>
        rw [if_pos rfl] at h3 ⊢
        refine ⟨fun σ4 H4 => ∃ ρ' env' st', Go X.K X.mg ρ H ρ' st' H4 ∧ EnvR X.K X.mg ρ' H4 env' σ4 ∧ SPost X.K X.mg E ρ' H4 Dn (whileM fc gb m env' st'), fun σ4 H4 hN => ⟨m, by omega, hN⟩, ?_⟩
        refine r2 ρ3 env2 st3 σ' H3 _ g3.sim (e2.mono g3.pre g3.ext) ?_
        have gg : ∀ {ρ6 st6 H6}, Go X.K X.mg ρ3 H3 ρ6 st6 H6 → Go X.K X.mg ρ H ρ6 st6 H6 := fun g6 => g2.trans (g3.trans g6)
        cases qb : gb env2 st3 with
        | next env6 st6 =>
          simp only [qb] at h3
          exact fun ρ6 σ6 H6 g6 e6 => ⟨ρ6, env6, st6, gg g6, e6, SPost.from g6 h3⟩
        | cnt env6 st6 =>
          simp only [qb] at h3
          exact fun ρ6 σ6 H6 g6 e6 => ⟨ρ6, env6, st6, gg g6, e6, SPost.from g6 h3⟩
        | brk env6 st6 => simp only [qb] at h3; exact h3
        | ret d st6 => simp only [qb] at h3; exact h3
        | exc c d env6 st6 => simp only [qb] at h3; exact h3
        | bad => simp only [qb] at h3; exact h3.elim
  · rw [dif_neg hn] at h
    exact h.elim

/-! ### what is walked -/
section
variable {X : Cx} {E : XK} {pos p : Pos} {tg : Expr}
/-- a list or a tuple -/
def srcOf (st : Store) : D → Option Src
  | .tup ds => some { items := ds }
  | .ref n => match st[n]? with
    | some (.lst ds) => some { items := ds, obj := some n }
    | _ => none
  | .scr ns => some { items := ns.map D.int }
  | _ => none
def fSeq (f : Ev D) : Ev Src := fun env st => bindR (f env st) fun d st1 => match srcOf st1 d with
  | some s => .ok s st1
  | none => .bad
def iSeq (K : PySem.W.Frag) (tl : TE) : TI := fun σ H R => tl σ H fun x H1 => ∃ a, x = .ref a ∧ (((∃ xs, SqL K H1 a xs) ∧ R (Itl K a) H1) ∨ ((∃ xs, SqT K H1 a xs) ∧ R (Itt K a) H1))
/-- an iterator object that has just been pushed -/
theorem pie_push {pins : List (Addr × Obj)} {σ : L2.St} {H1 : Hp} {s1 : Shared} {R : It → Hp → Prop} (o : Obj) (J : It) (tn : Nat → Heap → Prop) (I1 : Inv X pins σ H1 s1)
    (T : Turn X.prog X.w X.K tg J [s1.heap.objs.size] s1.heap.objs.size tn) (h0 : tn 0 (s1.heap.push o)) (q : R J H1) : PIE X pins σ tg R (.ref s1.heap.objs.size) { s1 with heap := s1.heap.push o } :=
  ⟨_, _, tn, J, H1, rfl, I1.kept (t' := s1.toks) fun _ _ e => Heap.get?_push_of_some _ e, T, h0, fun b hb => by
    rw [List.mem_singleton.mp hb]
    exact I1.fpOk (Nat.le_refl _) I1.fresh, q⟩
theorem pi_seq {l : Expr} {tl : TE} (hl : PE X l tl) : PI X tg l (iSeq X.K tl) := by
  constructor
  intro pins s σ H R I h
  refine thn (hl.run pins s σ H _ I h) ?_
  rintro v s1 ⟨x, H1, I1, r1, a, rfl, q⟩
  cases r1
  rcases q with ⟨⟨xs, hq⟩, q⟩ | ⟨⟨xs, hq⟩, q⟩
  · obtain ⟨its, _, p, _⟩ := I1.list hq
    exact wpAny_pyIter_list p.isList (pie_push _ _ _ I1 (turn_list a _) ⟨_, Heap.get?_push_size _ rfl, rfl, rfl⟩ q)
  · obtain ⟨its, _, p, _⟩ := I1.tuple hq
    exact wpAny_pyIter_tuple p (pie_push _ _ _ I1 (turn_tuple a _) ⟨_, Heap.get?_push_size _ rfl, rfl, rfl⟩ q)
end
theorem mi_seq {X : Cx} {E : XK} {tg l : Expr} {f : Ev D} (hl : ME X E l f) : MI X E tg l (fSeq f) := by
  obtain ⟨t, p, r⟩ := hl
  refine ⟨_, pi_seq p, fun ρ env st σ H Q s e h => ?_⟩
  refine r ρ env st σ H _ s e (h.split fun d st1 ρ1 H1 v g1 rd h1 => ?_)
  cases e1 : srcOf st1 d with
  | none => simp only [e1] at h1; exact h1.elim
  | some src =>
    simp only [e1] at h1
    have seqL : ∀ {a : Addr} {ds : List D}, (∀ ρ' st' H', Go X.K X.mg ρ1 H1 ρ' st' H' → src.Ok st' → ∃ xs, SqL X.K H' a xs ∧ Reps X.K X.mg ρ' H' src.items xs) → RIt X.K X.mg ρ1 H1 src (Itl X.K a) := fun {a ds} hx ρ' st' H' g' ok => by
      obtain ⟨xs, hs, rs⟩ := hx ρ' st' H' g' ok
      refine ⟨fun i d hd => ?_, fun i hi => ⟨xs, hs, by rw [← rs.length]; exact hi⟩⟩
      obtain ⟨x, hx1, hx2⟩ := rs.get hd
      refine ⟨⟨xs, x, hs, hx1⟩, fun y H2 hy => ?_⟩
      obtain ⟨rfl, hy⟩ := hy
      have e2 := hy xs hs
      rw [hx1] at e2
      cases e2
      exact ⟨.refl g'.sim, hx2⟩
    cases rd with
    | @tup a xs ds hs rs =>
      cases e1
      refine ⟨a, rfl, .inr ⟨⟨xs, hs⟩, h1.done (R := RIt X.K X.mg) g1.sim fun ρ' st' H' g' ok => ?_⟩⟩
      have hs' := g'.ext.tup _ _ hs
      have rs' := rs.mono g'.pre g'.ext
      refine ⟨fun i d hd => ?_, fun i hi => ⟨xs, hs', by rw [← rs.length]; exact hi⟩⟩
      obtain ⟨x, hx1, hx2⟩ := rs'.get hd
      refine ⟨⟨xs, x, hs', hx1⟩, fun y H2 hy => ?_⟩
      obtain ⟨rfl, hy⟩ := hy
      have e2 := hy xs hs'
      rw [hx1] at e2
      cases e2
      exact ⟨.refl g'.sim, hx2⟩
    | @scr a ns hs =>
      cases e1
      exact ⟨a, rfl, .inl ⟨⟨_, hs.seq⟩, h1.done (R := RIt X.K X.mg) g1.sim (seqL (ds := []) fun ρ' st' H' g' ok => ⟨_, (g'.ext.scr _ _ hs).seq, reps_ints ns⟩)⟩⟩
    | @ref a n hn =>
      simp only [srcOf] at e1
      cases q : st1[n]? with
      | none => simp only [q] at e1; cases e1
      | some o =>
        obtain ⟨_, ho, z, w, u, rr⟩ := g1.sim.get q (.ref hn)
        cases z
        cases rr with
        | @lst ds xs rs =>
          simp only [q] at e1
          cases e1
          refine ⟨a, rfl, .inl ⟨⟨xs, .inl (.inl u)⟩, h1.done (R := RIt X.K X.mg) g1.sim (seqL (ds := []) fun ρ' st' H' g' ok => ?_)⟩⟩
          obtain ⟨_, ho, z, w, u, rr⟩ := g'.sim.get (show st'[n]? = some (.lst ds) from ok) (Rep.mono g'.pre g'.ext (.ref hn))
          cases z
          cases rr with
          | lst rs => exact ⟨_, .inl (.inl u), rs⟩
        | _ => simp only [q] at e1; cases e1
    | _ => cases e1
/-- range -/
def rgD (lo : Int) (n : Nat) : List D := (List.range n).map fun i => D.int (lo + (i : Nat))
theorem rgD_get {lo : Int} {n i : Nat} {d : D} (h : (rgD lo n)[i]? = some d) : i < n ∧ d = .int (lo + (i : Nat)) := by
  unfold rgD at h
  rw [List.getElem?_map] at h
  cases e : (List.range n)[i]? with
  | none => rw [e] at h; cases h
  | some j =>
    rw [e] at h
    obtain ⟨h1, h2⟩ := List.getElem?_eq_some_iff.mp e
    rw [List.getElem_range] at h2
    subst h2
    rw [List.length_range] at h1
    cases h
    exact ⟨h1, rfl⟩
theorem rgD_len {lo : Int} {n : Nat} : (rgD lo n).length = n := by simp [rgD]
theorem rit_range {K : PySem.W.Frag} {mg : Str → Option Value} {ρ : List Addr} {H : Hp} {lo : Int} {n : Nat} : RIt K mg ρ H { items := rgD lo n } (Itr lo n) := fun ρ' st' H' g' ok => by
  refine ⟨fun i d hd => ?_, fun i hi => by rw [rgD_len] at hi; exact hi⟩
  obtain ⟨h1, h2⟩ := rgD_get hd
  subst h2
  refine ⟨h1, fun y H2 hy => ?_⟩
  obtain ⟨rfl, rfl⟩ := hy
  exact ⟨.refl g'.sim, .int _⟩
def fRange1 (f : Ev (List D)) : Ev Src := fun env st => bindR (f env st) fun ds st1 => match ds with
  | [.int j] => if -(2 ^ 62) ≤ j ∧ j < 2 ^ 62 then .ok { items := rgD 0 j.toNat } st1 else .bad
  | _ => .bad
def fRange2 (f : Ev (List D)) : Ev Src := fun env st => bindR (f env st) fun ds st1 => match ds with
  | [.int i, .int j] => if -(2 ^ 62) ≤ i ∧ i < 2 ^ 62 ∧ -(2 ^ 62) ≤ j ∧ j < 2 ^ 62 then .ok { items := rgD i (j - i).toNat } st1 else .bad
  | _ => .bad
theorem mi_range1 {X : Cx} {E : XK} {p pos : Pos} {tg a : Expr} {f : Ev (List D)} (hm : X.mg "range" = none) (ha : MA X E [a] f) (hg : Gl X "range" := by rfl) (hs : starEach [a] X.env = [(false, eval a X.env)] := by rfl) : MI X E tg (.Call (.Name "range" p) [a] [] pos) (fRange1 f) := by
  obtain ⟨t, pa, ra⟩ := ha
  refine ⟨_, pi_range1 hg hm pa hs, fun ρ env st σ H Q s e h => ?_⟩
  refine ra ρ env st σ H _ s e (h.split fun ds st1 ρ1 H1 vs g1 rd h1 => ?_)
  match ds, vs, rd with
  | [], _, .nil => exact h1.elim
  | [a], _, .cons r .nil =>
    cases r with
    | int j =>
      simp only at h1
      by_cases hj : -(2 ^ 62) ≤ j ∧ j < 2 ^ 62
      · rw [if_pos hj] at h1
        exact ⟨j, rfl, hj.1, hj.2, h1.done (R := RIt X.K X.mg) g1.sim rit_range⟩
      · rw [if_neg hj] at h1
        exact h1.elim
    | _ => exact h1.elim
  | _ :: _ :: _, _, .cons r (.cons r2 _) => cases r <;> exact h1.elim
theorem mi_range2 {X : Cx} {E : XK} {p pos : Pos} {tg a b : Expr} {f : Ev (List D)} (hm : X.mg "range" = none) (ha : MA X E [a, b] f) (hg : Gl X "range" := by rfl) (hs : starEach [a, b] X.env = [(false, eval a X.env), (false, eval b X.env)] := by rfl) (hs2 : starEach [b] X.env = [(false, eval b X.env)] := by rfl) : MI X E tg (.Call (.Name "range" p) [a, b] [] pos) (fRange2 f) := by
  obtain ⟨t, pa, ra⟩ := ha
  refine ⟨_, pi_range2 hg hm pa hs hs2, fun ρ env st σ H Q s e h => ?_⟩
  refine ra ρ env st σ H _ s e (h.split fun ds st1 ρ1 H1 vs g1 rd h1 => ?_)
  match ds, vs, rd with
  | [], _, .nil => exact h1.elim
  | [a], _, .cons r .nil => cases r <;> exact h1.elim
  | [a, b], _, .cons r (.cons r2 .nil) =>
    cases r with
    | int i =>
      cases r2 with
      | int j =>
        simp only at h1
        by_cases hj : -(2 ^ 62) ≤ i ∧ i < 2 ^ 62 ∧ -(2 ^ 62) ≤ j ∧ j < 2 ^ 62
        · rw [if_pos hj] at h1
          exact ⟨i, j, rfl, hj, h1.done (R := RIt X.K X.mg) g1.sim rit_range⟩
        · rw [if_neg hj] at h1
          exact h1.elim
      | _ => exact h1.elim
    | _ => exact h1.elim
  | _ :: _ :: _ :: _, _, .cons r (.cons r2 (.cons r3 _)) => cases r <;> cases r2 <;> exact h1.elim

/-! ### defs -/
section
variable {P : Program} {w : World} {K : PySem.W.Frag} {mg : Str → Option Value} {base : Heap}
/-- a def of the text keeps the mirror of its body -/
theorem fn_ok {x qual : Str} {st : Stmt} {f : Addr} {fd : FuncData} {N ps : List Str} {k : Nat} {g : Env → Store → SR} (F : Fun K x qual st f fd) (S : FnScope N ps (defScope st))
    (hb : ∀ (cdv : Value) (A : Around) (outer : List PySem.Env) (s : Shared) (H : Hp) (E : XK), Room k (A.deeper (envOfC qual (defScope st) s.heap.objs.size f cdv)) →
      MSs (cxOf CX0 P w K mg base N qual (defScope st) f cdv A outer s H E).nox E0 (defBody st) g) : FnOk P w K mg base CX0 (k + 1) f fd ps (spM K mg ps.length (ofBody N.length g)) := by
  refine F.ok S (fun vs H Q E h => h.1) (fun cdv A outer s H vs Q E hr h => ?_)
  obtain ⟨t, pt, rt⟩ := hb cdv A outer s H E hr
  refine ⟨t, pt, ?_⟩
  obtain ⟨hl, ρ, st0, ds, s0, rs, hp⟩ := h
  refine rt ρ _ st0 _ H _ s0 (envR_start (N := N.length) rs) ?_
  unfold ofBody at hp
  have el : start N vs = vs.map some ++ List.replicate (N.length - vs.length) none := rfl
  cases q : g (ds.map some ++ List.replicate (N.length - ds.length) none) st0 with
  | ret d st1 => simp only [q] at hp; exact hp
  | next env st1 => simp only [q] at hp; exact fun ρ' σ' H' g' e' => hp ρ' H' .non g' .non
  | brk env st1 => simp only [q] at hp; exact hp.elim
  | cnt env st1 => simp only [q] at hp; exact hp.elim
  | exc c d env st1 => simp only [q] at hp; exact hp.elim
  | bad => simp only [q] at hp; exact hp.elim
/-- a def that is called -/
def eDef (n : Nat) (m : List D → Store → Res D) (f : Ev (List D)) : Ev D := fun env st => bindR (f env st) fun ds st1 => if ds.length = n then m ds st1 else .bad
/-- what a caller knows of a def -/
structure Fn (P : Program) (w : World) (K : PySem.W.Frag) (mg : Str → Option Value) (base : Heap) (k : Nat) (x : Str) (n : Nat) (m : List D → Store → Res D) : Prop where
  ex : ∃ (f : Addr) (fd : FuncData) (ps : List Str), FnOk P w K mg base CX0 k f fd ps (spM K mg n m) ∧ mg x = some (.ref f) ∧ PySem.W.keepIn K (.ref f) = true ∧ Binds K fd ps []
theorem me_call {X : Cx} {E : XK} {k j : Nat} {x : Str} {n : Nat} {m : List D → Store → Res D} {p pos : Pos} {e : Expr} {es : List Expr} {f : Ev (List D)} (F : Fn X.prog X.w X.K X.mg X.base k x n m) (hr : Room j X.A) (ha : MA X E (e :: es) f) (hk : k ≤ j := by decide) (hg : Gl X x := by rfl)
    (hx : Passes CX0 X E := by exact pass0) (hdb : (x == ("__debug__" : Str)) = false := by decide) (he : starEach (e :: es) X.env = (false, eval e X.env) :: starEach es X.env := by rfl) (hpl : (backTo pos (starEach es X.env)).any (·.1) = false := by rfl) :
    ME X E (.Call (.Name x p) (e :: es) [] pos) (eDef n m f) := by
  obtain ⟨a, fd, ps, F, hm, kp, hb⟩ := F
  obtain ⟨t, pa, ra⟩ := ha
  refine ⟨_, pe_call F (hr.mono hk) hg hm kp hb .nil hx pa hdb he hpl, fun ρ env st σ H Q s e h => ?_⟩
  refine ra ρ env st σ H _ s e (h.split fun ds st1 ρ1 H1 vs g1 rd h1 => ?_)
  by_cases hl : ds.length = n
  · rw [if_pos hl] at h1
    show spM X.K X.mg n m (vs ++ []) H1 Q E
    rw [List.append_nil]
    exact ⟨by rw [← rd.length]; exact hl, ρ1, st1, ds, g1.sim, rd, h1⟩
  · rw [if_neg hl] at h1
    exact h1.elim
/-- the law's own promise -/
def spLaw (K : PySem.W.Frag) : Sp := fun vs H Q _ => ∃ (a : Addr) (ns : List Int), vs = [.ref a] ∧ ns.length ≤ 63 ∧ Only H ∧ SqL K H a (ns.map V.int) ∧ ∀ H', Q (.bl true) H'
theorem only_seq {H : Hp} {a : Addr} {xs : List V} (o : Only H) (h : SqL K H a xs) : SqF K H a xs := by
  rcases h with (h | h) | h
  · rcases o a with q | ⟨ob, ys, q⟩
    · rw [q] at h; cases h
    · rw [q] at h; cases h
  · exact .inl h
  · exact .inr h
/-- the law: its mirror gives True at every script -/
theorem law_ok {k : Nat} {f : Addr} {fd : FuncData} {ps : List Str} {m : List D → Store → Res D} (F : FnOk P w K mg base CX0 k f fd ps (spM K mg 1 m)) (h : ∀ ns : List Int, ns.length ≤ 63 → ∃ st, m [.scr ns] [] = .ok (.bl true) st) : FnOk P w K mg base CX0 k f fd ps (spLaw K) :=
  F.imp fun vs H Q E q => by
    obtain ⟨a, ns, rfl, hl, o, hS, hq⟩ := q
    obtain ⟨st, hm⟩ := h ns hl
    refine ⟨rfl, [], [], [.scr ns], ⟨rfl, List.nodup_nil, fun n o e => by simp at e⟩, .cons (.scr (only_seq o hS)) .nil, ?_⟩
    rw [hm]
    intro ρ' H' v g r
    cases r
    exact hq H'
end
/-- x.append(e) -/
def appTo (n : Nat) (d : D) (st : Store) : Res D := match st[n]? with
  | some (.lst ds) => if ds.length < sizeLine then .ok .non (st.set n (.lst (ds ++ [d]))) else .bad
  | _ => .bad
def eApp (fo : Ev D) (f : Ev D) : Ev D := fun env st => bindR (fo env st) fun o st1 => match o with
  | .ref n => match st1[n]? with
    | some (.lst _) => bindR (f env st1) fun d st2 => appTo n d st2
    | _ => .bad
  | _ => .bad
theorem me_append {X : Cx} {E : XK} {apos cpos : Pos} {o e : Expr} {fo fe : Ev D} (ho : ME X E o fo) (he : ME X E e fe) (hbase : attributeBase o "append" X.env (eval o X.env) = eval o X.env := by rfl)
    (hfew : ((backTo cpos (starEach [e] X.env)).all (fun x => !x.1) && (backToKw cpos (keywordEach [] X.env)).all (fun x => x.1.isSome)
      && decide ([e].length + ([] : List Keyword).length + (if ([] : List Keyword).isEmpty then 0 else 1) < 30)) = true := by rfl)
    (hline : (apos.endLine == cpos.line) = true := by rfl) (hs : starEach [e] X.env = (false, eval e X.env) :: starEach [] X.env := by rfl) (hplain : (backTo cpos (starEach [] X.env)).any (·.1) = false := by rfl) :
    ME X E (.Call (.Attribute o "append" apos) [e] [] cpos) (eApp fo fe) := by
  obtain ⟨t1, p1, r1⟩ := ho
  obtain ⟨t2, p2, r2⟩ := he
  refine ⟨_, pe_bm PySem.F.plainAttrs_list PySem.F.slot_list_append PySem.F.type_list_append mt_append p1 (pa_cons p2 pa_nil hs) hbase hfew hline hs hplain, fun ρ env st σ H Q s e h => ?_⟩
  refine r1 ρ env st σ H _ s e (h.split fun x st1 ρ1 H1 xv g1 q1 h1 => ?_)
  cases x with
  | ref n =>
    simp only at h1
    cases e1 : st1[n]? with
    | none => simp only [e1] at h1; exact h1.elim
    | some o =>
      obtain ⟨a, ho, z, w, u, rr⟩ := g1.sim.get e1 q1
      subst z
      cases rr with
      | @lst ds xs rs =>
        simp only [e1] at h1
        refine ⟨.inl ⟨rfl, _, .inl (.inl u)⟩, r2 ρ1 env st1 σ H1 _ g1.sim (e.mono g1.pre g1.ext) (h1.split fun d st2 ρ2 H2 dv g2 q2 h2 => ?_)⟩
        unfold appTo at h2
        cases e2 : st2[n]? with
        | none => simp only [e2] at h2; exact h2.elim
        | some o2 =>
          obtain ⟨a2, ho2, z2, w2, u2, rr2⟩ := g2.sim.get e2 (q1.mono g2.pre g2.ext)
          cases z2
          cases rr2 with
          | @lst ds2 xs2 rs2 =>
            simp only [e2] at h2
            by_cases hz : ds2.length < sizeLine
            · rw [if_pos hz] at h2
              refine ⟨a, xs2, dv, rfl, rfl, u2, by rw [← rs2.length]; exact hz, ?_⟩
              exact h2 _ _ _ (Go.set (o' := .lst (ds2 ++ [d])) (u' := .lst (xs2 ++ [dv])) g2.sim e2 w2 u2 (.lst rs2) (.lst (rs2.append (.cons q2 .nil)))) .non
            · rw [if_neg hz] at h2
              exact h2.elim
          | _ => simp only [e2] at h2; exact h2.elim
      | _ => simp only [e1] at h1; exact h1.elim
  | _ => exact h1.elim
end MP
theorem L2.Room.units65 {k : Nat} {A : PySem.Around} (r : L2.Room k A) : A.units + 65 < PySem.cLine := by have := r.un; omega

/-! the mirror, run by simp -/
namespace MP
open PySem PySem.Spec PyProof.Rows L2
theorem bindR_congr {α β : Type} {r r' : Res α} {k : α → Store → Res β} (h : r = r') : bindR r k = bindR r' k := by rw [h]
theorem bindS_congr {α : Type} {env : Env} {r r' : Res α} {k : α → Store → SR} (h : r = r') : bindS env r k = bindS env r' k := by rw [h]
def contS (r : SR) (g : Env → Store → SR) : SR := match r with
  | .next e st => g e st
  | r => r
theorem contS_congr {r r' : SR} {g : Env → Store → SR} (h : r = r') : contS r g = contS r' g := by rw [h]
theorem contS_next (e : Env) (st : Store) (g : Env → Store → SR) : contS (.next e st) g = g e st := rfl
theorem contS_ret (d : D) (st : Store) (g : Env → Store → SR) : contS (.ret d st) g = .ret d st := rfl
theorem seq_def (g1 g2 : Env → Store → SR) (env : Env) (st : Store) : sSeq g1 g2 env st = contS (g1 env st) g2 := rfl
theorem seq_asg (f : Ev D) (t : Tg) (g : Env → Store → SR) (env : Env) (st : Store) : sSeq (sAsg f t) g env st = bindS env (f env st) fun d st1 => bindS env (t d env st1) fun env1 st2 => g env1 st2 := by
  unfold sSeq sAsg
  cases f env st with
  | ok d st1 =>
    simp only [bindS_ok]
    cases t d env st1 <;> rfl
  | _ => rfl
theorem seq_if (c : Ev Bool) (a b g : Env → Store → SR) (env : Env) (st : Store) : sSeq (sIf c a b) g env st = bindS env (c env st) fun p st1 => if p = true then sSeq a g env st1 else sSeq b g env st1 := by
  unfold sSeq sIf
  cases c env st with
  | ok p st1 => cases p <;> rfl
  | _ => rfl
theorem seq_ret (f : Ev D) (g : Env → Store → SR) (env : Env) (st : Store) : sSeq (sRet f) g env st = sRet f env st := by
  unfold sSeq sRet
  cases f env st <;> rfl
theorem seq_nil (g : Env → Store → SR) (env : Env) (st : Store) : sSeq sNil g env st = g env st := rfl
theorem seq_expr (f : Ev D) (g : Env → Store → SR) (env : Env) (st : Store) : sSeq (sExpr f) g env st = bindS env (f env st) fun _ st1 => g env st1 := by
  unfold sSeq sExpr
  cases f env st <;> rfl
theorem seq_seq (a b g : Env → Store → SR) (env : Env) (st : Store) : sSeq (sSeq a b) g env st = sSeq a (sSeq b g) env st := by
  unfold sSeq
  cases a env st <;> rfl
theorem seq_for (f : Ev Src) (t : Tg) (b g : Env → Store → SR) (env : Env) (st : Store) : sSeq (sFor f t b) g env st = bindS env (f env st) fun s st1 => contS (forM s t b s.items env st1) g := by
  unfold sSeq sFor
  cases f env st <;> rfl
theorem for_def (f : Ev Src) (t : Tg) (b : Env → Store → SR) (env : Env) (st : Store) : sFor f t b env st = bindS env (f env st) fun s st1 => forM s t b s.items env st1 := rfl
theorem asg_def (f : Ev D) (t : Tg) (env : Env) (st : Store) : sAsg f t env st = bindS env (f env st) fun d st1 => bindS env (t d env st1) fun env1 st2 => .next env1 st2 := rfl
theorem if_def (c : Ev Bool) (a b : Env → Store → SR) (env : Env) (st : Store) : sIf c a b env st = bindS env (c env st) fun p st1 => if p = true then a env st1 else b env st1 := rfl
theorem ret_def (f : Ev D) (env : Env) (st : Store) : sRet f env st = bindS env (f env st) fun d st1 => .ret d st1 := rfl
theorem retN_def (env : Env) (st : Store) : sRetN env st = .ret .non st := rfl
theorem expr_def (f : Ev D) (env : Env) (st : Store) : sExpr f env st = bindS env (f env st) fun _ st1 => .next env st1 := rfl
theorem nil_def (env : Env) (st : Store) : sNil env st = .next env st := rfl
/-- a body's end -/
def endB (r : SR) : Res D := match r with
  | .ret d st' => .ok d st'
  | .next _ st' => .ok .non st'
  | _ => .bad
theorem endB_congr {r r' : SR} (h : r = r') : endB r = endB r' := by rw [h]
theorem endB_ret (d : D) (st : Store) : endB (.ret d st) = .ok d st := rfl
theorem endB_next (e : Env) (st : Store) : endB (.next e st) = .ok .non st := rfl
theorem endB_ite {c : Prop} [Decidable c] (a b : SR) : endB (if c then a else b) = if c then endB a else endB b := by split <;> rfl
theorem body_def (N : Nat) (g : Env → Store → SR) (ds : List D) (st : Store) : ofBody N g ds st = endB (g (ds.map some ++ List.replicate (N - ds.length) none) st) := rfl
theorem var_zero (d : D) (r : Env) (st : Store) : eVar 0 (some d :: r) st = .ok d st := rfl
theorem var_succ (n : Nat) (x : Option D) (r : Env) (st : Store) : eVar (n + 1) (x :: r) st = eVar n r st := by
  unfold eVar
  rw [List.getElem?_cons_succ]
theorem c_def (d : D) (env : Env) (st : Store) : eC d env st = .ok d st := rfl
theorem bin_def (g : G2) (fa fb : Ev D) (env : Env) (st : Store) : eBin g fa fb env st = bindR (fa env st) fun x st1 => bindR (fb env st1) fun y st2 => g x y st2 := rfl
theorem un_def (g : D → Store → Res D) (fa : Ev D) (env : Env) (st : Store) : eUn g fa env st = bindR (fa env st) g := rfl
theorem call_def (g : List D → Store → Res D) (fa : Ev (List D)) (env : Env) (st : Store) : eCall g fa env st = bindR (fa env st) g := rfl
theorem nilA_def (env : Env) (st : Store) : aNil env st = .ok [] st := rfl
theorem consA_def (f : Ev D) (g : Ev (List D)) (env : Env) (st : Store) : aCons f g env st = bindR (f env st) fun d st1 => bindR (g env st1) fun ds st2 => .ok (d :: ds) st2 := rfl
theorem def_def (n : Nat) (m : List D → Store → Res D) (f : Ev (List D)) (env : Env) (st : Store) : eDef n m f env st = bindR (f env st) fun ds st1 => if ds.length = n then m ds st1 else .bad := rfl
theorem lt_line : ∀ {n : Nat}, n ≤ 1000 → n ≤ sizeLine := fun h => Nat.le_trans h (by rw [sizeLine_eq]; decide)
theorem tup_def (f : Ev (List D)) (env : Env) (st : Store) : eTup f env st = bindR (f env st) fun ds st1 => if ds.length ≤ sizeLine then .ok (.tup ds) st1 else .bad := rfl
theorem lst_def (f : Ev (List D)) (env : Env) (st : Store) : eLst f env st = bindR (f env st) fun ds st1 => if ds.length ≤ sizeLine then .ok (.ref st1.length) (st1 ++ [.lst ds]) else .bad := rfl
theorem asB_def (f : Ev D) (env : Env) (st : Store) : asB f env st = bindR (f env st) fun d st1 => match d with
  | .bl b => .ok b st1
  | _ => .bad := rfl
theorem asT_def (f : Ev D) (env : Env) (st : Store) : asT f env st = bindR (f env st) fun d st1 => match truD st1 d with
  | some b => .ok b st1
  | none => .bad := rfl
theorem notM_def (f : Ev Bool) (env : Env) (st : Store) : tNotM f env st = bindR (f env st) fun b st1 => .ok (!b) st1 := rfl
theorem andM_def (f g : Ev Bool) (env : Env) (st : Store) : tAndM f g env st = bindR (f env st) fun b st1 => if b = true then g env st1 else .ok false st1 := rfl
theorem orM_def (f g : Ev Bool) (env : Env) (st : Store) : tOrM f g env st = bindR (f env st) fun b st1 => if b = true then .ok true st1 else g env st1 := rfl
theorem not_def (f : Ev D) (env : Env) (st : Store) : eNot f env st = bindR (f env st) fun d st1 => match truD st1 d with
  | some b => .ok (.bl (!b)) st1
  | none => .bad := rfl
theorem and_def (f g : Ev D) (env : Env) (st : Store) : eAnd f g env st = bindR (f env st) fun d st1 => match truD st1 d with
  | some true => g env st1
  | some false => .ok d st1
  | none => .bad := rfl
theorem or_def (f g : Ev D) (env : Env) (st : Store) : eOr f g env st = bindR (f env st) fun d st1 => match truD st1 d with
  | some true => .ok d st1
  | some false => g env st1
  | none => .bad := rfl
theorem ifE_def (c : Ev Bool) (f g : Ev D) (env : Env) (st : Store) : eIf c f g env st = bindR (c env st) fun b st1 => if b = true then f env st1 else g env st1 := rfl
theorem gN_def (i : Nat) (d : D) (env : Env) (st : Store) : gN i d env st = .ok (env.set i (some d)) st := rfl
theorem gT_tup (n : Nat) (gs : List D → Env → Store → Res Env) (ds : List D) (env : Env) (st : Store) : gT n gs (.tup ds) env st = if ds.length = n then gs ds env st else .bad := rfl
theorem gsNil_def (env : Env) (st : Store) : gsNil [] env st = .ok env st := rfl
theorem gsCons_def (g : Tg) (gs : List D → Env → Store → Res Env) (d : D) (r : List D) (env : Env) (st : Store) : gsCons g gs (d :: r) env st = bindR (g d env st) fun env1 st1 => gs r env1 st1 := rfl
theorem gI_def (fo fi : Ev D) (d : D) (env : Env) (st : Store) : gI fo fi d env st = bindR (fo env st) fun o st1 => bindR (fi env st1) fun i st2 => match o, i with
  | .ref n, .int k => match st2[n]? with
    | some (.lst ds) => match ixN ds.length k with
      | some j => .ok env (st2.set n (.lst (ds.set j d)))
      | none => .bad
    | _ => .bad
  | _, _ => .bad := rfl
theorem add_ii (i j : Int) (st : Store) : gAdd (.int i) (.int j) st = .ok (.int (i + j)) st := rfl
theorem sub_ii (i j : Int) (st : Store) : MP.gSub (.int i) (.int j) st = .ok (.int (i - j)) st := rfl
theorem mul_ii (i j : Int) (st : Store) : gMul (.int i) (.int j) st = if CMul i j then .ok (.int (i * j)) st else .bad := rfl
theorem div_ii (i j : Int) (st : Store) : gDiv (.int i) (.int j) st = if CDiv i j then .ok (.int (i / j)) st else .bad := rfl
theorem mod_ii (i j : Int) (st : Store) : gMod (.int i) (.int j) st = if 0 < j then .ok (.int (i % j)) st else .bad := rfl
theorem pow_ii (i j : Int) (st : Store) : gPow (.int i) (.int j) st = if CPow i j then .ok (.int (i ^ j.toNat)) st else .bad := rfl
theorem neg_i (i : Int) (st : Store) : gNeg (.int i) st = .ok (.int (-i)) st := rfl
theorem cmp_ii (f : Int → Int → Bool) (i j : Int) (st : Store) : gCmp f (.int i) (.int j) st = .ok (.bl (f i j)) st := rfl
theorem eq_ii (n : Bool) (i j : Int) (st : Store) : gEq n (.int i) (.int j) st = .ok (.bl (decide (i = j) ^^ n)) st := rfl
theorem eq_ss (n : Bool) (i j : Str) (st : Store) : gEq n (.str i) (.str j) st = .ok (.bl (decide (i = j) ^^ n)) st := rfl
theorem eq_bb (n : Bool) (i j : Bool) (st : Store) : gEq n (.bl i) (.bl j) st = .ok (.bl (decide (i = j) ^^ n)) st := rfl
theorem int_i (i : Int) (st : Store) : gInt [.int i] st = .ok (.int i) st := rfl
theorem int_b (b : Bool) (st : Store) : gInt [.bl b] st = .ok (.int (if b then 1 else 0)) st := rfl
theorem ixD_ (x : D) (i : Int) (st : Store) (h : ∀ z, x ≠ .str z) : gIx x (.int i) st = ixSeq st i (itemsOf st x) := by
  cases x <;> first
    | rfl
    | exact absurd rfl (h _)
theorem ixT_ (ds : List D) (i : Int) (st : Store) : gIx (.tup ds) (.int i) st = match atI ds i with
  | some d => .ok d st
  | none => .bad := rfl
theorem ixR_ (n : Nat) (ds : List D) (i : Int) (st : Store) (h : st[n]? = some (.lst ds)) : gIx (.ref n) (.int i) st = match atI ds i with
  | some d => .ok d st
  | none => .bad := by
  show ixSeq st i (match st[n]? with | some (.lst ds) => some ds | _ => none) = _
  rw [h]
  rfl
theorem lenR_ (n : Nat) (ds : List D) (st : Store) (h : st[n]? = some (.lst ds)) : gLen [.ref n] st = .ok (.int ds.length) st := by
  show (match st[n]? with | some (.lst ds) => Res.ok (D.int ds.length) st | some (.dct kvs) => .ok (.int kvs.length) st | _ => .bad) = _
  rw [h]
theorem lenT_ (ds : List D) (st : Store) : gLen [.tup ds] st = .ok (.int ds.length) st := rfl
theorem list_def (x : D) (st : Store) : gList [x] st = match itemsOf st x with
  | some ds => .ok (.ref st.length) (st ++ [.lst ds])
  | none => .bad := rfl
theorem tuple_def (x : D) (st : Store) : gTuple [x] st = match itemsOf st x with
  | some ds => .ok (.tup ds) st
  | none => .bad := rfl
theorem itT_ (ds : List D) (st : Store) : itemsOf st (.tup ds) = some ds := rfl
theorem itS_ (ns : List Int) (st : Store) : itemsOf st (.scr ns) = some (ns.map D.int) := rfl
theorem itR_ (n : Nat) (ds : List D) (st : Store) (h : st[n]? = some (.lst ds)) : itemsOf st (.ref n) = some ds := by
  show (match st[n]? with | some (.lst ds) => some ds | _ => none) = _
  rw [h]
theorem at_zero {α : Type} (x : α) (r : List α) : atI (x :: r) 0 = some x := by
  have := atI_nat (xs := x :: r) (j := 0) (v := x) rfl
  exact this
theorem at_one {α : Type} (x y : α) (r : List α) : atI (x :: y :: r) 1 = some y := by
  have := atI_nat (xs := x :: y :: r) (j := 1) (v := y) rfl
  exact this
theorem at_two {α : Type} (x y z : α) (r : List α) : atI (x :: y :: z :: r) 2 = some z := by
  have := atI_nat (xs := x :: y :: z :: r) (j := 2) (v := z) rfl
  exact this
theorem at_three {α : Type} (x y z u : α) (r : List α) : atI (x :: y :: z :: u :: r) 3 = some u := by
  have := atI_nat (xs := x :: y :: z :: u :: r) (j := 3) (v := u) rfl
  exact this
theorem at_in {α : Type} (xs : List α) (k : Int) (h0 : 0 ≤ k) (h1 : k < xs.length) : atI xs k = xs[k.toNat]? := by
  obtain ⟨n, rfl⟩ := Int.eq_ofNat_of_zero_le h0
  have hl : n < xs.length := by omega
  rw [Int.toNat_natCast, List.getElem?_eq_getElem hl]
  exact atI_nat (List.getElem?_eq_getElem hl)
def lstOf : Option O → Option (List D)
  | some (.lst ds) => some ds
  | _ => none
def atR (o : Option D) (st : Store) : Res D := match o with
  | some d => .ok d st
  | none => .bad
theorem it_ref (n : Nat) (st : Store) : itemsOf st (.ref n) = lstOf st[n]? := by
  show (match st[n]? with | some (.lst ds) => some ds | _ => none) = _
  cases st[n]? with
  | none => rfl
  | some o => cases o <;> rfl
theorem lstOf_lst (ds : List D) : lstOf (some (.lst ds)) = some ds := rfl
theorem ix_ref' (n : Nat) (i : Int) (st : Store) : gIx (.ref n) (.int i) st = ixSeq st i (lstOf st[n]?) := by
  rw [← it_ref]
  rfl
theorem ixS_some (st : Store) (i : Int) (ds : List D) : ixSeq st i (some ds) = atR (atI ds i) st := by
  show (match atI ds i with | some d => Res.ok d st | none => .bad) = _
  cases atI ds i <;> rfl
theorem ix_tup' (ds : List D) (i : Int) (st : Store) : gIx (.tup ds) (.int i) st = atR (atI ds i) st := ixS_some st i ds
theorem atR_some (d : D) (st : Store) : atR (some d) st = .ok d st := rfl
def lenO (o : Option O) (st : Store) : Res D := match o with
  | some (.lst ds) => .ok (.int ds.length) st
  | some (.dct kvs) => .ok (.int kvs.length) st
  | _ => .bad
theorem len_ref' (n : Nat) (st : Store) : gLen [.ref n] st = lenO st[n]? st := by
  show (match st[n]? with | some (.lst ds) => Res.ok (D.int ds.length) st | some (.dct kvs) => .ok (.int kvs.length) st | _ => .bad) = _
  cases st[n]? with
  | none => rfl
  | some o => cases o <;> rfl
theorem lenO_lst (ds : List D) (st : Store) : lenO (some (.lst ds)) st = .ok (.int ds.length) st := rfl
def truO : Option O → Option Bool
  | some (.lst ds) => some (!ds.isEmpty)
  | some (.dct kvs) => some (!kvs.isEmpty)
  | _ => none
theorem tru_ref' (n : Nat) (st : Store) : truD st (.ref n) = truO st[n]? := by
  show (match st[n]? with | some (.lst ds) => some (!ds.isEmpty) | some (.dct kvs) => some (!kvs.isEmpty) | _ => none) = _
  cases st[n]? with
  | none => rfl
  | some o => cases o <;> rfl
theorem truO_lst (ds : List D) : truO (some (.lst ds)) = some (!ds.isEmpty) := rfl
/-- a store into a list -/
def putL (o : Option O) (n : Nat) (k : Int) (d : D) (env : Env) (st : Store) : Res Env := match o with
  | some (.lst ds) => match ixN ds.length k with
    | some j => .ok env (st.set n (.lst (ds.set j d)))
    | none => .bad
  | _ => .bad
def putD (o i d : D) (env : Env) (st : Store) : Res Env := match o, i with
  | .ref n, .int k => putL st[n]? n k d env st
  | _, _ => .bad
theorem gI_def' (fo fi : Ev D) (d : D) (env : Env) (st : Store) : gI fo fi d env st = bindR (fo env st) fun o st1 => bindR (fi env st1) fun i st2 => putD o i d env st2 := by
  unfold gI
  cases fo env st with
  | ok o st1 =>
    simp only [bindR_ok]
    cases fi env st1 with
    | ok i st2 =>
      simp only [bindR_ok]
      cases o <;> cases i <;> first
        | rfl
        | skip
    | _ => rfl
  | _ => rfl
theorem putD_ri (n : Nat) (k : Int) (d : D) (env : Env) (st : Store) : putD (.ref n) (.int k) d env st = putL st[n]? n k d env st := rfl
def setAt (o : Option Nat) (n : Nat) (ds : List D) (d : D) (env : Env) (st : Store) : Res Env := match o with
  | some j => .ok env (st.set n (.lst (ds.set j d)))
  | none => .bad
theorem putL_lst (ds : List D) (n : Nat) (k : Int) (d : D) (env : Env) (st : Store) : putL (some (.lst ds)) n k d env st = setAt (ixN ds.length k) n ds d env st := by
  show (match ixN ds.length k with | some j => Res.ok env (st.set n (.lst (ds.set j d))) | none => .bad) = _
  cases ixN ds.length k <;> rfl
theorem setAt_some (j n : Nat) (ds : List D) (d : D) (env : Env) (st : Store) : setAt (some j) n ds d env st = .ok env (st.set n (.lst (ds.set j d))) := rfl
theorem ixN_in (n : Nat) (k : Int) (h0 : 0 ≤ k) (h1 : k < n) : ixN n k = some k.toNat := by
  unfold ixN
  rw [if_pos h0, if_pos h1]
/-- tests -/
def boolR (d : D) (st : Store) : Res Bool := match d with
  | .bl b => .ok b st
  | _ => .bad
theorem asB_def' (f : Ev D) (env : Env) (st : Store) : asB f env st = bindR (f env st) boolR := rfl
theorem boolR_bl (b : Bool) (st : Store) : boolR (.bl b) st = .ok b st := rfl
def optR {α : Type} (o : Option α) (st : Store) : Res α := match o with
  | some b => .ok b st
  | none => .bad
theorem optR_some {α : Type} (b : α) (st : Store) : optR (some b) st = .ok b st := rfl
theorem asT_def' (f : Ev D) (env : Env) (st : Store) : asT f env st = bindR (f env st) fun d st1 => optR (truD st1 d) st1 := by
  unfold asT
  congr 1
  funext d st1
  cases truD st1 d <;> rfl
theorem not_def' (f : Ev D) (env : Env) (st : Store) : eNot f env st = bindR (f env st) fun d st1 => bindR (optR (truD st1 d) st1) fun b st2 => .ok (.bl (!b)) st2 := by
  unfold eNot
  congr 1
  funext d st1
  cases truD st1 d <;> rfl
theorem and_def' (f g : Ev D) (env : Env) (st : Store) : eAnd f g env st = bindR (f env st) fun d st1 => bindR (optR (truD st1 d) st1) fun b st2 => if b = true then g env st2 else .ok d st2 := by
  unfold eAnd
  congr 1
  funext d st1
  cases truD st1 d with
  | none => rfl
  | some b => cases b <;> rfl
theorem or_def' (f g : Ev D) (env : Env) (st : Store) : eOr f g env st = bindR (f env st) fun d st1 => bindR (optR (truD st1 d) st1) fun b st2 => if b = true then .ok d st2 else g env st2 := by
  unfold eOr
  congr 1
  funext d st1
  cases truD st1 d with
  | none => rfl
  | some b => cases b <;> rfl
def blR (neg : Bool) (o : Option Bool) (st : Store) : Res D := match o with
  | some b => .ok (.bl (b ^^ neg)) st
  | none => .bad
theorem blR_some (neg b : Bool) (st : Store) : blR neg (some b) st = .ok (.bl (b ^^ neg)) st := rfl
theorem gEq_def (n : Bool) (x y : D) (st : Store) : gEq n x y st = blR n (eqD st x y) st := by
  unfold gEq
  cases eqD st x y <;> rfl
theorem gIn_def (n : Bool) (x y : D) (st : Store) : gIn n x y st = blR n (MP.inD st x y) st := by
  unfold gIn
  cases MP.inD st x y <;> rfl
theorem tupR_def (x : D) (st : Store) : gTuple [x] st = bindR (optR (itemsOf st x) st) fun ds st1 => .ok (.tup ds) st1 := by
  show (match itemsOf st x with | some ds => Res.ok (D.tup ds) st | none => .bad) = _
  cases itemsOf st x <;> rfl
theorem lstR_def (x : D) (st : Store) : gList [x] st = bindR (optR (itemsOf st x) st) fun ds st1 => .ok (.ref st1.length) (st1 ++ [O.lst ds]) := by
  show (match itemsOf st x with | some ds => Res.ok (D.ref st.length) (st ++ [O.lst ds]) | none => .bad) = _
  cases itemsOf st x <;> rfl
/-- x in (texts) -/
theorem in_list_str {st : Store} {n : Nat} {x : Str} {ds : List D} {vs : List V} (h : st[n]? = some (.lst ds)) (hv : ds.mapM flat = some vs) : MP.inD st (.str x) (.ref n) = some (inV (.str x) vs) := by
  unfold MP.inD
  rw [it_ref, h]
  show (match (match flat (.str x), ds.mapM flat with | some v, some vs => some (inV v vs) | _, _ => none) with | some b => some b | none => _) = _
  rw [hv]
  rfl
theorem tru_non (st : Store) : truD st .non = some false := rfl
theorem tru_bl (b : Bool) (st : Store) : truD st (.bl b) = some b := rfl
theorem tru_int (i : Int) (st : Store) : truD st (.int i) = some (i != 0) := rfl
theorem tru_tup (ds : List D) (st : Store) : truD st (.tup ds) = some (!ds.isEmpty) := rfl
theorem tru_ref (n : Nat) (ds : List D) (st : Store) (h : st[n]? = some (.lst ds)) : truD st (.ref n) = some (!ds.isEmpty) := by
  show (match st[n]? with | some (.lst ds) => some (!ds.isEmpty) | some (.dct kvs) => some (!kvs.isEmpty) | _ => none) = _
  rw [h]
theorem isi_of {x : D} {t n : String} {b : Bool} {st : Store} (h : tyOfD st x = some t) (k : kitB t n = some b) : gIsi [x, .ty n] st = .ok (.bl b) st := by
  show (match tyOfD st x with | some t => (match kitB t n with | some b => Res.ok (D.bl b) st | none => .bad) | none => .bad) = _
  rw [h]
  show (match kitB t n with | some b => Res.ok (D.bl b) st | none => .bad) = _
  rw [k]
theorem isi_bb (a : Bool) (st : Store) : gIsi [.bl a, .ty "bool"] st = .ok (.bl true) st := isi_of (t := "bool") rfl (by decide +kernel)
theorem isi_ii (a : Int) (st : Store) : gIsi [.int a, .ty "int"] st = .ok (.bl true) st := isi_of (t := "int") rfl (by decide +kernel)
theorem isi_ib (a : Int) (st : Store) : gIsi [.int a, .ty "bool"] st = .ok (.bl false) st := isi_of (t := "int") rfl (by decide +kernel)
theorem isi_tt (ds : List D) (st : Store) : gIsi [.tup ds, .ty "tuple"] st = .ok (.bl true) st := isi_of (t := "tuple") rfl (by decide +kernel)
theorem isi_ss (x : Str) (st : Store) : gIsi [.str x, .ty "str"] st = .ok (.bl true) st := isi_of (t := "str") rfl (by decide +kernel)
theorem isi_ll (n : Nat) (ds : List D) (st : Store) (h : st[n]? = some (.lst ds)) : gIsi [.ref n, .ty "list"] st = .ok (.bl true) st := by
  refine isi_of (t := "list") ?_ (by decide +kernel)
  show (match st[n]? with | some (.lst _) => some "list" | some (.dct _) => some "dict" | _ => none) = _
  rw [h]
/-- a turn's end -/
def loopK (r : SR) (k : Env → Store → SR) : SR := match r with
  | .next e st => k e st
  | .cnt e st => k e st
  | .brk e st => .next e st
  | r => r
theorem loopK_next (e : Env) (st : Store) (k : Env → Store → SR) : loopK (.next e st) k = k e st := rfl
theorem loopK_ret (d : D) (st : Store) (k : Env → Store → SR) : loopK (.ret d st) k = .ret d st := rfl
theorem for_nil (s : Src) (g : Tg) (b : Env → Store → SR) (env : Env) (st : Store) (h : s.Ok st) : forM s g b [] env st = .next env st := by
  unfold forM
  rw [if_pos h]
theorem for_cons (s : Src) (g : Tg) (b : Env → Store → SR) (d : D) (ds : List D) (env : Env) (st : Store) (h : s.Ok st) :
    forM s g b (d :: ds) env st = bindS env (g d env st) fun env1 st1 => loopK (b env1 st1) fun e st2 => forM s g b ds e st2 := by
  rw [forM]
  rw [if_pos h]
  cases g d env st with
  | ok env1 st1 =>
    show (match b env1 st1 with | .next env2 st2 => _ | .cnt env2 st2 => _ | .brk env2 st2 => _ | r => r) = loopK (b env1 st1) _
    cases b env1 st1 <;> rfl
  | _ => rfl
theorem ok_vals (ds : List D) (st : Store) : Src.Ok { items := ds } st := trivial
theorem ok_obj (ds : List D) (n : Nat) (st : Store) (h : st[n]? = some (.lst ds)) : Src.Ok { items := ds, obj := some n } st := h
def srcO (o : Option O) (n : Nat) : Option Src := match o with
  | some (.lst ds) => some { items := ds, obj := some n }
  | _ => none
theorem src_ref (n : Nat) (st : Store) : srcOf st (.ref n) = srcO st[n]? n := by
  show (match st[n]? with | some (.lst ds) => some (Src.mk ds (some n)) | _ => none) = _
  cases st[n]? with
  | none => rfl
  | some o => cases o <;> rfl
theorem srcO_lst (ds : List D) (n : Nat) : srcO (some (.lst ds)) n = some { items := ds, obj := some n } := rfl
theorem src_tup (ds : List D) (st : Store) : srcOf st (.tup ds) = some { items := ds } := rfl
theorem fseq_def (f : Ev D) (env : Env) (st : Store) : fSeq f env st = bindR (f env st) fun d st1 => optR (srcOf st1 d) st1 := by
  unfold fSeq
  congr 1
  funext d st1
  cases srcOf st1 d <;> rfl
end MP

namespace T
open PySem PySem.Spec PyProof.Rows L2 MP
def topS (i : Nat) : Stmt := PySem.Challenge.pw_commonground_k02_literal_implies.main.body.getD i (.Pass ⟨0, 0, 0, 0⟩)
abbrev s_relation_holds : Stmt := topS 1
theorem sc_relation_holds : FnScope ["relation", "left", "right"] ["relation", "left", "right"] (defScope s_relation_holds) := ⟨rfl, rfl, rfl, by decide +kernel, rfl, by decide +kernel, by decide +kernel⟩
abbrev s_literal_holds : Stmt := topS 2
theorem sc_literal_holds : FnScope ["literal", "worth", "_", "relation", "a"] ["literal", "worth"] (defScope s_literal_holds) := ⟨rfl, rfl, rfl, by decide +kernel, rfl, by decide +kernel, by decide +kernel⟩
abbrev s_half_line_implies : Stmt := topS 4
theorem sc_half_line_implies : FnScope ["relation", "a", "literal"] ["relation", "a", "literal"] (defScope s_half_line_implies) := ⟨rfl, rfl, rfl, by decide +kernel, rfl, by decide +kernel, by decide +kernel⟩
abbrev s__law_same : Stmt := topS 6
theorem sc__law_same : FnScope ["told", "due"] ["told", "due"] (defScope s__law_same) := ⟨rfl, rfl, rfl, by decide +kernel, rfl, by decide +kernel, by decide +kernel⟩
abbrev s__law_draw : Stmt := topS 7
theorem sc__law_draw : FnScope ["tape", "many", "cells", "k", "cell", "digit"] ["tape", "many"] (defScope s__law_draw) := ⟨rfl, rfl, rfl, by decide +kernel, rfl, by decide +kernel, by decide +kernel⟩
abbrev s__law_tape : Stmt := topS 8
theorem sc__law_tape : FnScope ["script"] ["script"] (defScope s__law_tape) := ⟨rfl, rfl, rfl, by decide +kernel, rfl, by decide +kernel, by decide +kernel⟩
abbrev s__law_rel : Stmt := topS 9
theorem sc__law_rel : FnScope ["relation", "left", "right"] ["relation", "left", "right"] (defScope s__law_rel) := ⟨rfl, rfl, rfl, by decide +kernel, rfl, by decide +kernel, by decide +kernel⟩
abbrev s__law_read : Stmt := topS 10
theorem sc__law_read : FnScope ["tape", "scale", "relation"] ["tape", "scale"] (defScope s__law_read) := ⟨rfl, rfl, rfl, by decide +kernel, rfl, by decide +kernel, by decide +kernel⟩
abbrev s_literal_implies : Stmt := topS 3
theorem sc_literal_implies : FnScope ["first", "second", "v", "relation", "a"] ["first", "second"] (defScope s_literal_implies) := ⟨rfl, rfl, rfl, by decide +kernel, rfl, by decide +kernel, by decide +kernel⟩
abbrev s_law : Stmt := topS 11
theorem sc_law : FnScope ["script", "tape", "scale", "first", "second", "due", "a", "step"] ["script"] (defScope s_law) := ⟨rfl, rfl, rfl, by decide +kernel, rfl, by decide +kernel, by decide +kernel⟩
noncomputable def m_relation_holds : List D → Store → Res D := ofBody 3 (
    sSeq (sIf (asB (eBin (gEq false) (eVar 0) (eC (.str "<=")))) (sRet (eBin (gCmp fun i j => decide (i ≤ j)) (eVar 1) (eVar 2))) (sNil))
    (sSeq (sIf (asB (eBin (gEq false) (eVar 0) (eC (.str ">=")))) (sRet (eBin (gCmp fun i j => decide (j ≤ i)) (eVar 1) (eVar 2))) (sNil))
    (sSeq (sIf (asB (eBin (gEq false) (eVar 0) (eC (.str "=")))) (sRet (eBin (gEq false) (eVar 1) (eVar 2))) (sNil))
    (sRet (eBin (gEq true) (eVar 1) (eVar 2))))))
noncomputable def m_literal_holds : List D → Store → Res D := ofBody 5 (
    sSeq (sAsg (eVar 0) (gT 3 (gsCons (gN 2) (gsCons (gN 3) (gsCons (gN 4) (gsNil))))))
    (sRet (eDef 3 m_relation_holds (aCons (eVar 3) (aCons (eVar 1) (aCons (eVar 4) (aNil)))))))
noncomputable def m_half_line_implies : List D → Store → Res D := ofBody 3 (
    sSeq (sIf (asB (eBin (gEq false) (eBin gIx (eVar 2) (eC (.int 1))) (eVar 0))) (sRet (eDef 2 m_literal_holds (aCons (eVar 2) (aCons (eVar 1) (aNil))))) (sNil))
    (sRet (eAnd (eBin (gEq false) (eBin gIx (eVar 2) (eC (.int 1))) (eC (.str "!="))) (eNot (eDef 3 m_relation_holds (aCons (eVar 0) (aCons (eBin gIx (eVar 2) (eC (.int 2))) (aCons (eVar 1) (aNil)))))))))
noncomputable def m__law_same : List D → Store → Res D := ofBody 2 (
    sRet (eAnd (eCall gIsi (aCons (eVar 0) (aCons (eC (.ty "bool")) (aNil)))) (eBin (gEq false) (eVar 0) (eVar 1))))
noncomputable def m__law_draw : List D → Store → Res D := ofBody 6 (
    sSeq (sIf (asB (eBin (gCmp fun i j => decide (i < j)) (eBin gIx (eVar 0) (eC (.int 2))) (eVar 1))) (sSeq (sAsg (eBin gIx (eVar 0) (eC (.int 0))) (gN 2))
    (sSeq (sAsg (eBin gIx (eVar 0) (eC (.int 1))) (gN 3))
    (sSeq (sAsg (eC (.int 0)) (gN 4))
    (sSeq (sIf (asB (eBin (gCmp fun i j => decide (i < j)) (eVar 3) (eCall gLen (aCons (eVar 2) (aNil))))) (sAsg (eBin gIx (eVar 2) (eVar 3)) (gN 4)) (sNil))
    (sSeq (sIf (asB (eBin (gCmp fun i j => decide (i < j)) (eVar 4) (eC (.int 0)))) (sAsg (eBin gSub (eBin gMul (eUn gNeg (eC (.int 2))) (eVar 4)) (eC (.int 1))) (gN 4)) (sNil))
    (sSeq (sIf (asB (eBin (gCmp fun i j => decide (i < j)) (eVar 4) (eBin gPow (eC (.int 10)) (eC (.int 9))))) (sSeq (sAsg (eBin gMod (eCall gInt (aCons (eBin gAdd (eBin gAdd (eBin gMul (eVar 4) (eC (.int 48271))) (eBin gMul (eVar 3) (eC (.int 69621)))) (eC (.int 12345))) (aNil))) (eC (.int 2147483647))) (gN 4))
    (sAsg (eBin gMod (eCall gInt (aCons (eBin gAdd (eBin gAdd (eBin gMul (eVar 4) (eC (.int 16807))) (eBin gMul (eVar 3) (eC (.int 39373)))) (eC (.int 6789))) (aNil))) (eC (.int 2147483629))) (gN 4))) (sNil))
    (sSeq (sAsg (eBin gAdd (eVar 3) (eC (.int 1))) (gI (eVar 0) (eC (.int 1))))
    (sAsg (eVar 4) (gI (eVar 0) (eC (.int 2))))))))))) (sNil))
    (sSeq (sAsg (eBin gMod (eCall gInt (aCons (eBin gIx (eVar 0) (eC (.int 2))) (aNil))) (eVar 1)) (gN 5))
    (sSeq (sAsg (eBin gDiv (eBin gIx (eVar 0) (eC (.int 2))) (eVar 1)) (gI (eVar 0) (eC (.int 2))))
    (sRet (eVar 5)))))
noncomputable def m__law_tape : List D → Store → Res D := ofBody 1 (
    sRet (eLst (aCons (eCall gList (aCons (eVar 0) (aNil))) (aCons (eC (.int 0)) (aCons (eC (.int 0)) (aNil))))))
noncomputable def m__law_rel : List D → Store → Res D := ofBody 3 (
    sSeq (sIf (asB (eBin (gEq false) (eVar 0) (eC (.str "<=")))) (sRet (eBin (gCmp fun i j => decide (i ≤ j)) (eVar 1) (eVar 2))) (sNil))
    (sSeq (sIf (asB (eBin (gEq false) (eVar 0) (eC (.str ">=")))) (sRet (eBin (gCmp fun i j => decide (j ≤ i)) (eVar 1) (eVar 2))) (sNil))
    (sRet (eBin (gEq false) (eBin (gEq false) (eVar 1) (eVar 2)) (eBin (gEq false) (eVar 0) (eC (.str "=")))))))
noncomputable def m__law_read : List D → Store → Res D := ofBody 3 (
    sSeq (sAsg (eBin gIx (eLst (aCons (eC (.str "<=")) (aCons (eC (.str ">=")) (aCons (eC (.str "=")) (aCons (eC (.str "!=")) (aNil)))))) (eDef 2 m__law_draw (aCons (eVar 0) (aCons (eC (.int 4)) (aNil))))) (gN 2))
    (sRet (eTup (aCons (eCall gInt (aCons (eBin (gEq false) (eDef 2 m__law_draw (aCons (eVar 0) (aCons (eC (.int 4)) (aNil)))) (eC (.int 0))) (aNil))) (aCons (eVar 2) (aCons (eBin gMul (eBin gSub (eDef 2 m__law_draw (aCons (eVar 0) (aCons (eC (.int 13)) (aNil)))) (eC (.int 6))) (eVar 1)) (aNil)))))))
noncomputable def m_literal_implies : List D → Store → Res D := ofBody 5 (
    sSeq (sAsg (eVar 0) (gT 3 (gsCons (gN 2) (gsCons (gN 3) (gsCons (gN 4) (gsNil))))))
    (sSeq (sIf (asB (eBin (gEq true) (eVar 2) (eBin gIx (eVar 1) (eC (.int 0))))) (sRet (eC (.bl false))) (sNil))
    (sSeq (sIf (asB (eBin (gEq false) (eVar 3) (eC (.str "=")))) (sRet (eDef 2 m_literal_holds (aCons (eVar 1) (aCons (eVar 4) (aNil))))) (sNil))
    (sSeq (sIf (asB (eBin (gEq false) (eVar 3) (eC (.str "!=")))) (sRet (eBin (gEq false) (eVar 0) (eVar 1))) (sNil))
    (sRet (eDef 3 m_half_line_implies (aCons (eVar 3) (aCons (eVar 4) (aCons (eVar 1) (aNil))))))))))
noncomputable def m_law : List D → Store → Res D := ofBody 8 (
    sSeq (sAsg (eDef 1 m__law_tape (aCons (eVar 0) (aNil))) (gN 1))
    (sSeq (sAsg (eC (.int 1)) (gN 2))
    (sSeq (sIf (asB (eBin (gEq false) (eDef 2 m__law_draw (aCons (eVar 1) (aCons (eC (.int 4)) (aNil)))) (eC (.int 0)))) (sAsg (eBin gAdd (eC (.int 1)) (eDef 2 m__law_draw (aCons (eVar 1) (aCons (eBin gPow (eC (.int 10)) (eC (.int 8))) (aNil))))) (gN 2)) (sNil))
    (sSeq (sAsg (eDef 2 m__law_read (aCons (eVar 1) (aCons (eVar 2) (aNil)))) (gN 3))
    (sSeq (sAsg (eDef 2 m__law_read (aCons (eVar 1) (aCons (eVar 2) (aNil)))) (gN 4))
    (sSeq (sAsg (eBin (gEq false) (eBin gIx (eVar 3) (eC (.int 0))) (eBin gIx (eVar 4) (eC (.int 0)))) (gN 5))
    (sSeq (sFor (fSeq (eLst (aCons (eBin gIx (eVar 3) (eC (.int 2))) (aCons (eBin gIx (eVar 4) (eC (.int 2))) (aNil))))) (gN 6) (sFor (fSeq (eLst (aCons (eUn gNeg (eBin gPow (eC (.int 10)) (eC (.int 12)))) (aCons (eUn gNeg (eC (.int 1))) (aCons (eC (.int 0)) (aCons (eC (.int 1)) (aCons (eBin gPow (eC (.int 10)) (eC (.int 12))) (aNil)))))))) (gN 7) (sIf (tAndM (asT (eDef 3 m__law_rel (aCons (eBin gIx (eVar 3) (eC (.int 1))) (aCons (eBin gAdd (eVar 6) (eVar 7)) (aCons (eBin gIx (eVar 3) (eC (.int 2))) (aNil)))))) (tNotM (asT (eDef 3 m__law_rel (aCons (eBin gIx (eVar 4) (eC (.int 1))) (aCons (eBin gAdd (eVar 6) (eVar 7)) (aCons (eBin gIx (eVar 4) (eC (.int 2))) (aNil)))))))) (sAsg (eC (.bl false)) (gN 5)) (sNil))))
    (sRet (eDef 2 m__law_same (aCons (eDef 2 m_literal_implies (aCons (eVar 3) (aCons (eVar 4) (aNil)))) (aCons (eVar 5) (aNil))))))))))))
section
variable {P : Program} {w : World} {K : PySem.W.Frag} {mg : Str → Option Value} {base : Heap}
theorem ok_relation_holds {f : Addr} {fd : FuncData} (F : Fun K "relation_holds" "relation_holds" s_relation_holds f fd)   : FnOk P w K mg base CX0 1 f fd ["relation", "left", "right"] (spM K mg 3 m_relation_holds) := by
  unfold m_relation_holds
  exact fn_ok (k := 0) F sc_relation_holds fun cdv A outer s H E hr => 
    mss_cons (ms_if (mt_cmp (op_eqA hr.units) real_eq (me_var 0) (me_str) (nomark _)) (mss_one (ms_ret (me_cmp op_le real_cmp (me_var 1) (me_var 2) (nomark _)))) (mss_nil))
    (mss_cons (ms_if (mt_cmp (op_eqA hr.units) real_eq (me_var 0) (me_str) (nomark _)) (mss_one (ms_ret (me_cmp op_ge real_cmp (me_var 1) (me_var 2) (nomark _)))) (mss_nil))
    (mss_cons (ms_if (mt_cmp (op_eqA hr.units) real_eq (me_var 0) (me_str) (nomark _)) (mss_one (ms_ret (me_cmp (op_eqA hr.units) real_eq (me_var 1) (me_var 2) (nomark _)))) (mss_nil))
    (mss_one (ms_ret (me_cmp (op_neA hr.units) real_ne (me_var 1) (me_var 2) (nomark _))))))
theorem ok_literal_holds {f : Addr} {fd : FuncData} (F : Fun K "literal_holds" "literal_holds" s_literal_holds f fd) (c_relation_holds : Fn P w K mg base 1 "relation_holds" 3 m_relation_holds)  : FnOk P w K mg base CX0 2 f fd ["literal", "worth"] (spM K mg 2 m_literal_holds) := by
  unfold m_literal_holds
  exact fn_ok (k := 1) F sc_literal_holds fun cdv A outer s H E hr => 
    mss_cons (ms_asg (me_var 0) (mg_tup 3 rfl (mgs_cons (mg_name 2 sc_literal_holds.nd) (mgs_cons (mg_name 3 sc_literal_holds.nd) (mgs_cons (mg_name 4 sc_literal_holds.nd) (mgs_nil))))))
    (mss_one (ms_ret (me_call c_relation_holds hr (ma_cons (me_var 3) (ma_cons (me_var 1) (ma_cons (me_var 4) (ma_nil)))))))
theorem ok_half_line_implies {f : Addr} {fd : FuncData} (F : Fun K "half_line_implies" "half_line_implies" s_half_line_implies f fd) (c_literal_holds : Fn P w K mg base 2 "literal_holds" 2 m_literal_holds) (c_relation_holds : Fn P w K mg base 1 "relation_holds" 3 m_relation_holds)  : FnOk P w K mg base CX0 3 f fd ["relation", "a", "literal"] (spM K mg 3 m_half_line_implies) := by
  unfold m_half_line_implies
  exact fn_ok (k := 2) F sc_half_line_implies fun cdv A outer s H E hr => 
    mss_cons (ms_if (mt_cmp (op_eqA hr.units) real_eq (me_ix (me_var 2) (me_int)) (me_var 0) (nomark _)) (mss_one (ms_ret (me_call c_literal_holds hr (ma_cons (me_var 2) (ma_cons (me_var 1) (ma_nil)))))) (mss_nil))
    (mss_one (ms_ret (me_and (me_cmp (op_eqA hr.units) real_eq (me_ix (me_var 2) (me_int)) (me_str) (nomark _)) (me_bone (me_not (me_call c_relation_holds hr (ma_cons (me_var 0) (ma_cons (me_ix (me_var 2) (me_int)) (ma_cons (me_var 1) (ma_nil))))))))))
theorem ok__law_same {f : Addr} {fd : FuncData} (F : Fun K "_law_same" "_law_same" s__law_same f fd)  (z_bool : mg "bool" = none) (z_isinstance : mg "isinstance" = none) : FnOk P w K mg base CX0 1 f fd ["told", "due"] (spM K mg 2 m__law_same) := by
  unfold m__law_same
  exact fn_ok (k := 0) F sc__law_same fun cdv A outer s H E hr => 
    mss_one (ms_ret (me_and (me_callB call_isi real_isi z_isinstance (by decide +kernel) (ma_cons (me_var 0) (ma_cons (me_ty (by rfl) z_bool (by decide +kernel)) (ma_nil)))) (me_bone (me_cmp (op_eqA hr.units) real_eq (me_var 0) (me_var 1) (nomark _)))))
theorem ok__law_draw {f : Addr} {fd : FuncData} (F : Fun K "_law_draw" "_law_draw" s__law_draw f fd)  (z_int : mg "int" = none) (z_len : mg "len" = none) : FnOk P w K mg base CX0 1 f fd ["tape", "many"] (spM K mg 2 m__law_draw) := by
  unfold m__law_draw
  exact fn_ok (k := 0) F sc__law_draw fun cdv A outer s H E hr => 
    mss_cons (ms_if (mt_cmp op_lt real_cmp (me_ix (me_var 0) (me_int)) (me_var 1) (nomark _)) (mss_cons (ms_set 2 sc__law_draw.nd (me_ix (me_var 0) (me_int)))
    (mss_cons (ms_set 3 sc__law_draw.nd (me_ix (me_var 0) (me_int)))
    (mss_cons (ms_set 4 sc__law_draw.nd (me_int))
    (mss_cons (ms_if (mt_cmp op_lt real_cmp (me_var 3) (me_callB call_lenA real_len z_len (by decide +kernel) (ma_cons (me_var 2) (ma_nil))) (nomark _)) (mss_one (ms_set 4 sc__law_draw.nd (me_ix (me_var 2) (me_var 3)))) (mss_nil))
    (mss_cons (ms_if (mt_cmp op_lt real_cmp (me_var 4) (me_int) (nomark _)) (mss_one (ms_set 4 sc__law_draw.nd (me_op op_sub real_sub (me_op op_mul real_mul (me_un un_neg real_neg (me_int)) (me_var 4)) (me_int)))) (mss_nil))
    (mss_cons (ms_if (mt_cmp op_lt real_cmp (me_var 4) (me_op op_pow real_pow (me_int) (me_int)) (nomark _)) (mss_cons (ms_set 4 sc__law_draw.nd (me_op op_mod real_mod (me_callTy call_int1 real_int z_int (by decide +kernel) (ma_cons (me_op op_addA real_add (me_op op_addA real_add (me_op op_mul real_mul (me_var 4) (me_int)) (me_op op_mul real_mul (me_var 3) (me_int))) (me_int)) (ma_nil))) (me_int)))
    (mss_one (ms_set 4 sc__law_draw.nd (me_op op_mod real_mod (me_callTy call_int1 real_int z_int (by decide +kernel) (ma_cons (me_op op_addA real_add (me_op op_addA real_add (me_op op_mul real_mul (me_var 4) (me_int)) (me_op op_mul real_mul (me_var 3) (me_int))) (me_int)) (ma_nil))) (me_int))))) (mss_nil))
    (mss_cons (ms_asg (me_op op_addA real_add (me_var 3) (me_int)) (mg_sub (me_var 0) (me_int)))
    (mss_one (ms_asg (me_var 4) (mg_sub (me_var 0) (me_int))))))))))) (mss_nil))
    (mss_cons (ms_set 5 sc__law_draw.nd (me_op op_mod real_mod (me_callTy call_int1 real_int z_int (by decide +kernel) (ma_cons (me_ix (me_var 0) (me_int)) (ma_nil))) (me_var 1)))
    (mss_cons (ms_asg (me_op op_fdiv real_div (me_ix (me_var 0) (me_int)) (me_var 1)) (mg_sub (me_var 0) (me_int)))
    (mss_one (ms_ret (me_var 5)))))
theorem ok__law_tape {f : Addr} {fd : FuncData} (F : Fun K "_law_tape" "_law_tape" s__law_tape f fd)  (z_list : mg "list" = none) : FnOk P w K mg base CX0 1 f fd ["script"] (spM K mg 1 m__law_tape) := by
  unfold m__law_tape
  exact fn_ok (k := 0) F sc__law_tape fun cdv A outer s H E hr => 
    mss_one (ms_ret (me_lst (ma_cons (me_callTy call_list_of real_list z_list (by decide +kernel) (ma_cons (me_var 0) (ma_nil))) (ma_cons (me_int) (ma_cons (me_int) (ma_nil))))))
theorem ok__law_rel {f : Addr} {fd : FuncData} (F : Fun K "_law_rel" "_law_rel" s__law_rel f fd)   : FnOk P w K mg base CX0 1 f fd ["relation", "left", "right"] (spM K mg 3 m__law_rel) := by
  unfold m__law_rel
  exact fn_ok (k := 0) F sc__law_rel fun cdv A outer s H E hr => 
    mss_cons (ms_if (mt_cmp (op_eqA hr.units) real_eq (me_var 0) (me_str) (nomark _)) (mss_one (ms_ret (me_cmp op_le real_cmp (me_var 1) (me_var 2) (nomark _)))) (mss_nil))
    (mss_cons (ms_if (mt_cmp (op_eqA hr.units) real_eq (me_var 0) (me_str) (nomark _)) (mss_one (ms_ret (me_cmp op_ge real_cmp (me_var 1) (me_var 2) (nomark _)))) (mss_nil))
    (mss_one (ms_ret (me_cmp (op_eqA hr.units) real_eq (me_cmp (op_eqA hr.units) real_eq (me_var 1) (me_var 2) (nomark _)) (me_cmp (op_eqA hr.units) real_eq (me_var 0) (me_str) (nomark _)) (nomark _)))))
theorem ok__law_read {f : Addr} {fd : FuncData} (F : Fun K "_law_read" "_law_read" s__law_read f fd) (c__law_draw : Fn P w K mg base 1 "_law_draw" 2 m__law_draw) (z_int : mg "int" = none) : FnOk P w K mg base CX0 2 f fd ["tape", "scale"] (spM K mg 2 m__law_read) := by
  unfold m__law_read
  exact fn_ok (k := 1) F sc__law_read fun cdv A outer s H E hr => 
    mss_cons (ms_set 2 sc__law_read.nd (me_ix (me_lst (ma_cons (me_str) (ma_cons (me_str) (ma_cons (me_str) (ma_cons (me_str) (ma_nil)))))) (me_call c__law_draw hr (ma_cons (me_var 0) (ma_cons (me_int) (ma_nil))))))
    (mss_one (ms_ret (me_tup (ma_cons (me_callTy call_int1 real_int z_int (by decide +kernel) (ma_cons (me_cmp (op_eqA hr.units) real_eq (me_call c__law_draw hr (ma_cons (me_var 0) (ma_cons (me_int) (ma_nil)))) (me_int) (nomark _)) (ma_nil))) (ma_cons (me_var 2) (ma_cons (me_op op_mul real_mul (me_op op_sub real_sub (me_call c__law_draw hr (ma_cons (me_var 0) (ma_cons (me_int) (ma_nil)))) (me_int)) (me_var 1)) (ma_nil)))))))
theorem ok_literal_implies {f : Addr} {fd : FuncData} (F : Fun K "literal_implies" "literal_implies" s_literal_implies f fd) (c_half_line_implies : Fn P w K mg base 3 "half_line_implies" 3 m_half_line_implies) (c_literal_holds : Fn P w K mg base 2 "literal_holds" 2 m_literal_holds)  : FnOk P w K mg base CX0 4 f fd ["first", "second"] (spM K mg 2 m_literal_implies) := by
  unfold m_literal_implies
  exact fn_ok (k := 3) F sc_literal_implies fun cdv A outer s H E hr => 
    mss_cons (ms_asg (me_var 0) (mg_tup 3 rfl (mgs_cons (mg_name 2 sc_literal_implies.nd) (mgs_cons (mg_name 3 sc_literal_implies.nd) (mgs_cons (mg_name 4 sc_literal_implies.nd) (mgs_nil))))))
    (mss_cons (ms_if (mt_cmp (op_neA hr.units) real_ne (me_var 2) (me_ix (me_var 1) (me_int)) (nomark _)) (mss_one (ms_ret (me_bl))) (mss_nil))
    (mss_cons (ms_if (mt_cmp (op_eqA hr.units) real_eq (me_var 3) (me_str) (nomark _)) (mss_one (ms_ret (me_call c_literal_holds hr (ma_cons (me_var 1) (ma_cons (me_var 4) (ma_nil)))))) (mss_nil))
    (mss_cons (ms_if (mt_cmp (op_eqA hr.units) real_eq (me_var 3) (me_str) (nomark _)) (mss_one (ms_ret (me_cmp (op_eqA hr.units) real_eq (me_var 0) (me_var 1) (nomark _)))) (mss_nil))
    (mss_one (ms_ret (me_call c_half_line_implies hr (ma_cons (me_var 3) (ma_cons (me_var 4) (ma_cons (me_var 1) (ma_nil))))))))))
theorem ok_law {f : Addr} {fd : FuncData} (F : Fun K "law" "law" s_law f fd) (c__law_draw : Fn P w K mg base 1 "_law_draw" 2 m__law_draw) (c__law_read : Fn P w K mg base 2 "_law_read" 2 m__law_read) (c__law_rel : Fn P w K mg base 1 "_law_rel" 3 m__law_rel) (c__law_same : Fn P w K mg base 1 "_law_same" 2 m__law_same) (c__law_tape : Fn P w K mg base 1 "_law_tape" 1 m__law_tape) (c_literal_implies : Fn P w K mg base 4 "literal_implies" 2 m_literal_implies)  : FnOk P w K mg base CX0 5 f fd ["script"] (spM K mg 1 m_law) := by
  unfold m_law
  exact fn_ok (k := 4) F sc_law fun cdv A outer s H E hr => 
    mss_cons (ms_set 1 sc_law.nd (me_call c__law_tape hr (ma_cons (me_var 0) (ma_nil))))
    (mss_cons (ms_set 2 sc_law.nd (me_int))
    (mss_cons (ms_if (mt_cmp (op_eqA hr.units) real_eq (me_call c__law_draw hr (ma_cons (me_var 1) (ma_cons (me_int) (ma_nil)))) (me_int) (nomark _)) (mss_one (ms_set 2 sc_law.nd (me_op op_addA real_add (me_int) (me_call c__law_draw hr (ma_cons (me_var 1) (ma_cons (me_op op_pow real_pow (me_int) (me_int)) (ma_nil))))))) (mss_nil))
    (mss_cons (ms_set 3 sc_law.nd (me_call c__law_read hr (ma_cons (me_var 1) (ma_cons (me_var 2) (ma_nil)))))
    (mss_cons (ms_set 4 sc_law.nd (me_call c__law_read hr (ma_cons (me_var 1) (ma_cons (me_var 2) (ma_nil)))))
    (mss_cons (ms_set 5 sc_law.nd (me_cmp (op_eqA hr.units) real_eq (me_ix (me_var 3) (me_int)) (me_ix (me_var 4) (me_int)) (nomark _)))
    (mss_cons (ms_for rfl (mi_seq (me_lst (ma_cons (me_ix (me_var 3) (me_int)) (ma_cons (me_ix (me_var 4) (me_int)) (ma_nil))))) (mg_name 6 sc_law.nd) (mss_one (ms_for rfl (mi_seq (me_lst (ma_cons (me_un un_neg real_neg (me_op op_pow real_pow (me_int) (me_int))) (ma_cons (me_un un_neg real_neg (me_int)) (ma_cons (me_int) (ma_cons (me_int) (ma_cons (me_op op_pow real_pow (me_int) (me_int)) (ma_nil)))))))) (mg_name 7 sc_law.nd) (mss_one (ms_if (MW.mt (mw_and (mt_truth (me_call c__law_rel hr (ma_cons (me_ix (me_var 3) (me_int)) (ma_cons (me_op op_addA real_add (me_var 6) (me_var 7)) (ma_cons (me_ix (me_var 3) (me_int)) (ma_nil)))))) (mw_one_and (mt_not (mt_truth (me_call c__law_rel hr (ma_cons (me_ix (me_var 4) (me_int)) (ma_cons (me_op op_addA real_add (me_var 6) (me_var 7)) (ma_cons (me_ix (me_var 4) (me_int)) (ma_nil)))))))))) (mss_one (ms_set 5 sc_law.nd (me_bl))) (mss_nil))))))
    (mss_one (ms_ret (me_call c__law_same hr (ma_cons (me_call c_literal_implies hr (ma_cons (me_var 3) (ma_cons (me_var 4) (ma_nil)))) (ma_cons (me_var 5) (ma_nil))))))))))))
end
theorem all_mk (hlaw : ∀ ns : List Int, ns.length ≤ 63 → ∃ st, m_law [.scr ns] [] = .ok (.bl true) st) {l : PySem.W.OpenLaw} {w : World} {K : PySem.W.Frag} {h : Heap} {mg : Str → Option Value} {fa : Addr} (X : K.In h) (G : h.Ns mainGlobals mg) (hfa : mg "law" = some (.ref fa))
    {f0 : Addr} {od0 an0 : Option Addr} {sl0 : Array (Option Value)} {oc0 kV0 dc0 pm0 cd0 ct0 : Value}
    {f1 : Addr} {od1 an1 : Option Addr} {sl1 : Array (Option Value)} {oc1 kV1 dc1 pm1 cd1 ct1 : Value}
    {f2 : Addr} {od2 an2 : Option Addr} {sl2 : Array (Option Value)} {oc2 kV2 dc2 pm2 cd2 ct2 : Value}
    {f3 : Addr} {od3 an3 : Option Addr} {sl3 : Array (Option Value)} {oc3 kV3 dc3 pm3 cd3 ct3 : Value}
    {f4 : Addr} {od4 an4 : Option Addr} {sl4 : Array (Option Value)} {oc4 kV4 dc4 pm4 cd4 ct4 : Value}
    {f5 : Addr} {od5 an5 : Option Addr} {sl5 : Array (Option Value)} {oc5 kV5 dc5 pm5 cd5 ct5 : Value}
    {f6 : Addr} {od6 an6 : Option Addr} {sl6 : Array (Option Value)} {oc6 kV6 dc6 pm6 cd6 ct6 : Value}
    {f7 : Addr} {od7 an7 : Option Addr} {sl7 : Array (Option Value)} {oc7 kV7 dc7 pm7 cd7 ct7 : Value}
    {f8 : Addr} {od8 an8 : Option Addr} {sl8 : Array (Option Value)} {oc8 kV8 dc8 pm8 cd8 ct8 : Value}
    {f9 : Addr} {od9 an9 : Option Addr} {sl9 : Array (Option Value)} {oc9 kV9 dc9 pm9 cd9 ct9 : Value}
    (a0 : PySem.W.nsIn K mainGlobals "relation_holds" = some (some (.ref f0))) (l0 : K.lookup f0 = some ⟨oc0, od0, .func (PySem.W.fnOf "relation_holds" "relation_holds" (defArgs s_relation_holds) (defBody s_relation_holds) (defScope s_relation_holds) .none kV0 dc0 pm0 an0 cd0 ct0), sl0⟩) (c0 : PySem.W.codeIn K cd0 "relation_holds" = true) (k0 : PySem.W.keepIn K (.ref f0) = true)
    (a1 : PySem.W.nsIn K mainGlobals "literal_holds" = some (some (.ref f1))) (l1 : K.lookup f1 = some ⟨oc1, od1, .func (PySem.W.fnOf "literal_holds" "literal_holds" (defArgs s_literal_holds) (defBody s_literal_holds) (defScope s_literal_holds) .none kV1 dc1 pm1 an1 cd1 ct1), sl1⟩) (c1 : PySem.W.codeIn K cd1 "literal_holds" = true) (k1 : PySem.W.keepIn K (.ref f1) = true)
    (a2 : PySem.W.nsIn K mainGlobals "half_line_implies" = some (some (.ref f2))) (l2 : K.lookup f2 = some ⟨oc2, od2, .func (PySem.W.fnOf "half_line_implies" "half_line_implies" (defArgs s_half_line_implies) (defBody s_half_line_implies) (defScope s_half_line_implies) .none kV2 dc2 pm2 an2 cd2 ct2), sl2⟩) (c2 : PySem.W.codeIn K cd2 "half_line_implies" = true) (k2 : PySem.W.keepIn K (.ref f2) = true)
    (a3 : PySem.W.nsIn K mainGlobals "_law_same" = some (some (.ref f3))) (l3 : K.lookup f3 = some ⟨oc3, od3, .func (PySem.W.fnOf "_law_same" "_law_same" (defArgs s__law_same) (defBody s__law_same) (defScope s__law_same) .none kV3 dc3 pm3 an3 cd3 ct3), sl3⟩) (c3 : PySem.W.codeIn K cd3 "_law_same" = true) (k3 : PySem.W.keepIn K (.ref f3) = true)
    (a4 : PySem.W.nsIn K mainGlobals "_law_draw" = some (some (.ref f4))) (l4 : K.lookup f4 = some ⟨oc4, od4, .func (PySem.W.fnOf "_law_draw" "_law_draw" (defArgs s__law_draw) (defBody s__law_draw) (defScope s__law_draw) .none kV4 dc4 pm4 an4 cd4 ct4), sl4⟩) (c4 : PySem.W.codeIn K cd4 "_law_draw" = true) (k4 : PySem.W.keepIn K (.ref f4) = true)
    (a5 : PySem.W.nsIn K mainGlobals "_law_tape" = some (some (.ref f5))) (l5 : K.lookup f5 = some ⟨oc5, od5, .func (PySem.W.fnOf "_law_tape" "_law_tape" (defArgs s__law_tape) (defBody s__law_tape) (defScope s__law_tape) .none kV5 dc5 pm5 an5 cd5 ct5), sl5⟩) (c5 : PySem.W.codeIn K cd5 "_law_tape" = true) (k5 : PySem.W.keepIn K (.ref f5) = true)
    (a6 : PySem.W.nsIn K mainGlobals "_law_rel" = some (some (.ref f6))) (l6 : K.lookup f6 = some ⟨oc6, od6, .func (PySem.W.fnOf "_law_rel" "_law_rel" (defArgs s__law_rel) (defBody s__law_rel) (defScope s__law_rel) .none kV6 dc6 pm6 an6 cd6 ct6), sl6⟩) (c6 : PySem.W.codeIn K cd6 "_law_rel" = true) (k6 : PySem.W.keepIn K (.ref f6) = true)
    (a7 : PySem.W.nsIn K mainGlobals "_law_read" = some (some (.ref f7))) (l7 : K.lookup f7 = some ⟨oc7, od7, .func (PySem.W.fnOf "_law_read" "_law_read" (defArgs s__law_read) (defBody s__law_read) (defScope s__law_read) .none kV7 dc7 pm7 an7 cd7 ct7), sl7⟩) (c7 : PySem.W.codeIn K cd7 "_law_read" = true) (k7 : PySem.W.keepIn K (.ref f7) = true)
    (a8 : PySem.W.nsIn K mainGlobals "literal_implies" = some (some (.ref f8))) (l8 : K.lookup f8 = some ⟨oc8, od8, .func (PySem.W.fnOf "literal_implies" "literal_implies" (defArgs s_literal_implies) (defBody s_literal_implies) (defScope s_literal_implies) .none kV8 dc8 pm8 an8 cd8 ct8), sl8⟩) (c8 : PySem.W.codeIn K cd8 "literal_implies" = true) (k8 : PySem.W.keepIn K (.ref f8) = true)
    (a9 : PySem.W.nsIn K mainGlobals "law" = some (some (.ref f9))) (l9 : K.lookup f9 = some ⟨oc9, od9, .func (PySem.W.fnOf "law" "law" (defArgs s_law) (defBody s_law) (defScope s_law) .none kV9 dc9 pm9 an9 cd9 ct9), sl9⟩) (c9 : PySem.W.codeIn K cd9 "law" = true) (k9 : PySem.W.keepIn K (.ref f9) = true)
    (z_bool : PySem.W.nsIn K mainGlobals "bool" = some none)
    (z_int : PySem.W.nsIn K mainGlobals "int" = some none)
    (z_isinstance : PySem.W.nsIn K mainGlobals "isinstance" = some none)
    (z_len : PySem.W.nsIn K mainGlobals "len" = some none)
    (z_list : PySem.W.nsIn K mainGlobals "list" = some none)
    : ∃ fd : FuncData, (∀ (s : Shared) (v : Value), BindsTo s fd ⟨[v], []⟩ [("script", v)]) ∧ ∀ base : Heap, K.In base → base.Ns mainGlobals mg → FnOk l.prog w K mg base CX0 5 fa fd ["script"] (spLaw K) := by
  have e := hfa.symm.trans (PySem.W.mg_of X G a9)
  cases e
  have F0 := fun_mk (st := s_relation_holds) l0 c0 k0
  have F1 := fun_mk (st := s_literal_holds) l1 c1 k1
  have F2 := fun_mk (st := s_half_line_implies) l2 c2 k2
  have F3 := fun_mk (st := s__law_same) l3 c3 k3
  have F4 := fun_mk (st := s__law_draw) l4 c4 k4
  have F5 := fun_mk (st := s__law_tape) l5 c5 k5
  have F6 := fun_mk (st := s__law_rel) l6 c6 k6
  have F7 := fun_mk (st := s__law_read) l7 c7 k7
  have F8 := fun_mk (st := s_literal_implies) l8 c8 k8
  have F9 := fun_mk (st := s_law) l9 c9 k9
  have Z_bool : mg "bool" = none := PySem.W.mg_none_of X G z_bool
  have Z_int : mg "int" = none := PySem.W.mg_none_of X G z_int
  have Z_isinstance : mg "isinstance" = none := PySem.W.mg_none_of X G z_isinstance
  have Z_len : mg "len" = none := PySem.W.mg_none_of X G z_len
  have Z_list : mg "list" = none := PySem.W.mg_none_of X G z_list
  refine ⟨PySem.W.fnOf "law" "law" (defArgs s_law) (defBody s_law) (defScope s_law) .none kV9 dc9 pm9 an9 cd9 ct9, fun s v => .of_eq rfl, fun base _ _ => ?_⟩
  have C_relation_holds : Fn l.prog w K mg base 1 "relation_holds" 3 m_relation_holds := ⟨_, _, ["relation", "left", "right"], ok_relation_holds F0  , PySem.W.mg_of X G a0, F0.kp, F0.binds (ps := ["relation", "left", "right"]) fun _ _ _ _ _ _ us hl => match us, hl with | [_, _, _], _ => rfl⟩
  have C_literal_holds : Fn l.prog w K mg base 2 "literal_holds" 2 m_literal_holds := ⟨_, _, ["literal", "worth"], ok_literal_holds F1 C_relation_holds , PySem.W.mg_of X G a1, F1.kp, F1.binds (ps := ["literal", "worth"]) fun _ _ _ _ _ _ us hl => match us, hl with | [_, _], _ => rfl⟩
  have C_half_line_implies : Fn l.prog w K mg base 3 "half_line_implies" 3 m_half_line_implies := ⟨_, _, ["relation", "a", "literal"], ok_half_line_implies F2 C_literal_holds C_relation_holds , PySem.W.mg_of X G a2, F2.kp, F2.binds (ps := ["relation", "a", "literal"]) fun _ _ _ _ _ _ us hl => match us, hl with | [_, _, _], _ => rfl⟩
  have C__law_same : Fn l.prog w K mg base 1 "_law_same" 2 m__law_same := ⟨_, _, ["told", "due"], ok__law_same F3  Z_bool Z_isinstance, PySem.W.mg_of X G a3, F3.kp, F3.binds (ps := ["told", "due"]) fun _ _ _ _ _ _ us hl => match us, hl with | [_, _], _ => rfl⟩
  have C__law_draw : Fn l.prog w K mg base 1 "_law_draw" 2 m__law_draw := ⟨_, _, ["tape", "many"], ok__law_draw F4  Z_int Z_len, PySem.W.mg_of X G a4, F4.kp, F4.binds (ps := ["tape", "many"]) fun _ _ _ _ _ _ us hl => match us, hl with | [_, _], _ => rfl⟩
  have C__law_tape : Fn l.prog w K mg base 1 "_law_tape" 1 m__law_tape := ⟨_, _, ["script"], ok__law_tape F5  Z_list, PySem.W.mg_of X G a5, F5.kp, F5.binds (ps := ["script"]) fun _ _ _ _ _ _ us hl => match us, hl with | [_], _ => rfl⟩
  have C__law_rel : Fn l.prog w K mg base 1 "_law_rel" 3 m__law_rel := ⟨_, _, ["relation", "left", "right"], ok__law_rel F6  , PySem.W.mg_of X G a6, F6.kp, F6.binds (ps := ["relation", "left", "right"]) fun _ _ _ _ _ _ us hl => match us, hl with | [_, _, _], _ => rfl⟩
  have C__law_read : Fn l.prog w K mg base 2 "_law_read" 2 m__law_read := ⟨_, _, ["tape", "scale"], ok__law_read F7 C__law_draw Z_int, PySem.W.mg_of X G a7, F7.kp, F7.binds (ps := ["tape", "scale"]) fun _ _ _ _ _ _ us hl => match us, hl with | [_, _], _ => rfl⟩
  have C_literal_implies : Fn l.prog w K mg base 4 "literal_implies" 2 m_literal_implies := ⟨_, _, ["first", "second"], ok_literal_implies F8 C_half_line_implies C_literal_holds , PySem.W.mg_of X G a8, F8.kp, F8.binds (ps := ["first", "second"]) fun _ _ _ _ _ _ us hl => match us, hl with | [_, _], _ => rfl⟩
  exact law_ok (ok_law F9 C__law_draw C__law_read C__law_rel C__law_same C__law_tape C_literal_implies ) hlaw
end T

open PySem PySem.Spec PyProof.Rows L2 MP
local macro_rules | `(tactic| walk_at "mp") => `(tactic| simp (config := {decide := true, contextual := false}) only [body_def, seq_asg, seq_if, seq_ret, seq_nil, seq_expr, seq_seq, seq_for, for_def, asg_def, if_def, ret_def, retN_def, expr_def, nil_def, bindR_ok, bindR_bad, bindR_exc, bindS_ok, bindS_bad, bindS_exc, contS_next, contS_ret, endB_ret, endB_next, endB_ite, var_zero, var_succ, c_def, bin_def, un_def, call_def, nilA_def, consA_def, def_def, tup_def, lst_def, asB_def', boolR_bl, asT_def', optR_some, notM_def, andM_def, orM_def, not_def', and_def', or_def', ifE_def, gN_def, gT_tup, gsNil_def, gsCons_def, gI_def', putD_ri, putL_lst, setAt_some, add_ii, sub_ii, mul_ii, div_ii, mod_ii, pow_ii, neg_i, cmp_ii, eq_ii, eq_ss, eq_bb, int_i, int_b, ix_ref', ix_tup', ixS_some, atR_some, lstOf_lst, len_ref', lenO_lst, lenT_, lstR_def, tupR_def, itT_, itS_, it_ref, at_zero, at_one, at_two, at_three, tru_non, tru_bl, tru_int, tru_tup, tru_ref', truO_lst, isi_bb, isi_ii, isi_ib, isi_tt, isi_ss, blR_some, loopK_next, loopK_ret, src_ref, srcO_lst, src_tup, fseq_def, List.map_cons, List.map_nil, List.length_cons, List.length_nil, List.length_append, List.cons_append, List.nil_append, List.append_assoc, List.replicate_zero, List.replicate_succ, List.set_cons_zero, List.set_cons_succ, List.getElem?_cons_zero, List.getElem?_cons_succ, Nat.reduceAdd, Nat.reduceSub, Nat.zero_add, Nat.sub_self, if_true, if_false, reduceIte, Bool.xor_false, Bool.xor_true, decide_eq_true_eq, lt_line, Nat.reduceLeDiff, Bool.false_eq_true])
local macro_rules | `(tactic| walk_at "mpx") => `(tactic| simp (config := {decide := true, contextual := false}) only [*, body_def, seq_asg, seq_if, seq_ret, seq_nil, seq_expr, seq_seq, seq_for, for_def, asg_def, if_def, ret_def, retN_def, expr_def, nil_def, bindR_ok, bindR_bad, bindR_exc, bindS_ok, bindS_bad, bindS_exc, contS_next, contS_ret, endB_ret, endB_next, endB_ite, var_zero, var_succ, c_def, bin_def, un_def, call_def, nilA_def, consA_def, def_def, tup_def, lst_def, asB_def', boolR_bl, asT_def', optR_some, notM_def, andM_def, orM_def, not_def', and_def', or_def', ifE_def, gN_def, gT_tup, gsNil_def, gsCons_def, gI_def', putD_ri, putL_lst, setAt_some, add_ii, sub_ii, mul_ii, div_ii, mod_ii, pow_ii, neg_i, cmp_ii, eq_ii, eq_ss, eq_bb, int_i, int_b, ix_ref', ix_tup', ixS_some, atR_some, lstOf_lst, len_ref', lenO_lst, lenT_, lstR_def, tupR_def, itT_, itS_, it_ref, at_zero, at_one, at_two, at_three, tru_non, tru_bl, tru_int, tru_tup, tru_ref', truO_lst, isi_bb, isi_ii, isi_ib, isi_tt, isi_ss, blR_some, loopK_next, loopK_ret, src_ref, srcO_lst, src_tup, fseq_def, List.map_cons, List.map_nil, List.length_cons, List.length_nil, List.length_append, List.cons_append, List.nil_append, List.append_assoc, List.replicate_zero, List.replicate_succ, List.set_cons_zero, List.set_cons_succ, List.getElem?_cons_zero, List.getElem?_cons_succ, Nat.reduceAdd, Nat.reduceSub, Nat.zero_add, Nat.sub_self, if_true, if_false, reduceIte, Bool.xor_false, Bool.xor_true, decide_eq_true_eq, lt_line, Nat.reduceLeDiff, Bool.false_eq_true])

namespace T
/-- the tape: a list of the script's ints (at c), a place, a rest -/
structure Tape (st : Store) (t c : Nat) (ns : List Int) : Prop where
  ex : ∃ k x : Int, st[t]? = some (.lst [.ref c, .int k, .int x]) ∧ 0 ≤ k ∧ 0 ≤ x
  cells : st[c]? = some (.lst (ns.map D.int))
theorem Tape.lt {st : Store} {t c : Nat} {ns : List Int} (h : Tape st t c ns) : t < st.length := by
  obtain ⟨⟨k, x, e, _⟩, _⟩ := h
  exact (List.getElem?_eq_some_iff.mp e).1
theorem Tape.app {st : Store} {t c : Nat} {ns : List Int} (h : Tape st t c ns) (l : Store) : Tape (st ++ l) t c ns := by
  obtain ⟨⟨k, x, e, h1, h2⟩, e2⟩ := h
  exact ⟨⟨k, x, by rw [List.getElem?_append_left (List.getElem?_eq_some_iff.mp e).1]; exact e, h1, h2⟩, by rw [List.getElem?_append_left (List.getElem?_eq_some_iff.mp e2).1]; exact e2⟩
theorem Tape.keep {st st' : Store} {t c : Nat} {ns : List Int} (h : Tape st t c ns) (k1 : st'[t]? = st[t]?) (k2 : st'[c]? = st[c]?) : Tape st' t c ns :=
  ⟨by rw [k1]; exact h.ex, by rw [k2]; exact h.cells⟩
def mixA (cell k : Int) : Int := (cell * 48271 + k * 69621 + 12345) % 2147483647
def mixB (cell k : Int) : Int := (cell * 16807 + k * 39373 + 6789) % 2147483629
theorem cmul_l {i j : Int} (h0 : -(2 ^ 64) < i) (h1 : i < 2 ^ 64) : CMul i j := .inl ⟨h0, h1⟩
theorem cmul_r {i j : Int} (h0 : -(2 ^ 64) < j) (h1 : j < 2 ^ 64) : CMul i j := .inr ⟨h0, h1⟩
theorem draw_ok {st : Store} {t c : Nat} {ns : List Int} {many : Int} (h : Tape st t c ns) (h0 : 0 < many) (h1 : many < 1073741824) :
    ∃ (d : Int) (o : O), m__law_draw [.ref t, .int many] st = .ok (.int d) (st.set t o) ∧ 0 ≤ d ∧ d < many ∧ Tape (st.set t o) t c ns := by
  obtain ⟨⟨k, x, et, hk, hx⟩, ec⟩ := h
  have hlt := (List.getElem?_eq_some_iff.mp et).1
  have hct : c ≠ t := fun e => by
    subst e
    rw [et] at ec
    have := Option.some.inj ec
    injection this with this
    cases ns with
    | nil => cases this
    | cons a l => injection this with q _; cases q
  have p9 : CPow 10 9 := by decide
  have e9 : (10 : Int) ^ Int.toNat 9 = 1000000000 := by decide
  have m2 : ∀ y : Int, CMul (-2) y := fun y => cmul_l (by decide) (by decide)
  have m3 : ∀ y : Int, CMul y 48271 := fun y => cmul_r (by decide) (by decide)
  have m4 : ∀ y : Int, CMul y 69621 := fun y => cmul_r (by decide) (by decide)
  have m5 : ∀ y : Int, CMul y 16807 := fun y => cmul_r (by decide) (by decide)
  have m6 : ∀ y : Int, CMul y 39373 := fun y => cmul_r (by decide) (by decide)
  have dv : ∀ y : Int, CDiv y many := fun y => ⟨h0, h1⟩
  have s1 : ∀ (o : O), (st.set t o)[t]? = some o := fun o => List.getElem?_set_self hlt
  have ss : ∀ (o o' : O), (st.set t o).set t o' = st.set t o' := fun o o' => List.set_set ..
  have i31 : ixN 3 1 = some 1 := rfl
  have i32 : ixN 3 2 = some 2 := rfl
  have fin : ∀ (k' x' : Int), 0 ≤ k' → 0 ≤ x' → Tape (st.set t (.lst [.ref c, .int k', .int x'])) t c ns := fun k' x' a b => ⟨⟨k', x', s1 _, a, b⟩, by rw [List.getElem?_set_ne (Ne.symm hct)]; exact ec⟩
  have end_ : ∀ (k' x' : Int), 0 ≤ k' → 0 ≤ x' → ∃ (d : Int) (o : O), Res.ok (D.int (x' % many)) (st.set t (.lst [.ref c, .int k', .int (x' / many)])) = .ok (.int d) (st.set t o) ∧ 0 ≤ d ∧ d < many ∧ Tape (st.set t o) t c ns := fun k' x' a b =>
    ⟨_, _, rfl, Int.emod_nonneg _ (by omega), Int.emod_lt_of_pos _ h0, fin _ _ a (Int.ediv_nonneg b (by omega))⟩
  have nn1 : ∀ a : Int, 0 ≤ a % 2147483629 := fun a => Int.emod_nonneg _ (by decide)
  have k1 : 0 ≤ k + 1 := by omega
  unfold m__law_draw
  by_cases hxm : x < many
  · by_cases hkl : k < (((ns.map D.int).length : Nat) : Int)
    · obtain ⟨v, hv⟩ : ∃ v : Int, atI (ns.map D.int) k = some (.int v) := by
        rw [at_in _ _ hk hkl, List.getElem?_map]
        have hl : k.toNat < ns.length := by rw [List.length_map] at hkl; omega
        exact ⟨ns[k.toNat], by rw [List.getElem?_eq_getElem hl]; rfl⟩
      by_cases hv0 : v < 0
      · have q1 : 0 ≤ -2 * v - 1 := by omega
        by_cases hv9 : -2 * v - 1 < 1000000000
        · walk_at "mpx"
        · walk_at "mpx"
      · have q1 : 0 ≤ v := by omega
        by_cases hv9 : v < 1000000000
        · walk_at "mpx"
        · walk_at "mpx"
    · walk_at "mpx"
  · walk_at "mpx"

def relB (r : Str) (i j : Int) : Bool := if r = "<=" then decide (i ≤ j) else if r = ">=" then decide (j ≤ i) else if r = "=" then decide (i = j) else !decide (i = j)
theorem rel_holds (r : Str) (i j : Int) (st : Store) : m_relation_holds [.str r, .int i, .int j] st = .ok (.bl (relB r i j)) st := by
  unfold m_relation_holds relB
  walk_at "mp"
  by_cases h1 : r = "<="
  · simp only [h1, if_true]
  · by_cases h2 : r = ">="
    · simp only [h2]; rfl
    · by_cases h3 : r = "="
      · simp only [h3]; rfl
      · simp only [h1, h2, h3, if_false]
theorem lit_holds (v : D) (r : Str) (a x : Int) (st : Store) : m_literal_holds [.tup [v, .str r, .int a], .int x] st = .ok (.bl (relB r x a)) st := by
  unfold m_literal_holds
  walk_at "mp"
  rw [rel_holds]
  walk_at "mp"

abbrev Rl (r : Str) : Prop := r = "<=" ∨ r = ">=" ∨ r = "=" ∨ r = "!="

theorem rel_at {d : Int} (h0 : 0 ≤ d) (h1 : d < 4) : ∃ r : Str, Rl r ∧ atI [D.str "<=", D.str ">=", D.str "=", D.str "!="] d = some (.str r) := by
  have : d = 0 ∨ d = 1 ∨ d = 2 ∨ d = 3 := by omega
  rcases this with rfl | rfl | rfl | rfl
  · exact ⟨_, .inl rfl, at_zero ..⟩
  · exact ⟨_, .inr (.inl rfl), at_one ..⟩
  · exact ⟨_, .inr (.inr (.inl rfl)), at_two ..⟩
  · exact ⟨_, .inr (.inr (.inr rfl)), at_three ..⟩

theorem tape_ok (ns : List Int) (st : Store) : m__law_tape [.scr ns] st = .ok (.ref (st.length + 1)) (st ++ [.lst (ns.map D.int), .lst [.ref st.length, .int 0, .int 0]]) := by
  unfold m__law_tape
  walk_at "mp"
theorem Tape.start (ns : List Int) : Tape [.lst (ns.map D.int), .lst [.ref 0, .int 0, .int 0]] 1 0 ns := ⟨⟨0, 0, rfl, by decide, by decide⟩, rfl⟩

theorem same_ok (a b : Bool) (st : Store) : m__law_same [.bl a, .bl b] st = .ok (.bl (decide (a = b))) st := by
  unfold m__law_same
  walk_at "mp"

theorem lrel2_ok (r : Str) (i j : Int) (hr : Rl r) (st : Store) : m__law_rel [.str r, .int i, .int j] st = .ok (.bl (relB r i j)) st := by
  unfold m__law_rel
  walk_at "mp"
  rcases hr with rfl | rfl | rfl | rfl <;> simp (config := {decide := true}) only [relB, if_true, if_false, Res.ok.injEq, D.bl.injEq, and_true, decide_eq_decide, Bool.not_eq_true', reduceIte, decide_true, decide_false, decide_eq_true_eq, decide_eq_false_iff_not]
  · by_cases h : i = j <;> simp [h]
abbrev RELS : O := .lst [.str "<=", .str ">=", .str "=", .str "!="]
theorem read_ok {st : Store} {t c : Nat} {ns : List Int} {scale : Int} (h : Tape st t c ns) (h0 : 0 ≤ scale) (h1 : scale ≤ 134217728) :
    ∃ (v a : Int) (r : Str) (o : O), m__law_read [.ref t, .int scale] st = .ok (.tup [.int v, .str r, .int a]) (st.set t o ++ [RELS]) ∧ Rl r ∧ -(6 * scale) ≤ a ∧ a ≤ 6 * scale ∧ Tape (st.set t o) t c ns := by
  have hl := h.lt
  have ap : ∀ o, (st ++ [RELS]).set t o = st.set t o ++ [RELS] := fun o => List.set_append_left _ _ hl
  have lk : ∀ o, (st.set t o ++ [RELS])[st.length]? = some RELS := fun o => by
    rw [List.getElem?_append_right (by simp)]
    simp
  have ap2 : ∀ o o', (st.set t o ++ [RELS]).set t o' = st.set t o' ++ [RELS] := fun o o' => by
    rw [List.set_append_left _ _ (by simpa using hl), List.set_set]
  have cm : ∀ y : Int, CMul y scale := fun y => cmul_r (by omega) (by omega)
  unfold m__law_read
  walk_at "mp"
  obtain ⟨d1, o1, e1, p1, q1, t1⟩ := draw_ok (many := 4) (h.app [RELS]) (by decide) (by decide)
  rw [ap] at e1 t1
  obtain ⟨r, hr, er⟩ := rel_at p1 q1
  rw [e1]
  walk_at "mp"
  rw [lk]
  walk_at "mp"
  rw [er]
  walk_at "mp"
  obtain ⟨d2, o2, e2, p2, q2, t2⟩ := draw_ok (many := 4) t1 (by decide) (by decide)
  rw [ap2] at e2 t2
  rw [e2]
  walk_at "mp"
  obtain ⟨d3, o3, e3, p3, q3, t3⟩ := draw_ok (many := 13) t2 (by decide) (by decide)
  rw [ap2] at e3 t3
  rw [e3]
  walk_at "mpx"
  have tt : Tape (st.set t o3) t c ns := t3.keep (by rw [List.getElem?_append_left (by simpa using hl)]) (by rw [List.getElem?_append_left]; obtain ⟨x, y⟩ := h; simpa using (List.getElem?_eq_some_iff.mp y).1)
  refine ⟨_, _, r, o3, rfl, hr, ?_, ?_, tt⟩
  · have := Int.mul_le_mul_of_nonneg_right (show -6 ≤ d3 - 6 by omega) h0
    omega
  · have := Int.mul_le_mul_of_nonneg_right (show d3 - 6 ≤ 6 by omega) h0
    omega

def halfB (r : Str) (a : Int) (r2 : Str) (a2 : Int) : Bool := if r2 = r then relB r2 a a2 else if r2 = "!=" then !relB r a2 a else false
theorem half_ok (v : D) (r r2 : Str) (a a2 : Int) (st : Store) : m_half_line_implies [.str r, .int a, .tup [v, .str r2, .int a2]] st = .ok (.bl (halfB r a r2 a2)) st := by
  unfold m_half_line_implies halfB
  walk_at "mp"
  rw [lit_holds]
  walk_at "mp"
  rw [rel_holds]
  walk_at "mp"
  by_cases h1 : r2 = r
  · simp only [h1, if_true]
  · by_cases h2 : r2 = "!="
    · subst h2
      simp only [h1, if_true, if_false, decide_true]
      walk_at "mp"
    · simp only [h1, h2, if_false, decide_false, Bool.false_eq_true, if_false]
      walk_at "mp"
theorem lit_eqv {r r' : Str} (hr : Rl r) (hr' : Rl r') (v a v' a' : Int) (st : Store) : gEq false (.tup [.int v, .str r, .int a]) (.tup [.int v', .str r', .int a']) st = .ok (.bl (decide (v = v') && decide (r = r') && decide (a = a'))) st := by
  rw [gEq_def]
  have s : ∀ (v a : Int) (r : Str), Rl r → SeqAt.shaped (.tuple [.int v, .str r, .int a]) = true := fun v a r hr => by
    rcases hr with rfl | rfl | rfl | rfl <;> (simp (config := {decide := true}) [SeqAt.shaped, PyData.canLay0, PyData.canLayAll0, PyData.depth, PyData.depthAll]; decide +kernel)
  have q : deepEq st (.tup [.int v, .str r, .int a]) (.tup [.int v', .str r', .int a']) = some (decide (v = v') && decide (r = r') && decide (a = a')) := by
    show (if SeqAt.shaped (.tuple [.int v, .str r, .int a]) = true ∧ SeqAt.shaped (.tuple [.int v', .str r', .int a']) = true then some (PyData.eqv (.tuple [.int v, .str r, .int a]) (.tuple [.int v', .str r', .int a'])) else none) = _
    rw [if_pos ⟨s _ _ _ hr, s _ _ _ hr'⟩]
    simp only [PyData.eqv, PyData.eqvAll, Bool.and_true, Option.some.injEq]
    have e1 : ∀ x y : Int, (x == y) = decide (x = y) := fun x y => by by_cases h : x = y <;> simp [h]
    have e2 : (r == r') = decide (r = r') := by by_cases h : r = r' <;> simp [h]
    rw [e1, e1, e2, Bool.and_assoc]
  show blR false (deepEq st (.tup [.int v, .str r, .int a]) (.tup [.int v', .str r', .int a'])) st = _
  rw [q, blR_some, Bool.xor_false]
def impB (v : Int) (r : Str) (a : Int) (v2 : Int) (r2 : Str) (a2 : Int) : Bool :=
  if v = v2 then (if r = "=" then relB r2 a a2 else if r = "!=" then decide (r = r2) && decide (a = a2) else halfB r a r2 a2) else false
theorem imp_ok {r r2 : Str} (hr : Rl r) (hr2 : Rl r2) (v a v2 a2 : Int) (st : Store) : m_literal_implies [.tup [.int v, .str r, .int a], .tup [.int v2, .str r2, .int a2]] st = .ok (.bl (impB v r a v2 r2 a2)) st := by
  unfold m_literal_implies impB
  walk_at "mp"
  rw [lit_holds]
  walk_at "mp"
  rw [half_ok]
  walk_at "mp"
  rw [lit_eqv hr hr2]
  walk_at "mp"
  by_cases hv : v = v2
  · subst hv
    by_cases h1 : r = "="
    · subst h1
      simp
    · by_cases h2 : r = "!="
      · subst h2
        simp [h1]
      · simp [h1, h2]
  · simp [hv]
def chk (r : Str) (a : Int) (r2 : Str) (a2 : Int) (p : Int) : Bool := relB r p a && !relB r2 p a2
theorem impl_math {r r2 : Str} (hr : Rl r) (hr2 : Rl r2) (v v2 : Int) {a a2 : Int} (h1 : -600000006 ≤ a) (h2 : a ≤ 600000006) (h3 : -600000006 ≤ a2) (h4 : a2 ≤ 600000006) :
    impB v r a v2 r2 a2 = (decide (v = v2) && [a, a2].all fun p => [-1000000000000, -1, 0, 1, 1000000000000].all fun s => !chk r a r2 a2 (p + s)) := by
  by_cases hv : v = v2
  · rcases hr with rfl | rfl | rfl | rfl <;> rcases hr2 with rfl | rfl | rfl | rfl <;>
      simp (config := {decide := true}) only [impB, halfB, chk, relB, hv, if_true, if_false, decide_true, decide_false, Bool.true_and, Bool.false_and, List.all_cons, List.all_nil, Bool.and_true, reduceIte] <;>
      (rw [Bool.eq_iff_iff]; simp only [Bool.and_eq_true, Bool.not_eq_true', decide_eq_true_eq, decide_eq_false_iff_not, Bool.and_eq_false_imp, Bool.not_eq_false', Bool.false_eq_true, false_iff, Bool.and_eq_false_iff, Bool.not_eq_true]; try omega)
  · simp [impB, hv]

abbrev STEPS : List Int := [-1000000000000, -1, 0, 1, 1000000000000]
abbrev LIT (v : Int) (r : Str) (a : Int) : D := .tup [.int v, .str r, .int a]
noncomputable abbrev BODY2 : MP.Env → Store → SR := sIf (tAndM (asT (eDef 3 m__law_rel (aCons (eBin gIx (eVar 3) (eC (.int 1))) (aCons (eBin gAdd (eVar 6) (eVar 7)) (aCons (eBin gIx (eVar 3) (eC (.int 2))) (aNil)))))) (tNotM (asT (eDef 3 m__law_rel (aCons (eBin gIx (eVar 4) (eC (.int 1))) (aCons (eBin gAdd (eVar 6) (eVar 7)) (aCons (eBin gIx (eVar 4) (eC (.int 2))) (aNil)))))))) (sAsg (eC (.bl false)) (gN 5)) (sNil)
theorem inner_ok {r r2 : Str} (hr : Rl r) (hr2 : Rl r2) (v a v2 a2 p : Int) (e0 e1 e2 : Option D) (src : Src) (st : Store) (hok : src.Ok st) : ∀ (l : List Int) (due : Bool) (sv : Option D),
    ∃ sv', forM src (gN 7) BODY2 (l.map D.int) [e0, e1, e2, some (LIT v r a), some (LIT v2 r2 a2), some (.bl due), some (.int p), sv] st =
      SR.next [e0, e1, e2, some (LIT v r a), some (LIT v2 r2 a2), some (.bl (due && l.all fun s => !chk r a r2 a2 (p + s))), some (.int p), sv'] st
  | [], due, sv => ⟨sv, by
      rw [List.map_nil, for_nil _ _ _ _ _ hok]
      simp⟩
  | s :: l, due, sv => by
    rw [List.map_cons, for_cons _ _ _ _ _ _ _ hok]
    walk_at "mp"
    rw [lrel2_ok _ _ _ hr]
    walk_at "mp"
    rw [lrel2_ok _ _ _ hr2]
    walk_at "mp"
    cases h1 : relB r (p + s) a with
    | false =>
      obtain ⟨sv', e⟩ := inner_ok hr hr2 v a v2 a2 p e0 e1 e2 src st hok l due (some (.int s))
      refine ⟨sv', ?_⟩
      walk_at "mp"
      rw [e]
      simp [chk, h1]
    | true =>
      cases h2 : relB r2 (p + s) a2 with
      | true =>
        obtain ⟨sv', e⟩ := inner_ok hr hr2 v a v2 a2 p e0 e1 e2 src st hok l due (some (.int s))
        refine ⟨sv', ?_⟩
        walk_at "mp"
        rw [e]
        simp [chk, h1, h2]
      | false =>
        obtain ⟨sv', e⟩ := inner_ok hr hr2 v a v2 a2 p e0 e1 e2 src st hok l false (some (.int s))
        refine ⟨sv', ?_⟩
        walk_at "mp"
        rw [e]
        simp [chk, h1, h2]
noncomputable abbrev INNER : MP.Env → Store → SR := sFor (fSeq (eLst (aCons (eUn gNeg (eBin gPow (eC (.int 10)) (eC (.int 12)))) (aCons (eUn gNeg (eC (.int 1))) (aCons (eC (.int 0)) (aCons (eC (.int 1)) (aCons (eBin gPow (eC (.int 10)) (eC (.int 12))) (aNil)))))))) (gN 7) BODY2
theorem tail_ok {r r2 : Str} (hr : Rl r) (hr2 : Rl r2) (v v2 : Int) {a a2 : Int} (h1 : -600000006 ≤ a) (h2 : a ≤ 600000006) (h3 : -600000006 ≤ a2) (h4 : a2 ≤ 600000006) (x0 x1 : O) (e0 e1 e2 : Option D) :
    ∃ st, endB (contS (forM { items := [.int a, .int a2], obj := some 4 } (gN 6) INNER [.int a, .int a2] [e0, e1, e2, some (LIT v r a), some (LIT v2 r2 a2), some (.bl (decide (v = v2))), none, none] [x0, x1, RELS, RELS, .lst [.int a, .int a2]])
      (sRet (eDef 2 m__law_same (aCons (eDef 2 m_literal_implies (aCons (eVar 3) (aCons (eVar 4) (aNil)))) (aCons (eVar 5) (aNil)))))) = .ok (.bl true) st := by
  have p12 : CPow 10 12 := by decide
  have e12 : (10 : Int) ^ Int.toNat 12 = 1000000000000 := by decide
  have lk := fun src st hok p due sv => inner_ok hr hr2 v a v2 a2 p e0 e1 e2 src st hok STEPS due sv
  simp only [List.map_cons, List.map_nil] at lk
  rw [for_cons]
  case h => rfl
  walk_at "mpx"
  obtain ⟨s1, q1⟩ := lk { items := STEPS.map D.int, obj := some 5 } [x0, x1, RELS, RELS, .lst [.int a, .int a2], .lst (STEPS.map D.int)] rfl a (decide (v = v2)) none
  simp only [List.map_cons, List.map_nil] at q1
  rw [q1]
  walk_at "mp"
  rw [for_cons]
  case h => rfl
  walk_at "mpx"
  obtain ⟨s2, q2⟩ := lk { items := STEPS.map D.int, obj := some 6 } [x0, x1, RELS, RELS, .lst [.int a, .int a2], .lst (STEPS.map D.int), .lst (STEPS.map D.int)] rfl a2 (decide (v = v2) && STEPS.all fun s => !chk r a r2 a2 (a + s)) s1
  simp only [List.map_cons, List.map_nil] at q2
  rw [q2]
  walk_at "mp"
  rw [for_nil]
  case h => rfl
  walk_at "mp"
  rw [imp_ok hr hr2]
  walk_at "mp"
  rw [same_ok, impl_math hr hr2 v v2 h1 h2 h3 h4]
  walk_at "mp"
  simp only [List.all_cons, List.all_nil, Bool.and_true, Bool.and_assoc]
  exact ⟨_, rfl⟩
local macro_rules | `(tactic| walk_at "rest2") => `(tactic| (
  obtain ⟨v1, a1, r1, o5, e5, hr1, b1, c1, t5⟩ := read_ok (by assumption) ‹_› ‹_›
  simp only [List.cons_append, List.nil_append, List.set_cons_succ, List.set_cons_zero] at e5 t5
  rw [e5]
  walk_at "mp"
  clear e5
  obtain ⟨v2, a2, r2, o6, e6, hr2, b2, c2, t6⟩ := read_ok (t5.app [RELS]) ‹_› ‹_›
  simp only [List.cons_append, List.nil_append, List.set_cons_succ, List.set_cons_zero] at e6 t6
  rw [e6]
  walk_at "mp"
  exact tail_ok hr1 hr2 v1 v2 (by omega) (by omega) (by omega) (by omega) _ _ _ _ _))
theorem law_true : ∀ ns : List Int, ns.length ≤ 63 → ∃ st, m_law [.scr ns] [] = .ok (.bl true) st := by
  intro ns hl
  have p12 : CPow 10 12 := by decide
  have e12 : (10 : Int) ^ Int.toNat 12 = 1000000000000 := by decide
  have p8 : CPow 10 8 := by decide
  have e8 : (10 : Int) ^ Int.toNat 8 = 100000000 := by decide
  unfold m_law
  walk_at "mp"
  rw [tape_ok]
  walk_at "mp"
  obtain ⟨d1, o1, e1, p1, q1, t1⟩ := draw_ok (many := 4) (Tape.start ns) (by decide) (by decide)
  simp only [List.set_cons_succ, List.set_cons_zero] at e1 t1
  rw [e1]
  walk_at "mp"
  clear e1
  by_cases z1 : d1 = 0
  · rw [if_pos z1, e8]
    obtain ⟨d2, o2, e2, p2, q2, t2⟩ := draw_ok (many := 100000000) t1 (by decide) (by decide)
    simp only [List.set_cons_succ, List.set_cons_zero] at e2 t2
    rw [e2]
    walk_at "mp"
    clear e2 t1
    have s0 : 0 ≤ 1 + d2 := by omega
    have s1 : 1 + d2 ≤ 134217728 := by omega
    have s2 : 6 * (1 + d2) ≤ 600000006 := by omega
    generalize 1 + d2 = scale at *
    walk_at "rest2"
  · rw [if_neg z1]
    have s0 : (0 : Int) ≤ 1 := by decide
    have s1 : (1 : Int) ≤ 134217728 := by decide
    have s2 : 6 * (1 : Int) ≤ 600000006 := by decide
    walk_at "rest2"

end T
open PySem PySem.W PyProof.Rows
set_option maxHeartbeats 0 in
theorem PySem.Challenge.cw_commonground_k02_literal_implies_holds : PySem.Challenge.rw_commonground_k02_literal_implies.Holds := by
  w_on; o_law; k_head; (case hw => w_witness2)
  k_fill
  refine L2.walk_of (l := PySem.Challenge.rw_commonground_k02_literal_implies) (n := 63) (k := 5) (x := "script") (CX := fun _ => L2.CX0) (sp := fun w => MP.spLaw _) rfl (by decide) rfl ⟨rfl, by decide, by decide⟩ (fun w h Y => PySem.W.kIn_of Y) ?F (fun _ _ a ns hl o hS => ⟨a, ns, rfl, hl, o, hS, fun _ => rfl⟩) (fun _ _ _ _ _ h => h)
  case F =>
    intro w mg fa h KX G hmg
    refine' T.all_mk T.law_true KX G hmg ?a0 ?l0 ?c0 ?k0 ?a1 ?l1 ?c1 ?k1 ?a2 ?l2 ?c2 ?k2 ?a3 ?l3 ?c3 ?k3 ?a4 ?l4 ?c4 ?k4 ?a5 ?l5 ?c5 ?k5 ?a6 ?l6 ?c6 ?k6 ?a7 ?l7 ?c7 ?k7 ?a8 ?l8 ?c8 ?k8 ?a9 ?l9 ?c9 ?k9 ?z_bool ?z_int ?z_isinstance ?z_len ?z_list
    (case a0 => k_is)
    (case l0 => k_is)
    (case c0 => k_is)
    (case k0 => k_is)
    (case a1 => k_is)
    (case l1 => k_is)
    (case c1 => k_is)
    (case k1 => k_is)
    (case a2 => k_is)
    (case l2 => k_is)
    (case c2 => k_is)
    (case k2 => k_is)
    (case a3 => k_is)
    (case l3 => k_is)
    (case c3 => k_is)
    (case k3 => k_is)
    (case a4 => k_is)
    (case l4 => k_is)
    (case c4 => k_is)
    (case k4 => k_is)
    (case a5 => k_is)
    (case l5 => k_is)
    (case c5 => k_is)
    (case k5 => k_is)
    (case a6 => k_is)
    (case l6 => k_is)
    (case c6 => k_is)
    (case k6 => k_is)
    (case a7 => k_is)
    (case l7 => k_is)
    (case c7 => k_is)
    (case k7 => k_is)
    (case a8 => k_is)
    (case l8 => k_is)
    (case c8 => k_is)
    (case k8 => k_is)
    (case a9 => k_is)
    (case l9 => k_is)
    (case c9 => k_is)
    (case k9 => k_is)
    (case z_bool => k_is)
    (case z_int => k_is)
    (case z_isinstance => k_is)
    (case z_len => k_is)
    (case z_list => k_is)
