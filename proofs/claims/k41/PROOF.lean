import PyProof.Rows.All
import Wide.All
import OpenK.AllK
import Wide.FinOn
import HandS.ForMost
import HandS.Wide
import HandS.IsInst
import HandS.Conv
import HandS.Flow
import HandS.Deep
import HandS.TupAny
import HandS.GenList
import HandS.AnyAll
import HandS.EndOwn
import PyProof.ConsumeS
import PyProof.TupleOfGen
import HandS.More
import HandS.SetBool
import HandS.Strs
import HandS.Gcd
import HandS.NoneIn
import HandS.TupLe
import HandS.SetFor
import HandS.CallLocal
import HandS.TupSets
import KE.GoesMore
import KE.GoesEnum
import HandS.Iter
import HandS.Dict
import HandS.Text
import HandS.Zip
import HandS.Iter
import KE.KNestM
import PySem.Challenge.RW_commonground_k41_new_tableau
set_option Elab.async false
set_option linter.all false
set_option maxRecDepth 100000
set_option maxHeartbeats 4000000
namespace MP
open PySem PySem.Spec PyProof.Rows L2

/-! ### data of the mirror: tuples are values, lists, dicts and instances stand in a store -/
inductive D where
  | non | bl (b : Bool) | int (i : Int) | str (s : Str) | tup (ds : List D) | ref (n : Nat) | fn (x : Str) | ty (n : String) | scr (ns : List Int)
  deriving Inhabited
inductive O where
  | lst (ds : List D) | dct (kvs : List (Key × D)) | ins (C : Str) (fs : List (Str × D)) | tab | dctL (kvs : List (Key × D))
abbrev Store := List O
inductive Res (α : Type) where
  | ok (a : α) (st : Store) | exc (c : Str) (d : D) (st : Store) | bad
abbrev Env := List (Option D)
abbrev Ev (α : Type) := Env → Store → Res α
inductive SR where
  | next (e : Env) (st : Store) | ret (d : D) (st : Store) | brk (e : Env) (st : Store) | cnt (e : Env) (st : Store) | exc (c : Str) (d : D) (e : Env) (st : Store) | bad

/-- a list that nobody writes: the script -/
def SqF (K : PySem.W.Frag) (H : Hp) (a : Addr) (xs : List V) : Prop := (∃ o, H a = some (.frz o (.lst xs))) ∨
  ∃ (o : Obj) (its : Array Value) (n : Nat), K.lookup a = some o ∧ o.cls = .type "list" ∧ o.dict = none ∧ o.data = .seq its n ∧ its.size ≤ sizeLine ∧ Vals xs its.toList
theorem SqF.seq {K : PySem.W.Frag} {H : Hp} {a : Addr} {xs : List V} (h : SqF K H a xs) : SqL K H a xs := h.elim (fun q => .inl (.inr q)) .inr
/-- the code objects that hold a table, and their tables -/
class TBs where
  cs : List (Addr × Addr)
section
variable (K : PySem.W.Frag) (mg : Str → Option Value)
mutual
inductive Rep (ρ : List Addr) (H : Hp) : D → V → Prop
  | non : Rep ρ H .non .non
  | bl (b : Bool) : Rep ρ H (.bl b) (.bl b)
  | int (i : Int) : Rep ρ H (.int i) (.int i)
  | str (x : Str) : Rep ρ H (.str x) (.str x)
  | tup {a : Addr} {xs : List V} {ds : List D} : SqT K H a xs → Reps ρ H ds xs → Rep ρ H (.tup ds) (.ref a)
  | ref {a : Addr} {n : Nat} : ρ[n]? = some a → Rep ρ H (.ref n) (.ref a)
  | fn {a : Addr} {x : Str} : mg x = some (.ref a) → Rep ρ H (.fn x) (.ref a)
  | ty (n : String) : Rep ρ H (.ty n) (.ty n)
  | scr {a : Addr} {ns : List Int} : SqF K H a (ns.map V.int) → Rep ρ H (.scr ns) (.ref a)
inductive Reps (ρ : List Addr) (H : Hp) : List D → List V → Prop
  | nil : Reps ρ H [] []
  | cons {d : D} {v : V} {ds : List D} {vs : List V} : Rep ρ H d v → Reps ρ H ds vs → Reps ρ H (d :: ds) (v :: vs)
end
/-- tuples stay -/
structure Ext0 (H H' : Hp) : Prop where
  tup : ∀ a xs, SqT K H a xs → SqT K H' a xs
  scr : ∀ a xs, SqF K H a xs → SqF K H' a xs
structure Ext (H H' : Hp) : Prop where
  tup : ∀ a xs, SqT K H a xs → SqT K H' a xs
  scr : ∀ a xs, SqF K H a xs → SqF K H' a xs
  oth : ∀ a φ, H a = some (.ext φ) → H' a = some (.ext φ)
  frz : ∀ a o u, H a = some (.frz o u) → H' a = some (.frz o u)
inductive RepO (ρ : List Addr) (H : Hp) : O → HO → Prop
  | lst {ds : List D} {xs : List V} : Reps K mg ρ H ds xs → RepO ρ H (.lst ds) (.lst xs)
  | dct {kvs : List (Key × D)} {ws : List (Key × V)} : Paired (fun p q => p.1 = q.1 ∧ Rep K mg ρ H p.2 q.2) kvs ws → RepO ρ H (.dct kvs) (.dK ws)
  | ins {C : Str} {a dx : Addr} {fs : List (Str × D)} {ws : List (Str × V)} : mg C = some (.ref a) → Paired (fun p q => p.1 = q.1 ∧ Rep K mg ρ H p.2 q.2) fs ws → RepO ρ H (.ins C fs) (.ins a dx ws)
  | tab {ps : Array Value} : TriplesOk ps.toList → RepO ρ H .tab (.tbl ps)
  | dctL {kvs : List (Key × D)} {ws : List (Key × V)} {o : Obj} : Paired (fun p q => p.1 = q.1 ∧ Rep K mg ρ H p.2 q.2) kvs ws → RepO ρ H (.dctL kvs) (.frz o (.dK ws))
variable [TBs]
structure Sim (ρ : List Addr) (st : Store) (H : Hp) : Prop where
  len : ρ.length = st.length
  nd : ρ.Nodup
  tb : TBs.cs.map (·.2) <+: ρ
  at_ : ∀ (n : Nat) (o : O), st[n]? = some o → ∃ a ho, ρ[n]? = some a ∧ H a = some ho ∧ RepO K mg ρ H o ho
structure Go (ρ : List Addr) (H : Hp) (ρ' : List Addr) (st' : Store) (H' : Hp) : Prop where
  pre : ρ <+: ρ'
  sim : Sim K mg ρ' st' H'
  ext : Ext K H H'
/-- slots -/
def EnvR (ρ : List Addr) (H : Hp) (env : Env) (σ : L2.St) : Prop := Paired (fun d v => ∀ x, d = some x → ∃ y, v = some y ∧ Rep K mg ρ H x y) env σ
end

section
variable [TBs] {K : PySem.W.Frag} {mg : Str → Option Value} {ρ ρ' ρ'' : List Addr} {H H' H'' : Hp} {st st' st'' : Store}
theorem Ext.refl : Ext K H H := ⟨fun _ _ h => h, fun _ _ h => h, fun _ _ h => h, fun _ _ _ h => h⟩
theorem Ext.trans (a : Ext K H H') (b : Ext K H' H'') : Ext K H H'' := ⟨fun p xs h => b.tup p xs (a.tup p xs h), fun p xs h => b.scr p xs (a.scr p xs h), fun p φ h => b.oth p φ (a.oth p φ h), fun p o u h => b.frz p o u (a.frz p o u h)⟩
mutual
theorem Rep.mono0 (hp : ρ <+: ρ') (he : Ext0 K H H') : ∀ {d : D} {v : V}, Rep K mg ρ H d v → Rep K mg ρ' H' d v
  | _, _, .non => .non
  | _, _, .bl b => .bl b
  | _, _, .int i => .int i
  | _, _, .str x => .str x
  | _, _, .tup h r => .tup (he.tup _ _ h) (Reps.mono0 hp he r)
  | _, _, .ref h => .ref (by
      obtain ⟨t, rfl⟩ := hp
      rw [List.getElem?_append_left (List.getElem?_eq_some_iff.mp h).1]
      exact h)
  | _, _, .fn h => .fn h
  | _, _, .ty n => .ty n
  | _, _, .scr h => .scr (he.scr _ _ h)
theorem Reps.mono0 (hp : ρ <+: ρ') (he : Ext0 K H H') : ∀ {ds : List D} {vs : List V}, Reps K mg ρ H ds vs → Reps K mg ρ' H' ds vs
  | _, _, .nil => .nil
  | _, _, .cons r t => .cons (Rep.mono0 hp he r) (Reps.mono0 hp he t)
end
theorem Ext.to0 (he : Ext K H H') : Ext0 K H H' := ⟨he.tup, he.scr⟩
theorem Rep.mono (hp : ρ <+: ρ') (he : Ext K H H') {d : D} {v : V} (r : Rep K mg ρ H d v) : Rep K mg ρ' H' d v := r.mono0 hp he.to0
theorem Reps.mono (hp : ρ <+: ρ') (he : Ext K H H') {ds : List D} {vs : List V} (r : Reps K mg ρ H ds vs) : Reps K mg ρ' H' ds vs := r.mono0 hp he.to0
theorem paired_imp {α β : Type} {P Q : α → β → Prop} (h : ∀ a b, P a b → Q a b) : ∀ {xs : List α} {ys : List β}, Paired P xs ys → Paired Q xs ys
  | _, _, .nil => .nil
  | _, _, .cons r t => .cons (h _ _ r) (paired_imp h t)
theorem RepO.mono0 (hp : ρ <+: ρ') (he : Ext0 K H H') {o : O} {ho : HO} (h : RepO K mg ρ H o ho) : RepO K mg ρ' H' o ho := by
  cases h with
  | lst h => exact .lst (h.mono0 hp he)
  | dct h => exact .dct (paired_imp (fun _ _ ⟨a, b⟩ => ⟨a, b.mono0 hp he⟩) h)
  | ins m h => exact .ins m (paired_imp (fun _ _ ⟨a, b⟩ => ⟨a, b.mono0 hp he⟩) h)
  | tab h => exact .tab h
  | dctL h => exact .dctL (paired_imp (fun _ _ ⟨a, b⟩ => ⟨a, b.mono0 hp he⟩) h)
theorem RepO.mono (hp : ρ <+: ρ') (he : Ext K H H') {o : O} {ho : HO} (h : RepO K mg ρ H o ho) : RepO K mg ρ' H' o ho := h.mono0 hp he.to0
theorem EnvR.mono (hp : ρ <+: ρ') (he : Ext K H H') {env : Env} {σ : L2.St} (h : EnvR K mg ρ H env σ) : EnvR K mg ρ' H' env σ :=
  paired_imp (fun _ _ q x e => let ⟨y, e1, r⟩ := q x e; ⟨y, e1, r.mono hp he⟩) h
theorem Go.refl (s : Sim K mg ρ st H) : Go K mg ρ H ρ st H := ⟨List.prefix_refl _, s, .refl⟩
theorem Go.trans (a : Go K mg ρ H ρ' st' H') (b : Go K mg ρ' H' ρ'' st'' H'') : Go K mg ρ H ρ'' st'' H'' := ⟨a.pre.trans b.pre, b.sim, a.ext.trans b.ext⟩

theorem paired_get {α β : Type} {P : α → β → Prop} : ∀ {xs : List α} {ys : List β} {i : Nat} {x : α}, Paired P xs ys → xs[i]? = some x → ∃ y, ys[i]? = some y ∧ P x y
  | _, _, _, _, .nil, e => by simp at e
  | _, _, 0, _, .cons r _, e => by simp at e; subst e; exact ⟨_, rfl, r⟩
  | _, _, i + 1, x, .cons _ t, e => by
    obtain ⟨u, h1, h2⟩ := paired_get (i := i) (x := x) t (by simpa using e)
    exact ⟨u, by simpa using h1, h2⟩
theorem paired_set {α β : Type} {P : α → β → Prop} {x : α} {y : β} (r : P x y) : ∀ {xs : List α} {ys : List β} (i : Nat), Paired P xs ys → Paired P (xs.set i x) (ys.set i y)
  | _, _, _, .nil => .nil
  | _, _, 0, .cons _ t => .cons r t
  | _, _, i + 1, .cons q t => .cons q (paired_set r i t)
theorem Reps.length : ∀ {ds : List D} {vs : List V}, Reps K mg ρ H ds vs → ds.length = vs.length
  | _, _, .nil => rfl
  | _, _, .cons _ t => by simp [Reps.length t]
theorem Reps.get : ∀ {ds : List D} {vs : List V} {i : Nat} {d : D}, Reps K mg ρ H ds vs → ds[i]? = some d → ∃ v, vs[i]? = some v ∧ Rep K mg ρ H d v
  | _, _, _, _, .nil, e => by simp at e
  | _, _, 0, _, .cons r _, e => by simp at e; subst e; exact ⟨_, rfl, r⟩
  | _, _, i + 1, x, .cons _ t, e => by
    obtain ⟨u, h1, h2⟩ := Reps.get (i := i) (d := x) t (by simpa using e)
    exact ⟨u, by simpa using h1, h2⟩
theorem Reps.set {d : D} {v : V} (r : Rep K mg ρ H d v) : ∀ {ds : List D} {vs : List V} (i : Nat), Reps K mg ρ H ds vs → Reps K mg ρ H (ds.set i d) (vs.set i v)
  | _, _, _, .nil => .nil
  | _, _, 0, .cons _ t => .cons r t
  | _, _, i + 1, .cons q t => .cons q (Reps.set r i t)
theorem Reps.append : ∀ {ds es : List D} {vs us : List V}, Reps K mg ρ H ds vs → Reps K mg ρ H es us → Reps K mg ρ H (ds ++ es) (vs ++ us)
  | _, _, _, _, .nil, s => s
  | _, _, _, _, .cons r t, s => .cons r (Reps.append t s)
theorem Reps.take : ∀ {ds : List D} {vs : List V} (n : Nat), Reps K mg ρ H ds vs → Reps K mg ρ H (ds.take n) (vs.take n)
  | _, _, 0, _ => .nil
  | _, _, _ + 1, .nil => .nil
  | _, _, n + 1, .cons r t => .cons r (Reps.take n t)
theorem Reps.drop : ∀ {ds : List D} {vs : List V} (n : Nat), Reps K mg ρ H ds vs → Reps K mg ρ H (ds.drop n) (vs.drop n)
  | _, _, 0, r => r
  | _, _, _ + 1, .nil => .nil
  | _, _, n + 1, .cons _ t => Reps.drop n t
theorem Reps.paired : ∀ {ds : List D} {vs : List V}, Reps K mg ρ H ds vs → Paired (Rep K mg ρ H) ds vs
  | _, _, .nil => .nil
  | _, _, .cons r t => .cons r (Reps.paired t)
theorem reps_ints : ∀ (ns : List Int), Reps K mg ρ H (ns.map D.int) (ns.map V.int)
  | [] => .nil
  | n :: r => .cons (.int n) (reps_ints r)

theorem ext_upd {a : Addr} {o : HO} (h : ∀ xs, H a ≠ some (.tup xs)) (h2 : ∀ ob u, H a ≠ some (.frz ob u)) (h3 : ∀ φ, H a ≠ some (.ext φ)) : Ext K H (upd H a o) := by
  refine ⟨fun p xs hs => ?_, fun p xs hs => ?_, fun p φ hs => by rw [upd_ne (fun e => h3 φ (by rw [← e]; exact hs))]; exact hs, fun p o u hs => by rw [upd_ne (fun e => h2 o u (by rw [← e]; exact hs))]; exact hs⟩
  · rcases hs with (hs | ⟨ob, hs⟩) | hs
    · have : p ≠ a := fun e => by rw [e] at hs; exact h _ hs
      exact .inl (.inl (by rw [upd_ne this]; exact hs))
    · have : p ≠ a := fun e => by rw [e] at hs; exact h2 _ _ hs
      exact .inl (.inr ⟨ob, by rw [upd_ne this]; exact hs⟩)
    · exact .inr hs
  · rcases hs with ⟨ob, hs⟩ | hs
    · have : p ≠ a := fun e => by rw [e] at hs; exact h2 _ _ hs
      exact .inl ⟨ob, by rw [upd_ne this]; exact hs⟩
    · exact .inr hs
theorem ext_new {a : Addr} {o : HO} (h : H a = none) : Ext K H (upd H a o) := ext_upd (fun xs e => by rw [h] at e; cases e) (fun ob u e => by rw [h] at e; cases e) fun φ e => by rw [h] at e; cases e
theorem RepO.ext {o : O} {ho : HO} (r : RepO K mg ρ H o ho) {a : Addr} (h : H a = some ho) {u : HO} (nl : ∀ kvs, o ≠ .dctL kvs) : Ext K H (upd H a u) := by
  refine ext_upd (fun xs e => ?_) (fun ob q e => ?_) fun φ e => ?_ <;> (rw [h] at e; cases e; cases r)
  exact nl _ rfl
/-- something new that the store does not know -/
theorem Sim.fresh (s : Sim K mg ρ st H) {a : Addr} {u : HO} (h : H a = none) : Sim K mg ρ st (upd H a u) :=
  ⟨s.len, s.nd, s.tb, fun n o e => by
    obtain ⟨p, ho, e1, e2, r⟩ := s.at_ n o e
    have : p ≠ a := fun q => by rw [q, h] at e2; cases e2
    exact ⟨p, ho, e1, by rw [upd_ne this]; exact e2, r.mono (List.prefix_refl _) (ext_new h)⟩⟩
theorem Go.fresh (s : Sim K mg ρ st H) {a : Addr} {u : HO} (h : H a = none) : Go K mg ρ H ρ st (upd H a u) := ⟨List.prefix_refl _, s.fresh h, ext_new h⟩
/-- a new object of the store -/
theorem Go.new (s : Sim K mg ρ st H) {a : Addr} {u : HO} {o : O} (h : H a = none) (r : RepO K mg ρ H o u) : Go K mg ρ H (ρ ++ [a]) (st ++ [o]) (upd H a u) := by
  have hp : ρ <+: ρ ++ [a] := List.prefix_append _ _
  have na : a ∉ ρ := fun m => by
    obtain ⟨i, hi, e⟩ := List.getElem_of_mem m
    have hi2 : i < st.length := by rw [← s.len]; exact hi
    obtain ⟨p, ho, e1, e2, _⟩ := s.at_ i _ (List.getElem?_eq_getElem hi2)
    rw [List.getElem?_eq_getElem hi, e] at e1
    cases e1
    rw [h] at e2
    cases e2
  refine ⟨hp, ⟨by simp [s.len], ?_, s.tb.trans hp, fun n x e => ?_⟩, ext_new h⟩
  · rw [List.nodup_append]
    refine ⟨s.nd, by simp, fun x hx y hy => ?_⟩
    rw [List.mem_singleton] at hy
    subst hy
    intro e
    subst e
    exact na hx
  · by_cases hn : n < st.length
    · rw [List.getElem?_append_left hn] at e
      obtain ⟨p, ho, e1, e2, q⟩ := s.at_ n x e
      have : p ≠ a := fun q => by rw [q, h] at e2; cases e2
      exact ⟨p, ho, by rw [List.getElem?_append_left (by rw [s.len]; exact hn)]; exact e1, by rw [upd_ne this]; exact e2, q.mono hp (ext_new h)⟩
    · have hn' : n = st.length := by
        have := (List.getElem?_eq_some_iff.mp e).1
        simp at this
        omega
      subst hn'
      simp at e
      subst e
      exact ⟨a, u, by rw [← s.len]; simp, upd_same, r.mono hp (ext_new h)⟩
/-- an object of the store is stored anew -/
theorem Go.set (s : Sim K mg ρ st H) {n : Nat} {a : Addr} {o o' : O} {u u' : HO} (hn : st[n]? = some o) (ha : ρ[n]? = some a) (hu : H a = some u) (r : RepO K mg ρ H o u) (r' : RepO K mg ρ H o' u') (nl : ∀ kvs, o ≠ .dctL kvs := by exact fun _ h => nomatch h) : Go K mg ρ H ρ (st.set n o') (upd H a u') := by
  have hx : Ext K H (upd H a u') := r.ext hu nl
  refine ⟨List.prefix_refl _, ⟨by simp [s.len], s.nd, s.tb, fun m x e => ?_⟩, hx⟩
  have hlt := (List.getElem?_eq_some_iff.mp hn).1
  by_cases hm : n = m
  · subst hm
    rw [List.getElem?_set_self hlt] at e
    cases e
    exact ⟨a, u', ha, upd_same, r'.mono (List.prefix_refl _) hx⟩
  · rw [List.getElem?_set_ne hm] at e
    obtain ⟨p, ho, e1, e2, q⟩ := s.at_ m x e
    have : p ≠ a := fun z => by
      subst z
      exact hm ((List.getElem?_inj (List.getElem?_eq_some_iff.mp ha).1 s.nd).mp (ha.trans e1.symm))
    exact ⟨p, ho, e1, by rw [upd_ne this]; exact e2, q.mono (List.prefix_refl _) hx⟩
/-- something that the store does not know is stored anew -/
theorem Go.other {H1 : Hp} (g : Go K mg ρ H ρ' st H1) {p : Addr} {φ ψ : Heap → Prop} (hp : H1 p = some (.ext φ)) (hn : H p = none) : Go K mg ρ H ρ' st (upd H1 p (.ext ψ)) := by
  have e0 : Ext0 K H1 (upd H1 p (.ext ψ)) := by
    refine ⟨fun b xs hs => ?_, fun b xs hs => ?_⟩
    · rcases hs with (hs | ⟨ob, hs⟩) | hs
      · exact .inl (.inl (by rw [upd_ne (fun e => by rw [e, hp] at hs; cases hs)]; exact hs))
      · exact .inl (.inr ⟨ob, by rw [upd_ne (fun e => by rw [e, hp] at hs; cases hs)]; exact hs⟩)
      · exact .inr hs
    · rcases hs with ⟨ob, hs⟩ | hs
      · exact .inl ⟨ob, by rw [upd_ne (fun e => by rw [e, hp] at hs; cases hs)]; exact hs⟩
      · exact .inr hs
  refine ⟨g.pre, ⟨g.sim.len, g.sim.nd, g.sim.tb, fun n o e => ?_⟩, ⟨fun b xs h => e0.tup b xs (g.ext.tup b xs h), fun b xs h => e0.scr b xs (g.ext.scr b xs h), fun b f h => by rw [upd_ne (fun e => by rw [e, hn] at h; cases h)]; exact g.ext.oth b f h, fun b o u h => by rw [upd_ne (fun e => by rw [e, hn] at h; cases h)]; exact g.ext.frz b o u h⟩⟩
  obtain ⟨q, ho, e1, e2, r⟩ := g.sim.at_ n o e
  refine ⟨q, ho, e1, ?_, r.mono0 (List.prefix_refl _) e0⟩
  rw [upd_ne (fun z => by rw [z, hp] at e2; cases e2; cases r)]
  exact e2
theorem Sim.get (s : Sim K mg ρ st H) {n : Nat} {o : O} {v : V} (hn : st[n]? = some o) (r : Rep K mg ρ H (.ref n) v) : ∃ a ho, v = .ref a ∧ ρ[n]? = some a ∧ H a = some ho ∧ RepO K mg ρ H o ho := by
  cases r with
  | ref h =>
    obtain ⟨p, ho, e1, e2, q⟩ := s.at_ n o hn
    rw [h] at e1
    cases e1
    exact ⟨_, ho, rfl, h, e2, q⟩
end
end MP

namespace MP
open PySem PySem.Spec PyProof.Rows L2
variable [TBs]

/-- what an exception carries -/
inductive XRep (K : PySem.W.Frag) (mg : Str → Option Value) (ρ : List Addr) (H : Hp) : Str → D → Value → Option Addr → Prop
  | plain {c : Str} {u : Value} {od : Option Addr} : mg c = some u → XRep K mg ρ H c .non u od
  | what {c : Str} {u : Value} {a : Addr} {d : D} {v : V} : mg c = some u → H a = some (.xd [("what", v)]) → Rep K mg ρ H d v → XRep K mg ρ H c (.tup [d]) u (some a)

section
variable (K : PySem.W.Frag) (mg : Str → Option Value)
abbrev RL (α β : Type) := List Addr → Hp → α → β → Prop
def XPost (E : XK) (ρ : List Addr) (H : Hp) (c : Str) (d : D) (st' : Store) : Prop := ∀ ρ' H' u od, Go K mg ρ H ρ' st' H' → XRep K mg ρ' H' c d u od → E u od H'
def Post {α β : Type} (R : RL α β) (E : XK) (ρ : List Addr) (H : Hp) (Q : β → Hp → Prop) : Res α → Prop
  | .ok a st' => ∀ ρ' H' v, Go K mg ρ H ρ' st' H' → R ρ' H' a v → Q v H'
  | .exc c d st' => XPost K mg E ρ H c d st'
  | .bad => False
def SPost (E : XK) (ρ : List Addr) (H : Hp) (Dn : Ends) : SR → Prop
  | .next env' st' => ∀ ρ' σ' H', Go K mg ρ H ρ' st' H' → EnvR K mg ρ' H' env' σ' → Dn.nx σ' H'
  | .ret d st' => ∀ ρ' H' v, Go K mg ρ H ρ' st' H' → Rep K mg ρ' H' d v → Dn.rt v H'
  | .brk env' st' => ∀ ρ' σ' H', Go K mg ρ H ρ' st' H' → EnvR K mg ρ' H' env' σ' → Dn.bk σ' H'
  | .cnt env' st' => ∀ ρ' σ' H', Go K mg ρ H ρ' st' H' → EnvR K mg ρ' H' env' σ' → Dn.ct σ' H'
  | .exc c d _ st' => XPost K mg E ρ H c d st'
  | .bad => False
/-- a reading is served by a mirror -/
def Real {α β : Type} (R : RL α β) (E : XK) (t : L2.St → Hp → (β → Hp → Prop) → Prop) (f : Ev α) : Prop :=
  ∀ ρ env st σ H Q, Sim K mg ρ st H → EnvR K mg ρ H env σ → Post K mg R E ρ H Q (f env st) → t σ H Q
def RealS (E : XK) (t : TS) (g : Env → Store → SR) : Prop :=
  ∀ ρ env st σ H Dn, Sim K mg ρ st H → EnvR K mg ρ H env σ → SPost K mg E ρ H Dn (g env st) → t Dn σ H
def REq (α : Type) : RL α α := fun _ _ a b => a = b
end
def bindR {α β : Type} (r : Res α) (k : α → Store → Res β) : Res β := match r with
  | .ok a st => k a st
  | .exc c d st => .exc c d st
  | .bad => .bad
@[simp] theorem bindR_ok {α β : Type} (a : α) (st : Store) (k : α → Store → Res β) : bindR (.ok a st) k = k a st := rfl
@[simp] theorem bindR_bad {α β : Type} (k : α → Store → Res β) : bindR .bad k = .bad := rfl
@[simp] theorem bindR_exc {α β : Type} (c : Str) (d : D) (st : Store) (k : α → Store → Res β) : bindR (.exc c d st) k = .exc c d st := rfl
/-- from an expression into a statement -/
def bindS {α : Type} (env : Env) (r : Res α) (k : α → Store → SR) : SR := match r with
  | .ok a st => k a st
  | .exc c d st => .exc c d env st
  | .bad => .bad
@[simp] theorem bindS_ok {α : Type} (env : Env) (a : α) (st : Store) (k : α → Store → SR) : bindS env (.ok a st) k = k a st := rfl
@[simp] theorem bindS_bad {α : Type} (env : Env) (k : α → Store → SR) : bindS env .bad k = .bad := rfl
@[simp] theorem bindS_exc {α : Type} (env : Env) (c : Str) (d : D) (st : Store) (k : α → Store → SR) : bindS env (.exc c d st) k = .exc c d env st := rfl

section
variable {K : PySem.W.Frag} {mg : Str → Option Value} {E : XK} {α β γ δ : Type} {R : RL α β} {R2 : RL γ δ} {ρ ρ' : List Addr} {H H' : Hp} {st st' : Store}
theorem XPost.from {c : Str} {d : D} {st2 : Store} (g : Go K mg ρ H ρ' st' H') (h : XPost K mg E ρ H c d st2) : XPost K mg E ρ' H' c d st2 := fun ρ'' H'' u od g2 r => h ρ'' H'' u od (g.trans g2) r
theorem Post.from {Q : β → Hp → Prop} {r : Res α} (g : Go K mg ρ H ρ' st' H') (h : Post K mg R E ρ H Q r) : Post K mg R E ρ' H' Q r := by
  cases r with
  | ok a st2 => exact fun ρ'' H'' v g2 q => h ρ'' H'' v (g.trans g2) q
  | exc c d st2 => exact XPost.from g h
  | bad => exact h
theorem SPost.from {Dn : Ends} {r : SR} (g : Go K mg ρ H ρ' st' H') (h : SPost K mg E ρ H Dn r) : SPost K mg E ρ' H' Dn r := by
  cases r with
  | next e st2 => exact fun ρ'' σ'' H'' g2 q => h ρ'' σ'' H'' (g.trans g2) q
  | ret e st2 => exact fun ρ'' H'' v g2 q => h ρ'' H'' v (g.trans g2) q
  | brk e st2 => exact fun ρ'' σ'' H'' g2 q => h ρ'' σ'' H'' (g.trans g2) q
  | cnt e st2 => exact fun ρ'' σ'' H'' g2 q => h ρ'' σ'' H'' (g.trans g2) q
  | exc c d e st2 => exact XPost.from g h
  | bad => exact h
theorem Post.split {Q : δ → Hp → Prop} {r : Res α} {k : α → Store → Res γ} {Q1 : β → Hp → Prop} (h : Post K mg R2 E ρ H Q (bindR r k))
    (hk : ∀ a st1 ρ1 H1 v, Go K mg ρ H ρ1 st1 H1 → R ρ1 H1 a v → Post K mg R2 E ρ1 H1 Q (k a st1) → Q1 v H1) : Post K mg R E ρ H Q1 r := by
  cases r with
  | ok a st2 => exact fun ρ1 H1 v g q => hk a st2 ρ1 H1 v g q (Post.from g h)
  | exc c d st2 => exact h
  | bad => exact h
theorem SPost.split {Dn : Ends} {env : Env} {r : Res α} {k : α → Store → SR} {Q1 : β → Hp → Prop} (h : SPost K mg E ρ H Dn (bindS env r k))
    (hk : ∀ a st1 ρ1 H1 v, Go K mg ρ H ρ1 st1 H1 → R ρ1 H1 a v → SPost K mg E ρ1 H1 Dn (k a st1) → Q1 v H1) : Post K mg R E ρ H Q1 r := by
  cases r with
  | ok a st2 => exact fun ρ1 H1 v g q => hk a st2 ρ1 H1 v g q (SPost.from g h)
  | exc c d st2 => exact h
  | bad => exact h
theorem Post.done {Q : β → Hp → Prop} {a : α} {v : β} (s : Sim K mg ρ st H) (h : Post K mg R E ρ H Q (.ok a st)) (r : R ρ H a v) : Q v H := h ρ H v (.refl s) r
end

/-! ### the judgements -/
structure ME (X : Cx) (E : XK) (e : Expr) (f : Ev D) : Prop where
  ex : ∃ t, PE X e t ∧ Real X.K X.mg (Rep X.K X.mg) E t f
structure MT (X : Cx) (E : XK) (e : Expr) (f : Ev Bool) : Prop where
  ex : ∃ t, PT X e t ∧ Real X.K X.mg (REq Bool) E t f
structure MW (X : Cx) (E : XK) (e : Expr) (f : Ev Bool) : Prop where
  ex : ∃ t, PW X e t ∧ Real X.K X.mg (REq Bool) E t f
structure MA (X : Cx) (E : XK) (es : List Expr) (f : Ev (List D)) : Prop where
  ex : ∃ t, PA X es t ∧ Real X.K X.mg (Reps X.K X.mg) E t f
structure MS (X : Cx) (E : XK) (s : Stmt) (g : Env → Store → SR) : Prop where
  ex : ∃ t, PS X s t ∧ RealS X.K X.mg E t g
structure MSs (X : Cx) (E : XK) (s : List Stmt) (g : Env → Store → SR) : Prop where
  ex : ∃ t, PSs X s t ∧ RealS X.K X.mg E t g

/-! ### names, constants -/
def eVar (i : Nat) : Ev D := fun env st => match env[i]? with
  | some (some d) => .ok d st
  | _ => .bad
def eC (d : D) : Ev D := fun _ st => .ok d st
section
variable {X : Cx} {E : XK} {pos : Pos}
theorem me_var (i : Nat) {x : Str} (hN : X.N[i]? = some x := by rfl) (hv : Vis X.env.scope x := by first | exact Or.inl rfl | exact Or.inr (Or.inl rfl) | exact Or.inr (Or.inr rfl)) (hd : (x == ("__debug__" : Str)) = false := by decide)
    (hcd : (x == ("__classdict__" : Str)) = false := by decide) : ME X E (.Name x pos) (eVar i) := by
  refine ⟨_, pe_var hN hv hd hcd, fun ρ env st σ H Q s e h => ?_⟩
  unfold eVar at h
  cases q : env[i]? with
  | none => rw [q] at h; exact h.elim
  | some o =>
    cases o with
    | none => rw [q] at h; exact h.elim
    | some d =>
      rw [q] at h
      obtain ⟨v, e1, r⟩ := paired_get e q
      obtain ⟨y, e2, r⟩ := r d rfl
      rw [e2] at e1
      exact ⟨y, e1, h.done s r⟩
theorem real_C {d : D} {v : V} (r : ∀ ρ H, Rep X.K X.mg ρ H d v) : Real X.K X.mg (Rep X.K X.mg) E (tC v) (eC d) := fun ρ env st σ H Q s e h => h.done s (r ρ H)
theorem me_int {i j} : ME X E (.Constant (.int i) j pos) (eC (.int i)) := ⟨_, pe_int, real_C fun _ _ => .int i⟩
theorem me_bl {b j} : ME X E (.Constant (.bool b) j pos) (eC (.bl b)) := ⟨_, pe_bl, real_C fun _ _ => .bl b⟩
theorem me_non {j} : ME X E (.Constant .none j pos) (eC .non) := ⟨_, pe_non, real_C fun _ _ => .non⟩
theorem me_str {x j} : ME X E (.Constant (.str x) j pos) (eC (.str x)) := ⟨_, pe_str, real_C fun _ _ => .str x⟩
theorem me_ty {x : Str} {n : String} (hg : Gl X x) (hm : X.mg x = none) (hv : bootBuiltins x = some (.type n)) (hn : x ≠ "__name__" := by decide) (hd : (x == ("__debug__" : Str)) = false := by decide) : ME X E (.Name x pos) (eC (.ty n)) :=
  ⟨_, pe_bltn (v := .ty n) hg hm hv rfl hn hd, real_C fun _ _ => .ty n⟩
theorem me_fn {x : Str} {a : Addr} (hg : Gl X x) (hm : X.mg x = some (.ref a)) (hd : (x == ("__debug__" : Str)) = false := by decide) : ME X E (.Name x pos) (eC (.fn x)) :=
  ⟨_, pe_glob (v := .ref a) hg hm rfl hd, real_C fun _ _ => .fn hm⟩
theorem me_gint {x : Str} {i : Int} (hg : Gl X x) (hm : ∃ t, X.mg x = some (.int i t)) (hd : (x == ("__debug__" : Str)) = false := by decide) : ME X E (.Name x pos) (eC (.int i)) := by
  obtain ⟨t, hm⟩ := hm
  exact ⟨_, pe_glob (v := .int i) hg hm ⟨t, rfl⟩ hd, real_C fun _ _ => .int i⟩

/-! ### argument lists, displays -/
def aNil : Ev (List D) := fun _ st => .ok [] st
def aCons (f : Ev D) (g : Ev (List D)) : Ev (List D) := fun env st => bindR (f env st) fun d st1 => bindR (g env st1) fun ds st2 => .ok (d :: ds) st2
theorem ma_nil : MA X E [] aNil := ⟨_, pa_nil, fun ρ env st σ H Q s e h => h.done s .nil⟩
theorem ma_cons {e : Expr} {es : List Expr} {f : Ev D} {g : Ev (List D)} (h1 : ME X E e f) (h2 : MA X E es g) (hs : starEach (e :: es) X.env = (false, eval e X.env) :: starEach es X.env := by rfl) : MA X E (e :: es) (aCons f g) := by
  obtain ⟨t1, p1, r1⟩ := h1
  obtain ⟨t2, p2, r2⟩ := h2
  refine ⟨_, pa_cons p1 p2 hs, fun ρ env st σ H Q s e h => ?_⟩
  exact r1 ρ env st σ H _ s e (h.split fun a st1 ρ1 H1 v g1 ra h1 => r2 ρ1 env st1 σ H1 _ g1.sim (e.mono g1.pre g1.ext) (h1.split fun b st2 ρ2 H2 v2 g2 rb h2 => h2.done g2.sim (.cons (ra.mono g2.pre g2.ext) rb)))
def eTup (f : Ev (List D)) : Ev D := fun env st => bindR (f env st) fun ds st1 => if ds.length ≤ sizeLine then .ok (.tup ds) st1 else .bad
def eLst (f : Ev (List D)) : Ev D := fun env st => bindR (f env st) fun ds st1 => if ds.length ≤ sizeLine then .ok (.ref st1.length) (st1 ++ [.lst ds]) else .bad
theorem Go.lst {K : PySem.W.Frag} {mg : Str → Option Value} {ρ : List Addr} {H : Hp} {st : Store} {ds : List D} {vs : List V} (s : Sim K mg ρ st H) (r : Reps K mg ρ H ds vs) {p : Addr} (hp : H p = none) :
    Go K mg ρ H (ρ ++ [p]) (st ++ [.lst ds]) (upd H p (.lst vs)) ∧ Rep K mg (ρ ++ [p]) (upd H p (.lst vs)) (.ref st.length) (.ref p) :=
  ⟨Go.new s hp (.lst r), .ref (by rw [← s.len]; simp)⟩
theorem me_tup {es : List Expr} {k : Nat} {f : Ev (List D)} (h : MA X E es f) : ME X E (.Tuple es k pos) (eTup f) := by
  obtain ⟨t1, p1, r1⟩ := h
  refine ⟨_, pe_tup p1, fun ρ env st σ H Q s e h => ?_⟩
  refine r1 ρ env st σ H _ s e (h.split fun a st1 ρ1 H1 v g1 ra h1 => ?_)
  by_cases hz : a.length ≤ sizeLine
  · rw [if_pos hz] at h1
    refine ⟨by rw [← ra.length]; exact hz, fun p hp => ?_⟩
    have g := Go.fresh (u := .tup v) g1.sim hp
    exact h1 _ _ _ g (.tup (.inl (.inl upd_same)) (ra.mono g.pre g.ext))
  · rw [if_neg hz] at h1
    exact h1.elim
theorem me_lst {es : List Expr} {f : Ev (List D)} (h : MA X E es f) : ME X E (.List es pos) (eLst f) := by
  obtain ⟨t1, p1, r1⟩ := h
  refine ⟨_, pe_lst p1, fun ρ env st σ H Q s e h => ?_⟩
  refine r1 ρ env st σ H _ s e (h.split fun a st1 ρ1 H1 v g1 ra h1 => ?_)
  by_cases hz : a.length ≤ sizeLine
  · rw [if_pos hz] at h1
    refine ⟨by rw [← ra.length]; exact hz, fun p hp => ?_⟩
    obtain ⟨g, r⟩ := Go.lst g1.sim ra hp
    exact h1 _ _ _ g r
  · rw [if_neg hz] at h1
    exact h1.elim
end

/-! ### operators by values -/
abbrev G2 := D → D → Store → Res D
section
variable (K : PySem.W.Frag) (mg : Str → Option Value) (E : XK)
def Real2 (r : R2) (g : G2) : Prop := ∀ ρ st H x y a b Q, Sim K mg ρ st H → Rep K mg ρ H a x → Rep K mg ρ H b y → Post K mg (Rep K mg) E ρ H Q (g a b st) → r x y H Q
def Real1 (r : V → Hp → VK → Prop) (g : D → Store → Res D) : Prop := ∀ ρ st H x a Q, Sim K mg ρ st H → Rep K mg ρ H a x → Post K mg (Rep K mg) E ρ H Q (g a st) → r x H Q
def RealC (r : List V → Hp → VK → Prop) (g : List D → Store → Res D) : Prop := ∀ ρ st H xs as Q, Sim K mg ρ st H → Reps K mg ρ H as xs → Post K mg (Rep K mg) E ρ H Q (g as st) → r xs H Q
end
def eBin (g : G2) (fa fb : Ev D) : Ev D := fun env st => bindR (fa env st) fun x st1 => bindR (fb env st1) fun y st2 => g x y st2
def eUn (g : D → Store → Res D) (fa : Ev D) : Ev D := fun env st => bindR (fa env st) g
def eCall (g : List D → Store → Res D) (fa : Ev (List D)) : Ev D := fun env st => bindR (fa env st) g
section
variable {X : Cx} {E : XK} {pos : Pos} {a b : Expr} {fa fb : Ev D} {g : G2}
theorem Real.op {r : R2} {ta tb : TE} (ra : Real X.K X.mg (Rep X.K X.mg) E ta fa) (rb : Real X.K X.mg (Rep X.K X.mg) E tb fb) (hr : Real2 X.K X.mg E r g) : Real X.K X.mg (Rep X.K X.mg) E (tOp r ta tb) (eBin g fa fb) := fun ρ env st σ H Q s e h =>
  ra ρ env st σ H _ s e (h.split fun a st1 ρ1 H1 v g1 qa h1 => rb ρ1 env st1 σ H1 _ g1.sim (e.mono g1.pre g1.ext) (h1.split fun b st2 ρ2 H2 v2 g2 qb h2 => hr ρ2 st2 H2 _ _ _ _ Q g2.sim (qa.mono g2.pre g2.ext) qb h2))
theorem me_op {op : Operator} {r : R2} (ho : OpR X (binaryOp op) r) (hr : Real2 X.K X.mg E r g) (ha : ME X E a fa) (hb : ME X E b fb) : ME X E (.BinOp a op b pos) (eBin g fa fb) := by
  obtain ⟨t1, p1, r1⟩ := ha
  obtain ⟨t2, p2, r2⟩ := hb
  exact ⟨_, pe_op ho p1 p2, r1.op r2 hr⟩
theorem me_un {op : UnaryOp} {r : V → Hp → VK → Prop} {g : D → Store → Res D} (ho : UnR X (unaryOp op) r) (hr : Real1 X.K X.mg E r g) (ha : ME X E a fa) : ME X E (.UnaryOp op a pos) (eUn g fa) := by
  obtain ⟨t1, p1, r1⟩ := ha
  exact ⟨_, pe_un ho p1, fun ρ env st σ H Q s e h => r1 ρ env st σ H _ s e (h.split fun a st1 ρ1 H1 v g1 qa h1 => hr ρ1 st1 H1 v a Q g1.sim qa h1)⟩
theorem me_cmp {op : CmpOp} {r : R2} (ho : OpR X (compareOp op) r) (hr : Real2 X.K X.mg E r g) (ha : ME X E a fa) (hb : ME X E b fb) (hm : behindInMarks op b = false) : ME X E (.Compare a [op] [b] pos) (eBin g fa fb) := by
  obtain ⟨t1, p1, r1⟩ := ha
  obtain ⟨t2, p2, r2⟩ := hb
  exact ⟨_, pe_cmpR ho p1 p2 hm, r1.op r2 hr⟩
/-- a value that is a bool, as a test -/
def asB (f : Ev D) : Ev Bool := fun env st => bindR (f env st) fun d st1 => match d with
  | .bl b => .ok b st1
  | _ => .bad
theorem Real.test {t : TE} {f : Ev D} (r : Real X.K X.mg (Rep X.K X.mg) E t f) : Real X.K X.mg (REq Bool) E (tTest t) (asB f) := fun ρ env st σ H Q s e h =>
  r ρ env st σ H _ s e (h.split fun a st1 ρ1 H1 v g1 qa h1 => by
    cases a with
    | bl c => cases qa; exact ⟨c, rfl, h1.done g1.sim rfl⟩
    | _ => exact h1.elim)
theorem mt_cmp {op : CmpOp} {r : R2} (ho : OpR X (compareOp op) r) (hr : Real2 X.K X.mg E r g) (ha : ME X E a fa) (hb : ME X E b fb) (hm : behindInMarks op b = false) : MT X E (.Compare a [op] [b] pos) (asB (eBin g fa fb)) := by
  obtain ⟨t1, p1, r1⟩ := ha
  obtain ⟨t2, p2, r2⟩ := hb
  exact ⟨_, pt_cmpR ho p1 p2 hm, (r1.op r2 hr).test⟩
/-- any other expression, by its truth -/
def truD (st : Store) : D → Option Bool
  | .non => some false
  | .bl b => some b
  | .int i => some (i != 0)
  | .tup ds => some (!ds.isEmpty)
  | .ref n => match st[n]? with
    | some (.lst ds) => some (!ds.isEmpty)
    | some (.dct kvs) => some (!kvs.isEmpty)
    | _ => none
  | _ => none
def asT (f : Ev D) : Ev Bool := fun env st => bindR (f env st) fun d st1 => match truD st1 d with
  | some b => .ok b st1
  | none => .bad
end
end MP

namespace MP
open PySem PySem.Spec PyProof.Rows L2
variable [TBs]
section
variable {X : Cx} {E : XK} {pos : Pos} {a b : Expr} {fa fb : Ev D}

/-! ### tests -/
theorem truV_of {ρ : List Addr} {H : Hp} {st : Store} {d : D} {v : V} {b : Bool} (s : Sim X.K X.mg ρ st H) (r : Rep X.K X.mg ρ H d v) (h : truD st d = some b) : TruV X.K v H b := by
  cases r with
  | non => exact (Option.some.inj h).symm
  | bl c => exact (Option.some.inj h).symm
  | int i => exact (Option.some.inj h).symm
  | str x => cases h
  | fn _ => cases h
  | ty _ => cases h
  | scr _ => cases h
  | tup hs rs =>
    refine .inr (.inl ⟨_, hs, ?_⟩)
    rw [← Option.some.inj h]
    cases rs <;> rfl
  | @ref a n hr =>
    unfold truD at h
    cases q : st[n]? with
    | none => simp only [q] at h; cases h
    | some o =>
      obtain ⟨p, ho, e0, e1, e2, q2⟩ := s.get q (.ref hr)
      cases e0
      simp only [q] at h
      cases q2 with
      | lst rs =>
        refine .inl ⟨_, .inl (.inl e2), ?_⟩
        rw [← Option.some.inj h]
        cases rs <;> rfl
      | dct rs =>
        refine .inr (.inr ⟨_, e2, ?_⟩)
        rw [← Option.some.inj h]
        cases rs <;> rfl
      | ins _ _ => cases h
      | tab _ => cases h
      | dctL _ => cases h
theorem mt_truth (ha : ME X E a fa) (he : ∀ whole, isTrue a X.env whole = (do let v ← whole; standAt a.pos; holding [v] (truthy v)) := by intro _; rfl) : MT X E a (asT fa) := by
  obtain ⟨t1, p1, r1⟩ := ha
  refine ⟨_, pt_truth p1 he, fun ρ env st σ H Q s e h => ?_⟩
  refine r1 ρ env st σ H _ s e (h.split fun a st1 ρ1 H1 v g1 qa h1 => ?_)
  cases q : truD st1 a with
  | none => rw [q] at h1; exact h1.elim
  | some b => rw [q] at h1; exact ⟨b, truV_of g1.sim qa q, h1.done g1.sim rfl⟩
def tNotM (f : Ev Bool) : Ev Bool := fun env st => bindR (f env st) fun b st1 => .ok (!b) st1
def tAndM (f g : Ev Bool) : Ev Bool := fun env st => bindR (f env st) fun b st1 => if b = true then g env st1 else .ok false st1
def tOrM (f g : Ev Bool) : Ev Bool := fun env st => bindR (f env st) fun b st1 => if b = true then .ok true st1 else g env st1
theorem mt_not {f : Ev Bool} (h : MT X E a f) : MT X E (.UnaryOp .Not a pos) (tNotM f) := by
  obtain ⟨t1, p1, r1⟩ := h
  refine ⟨_, pt_not p1, fun ρ env st σ H Q s e h => ?_⟩
  exact r1 ρ env st σ H _ s e (h.split fun b st1 ρ1 H1 v g1 qa h1 => by cases qa; exact h1.done g1.sim rfl)
theorem mw_one_and {f : Ev Bool} (h : MT X E a f) : MW X E (.BoolOp .And [a] pos) f := by
  obtain ⟨t1, p1, r1⟩ := h
  exact ⟨_, pw_and1 p1, r1⟩
theorem mw_one_or {f : Ev Bool} (h : MT X E a f) : MW X E (.BoolOp .Or [a] pos) f := by
  obtain ⟨t1, p1, r1⟩ := h
  exact ⟨_, pw_or1 p1, r1⟩
theorem mw_and {f g : Ev Bool} {rest : List Expr} (h : MT X E a f) (h2 : MW X E (.BoolOp .And (b :: rest) pos) g) : MW X E (.BoolOp .And (a :: b :: rest) pos) (tAndM f g) := by
  obtain ⟨t1, p1, r1⟩ := h
  obtain ⟨t2, p2, r2⟩ := h2
  refine ⟨_, pw_and p1 p2, fun ρ env st σ H Q s e h => ?_⟩
  refine r1 ρ env st σ H _ s e (h.split fun b st1 ρ1 H1 v g1 qa h1 => ?_)
  cases qa
  cases b with
  | true => exact r2 ρ1 env st1 σ H1 Q g1.sim (e.mono g1.pre g1.ext) h1
  | false => exact h1.done g1.sim rfl
theorem mw_or {f g : Ev Bool} {rest : List Expr} (h : MT X E a f) (h2 : MW X E (.BoolOp .Or (b :: rest) pos) g) : MW X E (.BoolOp .Or (a :: b :: rest) pos) (tOrM f g) := by
  obtain ⟨t1, p1, r1⟩ := h
  obtain ⟨t2, p2, r2⟩ := h2
  refine ⟨_, pw_or p1 p2, fun ρ env st σ H Q s e h => ?_⟩
  refine r1 ρ env st σ H _ s e (h.split fun b st1 ρ1 H1 v g1 qa h1 => ?_)
  cases qa
  cases b with
  | false => exact r2 ρ1 env st1 σ H1 Q g1.sim (e.mono g1.pre g1.ext) h1
  | true => exact h1.done g1.sim rfl
theorem MW.mt {f : Ev Bool} (h : MW X E a f) : MT X E a f := let ⟨t, p, r⟩ := h; ⟨t, p.pt, r⟩

/-! ### and, or, not as values -/
def eNot (f : Ev D) : Ev D := fun env st => bindR (f env st) fun d st1 => match truD st1 d with
  | some b => .ok (.bl (!b)) st1
  | none => .bad
def eAnd (f g : Ev D) : Ev D := fun env st => bindR (f env st) fun d st1 => match truD st1 d with
  | some true => g env st1
  | some false => .ok d st1
  | none => .bad
def eOr (f g : Ev D) : Ev D := fun env st => bindR (f env st) fun d st1 => match truD st1 d with
  | some true => .ok d st1
  | some false => g env st1
  | none => .bad
theorem me_not (ha : ME X E a fa) : ME X E (.UnaryOp .Not a pos) (eNot fa) := by
  obtain ⟨t1, p1, r1⟩ := ha
  refine ⟨_, pe_notT p1, fun ρ env st σ H Q s e h => ?_⟩
  refine r1 ρ env st σ H _ s e (h.split fun a st1 ρ1 H1 v g1 qa h1 => ?_)
  cases q : truD st1 a with
  | none => rw [q] at h1; exact h1.elim
  | some b => rw [q] at h1; exact ⟨b, truV_of g1.sim qa q, h1.done g1.sim (.bl _)⟩
theorem me_bone {op} (ha : ME X E a fa) : ME X E (.BoolOp op [a] pos) fa := let ⟨t, p, r⟩ := ha; ⟨t, pe_one p, r⟩
theorem me_and {rest : List Expr} (ha : ME X E a fa) (hb : ME X E (.BoolOp .And (b :: rest) pos) fb) : ME X E (.BoolOp .And (a :: b :: rest) pos) (eAnd fa fb) := by
  obtain ⟨t1, p1, r1⟩ := ha
  obtain ⟨t2, p2, r2⟩ := hb
  refine ⟨_, pe_andT p1 p2, fun ρ env st σ H Q s e h => ?_⟩
  refine r1 ρ env st σ H _ s e (h.split fun a st1 ρ1 H1 v g1 qa h1 => ?_)
  cases q : truD st1 a with
  | none => rw [q] at h1; exact h1.elim
  | some b =>
    rw [q] at h1
    refine ⟨b, truV_of g1.sim qa q, ?_⟩
    cases b with
    | true => exact r2 ρ1 env st1 σ H1 Q g1.sim (e.mono g1.pre g1.ext) h1
    | false => exact h1.done g1.sim qa
theorem me_or {rest : List Expr} (ha : ME X E a fa) (hb : ME X E (.BoolOp .Or (b :: rest) pos) fb) : ME X E (.BoolOp .Or (a :: b :: rest) pos) (eOr fa fb) := by
  obtain ⟨t1, p1, r1⟩ := ha
  obtain ⟨t2, p2, r2⟩ := hb
  refine ⟨_, pe_orT p1 p2, fun ρ env st σ H Q s e h => ?_⟩
  refine r1 ρ env st σ H _ s e (h.split fun a st1 ρ1 H1 v g1 qa h1 => ?_)
  cases q : truD st1 a with
  | none => rw [q] at h1; exact h1.elim
  | some b =>
    rw [q] at h1
    refine ⟨b, truV_of g1.sim qa q, ?_⟩
    cases b with
    | false => exact r2 ρ1 env st1 σ H1 Q g1.sim (e.mono g1.pre g1.ext) h1
    | true => exact h1.done g1.sim qa
def eIf (c : Ev Bool) (f g : Ev D) : Ev D := fun env st => bindR (c env st) fun b st1 => if b = true then f env st1 else g env st1
theorem me_ifExp {c : Expr} {fc : Ev Bool} (hc : MT X E c fc) (ha : ME X E a fa) (hb : ME X E b fb) : ME X E (.IfExp c a b pos) (eIf fc fa fb) := by
  obtain ⟨t0, p0, r0⟩ := hc
  obtain ⟨t1, p1, r1⟩ := ha
  obtain ⟨t2, p2, r2⟩ := hb
  refine ⟨_, pe_ifExp p0 p1 p2, fun ρ env st σ H Q s e h => ?_⟩
  refine r0 ρ env st σ H _ s e (h.split fun b st1 ρ1 H1 v g1 qa h1 => ?_)
  cases qa
  cases b with
  | true => exact r1 ρ1 env st1 σ H1 Q g1.sim (e.mono g1.pre g1.ext) h1
  | false => exact r2 ρ1 env st1 σ H1 Q g1.sim (e.mono g1.pre g1.ext) h1
/-- a < b < c -/
def eChain (g1 g2 : G2) (fa fb fc : Ev D) : Ev D := fun env st => bindR (fa env st) fun x st1 => bindR (fb env st1) fun y st2 => bindR (g1 x y st2) fun z st3 => match z with
  | .bl true => bindR (fc env st3) fun u st4 => g2 y u st4
  | .bl false => .ok (.bl false) st3
  | _ => .bad
end

/-! ### the operators -/
section
variable {K : PySem.W.Frag} {mg : Str → Option Value} {E : XK}
theorem Real2.or {r r' : R2} {g : G2} (h : ∀ ρ st H x y a b Q, Sim K mg ρ st H → Rep K mg ρ H a x → Rep K mg ρ H b y → Post K mg (Rep K mg) E ρ H Q (g a b st) → r x y H Q ∨ r' x y H Q) :
    Real2 K mg E (fun x y H Q => r x y H Q ∨ r' x y H Q) g := h
def gII (c : Int → Int → Prop) [∀ i j, Decidable (c i j)] (f : Int → Int → D) : G2 := fun x y st => match x, y with
  | .int i, .int j => if c i j then .ok (f i j) st else .bad
  | _, _ => .bad
instance (i j : Int) : Decidable (CDiv i j) := by unfold CDiv; infer_instance
instance (i j : Int) : Decidable (CMul i j) := by unfold CMul; infer_instance
instance (i j : Int) : Decidable (CPow i j) := by unfold CPow; infer_instance
theorem real_II {c : Int → Int → Prop} [∀ i j, Decidable (c i j)] {f : Int → Int → D} {fv : Int → Int → V} (hf : ∀ i j ρ H, Rep K mg ρ H (f i j) (fv i j)) : Real2 K mg E (rI c fv) (gII c f) := by
  intro ρ st H x y a b Q s ra rb h
  cases ra with
  | int i =>
    cases rb with
    | int j =>
      by_cases hc : c i j
      · simp only [gII, if_pos hc] at h
        exact ⟨i, j, rfl, rfl, hc, h.done s (hf i j ρ H)⟩
      · simp only [gII, if_neg hc] at h
        exact h.elim
    | _ => exact h.elim
  | _ => exact h.elim
def gSub : G2 := fun x y st => match x, y with
  | .int i, .int j => .ok (.int (i - j)) st
  | _, _ => .bad
theorem real_sub : Real2 K mg E (rI0 fun i j => .int (i - j)) gSub := by
  intro ρ st H x y a b Q s ra rb h
  cases ra with
  | int i =>
    cases rb with
    | int j => exact ⟨i, j, rfl, rfl, h.done s (.int _)⟩
    | _ => exact h.elim
  | _ => exact h.elim
def gMul : G2 := gII CMul fun i j => .int (i * j)
def gDiv : G2 := gII CDiv fun i j => .int (i / j)
def gMod : G2 := gII (fun _ j => 0 < j) fun i j => .int (i % j)
def gPow : G2 := gII CPow fun i j => .int (i ^ j.toNat)
theorem real_mul : Real2 K mg E (rI CMul fun i j => .int (i * j)) gMul := real_II fun _ _ _ _ => .int _
theorem real_div : Real2 K mg E (rI CDiv fun i j => .int (i / j)) gDiv := real_II fun _ _ _ _ => .int _
theorem real_mod : Real2 K mg E (rI (fun _ j => 0 < j) fun i j => .int (i % j)) gMod := real_II fun _ _ _ _ => .int _
theorem real_pow : Real2 K mg E (rI CPow fun i j => .int (i ^ j.toNat)) gPow := real_II fun _ _ _ _ => .int _
/-- + of ints, texts, tuples, lists -/
def gAdd : G2 := fun x y st => match x, y with
  | .int i, .int j => .ok (.int (i + j)) st
  | .str i, .str j => if i.length + j.length ≤ sizeLine then .ok (.str (i ++ j)) st else .bad
  | .tup i, .tup j => if i.length + j.length ≤ sizeLine then .ok (.tup (i ++ j)) st else .bad
  | .ref n, .ref m => match st[n]?, st[m]? with
    | some (.lst i), some (.lst j) => if i.length + j.length ≤ sizeLine then .ok (.ref st.length) (st ++ [.lst (i ++ j)]) else .bad
    | _, _ => .bad
  | _, _ => .bad
abbrev rAddA (K : PySem.W.Frag) : R2 := fun x y H Q => rI0 (fun i j => .int (i + j)) x y H Q ∨ ((∃ i j, x = .str i ∧ y = .str j ∧ i.length + j.length ≤ sizeLine ∧ Q (.str (i ++ j)) H) ∨ (rCatA K x y H Q ∨ rCat x y H Q))
theorem op_addA {X : Cx} : OpR X (binaryOp .Add) (rAddA X.K) := op_add.or (op_add_str.or (op_catA.or op_cat))
theorem real_add : Real2 K mg E (rAddA K) gAdd := by
  intro ρ st H x y a b Q s ra rb h
  cases ra with
  | int i =>
    cases rb with
    | int j => exact .inl ⟨i, j, rfl, rfl, h.done s (.int _)⟩
    | _ => exact h.elim
  | str i =>
    cases rb with
    | str j =>
      by_cases hz : i.length + j.length ≤ sizeLine
      · simp only [gAdd, if_pos hz] at h
        exact .inr (.inl ⟨i, j, rfl, rfl, hz, h.done s (.str _)⟩)
      · simp only [gAdd, if_neg hz] at h
        exact h.elim
    | _ => exact h.elim
  | @tup p xs ds hp rp =>
    cases rb with
    | @tup q ys es hq rq =>
      by_cases hz : ds.length + es.length ≤ sizeLine
      · simp only [gAdd, if_pos hz] at h
        refine .inr (.inr (.inl ⟨p, q, xs, ys, rfl, rfl, hp, hq, by rw [← rp.length, ← rq.length]; exact hz, fun e => ?_, fun _ e => ?_, fun _ _ c hc => ?_⟩))
        · subst e
          cases rp
          exact h.done s (.tup hq rq)
        · subst e
          cases rq
          exact h.done s (by rw [List.append_nil]; exact .tup hp rp)
        · have g := Go.fresh (u := .tup (xs ++ ys)) s hc
          exact h _ _ _ g (.tup (.inl (.inl upd_same)) ((rp.append rq).mono g.pre g.ext))
      · simp only [gAdd, if_neg hz] at h
        exact h.elim
    | _ => exact h.elim
  | @ref p n hn =>
    cases rb with
    | @ref q m hm =>
      cases e1 : st[n]? with
      | none => simp only [gAdd, e1] at h; exact h.elim
      | some o1 =>
        cases e2 : st[m]? with
        | none => cases o1 <;> (simp only [gAdd, e1, e2] at h; exact h.elim)
        | some o2 =>
          obtain ⟨_, ho1, z1, w1, u1, q1⟩ := s.get e1 (.ref hn)
          obtain ⟨_, ho2, z2, w2, u2, q2⟩ := s.get e2 (.ref hm)
          cases z1
          cases z2
          cases q1 with
          | @lst ds xs r1 =>
            cases q2 with
            | @lst es ys r2 =>
              by_cases hz : ds.length + es.length ≤ sizeLine
              · simp only [gAdd, e1, e2, if_pos hz] at h
                refine .inr (.inr (.inr ⟨p, q, xs, ys, rfl, rfl, u1, u2, by rw [← r1.length, ← r2.length]; exact hz, fun c hc => ?_⟩))
                obtain ⟨g, r⟩ := Go.lst s (r1.append r2) hc
                exact h _ _ _ g r
              · simp only [gAdd, e1, e2, if_neg hz] at h
                exact h.elim
            | _ => simp only [gAdd, e1, e2] at h; exact h.elim
          | _ => simp only [gAdd, e1, e2] at h; exact h.elim
    | _ => exact h.elim
  | _ => exact h.elim
def gNeg : D → Store → Res D := fun x st => match x with
  | .int i => .ok (.int (-i)) st
  | _ => .bad
theorem real_neg : Real1 K mg E (rU fun i => .int (-i)) gNeg := by
  intro ρ st H x a Q s ra h
  cases ra with
  | int i => exact ⟨i, rfl, h.done s (.int _)⟩
  | _ => exact h.elim
def gCmp (f : Int → Int → Bool) : G2 := fun x y st => match x, y with
  | .int i, .int j => .ok (.bl (f i j)) st
  | _, _ => .bad
theorem real_cmp {f : Int → Int → Bool} : Real2 K mg E (rI0 fun i j => .bl (f i j)) (gCmp f) := by
  intro ρ st H x y a b Q s ra rb h
  cases ra with
  | int i =>
    cases rb with
    | int j => exact ⟨i, j, rfl, rfl, h.done s (.bl _)⟩
    | _ => exact h.elim
  | _ => exact h.elim
/-- is None -/
def gIsN (neg : Bool) : G2 := fun x y st => match y with
  | .non => match x with
    | .non => .ok (.bl (!neg)) st
    | _ => .ok (.bl neg) st
  | _ => .bad
theorem real_isN : Real2 K mg E (fun x y H Q => y = .non ∧ Q (.bl (decide (x = .non))) H) (gIsN false) := by
  intro ρ st H x y a b Q s ra rb h
  cases rb with
  | non => cases ra <;> exact ⟨rfl, h.done s (.bl _)⟩
  | _ => exact h.elim
theorem real_notN : Real2 K mg E (fun x y H Q => y = .non ∧ Q (.bl (!decide (x = .non))) H) (gIsN true) := by
  intro ρ st H x y a b Q s ra rb h
  cases rb with
  | non => cases ra <;> exact ⟨rfl, h.done s (.bl _)⟩
  | _ => exact h.elim
end

/-! ### == -/
/-- as plain data; n: how deep -/
def toP (st : Store) : Nat → D → Option PyData
  | _, .non => some .none
  | _, .bl b => some (.bool b)
  | _, .int i => some (.int i)
  | _, .str x => some (.str x)
  | n + 1, .tup ds => (ds.mapM (toP st n)).map .tuple
  | n + 1, .ref k => match st[k]? with
    | some (.lst ds) => (ds.mapM (toP st n)).map .list
    | _ => none
  | _, _ => none
section
variable {K : PySem.W.Frag} {mg : Str → Option Value} {E : XK} {ρ : List Addr} {H : Hp} {st : Store}
theorem toPs_of {n : Nat} (ih : ∀ (d : D) (v : V) (p : PyData), Rep K mg ρ H d v → toP st n d = some p → Dp K H v p) : ∀ {ds : List D} {vs : List V} {ps : List PyData}, Reps K mg ρ H ds vs → ds.mapM (toP st n) = some ps → DpAll K H vs ps
  | _, _, ps, .nil, h => by
    simp at h
    subst h
    exact .nil
  | _, _, ps, .cons (d := d) (ds := ds) r t, h => by
    rw [List.mapM_cons] at h
    cases e : toP st n d with
    | none => rw [e] at h; cases h
    | some p =>
      cases e2 : ds.mapM (toP st n) with
      | none => rw [e, e2] at h; cases h
      | some qs =>
        rw [e, e2] at h
        cases h
        exact .cons (ih _ _ _ r e) (toPs_of ih t e2)
theorem toP_of (s : Sim K mg ρ st H) : ∀ (n : Nat) (d : D) (v : V) (p : PyData), Rep K mg ρ H d v → toP st n d = some p → Dp K H v p
  | n, _, _, _, .non, h => by unfold toP at h; cases h; exact .non
  | n, _, _, _, .bl b, h => by unfold toP at h; cases h; exact .bl b
  | n, _, _, _, .int b, h => by unfold toP at h; cases h; exact .int b
  | n, _, _, _, .str b, h => by unfold toP at h; cases h; exact .str b
  | 0, _, _, _, .tup _ _, h => by unfold toP at h; cases h
  | 0, _, _, _, .ref _, h => by unfold toP at h; cases h
  | n + 1, _, _, _, .tup (ds := ds) hs rs, h => by
    unfold toP at h
    cases e : ds.mapM (toP st n) with
    | none => rw [e] at h; cases h
    | some ps =>
      rw [e] at h
      cases h
      exact .tup hs (toPs_of (toP_of s n) rs e)
  | n + 1, _, _, _, .ref (n := k) hk, h => by
    unfold toP at h
    cases e : st[k]? with
    | none => simp only [e] at h; cases h
    | some o =>
      obtain ⟨p, ho, e0, e1, e2, q⟩ := s.get e (.ref hk)
      cases e0
      cases q with
      | @lst ds xs rs =>
        simp only [e] at h
        cases e3 : ds.mapM (toP st n) with
        | none => rw [e3] at h; cases h
        | some ps =>
          rw [e3] at h
          cases h
          exact .lst (.inl (.inl e2)) (toPs_of (toP_of s n) rs e3)
      | _ => simp only [e] at h; cases h
  | 0, _, _, _, .fn _, h => by unfold toP at h; cases h
  | 0, _, _, _, .ty _, h => by unfold toP at h; cases h
  | n + 1, _, _, _, .fn _, h => by unfold toP at h; cases h
  | n + 1, _, _, _, .ty _, h => by unfold toP at h; cases h
  | 0, _, _, _, .scr _, h => by unfold toP at h; cases h
  | n + 1, _, _, _, .scr _, h => by unfold toP at h; cases h
/-- == by the data -/
def deepEq (st : Store) (x y : D) : Option Bool := match toP st 64 x, toP st 64 y with
  | some p, some q => if SeqAt.shaped p = true ∧ SeqAt.shaped q = true then some (PyData.eqv p q) else none
  | _, _ => none
def eqD (st : Store) : D → D → Option Bool
  | .int i, .int j => some (decide (i = j))
  | .str i, .str j => some (decide (i = j))
  | .bl i, .bl j => some (decide (i = j))
  | .non, .non => some true
  | .int _, .str _ => some false
  | .str _, .int _ => some false
  | x, y => deepEq st x y
def gEq (neg : Bool) : G2 := fun x y st => match eqD st x y with
  | some b => .ok (.bl (b ^^ neg)) st
  | none => .bad
abbrev rEqA (K : PySem.W.Frag) : R2 := fun x y H Q => rEq x y H Q ∨ rEqD K x y H Q
abbrev rNeA (K : PySem.W.Frag) : R2 := fun x y H Q => rNe x y H Q ∨ rNeD K x y H Q
theorem op_eqA {X : Cx} (hu : X.A.units + 64 < cLine) : OpR X (compareOp .Eq) (rEqA X.K) := op_eq.or (op_eqD hu)
theorem op_neA {X : Cx} (hu : X.A.units + 64 < cLine) : OpR X (compareOp .NotEq) (rNeA X.K) := op_ne.or (op_neD hu)
theorem eqD_cases {x y : D} {v u : V} {b : Bool} (s : Sim K mg ρ st H) (rx : Rep K mg ρ H x v) (ry : Rep K mg ρ H y u) (h : eqD st x y = some b) :
    (scal v u = true ∧ b = decide (v = u)) ∨ ∃ p q, Dp K H v p ∧ Dp K H u q ∧ SeqAt.shaped p = true ∧ SeqAt.shaped q = true ∧ b = PyData.eqv p q := by
  have deep : deepEq st x y = some b → ∃ p q, Dp K H v p ∧ Dp K H u q ∧ SeqAt.shaped p = true ∧ SeqAt.shaped q = true ∧ b = PyData.eqv p q := fun h => by
    unfold deepEq at h
    cases e1 : toP st 64 x with
    | none => simp only [e1] at h; cases h
    | some p =>
      cases e2 : toP st 64 y with
      | none => simp only [e1, e2] at h; cases h
      | some q =>
        simp only [e1, e2] at h
        by_cases hs : SeqAt.shaped p = true ∧ SeqAt.shaped q = true
        · rw [if_pos hs] at h
          cases h
          exact ⟨p, q, toP_of s _ _ _ _ rx e1, toP_of s _ _ _ _ ry e2, hs.1, hs.2, rfl⟩
        · rw [if_neg hs] at h
          cases h
  cases rx <;> cases ry <;> first
    | exact .inr (deep h)
    | (refine .inl ⟨rfl, ?_⟩; rw [← Option.some.inj h]; simp)
theorem real_eq : Real2 K mg E (rEqA K) (gEq false) := by
  intro ρ st H x y a b Q s ra rb h
  unfold gEq at h
  cases e : eqD st a b with
  | none => simp only [e] at h; exact h.elim
  | some c =>
    simp only [e, Bool.xor_false] at h
    rcases eqD_cases s ra rb e with ⟨h1, h2⟩ | ⟨p, q, h1, h2, h3, h4, h5⟩
    · subst h2
      exact .inl ⟨h1, h.done s (.bl _)⟩
    · subst h5
      exact .inr ⟨p, q, h1, h2, h3, h4, h.done s (.bl _)⟩
theorem real_ne : Real2 K mg E (rNeA K) (gEq true) := by
  intro ρ st H x y a b Q s ra rb h
  unfold gEq at h
  cases e : eqD st a b with
  | none => simp only [e] at h; exact h.elim
  | some c =>
    simp only [e, Bool.xor_true] at h
    rcases eqD_cases s ra rb e with ⟨h1, h2⟩ | ⟨p, q, h1, h2, h3, h4, h5⟩
    · subst h2
      exact .inl ⟨h1, h.done s (.bl _)⟩
    · subst h5
      exact .inr ⟨p, q, h1, h2, h3, h4, h.done s (.bl _)⟩
end
end MP

namespace MP
open PySem PySem.Spec PyProof.Rows L2
variable [TBs]

/-! ### in -/
def flat : D → Option V
  | .non => some .non
  | .bl b => some (.bl b)
  | .int i => some (.int i)
  | .str x => some (.str x)
  | _ => none
/-- the items of a tuple or a list -/
def itemsOf (st : Store) : D → Option (List D)
  | .tup ds => some ds
  | .scr ns => some (ns.map D.int)
  | .ref n => match st[n]? with
    | some (.lst ds) => some ds
    | _ => none
  | _ => none
def inFlat (x : D) (ds : List D) : Option Bool := match flat x, ds.mapM flat with
  | some v, some vs => some (inV v vs)
  | _, _ => none
def inDeep (st : Store) (x y : D) : Option Bool := match toP st 64 x, toP st 64 y with
  | some p, some (.list qs) => if SeqAt.shaped p = true ∧ SeqAt.shaped (.list qs) = true then some (qs.any fun z => PyData.eqv z p) else none
  | _, _ => none
def inD (st : Store) (x y : D) : Option Bool := match itemsOf st y with
  | some ds => match inFlat x ds with
    | some b => some b
    | none => inDeep st x y
  | none => none
def gIn (neg : Bool) : G2 := fun x y st => match inD st x y with
  | some b => .ok (.bl (b ^^ neg)) st
  | none => .bad
section
variable {K : PySem.W.Frag} {mg : Str → Option Value} {E : XK} {ρ : List Addr} {H : Hp} {st : Store}
theorem flat_of {d : D} {v u : V} (r : Rep K mg ρ H d v) (h : flat d = some u) : v = u ∧ flatV v = true := by
  cases r <;> first
    | exact ⟨Option.some.inj h, rfl⟩
    | cases h
theorem flats_of : ∀ {ds : List D} {vs us : List V}, Reps K mg ρ H ds vs → ds.mapM flat = some us → vs = us ∧ vs.all flatV = true
  | _, _, us, .nil, h => by simp at h; subst h; exact ⟨rfl, rfl⟩
  | _, _, us, .cons (d := d) (ds := ds) r t, h => by
    rw [List.mapM_cons] at h
    cases e : flat d with
    | none => rw [e] at h; cases h
    | some u =>
      cases e2 : ds.mapM flat with
      | none => rw [e, e2] at h; cases h
      | some ws =>
        rw [e, e2] at h
        cases h
        obtain ⟨h1, h2⟩ := flat_of r e
        obtain ⟨h3, h4⟩ := flats_of t e2
        subst h1 h3
        exact ⟨rfl, by rw [List.all_cons, h2, h4]; rfl⟩
theorem items_of {d : D} {v : V} {ds : List D} (s : Sim K mg ρ st H) (r : Rep K mg ρ H d v) (h : itemsOf st d = some ds) : ∃ p xs, v = .ref p ∧ Reps K mg ρ H ds xs ∧ ((∃ es, d = .tup es ∧ SqT K H p xs) ∨ SqL K H p xs) := by
  cases r with
  | @tup p xs es hs rs => cases h; exact ⟨p, xs, rfl, rs, .inl ⟨_, rfl, hs⟩⟩
  | @scr p ns hs => cases h; exact ⟨p, _, rfl, reps_ints ns, .inr hs.seq⟩
  | @ref p n hn =>
    unfold itemsOf at h
    cases e : st[n]? with
    | none => simp only [e] at h; cases h
    | some o =>
      obtain ⟨q, ho, e0, e1, e2, q2⟩ := s.get e (.ref hn)
      cases e0
      cases q2 with
      | @lst ds' xs rs => simp only [e] at h; cases h; exact ⟨p, xs, rfl, rs, .inr (.inl (.inl e2))⟩
      | _ => simp only [e] at h; cases h
  | _ => cases h
theorem inD_cases {x y : D} {v u : V} {b : Bool} (s : Sim K mg ρ st H) (rx : Rep K mg ρ H x v) (ry : Rep K mg ρ H y u) (h : inD st x y = some b) :
    (∃ p xs, u = .ref p ∧ (SqL K H p xs ∨ SqT K H p xs) ∧ flatV v = true ∧ xs.all flatV = true ∧ b = inV v xs) ∨
    ∃ d ds, Dp K H v d ∧ Dp K H u (.list ds) ∧ SeqAt.shaped d = true ∧ SeqAt.shaped (.list ds) = true ∧ b = ds.any fun z => PyData.eqv z d := by
  unfold inD at h
  cases e : itemsOf st y with
  | none => simp only [e] at h; cases h
  | some ds =>
    simp only [e] at h
    cases e2 : inFlat x ds with
    | none =>
      simp only [e2] at h
      unfold inDeep at h
      cases e3 : toP st 64 x with
      | none => simp only [e3] at h; cases h
      | some p =>
        cases e4 : toP st 64 y with
        | none => simp only [e3, e4] at h; cases h
        | some q =>
          cases q with
          | list qs =>
            simp only [e3, e4] at h
            by_cases hs : SeqAt.shaped p = true ∧ SeqAt.shaped (.list qs) = true
            · rw [if_pos hs] at h
              cases h
              exact .inr ⟨p, qs, toP_of s _ _ _ _ rx e3, toP_of s _ _ _ _ ry e4, hs.1, hs.2, rfl⟩
            · rw [if_neg hs] at h
              cases h
          | _ => simp only [e3, e4] at h; cases h
    | some c =>
      simp only [e2] at h
      cases h
      unfold inFlat at e2
      cases e3 : flat x with
      | none => simp only [e3] at e2; cases e2
      | some v' =>
        cases e4 : ds.mapM flat with
        | none => simp only [e3, e4] at e2; cases e2
        | some vs =>
          simp only [e3, e4] at e2
          cases e2
          obtain ⟨h1, h2⟩ := flat_of rx e3
          subst h1
          obtain ⟨p, xs, rfl, rs, hs⟩ := items_of s ry e
          obtain ⟨h3, h4⟩ := flats_of rs e4
          subst h3
          refine .inl ⟨p, xs, rfl, ?_, h2, h4, rfl⟩
          rcases hs with ⟨es, _, hs⟩ | hs
          · exact .inr hs
          · exact .inl hs
abbrev rInA (K : PySem.W.Frag) : R2 := fun x y H Q => rIn K false x y H Q ∨ rInD K x y H Q
abbrev rNotInA (K : PySem.W.Frag) : R2 := fun x y H Q => rIn K true x y H Q ∨ rNotInD K x y H Q
theorem op_inA {X : Cx} (hu : X.A.units + 65 < cLine) : OpR X (compareOp .In) (rInA X.K) := op_in_seq.or (op_inD hu)
theorem op_notInA {X : Cx} (hu : X.A.units + 65 < cLine) : OpR X (compareOp .NotIn) (rNotInA X.K) := op_notIn_seq.or (op_notInD hu)
theorem real_in : Real2 K mg E (rInA K) (gIn false) := by
  intro ρ st H x y a b Q s ra rb h
  unfold gIn at h
  cases e : inD st a b with
  | none => simp only [e] at h; exact h.elim
  | some c =>
    simp only [e, Bool.xor_false] at h
    rcases inD_cases s ra rb e with ⟨p, xs, h1, h2, h3, h4, h5⟩ | ⟨d, ds, h1, h2, h3, h4, h5⟩
    · subst h5
      exact .inl ⟨p, xs, h1, h2, h3, h4, h.done s (.bl _)⟩
    · subst h5
      exact .inr ⟨d, ds, h1, h2, h3, h4, h.done s (.bl _)⟩
theorem real_notIn : Real2 K mg E (rNotInA K) (gIn true) := by
  intro ρ st H x y a b Q s ra rb h
  unfold gIn at h
  cases e : inD st a b with
  | none => simp only [e] at h; exact h.elim
  | some c =>
    simp only [e, Bool.xor_true] at h
    rcases inD_cases s ra rb e with ⟨p, xs, h1, h2, h3, h4, h5⟩ | ⟨d, ds, h1, h2, h3, h4, h5⟩
    · subst h5
      exact .inl ⟨p, xs, h1, h2, h3, h4, h.done s (.bl _)⟩
    · subst h5
      exact .inr ⟨d, ds, h1, h2, h3, h4, h.done s (.bl _)⟩

/-! ### items -/
def ixSeq (st : Store) (i : Int) : Option (List D) → Res D
  | some ds => match atI ds i with
    | some d => .ok d st
    | none => .bad
  | none => .bad
def gIx : G2 := fun x y st => match y with
  | .int i => match x with
    | .str z => if z.length ≤ sizeLine then match atI z.cps.toList i with
        | some c => .ok (.str ⟨#[c]⟩) st
        | none => .bad
      else .bad
    | x => ixSeq st i (itemsOf st x)
  | _ => .bad
theorem reps_at {ds : List D} {xs : List V} {i : Int} {d : D} (r : Reps K mg ρ H ds xs) (h : atI ds i = some d) : ∃ v, atI xs i = some v ∧ Rep K mg ρ H d v := by
  unfold atI at h ⊢
  rw [← r.length]
  cases e : ixN ds.length i with
  | none => rw [e] at h; cases h
  | some j =>
    rw [e] at h
    obtain ⟨v, h1, h2⟩ := r.get (i := j) h
    exact ⟨v, h1, h2⟩
theorem real_ix : Real2 K mg E (rIx K) gIx := by
  intro ρ st H x y a b Q s ra rb h
  cases rb with
  | int i =>
    have seq : ∀ {a : D}, Rep K mg ρ H a x → Post K mg (Rep K mg) E ρ H Q (ixSeq st i (itemsOf st a)) → rIx K x (.int i) H Q := fun {a} ra h => by
      cases e : itemsOf st a with
      | none => simp only [e, ixSeq] at h; exact h.elim
      | some ds =>
        obtain ⟨p, xs, rfl, rs, hs⟩ := items_of s ra e
        simp only [e, ixSeq] at h
        cases e2 : atI ds i with
        | none => simp only [e2] at h; exact h.elim
        | some d =>
          simp only [e2] at h
          obtain ⟨v, h1, h2⟩ := reps_at rs e2
          rcases hs with ⟨es, _, hs⟩ | hs
          · exact .inr (.inl ⟨p, xs, i, v, rfl, rfl, hs, h1, h.done s h2⟩)
          · exact .inl ⟨p, xs, i, v, rfl, rfl, hs, h1, h.done s h2⟩
    cases a with
    | str z =>
      cases ra
      simp only [gIx] at h
      by_cases hz : z.length ≤ sizeLine
      · rw [if_pos hz] at h
        cases e : atI z.cps.toList i with
        | none => simp only [e] at h; exact h.elim
        | some c =>
          simp only [e] at h
          exact .inr (.inr ⟨z, i, c, rfl, rfl, hz, e, h.done s (.str _)⟩)
      · rw [if_neg hz] at h
        exact h.elim
    | _ => exact seq ra h
  | _ => exact h.elim
theorem me_ix {X : Cx} {pos : Pos} {a b : Expr} {fa fb : Ev D} (ha : ME X E a fa) (hb : ME X E b fb) (hs : PlainIx b := by exact fun _ _ => rfl) : ME X E (.Subscript a b pos) (eBin gIx fa fb) := by
  obtain ⟨t1, p1, r1⟩ := ha
  obtain ⟨t2, p2, r2⟩ := hb
  exact ⟨_, pe_ix ix_seq p1 p2 hs, r1.op r2 real_ix⟩

/-! ### built-in calls -/
theorem me_callB {X : Cx} {pos p : Pos} {x : Str} {id : String} {e : Expr} {es : List Expr} {r : List V → Hp → VK → Prop} {g : List D → Store → Res D} {f : Ev (List D)} (hc : CallR X (.builtin id) r) (hr : RealC X.K X.mg E r g) (hm : X.mg x = none) (hv : bootBuiltins x = some (.builtin id)) (ha : MA X E (e :: es) f) (hg : Gl X x := by rfl) (hn : x ≠ "__name__" := by decide) (hdb : (x == ("__debug__" : Str)) = false := by decide)
    (he : starEach (e :: es) X.env = (false, eval e X.env) :: starEach es X.env := by rfl) (hpl : (backTo pos (starEach es X.env)).any (·.1) = false := by rfl) : ME X E (.Call (.Name x p) (e :: es) [] pos) (eCall g f) := by
  obtain ⟨t, pa, ra⟩ := ha
  exact ⟨_, pe_callB hc hg hm hv pa hn hdb he hpl, fun ρ env st σ H Q s e h => ra ρ env st σ H _ s e (h.split fun a st1 ρ1 H1 v g1 qa h1 => hr ρ1 st1 H1 v a Q g1.sim qa h1)⟩
theorem me_callTy {X : Cx} {pos p : Pos} {x : Str} {T : String} {e : Expr} {es : List Expr} {r : List V → Hp → VK → Prop} {g : List D → Store → Res D} {f : Ev (List D)} (hc : CallR X (.type T) r) (hr : RealC X.K X.mg E r g) (hm : X.mg x = none) (hv : bootBuiltins x = some (.type T)) (ha : MA X E (e :: es) f) (hg : Gl X x := by rfl) (hn : x ≠ "__name__" := by decide) (hdb : (x == ("__debug__" : Str)) = false := by decide)
    (he : starEach (e :: es) X.env = (false, eval e X.env) :: starEach es X.env := by rfl) (hpl : (backTo pos (starEach es X.env)).any (·.1) = false := by rfl) : ME X E (.Call (.Name x p) (e :: es) [] pos) (eCall g f) := by
  obtain ⟨t, pa, ra⟩ := ha
  exact ⟨_, pe_callTy hc hg hm hv pa hn hdb he hpl, fun ρ env st σ H Q s e h => ra ρ env st σ H _ s e (h.split fun a st1 ρ1 H1 v g1 qa h1 => hr ρ1 st1 H1 v a Q g1.sim qa h1)⟩
/-- len -/
def gLen : List D → Store → Res D := fun ds st => match ds with
  | [.str z] => if z.length ≤ sizeLine then .ok (.int z.length) st else .bad
  | [.ref n] => match st[n]? with
    | some (.lst ds) => .ok (.int ds.length) st
    | some (.dct kvs) => .ok (.int kvs.length) st
    | _ => .bad
  | [.tup ds] => .ok (.int ds.length) st
  | _ => .bad
abbrev rLenA (K : PySem.W.Frag) : List V → Hp → VK → Prop := fun xs H Q => (∃ p ys, xs = [.ref p] ∧ (SqL K H p ys ∨ SqT K H p ys) ∧ Q (.int ys.length) H) ∨ ((∃ z, xs = [.str z] ∧ z.length ≤ sizeLine ∧ Q (.int z.length) H) ∨ ∃ a kvs, xs = [V.ref a] ∧ H a = some (.dK kvs) ∧ Q (.int kvs.length) H)
theorem call_lenA {X : Cx} : CallR X (.builtin "len") (rLenA X.K) := call_len_seq.or (call_len_str.or call_lenD)
theorem paired_len {α β : Type} {P : α → β → Prop} : ∀ {xs : List α} {ys : List β}, Paired P xs ys → xs.length = ys.length
  | _, _, .nil => rfl
  | _, _, .cons _ t => by simp [paired_len t]
theorem real_len : RealC K mg E (rLenA K) gLen := by
  intro ρ st H xs as Q s rs h
  cases rs with
  | nil => exact h.elim
  | cons r t =>
    cases t with
    | cons _ _ => cases r <;> exact h.elim
    | nil =>
      cases r with
      | str z =>
        simp only [gLen] at h
        by_cases hz : z.length ≤ sizeLine
        · rw [if_pos hz] at h
          exact .inr (.inl ⟨z, rfl, hz, h.done s (.int _)⟩)
        · rw [if_neg hz] at h
          exact h.elim
      | tup hs rs =>
        simp only [gLen, rs.length] at h
        exact .inl ⟨_, _, rfl, .inr hs, h.done s (.int _)⟩
      | @ref p n hn =>
        simp only [gLen] at h
        cases e : st[n]? with
        | none => simp only [e] at h; exact h.elim
        | some o =>
          obtain ⟨q, ho, e0, e1, e2, q2⟩ := s.get e (.ref hn)
          cases e0
          cases q2 with
          | lst rs =>
            simp only [e, rs.length] at h
            exact .inl ⟨_, _, rfl, .inl (.inl (.inl e2)), h.done s (.int _)⟩
          | dct rs =>
            simp only [e, paired_len rs] at h
            exact .inr (.inr ⟨_, _, rfl, e2, h.done s (.int _)⟩)
          | ins _ _ => simp only [e] at h; exact h.elim
          | tab _ => simp only [e] at h; exact h.elim
          | dctL _ => simp only [e] at h; exact h.elim
      | _ => exact h.elim
/-- int of an int or a bool -/
def gInt : List D → Store → Res D := fun ds st => match ds with
  | [.int i] => .ok (.int i) st
  | [.bl b] => .ok (.int (if b then 1 else 0)) st
  | _ => .bad
theorem real_int : RealC K mg E (fun xs H Q => (∃ i, xs = [.int i] ∧ Q (.int i) H) ∨ ∃ k, xs = [.bl k] ∧ Q (.int (if k then 1 else 0)) H) gInt := by
  intro ρ st H xs as Q s rs h
  cases rs with
  | nil => exact h.elim
  | cons r t =>
    cases t with
    | cons _ _ => cases r <;> exact h.elim
    | nil =>
      cases r with
      | int i => exact .inl ⟨i, rfl, h.done s (.int _)⟩
      | bl b => exact .inr ⟨b, rfl, h.done s (.int _)⟩
      | _ => exact h.elim
/-- isinstance(x, T) -/
def tyOfD (st : Store) : D → Option String
  | .non => some "NoneType"
  | .bl _ => some "bool"
  | .int _ => some "int"
  | .str _ => some "str"
  | .tup _ => some "tuple"
  | .ref n => match st[n]? with
    | some (.lst _) => some "list"
    | some (.dct _) => some "dict"
    | _ => none
  | _ => none
def gIsi : List D → Store → Res D := fun ds st => match ds with
  | [x, .ty n] => match tyOfD st x with
    | some t => match kitB t n with
      | some b => .ok (.bl b) st
      | none => .bad
    | none => .bad
  | _ => .bad
theorem tyX_of {d : D} {v : V} {t : String} (s : Sim K mg ρ st H) (r : Rep K mg ρ H d v) (h : tyOfD st d = some t) : TyX K H v (.type t) := by
  cases r with
  | non => cases h; exact .base .non
  | bl b => cases h; exact .base (.bl b)
  | int b => cases h; exact .base (.int b)
  | str b => cases h; exact .base (.str b)
  | fn _ => cases h
  | ty _ => cases h
  | scr _ => cases h
  | tup hs rs =>
    cases h
    rcases hs with (hs | ⟨o, hs⟩) | ⟨o, its, n, hk, hc, _⟩
    · exact .base (.tup hs)
    · exact .fTuple hs
    · exact .kTuple hk hc
  | @ref p n hn =>
    unfold tyOfD at h
    cases e : st[n]? with
    | none => simp only [e] at h; cases h
    | some o =>
      obtain ⟨q, ho, e0, e1, e2, q2⟩ := s.get e (.ref hn)
      cases e0
      cases q2 with
      | lst rs => simp only [e] at h; cases h; exact .base (.lst e2)
      | dct rs => simp only [e] at h; cases h; exact .base (.dK e2)
      | ins _ _ => simp only [e] at h; cases h
      | tab _ => simp only [e] at h; cases h
      | dctL _ => simp only [e] at h; cases h
theorem real_isi : RealC K mg E (rIsi K) gIsi := by
  intro ρ st H xs as Q s rs h
  match as, xs, rs with
  | [], _, .nil => exact h.elim
  | [a], _, .cons r .nil => cases a <;> exact h.elim
  | a :: b :: c :: l, _, .cons _ (.cons _ (.cons _ _)) => cases a <;> cases b <;> exact h.elim
  | [a, b], _, .cons ra (.cons rb .nil) =>
    cases rb with
    | ty n =>
      simp only [gIsi] at h
      cases e : tyOfD st a with
      | none => simp only [e] at h; exact h.elim
      | some t =>
        simp only [e] at h
        cases e2 : kitB t n with
        | none => simp only [e2] at h; exact h.elim
        | some c =>
          simp only [e2] at h
          exact ⟨_, _, _, _, c, rfl, .ty n, tyX_of s ra e, kit_ty e2, h.done s (.bl _)⟩
    | _ => exact h.elim
/-- list(x), tuple(x) -/
def gList : List D → Store → Res D := fun ds st => match ds with
  | [x] => match itemsOf st x with
    | some ds => .ok (.ref st.length) (st ++ [.lst ds])
    | none => .bad
  | _ => .bad
theorem real_list : RealC K mg E (fun xs H Q => ∃ p ys, xs = [.ref p] ∧ (SqL K H p ys ∨ SqT K H p ys) ∧ ∀ l, H l = none → Q (.ref l) (upd H l (.lst ys))) gList := by
  intro ρ st H xs as Q s rs h
  match as, xs, rs with
  | [], _, .nil => exact h.elim
  | a :: c :: l, _, .cons _ (.cons _ _) => exact h.elim
  | [a], _, .cons ra .nil =>
    simp only [gList] at h
    cases e : itemsOf st a with
    | none => simp only [e] at h; exact h.elim
    | some ds =>
      simp only [e] at h
      obtain ⟨p, ys, rfl, rs, hs⟩ := items_of s ra e
      refine ⟨p, ys, rfl, ?_, fun l hl => ?_⟩
      · rcases hs with ⟨es, _, hs⟩ | hs
        · exact .inr hs
        · exact .inl hs
      · obtain ⟨g, r⟩ := Go.lst s rs hl
        exact h _ _ _ g r
def gTuple : List D → Store → Res D := fun ds st => match ds with
  | [x] => match itemsOf st x with
    | some ds => .ok (.tup ds) st
    | none => .bad
  | _ => .bad
theorem real_tuple : RealC K mg E (fun xs H Q => ∃ p ys, xs = [.ref p] ∧ ((SqL K H p ys ∧ ∀ l, H l = none → Q (.ref l) (upd H l (.tup ys))) ∨ (SqT K H p ys ∧ Q (.ref p) H))) gTuple := by
  intro ρ st H xs as Q s rs h
  match as, xs, rs with
  | [], _, .nil => exact h.elim
  | a :: c :: l, _, .cons _ (.cons _ _) => exact h.elim
  | [a], _, .cons ra .nil =>
    simp only [gTuple] at h
    cases e : itemsOf st a with
    | none => simp only [e] at h; exact h.elim
    | some ds =>
      simp only [e] at h
      obtain ⟨p, ys, rfl, rs, hs⟩ := items_of s ra e
      refine ⟨p, ys, rfl, ?_⟩
      rcases hs with ⟨es, _, hs⟩ | hs
      · exact .inr ⟨hs, h.done s (.tup hs rs)⟩
      · refine .inl ⟨hs, fun l hl => ?_⟩
        have g := Go.fresh (u := .tup ys) s hl
        exact h _ _ _ g (.tup (.inl (.inl upd_same)) (rs.mono g.pre g.ext))
end

/-! ### defs -/
/-- a def keeps the mirror m -/
def spM (K : PySem.W.Frag) (mg : Str → Option Value) (n : Nat) (m : List D → Store → Res D) : Sp := fun vs H Q E => vs.length = n ∧ ∃ ρ st ds, Sim K mg ρ st H ∧ Reps K mg ρ H ds vs ∧ Post K mg (Rep K mg) E ρ H Q (m ds st)
/-- what a body gives -/
def ofBody (N : Nat) (g : Env → Store → SR) : List D → Store → Res D := fun ds st => match g (ds.map some ++ List.replicate (N - ds.length) none) st with
  | .ret d st' => .ok d st'
  | .next _ st' => .ok .non st'
  | _ => .bad
theorem envR_start {K : PySem.W.Frag} {mg : Str → Option Value} {ρ : List Addr} {H : Hp} {N : Nat} : ∀ {ds : List D} {vs : List V}, Reps K mg ρ H ds vs → EnvR K mg ρ H (ds.map some ++ List.replicate (N - ds.length) none) (vs.map some ++ List.replicate (N - vs.length) none) := by
  intro ds vs r
  have hl := r.length
  rw [← hl]
  have app : ∀ {ds : List D} {vs : List V} {e : Env} {σ : L2.St}, Reps K mg ρ H ds vs → EnvR K mg ρ H e σ → EnvR K mg ρ H (ds.map some ++ e) (vs.map some ++ σ) := fun {ds vs e σ} r q => by
    induction r using Reps.rec (motive_1 := fun _ _ _ => True) with
    | nil => exact q
    | cons r t _ ih => exact .cons (fun x e => ⟨_, rfl, by cases e; exact r⟩) ih
    | _ => trivial
  have rep : ∀ n : Nat, EnvR K mg ρ H (List.replicate n none) (List.replicate n none) := fun n => by
    induction n with
    | zero => exact .nil
    | succ n ih => exact .cons (fun x e => by cases e) ih
  exact app r (rep _)
end MP

namespace MP
open PySem PySem.Spec PyProof.Rows L2
variable [TBs]

/-! ### targets -/
abbrev Tg := D → Env → Store → Res Env
section
variable (K : PySem.W.Frag) (mg : Str → Option Value)
def REnv : RL Env L2.St := fun ρ H e σ => EnvR K mg ρ H e σ
def RealG (E : XK) (t : TG) (g : Tg) : Prop := ∀ ρ env st σ H v d (Q : L2.St → Hp → Prop), Sim K mg ρ st H → EnvR K mg ρ H env σ → Rep K mg ρ H d v → Post K mg (REnv K mg) E ρ H Q (g d env st) → t v σ H Q
def RealGs (E : XK) (t : TGs) (g : List D → Env → Store → Res Env) : Prop := ∀ ρ env st σ H vs ds (Q : L2.St → Hp → Prop), Sim K mg ρ st H → EnvR K mg ρ H env σ → Reps K mg ρ H ds vs → Post K mg (REnv K mg) E ρ H Q (g ds env st) → t vs σ H Q
end
structure MG (X : Cx) (E : XK) (e : Expr) (g : Tg) : Prop where
  ex : ∃ t, PG X e t ∧ RealG X.K X.mg E t g
structure MGs (X : Cx) (E : XK) (es : List Expr) (g : List D → Env → Store → Res Env) : Prop where
  ex : ∃ t, PGs X es t ∧ RealGs X.K X.mg E t g
def gN (i : Nat) : Tg := fun d env st => .ok (env.set i (some d)) st
def gsNil : List D → Env → Store → Res Env := fun ds env st => match ds with
  | [] => .ok env st
  | _ => .bad
def gsCons (g : Tg) (gs : List D → Env → Store → Res Env) : List D → Env → Store → Res Env := fun ds env st => match ds with
  | [] => .bad
  | d :: r => bindR (g d env st) fun env1 st1 => gs r env1 st1
def gT (n : Nat) (gs : List D → Env → Store → Res Env) : Tg := fun d env st => match d with
  | .tup ds => if ds.length = n then gs ds env st else .bad
  | _ => .bad
section
variable {X : Cx} {E : XK} {pos : Pos}
theorem envR_set {K : PySem.W.Frag} {mg : Str → Option Value} {ρ : List Addr} {H : Hp} {env : Env} {σ : L2.St} {d : D} {v : V} (e : EnvR K mg ρ H env σ) (r : Rep K mg ρ H d v) (i : Nat) : EnvR K mg ρ H (env.set i (some d)) (σ.set i (some v)) :=
  paired_set (fun x q => by cases q; exact ⟨v, rfl, r⟩) i e
theorem mg_name (i : Nat) {x : Str} (hN : X.N.Nodup) (hi : X.N[i]? = some x := by rfl) (hx : Loc X.env.scope x := by first | exact Or.inl rfl | exact Or.inr rfl) (hf : X.fn x = true ∨ X.env.scope.names.lookup x = some .local := by first | exact .inl rfl | exact .inr rfl | assumption) : MG X E (.Name x pos) (gN i) :=
  ⟨_, pg_name hN hi hx hf, fun ρ env st σ H v d Q s e r h => h.done s (envR_set e r i)⟩
theorem mgs_nil : MGs X E [] gsNil := by
  refine ⟨_, pgs_nil, fun ρ env st σ H vs ds Q s e r h => ?_⟩
  cases r with
  | nil => exact ⟨rfl, h.done s e⟩
  | cons _ _ => exact h.elim
theorem mgs_cons {e : Expr} {es : List Expr} {g : Tg} {gs : List D → Env → Store → Res Env} (h1 : MG X E e g) (h2 : MGs X E es gs) (hs : (assignEach (e :: es) X.env).map (·.2) = assign e X.env :: (assignEach es X.env).map (·.2) := by rfl) : MGs X E (e :: es) (gsCons g gs) := by
  obtain ⟨t1, p1, r1⟩ := h1
  obtain ⟨t2, p2, r2⟩ := h2
  refine ⟨_, pgs_cons p1 p2 hs, fun ρ env st σ H vs ds Q s e r h => ?_⟩
  cases r with
  | nil => exact h.elim
  | cons r t => exact ⟨_, _, rfl, r1 ρ env st σ H _ _ _ s e r (Post.split (R := REnv X.K X.mg) h fun env1 st1 ρ1 H1 σ1 g1 q1 h1 => r2 ρ1 env1 st1 σ1 H1 _ _ Q g1.sim q1 (t.mono g1.pre g1.ext) h1)⟩
theorem mg_tup {es : List Expr} {k : Nat} {gs : List D → Env → Store → Res Env} (n : Nat) (hc : X.calm = true) (h : MGs X E es gs)
    (hn : (assignEach es X.env).length = n := by rfl) (hst : (assignEach es X.env).findIdx? (·.1) = none := by rfl) : MG X E (.Tuple es k pos) (gT n gs) := by
  obtain ⟨t, p, q⟩ := h
  refine ⟨_, pg_tup hc p hn hst, fun ρ env st σ H v d Q s e r h => ?_⟩
  cases r with
  | @tup a xs ds hs rs =>
    simp only [gT] at h
    by_cases hl : ds.length = n
    · rw [if_pos hl] at h
      exact ⟨a, xs, rfl, hs, by rw [← rs.length]; exact hl, q ρ env st σ H _ _ Q s e rs h⟩
    · rw [if_neg hl] at h
      exact h.elim
  | _ => exact h.elim
/-- o[i] = v, o a list -/
def gI (fo fi : Ev D) : Tg := fun d env st => bindR (fo env st) fun o st1 => bindR (fi env st1) fun i st2 => match o, i with
  | .ref n, .int k => match st2[n]? with
    | some (.lst ds) => match ixN ds.length k with
      | some j => .ok env (st2.set n (.lst (ds.set j d)))
      | none => .bad
    | _ => .bad
  | _, _ => .bad
theorem mg_sub {o i : Expr} {fo fi : Ev D} (ho : ME X E o fo) (hi : ME X E i fi)
    (ha : ∀ v, assign (.Subscript o i pos) X.env v = (do
      let ov ← holding [v] (eval o X.env)
      let iv ← holding [v, ov] (eval i X.env)
      standAt pos
      holding [v, ov, iv] (setItem ov iv v)
      release [v, ov, iv] []) := by intro _; rfl) : MG X E (.Subscript o i pos) (gI fo fi) := by
  obtain ⟨t1, p1, r1⟩ := ho
  obtain ⟨t2, p2, r2⟩ := hi
  refine ⟨_, pg_sub p1 p2 set_list ha, fun ρ env st σ H v d Q s e r h => ?_⟩
  refine r1 ρ env st σ H _ s e (h.split fun x st1 ρ1 H1 xv g1 q1 h1 => r2 ρ1 env st1 σ H1 _ g1.sim (e.mono g1.pre g1.ext) (h1.split fun y st2 ρ2 H2 yv g2 q2 h2 => ?_))
  have q1 := q1.mono g2.pre g2.ext
  have g := g1.trans g2
  cases x with
  | ref n =>
    cases q2 with
    | int k =>
      simp only at h2
      cases e1 : st2[n]? with
      | none => simp only [e1] at h2; exact h2.elim
      | some o =>
        obtain ⟨a, ho, z, w, u, q⟩ := g2.sim.get e1 q1
        subst z
        cases q with
        | @lst ds xs rs =>
          simp only [e1] at h2
          cases e2 : ixN ds.length k with
          | none => simp only [e2] at h2; exact h2.elim
          | some j =>
            simp only [e2] at h2
            refine ⟨a, xs, k, j, rfl, rfl, u, by rw [← rs.length]; exact e2, ?_⟩
            have g3 := Go.set (o' := .lst (ds.set j d)) (u' := .lst (xs.set j v)) g2.sim e1 w u (.lst rs) (.lst (rs.set (r.mono g.pre g.ext) j))
            exact h2 _ _ σ g3 ((e.mono g.pre g.ext).mono g3.pre g3.ext)
        | _ => simp only [e1] at h2; exact h2.elim
    | _ => exact h2.elim
  | _ => exact h2.elim
end

/-! ### statements -/
def sAsg (f : Ev D) (g : Tg) : Env → Store → SR := fun env st => bindS env (f env st) fun d st1 => bindS env (g d env st1) fun env1 st2 => .next env1 st2
def sIf (c : Ev Bool) (g1 g2 : Env → Store → SR) : Env → Store → SR := fun env st => bindS env (c env st) fun b st1 => if b = true then g1 env st1 else g2 env st1
def sRet (f : Ev D) : Env → Store → SR := fun env st => bindS env (f env st) fun d st1 => .ret d st1
def sRetN : Env → Store → SR := fun env st => .ret .non st
def sExpr (f : Ev D) : Env → Store → SR := fun env st => bindS env (f env st) fun _ st1 => .next env st1
def sNil : Env → Store → SR := fun env st => .next env st
def sSeq (g1 g2 : Env → Store → SR) : Env → Store → SR := fun env st => match g1 env st with
  | .next env1 st1 => g2 env1 st1
  | r => r
def sNever : Env → Store → SR := fun _ _ => .bad
section
variable {X : Cx} {E : XK} {pos : Pos} {e : Expr} {f : Ev D}
theorem real_asg {te : TE} {tg : TG} {g : Tg} (r1 : Real X.K X.mg (Rep X.K X.mg) E te f) (r2 : RealG X.K X.mg E tg g) : RealS X.K X.mg E (tAsg te tg) (sAsg f g) := fun ρ env st σ H Dn s e h =>
  r1 ρ env st σ H _ s e (h.split fun a st1 ρ1 H1 v g1 qa h1 => r2 ρ1 env st1 σ H1 v a _ g1.sim (e.mono g1.pre g1.ext) qa (h1.split fun env2 st2 ρ2 H2 σ2 g2 q2 h2 => h2 ρ2 σ2 H2 (.refl g2.sim) q2))
theorem ms_asg {tg : Expr} {g : Tg} (he : ME X E e f) (hg : MG X E tg g) (hs : swapsWithSole [tg] e pos.line X.env = pure false := by rfl) (hw : swappedStores [tg] e X.env = pure none := by rfl)
    (h1 : (assignEach [tg] X.env).map (·.2) = [assign tg X.env] := by rfl) : MS X E (.Assign [tg] e pos) (sAsg f g) := by
  obtain ⟨t1, p1, r1⟩ := he
  obtain ⟨t2, p2, r2⟩ := hg
  exact ⟨_, ps_asg p1 p2 hs hw h1, real_asg r1 r2⟩
theorem ms_set (i : Nat) {x : Str} {pos' : Pos} (hN : X.N.Nodup) (he : ME X E e f) (hi : X.N[i]? = some x := by rfl) (hx : Loc X.env.scope x := by first | exact Or.inl rfl | exact Or.inr rfl) (hs : swapsWith e (some (.Name x pos')) pos.line X.env = pure false := by rfl) (hf : X.fn x = true ∨ X.env.scope.names.lookup x = some .local := by first | exact .inl rfl | exact .inr rfl | assumption) :
    MS X E (.Assign [.Name x pos'] e pos) (sAsg f (gN i)) := by
  obtain ⟨t1, p1, r1⟩ := he
  exact ⟨_, ps_set hN hi hx p1 hs hf, real_asg r1 fun ρ env st σ H v d Q s e r h => h.done s (envR_set e r i)⟩
theorem ms_if {c : Expr} {as bs : List Stmt} {fc : Ev Bool} {ga gb : Env → Store → SR} (hc : MT X E c fc) (ha : MSs X E as ga) (hb : MSs X E bs gb) : MS X E (.If c as bs pos) (sIf fc ga gb) := by
  obtain ⟨t0, p0, r0⟩ := hc
  obtain ⟨t1, p1, r1⟩ := ha
  obtain ⟨t2, p2, r2⟩ := hb
  refine ⟨_, ps_if p0 p1 p2, fun ρ env st σ H Dn s e h => ?_⟩
  refine r0 ρ env st σ H _ s e (h.split fun b st1 ρ1 H1 v g1 qa h1 => ?_)
  cases qa
  cases b with
  | true => exact r1 ρ1 env st1 σ H1 Dn g1.sim (e.mono g1.pre g1.ext) h1
  | false => exact r2 ρ1 env st1 σ H1 Dn g1.sim (e.mono g1.pre g1.ext) h1
theorem ms_ret (he : ME X E e f) : MS X E (.Return (some e) pos) (sRet f) := by
  obtain ⟨t1, p1, r1⟩ := he
  exact ⟨_, ps_ret p1, fun ρ env st σ H Dn s e h => r1 ρ env st σ H _ s e (h.split fun a st1 ρ1 H1 v g1 qa h1 => h1 ρ1 H1 v (.refl g1.sim) qa)⟩
theorem ms_retN : MS X E (.Return none pos) sRetN := ⟨_, ps_retN, fun ρ env st σ H Dn s e h => h ρ H .non (.refl s) .non⟩
theorem ms_expr (he : ME X E e f) (hs : swapsWith e none pos.line X.env = pure false := by rfl) : MS X E (.Expr e pos) (sExpr f) := by
  obtain ⟨t1, p1, r1⟩ := he
  exact ⟨_, ps_expr p1 hs, fun ρ env st σ H Dn s e h => r1 ρ env st σ H _ s e (h.split fun a st1 ρ1 H1 v g1 qa h1 => h1 ρ1 σ H1 (.refl g1.sim) (e.mono g1.pre g1.ext))⟩
theorem ms_pass : MS X E (.Pass pos) sNil := ⟨_, ps_pass, fun ρ env st σ H Dn s e h => h ρ σ H (.refl s) e⟩
theorem ms_brk : MS X E (.Break pos) (fun env st => .brk env st) := ⟨_, ps_break, fun ρ env st σ H Dn s e h => h ρ σ H (.refl s) e⟩
theorem ms_cnt : MS X E (.Continue pos) (fun env st => .cnt env st) := ⟨_, ps_continue, fun ρ env st σ H Dn s e h => h ρ σ H (.refl s) e⟩
theorem ms_never {s : Stmt} : MS X E s sNever := ⟨_, ps_never, fun ρ env st σ H Dn s e h => h.elim⟩
theorem mss_nil : MSs X E [] sNil := ⟨_, pss_nil, fun ρ env st σ H Dn s e h => h ρ σ H (.refl s) e⟩
theorem mss_one {s : Stmt} {g : Env → Store → SR} (h : MS X E s g) : MSs X E [s] g := let ⟨t, p, r⟩ := h; ⟨t, pss_one p, r⟩
theorem real_seq {K : PySem.W.Frag} {mg : Str → Option Value} {t1 t2 : TS} {g1 g2 : Env → Store → SR} (r1 : RealS K mg E t1 g1) (r2 : RealS K mg E t2 g2) : RealS K mg E (tSeq t1 t2) (sSeq g1 g2) := fun ρ env st σ H Dn s e h => by
  refine r1 ρ env st σ H _ s e ?_
  unfold sSeq at h
  cases q : g1 env st with
  | next env1 st1 =>
    rw [q] at h
    exact fun ρ' σ' H' g' e' => r2 ρ' env1 st1 σ' H' Dn g'.sim e' (SPost.from g' h)
  | ret d st1 => rw [q] at h; exact h
  | brk env1 st1 => rw [q] at h; exact h
  | cnt env1 st1 => rw [q] at h; exact h
  | exc c d env1 st1 => rw [q] at h; exact h
  | bad => rw [q] at h; exact h.elim
theorem mss_cons {s : Stmt} {rest : List Stmt} {g1 g2 : Env → Store → SR} (h1 : MS X E s g1) (h2 : MSs X E rest g2) : MSs X E (s :: rest) (sSeq g1 g2) := by
  obtain ⟨t1, p1, r1⟩ := h1
  obtain ⟨t2, p2, r2⟩ := h2
  exact ⟨_, pss_cons p1 p2, real_seq r1 r2⟩
end

/-! ### loops -/
/-- what is walked: the items, and the list object that must stay as it is -/
structure Src where
  items : List D
  obj : Option Nat := none
  objs : List (Nat × List D) := []
def Src.Ok (s : Src) (st : Store) : Prop := match s.objs with
  | [] => (match s.obj with
    | none => True
    | some n => st[n]? = some (.lst s.items))
  | p :: l => ∀ q ∈ p :: l, st[q.1]? = some (.lst q.2)
section
variable (K : PySem.W.Frag) (mg : Str → Option Value)
def RIt : RL Src It := fun ρ H s J => ∀ ρ' st' H', Go K mg ρ H ρ' st' H' → s.Ok st' →
  (∀ i d, s.items[i]? = some d → J.go i H' ∧ ∀ x H2, J.yld i H' x H2 → Go K mg ρ' H' ρ' st' H2 ∧ Rep K mg ρ' H2 d x) ∧ ∀ i, s.items.length ≤ i → J.stop i H'
end
structure MI (X : Cx) (E : XK) (tg iter : Expr) (f : Ev Src) : Prop where
  ex : ∃ t, PI X tg iter t ∧ Real X.K X.mg (RIt X.K X.mg) E t f
open Classical in
noncomputable def forM (s : Src) (g : Tg) (body : Env → Store → SR) : List D → Env → Store → SR
  | [], env, st => if s.Ok st then .next env st else .bad
  | d :: ds, env, st => if s.Ok st then match g d env st with
    | .ok env1 st1 => match body env1 st1 with
      | .next env2 st2 => forM s g body ds env2 st2
      | .cnt env2 st2 => forM s g body ds env2 st2
      | .brk env2 st2 => .next env2 st2
      | r => r
    | .exc c d st1 => .exc c d env st1
    | .bad => .bad
    else .bad
noncomputable def sFor (f : Ev Src) (g : Tg) (body : Env → Store → SR) : Env → Store → SR := fun env st => bindS env (f env st) fun s st1 => forM s g body s.items env st1
theorem ms_for {X : Cx} {E : XK} {pos : Pos} {tg iter : Expr} {body : List Stmt} {f : Ev Src} {g : Tg} {gb : Env → Store → SR} (hc : X.calm = true) (hi : MI X E tg iter f) (hg : MG X E tg g) (hb : MSs X E body gb)
    (hp : PassesOwn (model X.prog X.w) X.A X.env X.xe := by exact PassesOwn.never) (hs : ∀ x, foldedSetIterable iter X.env x = pure x := by intro _; rfl) : MS X E (.For tg iter body [] pos) (sFor f g gb) := by
  obtain ⟨t0, p0, r0⟩ := hi
  obtain ⟨t1, p1, r1⟩ := hg
  obtain ⟨t2, p2, r2⟩ := hb
  refine ⟨_, ps_for hp hc p0 p1 p2 hs, fun ρ env st σ H Dn s e h => ?_⟩
  refine r0 ρ env st σ H _ s e (h.split fun src st1 ρ1 H1 J g1 qJ h1 => ?_)
  refine ⟨fun i m σ' H' => i ≤ src.items.length ∧ m = src.items.length - i ∧ ∃ ρ' env' st', Go X.K X.mg ρ1 H1 ρ' st' H' ∧ EnvR X.K X.mg ρ' H' env' σ' ∧ SPost X.K X.mg E ρ' H' Dn (forM src g gb (src.items.drop i) env' st'),
    ⟨_, Nat.zero_le _, rfl, ρ1, env, st1, .refl g1.sim, e.mono g1.pre g1.ext, h1⟩, fun i m σ' H' hW => ?_⟩
  obtain ⟨hi, rfl, ρ2, env2, st2, g2, e2, h2⟩ := hW
  by_cases hok : src.Ok st2
  · obtain ⟨q1, q2⟩ := qJ ρ2 st2 H' g2 hok
    by_cases hlt : i < src.items.length
    · rw [List.drop_eq_getElem_cons hlt] at h2
      obtain ⟨go, yld⟩ := q1 i _ (List.getElem?_eq_getElem hlt)
      refine .inr ⟨go, fun σ3 H3 => i + 1 ≤ src.items.length ∧ ∃ ρ' env' st', Go X.K X.mg ρ1 H1 ρ' st' H3 ∧ EnvR X.K X.mg ρ' H3 env' σ3 ∧ SPost X.K X.mg E ρ' H3 Dn (forM src g gb (src.items.drop (i + 1)) env' st'), fun σ3 H3 hN => ?_, fun x H3 hy => ?_⟩
      · exact ⟨src.items.length - (i + 1), by omega, hN.1, rfl, hN.2⟩
      · obtain ⟨g3, rx⟩ := yld x H3 hy
        simp only [forM, if_pos hok] at h2
        refine r1 ρ2 env2 st2 σ' H3 x _ _ g3.sim (e2.mono g3.pre g3.ext) rx ?_
        have h3 := SPost.from g3 h2
        cases q : g src.items[i] env2 st2 with
        | bad => simp only [q] at h3; exact h3.elim
        | exc c d st4 => simp only [q] at h3; exact h3
        | ok env4 st4 =>
          simp only [q] at h3
          intro ρ5 H5 σ5 g5 e5
          refine r2 ρ5 env4 st4 σ5 H5 _ g5.sim e5 ?_
          have h5 := SPost.from g5 h3
          have gg : ∀ {ρ6 st6 H6}, Go X.K X.mg ρ5 H5 ρ6 st6 H6 → Go X.K X.mg ρ1 H1 ρ6 st6 H6 := fun g6 => g2.trans (g3.trans (g5.trans g6))
          cases qb : gb env4 st4 with
          | next env6 st6 =>
            simp only [qb] at h5
            exact fun ρ6 σ6 H6 g6 e6 => ⟨hlt, ρ6, env6, st6, gg g6, e6, SPost.from g6 h5⟩
          | cnt env6 st6 =>
            simp only [qb] at h5
            exact fun ρ6 σ6 H6 g6 e6 => ⟨hlt, ρ6, env6, st6, gg g6, e6, SPost.from g6 h5⟩
          | brk env6 st6 => simp only [qb] at h5; exact h5
          | ret d st6 => simp only [qb] at h5; exact h5
          | exc c d env6 st6 => simp only [qb] at h5; exact h5
          | bad => simp only [qb] at h5; exact h5.elim
    · have ei : src.items.drop i = [] := List.drop_eq_nil_of_le (Nat.le_of_not_lt hlt)
      rw [ei] at h2
      simp only [forM, if_pos hok] at h2
      exact .inl ⟨q2 i (Nat.le_of_not_lt hlt), h2 ρ2 σ' H' (.refl g2.sim) e2⟩
  · exfalso
    cases hd : src.items.drop i with
    | nil => rw [hd] at h2; simp only [forM, if_neg hok] at h2; exact h2
    | cons d ds => rw [hd] at h2; simp only [forM, if_neg hok] at h2; exact h2
/-- while -/
def whileM (c : Ev Bool) (body : Env → Store → SR) : Nat → Env → Store → SR
  | 0, _, _ => .bad
  | n + 1, env, st => bindS env (c env st) fun b st1 => if b = true then match body env st1 with
    | .next env2 st2 => whileM c body n env2 st2
    | .cnt env2 st2 => whileM c body n env2 st2
    | .brk env2 st2 => .next env2 st2
    | r => r
    else .next env st1
open Classical in
/-- the loop, however often it turns -/
noncomputable def sWhile (c : Ev Bool) (body : Env → Store → SR) : Env → Store → SR := fun env st => if h : ∃ n, whileM c body n env st ≠ .bad then whileM c body (choose h) env st else .bad
theorem ms_while {X : Cx} {E : XK} {pos : Pos} {c : Expr} {body : List Stmt} {fc : Ev Bool} {gb : Env → Store → SR} (hc : MT X E c fc) (hb : MSs X E body gb)
    (hp : PassesOwn (model X.prog X.w) X.A X.env X.xe := by exact PassesOwn.never) : MS X E (.While c body [] pos) (sWhile fc gb) := by
  obtain ⟨t0, p0, r0⟩ := hc
  obtain ⟨t2, p2, r2⟩ := hb
  refine ⟨_, ps_while hp p0 p2, fun ρ env st σ H Dn s e h => ?_⟩
  unfold sWhile at h
  by_cases hn : ∃ n, whileM fc gb n env st ≠ .bad
  · rw [dif_pos hn] at h
    generalize Classical.choose hn = n at h
    refine ⟨fun m σ' H' => ∃ ρ' env' st', Go X.K X.mg ρ H ρ' st' H' ∧ EnvR X.K X.mg ρ' H' env' σ' ∧ SPost X.K X.mg E ρ' H' Dn (whileM fc gb m env' st'), ⟨n, ρ, env, st, .refl s, e, h⟩, fun m σ' H' hW => ?_⟩
    obtain ⟨ρ2, env2, st2, g2, e2, h2⟩ := hW
    cases m with
    | zero => exact h2.elim
    | succ m =>
      refine r0 ρ2 env2 st2 σ' H' _ g2.sim e2 (SPost.split (R := REq Bool) h2 fun b st3 ρ3 H3 v g3 qa h3 => ?_)
      cases qa
      cases b with
      | false => exact h3 ρ3 σ' H3 (.refl g3.sim) (e2.mono g3.pre g3.ext)
      | true =>
        rw [if_pos rfl] at h3 ⊢
        refine ⟨fun σ4 H4 => ∃ ρ' env' st', Go X.K X.mg ρ H ρ' st' H4 ∧ EnvR X.K X.mg ρ' H4 env' σ4 ∧ SPost X.K X.mg E ρ' H4 Dn (whileM fc gb m env' st'), fun σ4 H4 hN => ⟨m, by omega, hN⟩, ?_⟩
        refine r2 ρ3 env2 st3 σ' H3 _ g3.sim (e2.mono g3.pre g3.ext) ?_
        have gg : ∀ {ρ6 st6 H6}, Go X.K X.mg ρ3 H3 ρ6 st6 H6 → Go X.K X.mg ρ H ρ6 st6 H6 := fun g6 => g2.trans (g3.trans g6)
        cases qb : gb env2 st3 with
        | next env6 st6 =>
          simp only [qb] at h3
          exact fun ρ6 σ6 H6 g6 e6 => ⟨ρ6, env6, st6, gg g6, e6, SPost.from g6 h3⟩
        | cnt env6 st6 =>
          simp only [qb] at h3
          exact fun ρ6 σ6 H6 g6 e6 => ⟨ρ6, env6, st6, gg g6, e6, SPost.from g6 h3⟩
        | brk env6 st6 => simp only [qb] at h3; exact h3
        | ret d st6 => simp only [qb] at h3; exact h3
        | exc c d env6 st6 => simp only [qb] at h3; exact h3
        | bad => simp only [qb] at h3; exact h3.elim
  · rw [dif_neg hn] at h
    exact h.elim

/-! ### what is walked -/
section
variable {X : Cx} {E : XK} {pos p : Pos} {tg : Expr}
/-- a list or a tuple -/
def srcOf (st : Store) : D → Option Src
  | .tup ds => some { items := ds }
  | .ref n => match st[n]? with
    | some (.lst ds) => some { items := ds, obj := some n }
    | _ => none
  | .scr ns => some { items := ns.map D.int }
  | _ => none
def fSeq (f : Ev D) : Ev Src := fun env st => bindR (f env st) fun d st1 => match srcOf st1 d with
  | some s => .ok s st1
  | none => .bad
def iSeq (K : PySem.W.Frag) (tl : TE) : TI := fun σ H R => tl σ H fun x H1 => ∃ a, x = .ref a ∧ (((∃ xs, SqL K H1 a xs) ∧ R (Itl K a) H1) ∨ ((∃ xs, SqT K H1 a xs) ∧ R (Itt K a) H1))
/-- an iterator object that has just been pushed -/
theorem pie_push {pins : List (Addr × Obj)} {σ : L2.St} {H1 : Hp} {s1 : Shared} {R : It → Hp → Prop} (o : Obj) (J : It) (tn : Nat → Heap → Prop) (I1 : Inv X pins σ H1 s1)
    (T : Turn X.prog X.w X.K tg J [s1.heap.objs.size] s1.heap.objs.size tn) (h0 : tn 0 (s1.heap.push o)) (q : R J H1) : PIE X pins σ tg R (.ref s1.heap.objs.size) { s1 with heap := s1.heap.push o } :=
  ⟨_, _, tn, J, H1, rfl, I1.kept (t' := s1.toks) fun _ _ e => Heap.get?_push_of_some _ e, T, h0, fun b hb => by
    rw [List.mem_singleton.mp hb]
    exact I1.fpOk (Nat.le_refl _) I1.fresh, q⟩
theorem pi_seq {l : Expr} {tl : TE} (hl : PE X l tl) : PI X tg l (iSeq X.K tl) := by
  constructor
  intro pins s σ H R I h
  refine thn (hl.run pins s σ H _ I h) ?_
  rintro v s1 ⟨x, H1, I1, r1, a, rfl, q⟩
  cases r1
  rcases q with ⟨⟨xs, hq⟩, q⟩ | ⟨⟨xs, hq⟩, q⟩
  · obtain ⟨its, _, p, _⟩ := I1.list hq
    exact wpAny_pyIter_list p.isList (pie_push _ _ _ I1 (turn_list a _) ⟨_, Heap.get?_push_size _ rfl, rfl, rfl⟩ q)
  · obtain ⟨its, _, p, _⟩ := I1.tuple hq
    exact wpAny_pyIter_tuple p (pie_push _ _ _ I1 (turn_tuple a _) ⟨_, Heap.get?_push_size _ rfl, rfl, rfl⟩ q)
end
theorem mi_seq {X : Cx} {E : XK} {tg l : Expr} {f : Ev D} (hl : ME X E l f) : MI X E tg l (fSeq f) := by
  obtain ⟨t, p, r⟩ := hl
  refine ⟨_, pi_seq p, fun ρ env st σ H Q s e h => ?_⟩
  refine r ρ env st σ H _ s e (h.split fun d st1 ρ1 H1 v g1 rd h1 => ?_)
  cases e1 : srcOf st1 d with
  | none => simp only [e1] at h1; exact h1.elim
  | some src =>
    simp only [e1] at h1
    have seqL : ∀ {a : Addr} {ds : List D}, (∀ ρ' st' H', Go X.K X.mg ρ1 H1 ρ' st' H' → src.Ok st' → ∃ xs, SqL X.K H' a xs ∧ Reps X.K X.mg ρ' H' src.items xs) → RIt X.K X.mg ρ1 H1 src (Itl X.K a) := fun {a ds} hx ρ' st' H' g' ok => by
      obtain ⟨xs, hs, rs⟩ := hx ρ' st' H' g' ok
      refine ⟨fun i d hd => ?_, fun i hi => ⟨xs, hs, by rw [← rs.length]; exact hi⟩⟩
      obtain ⟨x, hx1, hx2⟩ := rs.get hd
      refine ⟨⟨xs, x, hs, hx1⟩, fun y H2 hy => ?_⟩
      obtain ⟨rfl, hy⟩ := hy
      have e2 := hy xs hs
      rw [hx1] at e2
      cases e2
      exact ⟨.refl g'.sim, hx2⟩
    cases rd with
    | @tup a xs ds hs rs =>
      cases e1
      refine ⟨a, rfl, .inr ⟨⟨xs, hs⟩, h1.done (R := RIt X.K X.mg) g1.sim fun ρ' st' H' g' ok => ?_⟩⟩
      have hs' := g'.ext.tup _ _ hs
      have rs' := rs.mono g'.pre g'.ext
      refine ⟨fun i d hd => ?_, fun i hi => ⟨xs, hs', by rw [← rs.length]; exact hi⟩⟩
      obtain ⟨x, hx1, hx2⟩ := rs'.get hd
      refine ⟨⟨xs, x, hs', hx1⟩, fun y H2 hy => ?_⟩
      obtain ⟨rfl, hy⟩ := hy
      have e2 := hy xs hs'
      rw [hx1] at e2
      cases e2
      exact ⟨.refl g'.sim, hx2⟩
    | @scr a ns hs =>
      cases e1
      exact ⟨a, rfl, .inl ⟨⟨_, hs.seq⟩, h1.done (R := RIt X.K X.mg) g1.sim (seqL (ds := []) fun ρ' st' H' g' ok => ⟨_, (g'.ext.scr _ _ hs).seq, reps_ints ns⟩)⟩⟩
    | @ref a n hn =>
      simp only [srcOf] at e1
      cases q : st1[n]? with
      | none => simp only [q] at e1; cases e1
      | some o =>
        obtain ⟨_, ho, z, w, u, rr⟩ := g1.sim.get q (.ref hn)
        cases z
        cases rr with
        | @lst ds xs rs =>
          simp only [q] at e1
          cases e1
          refine ⟨a, rfl, .inl ⟨⟨xs, .inl (.inl u)⟩, h1.done (R := RIt X.K X.mg) g1.sim (seqL (ds := []) fun ρ' st' H' g' ok => ?_)⟩⟩
          obtain ⟨_, ho, z, w, u, rr⟩ := g'.sim.get (show st'[n]? = some (.lst ds) from ok) (Rep.mono g'.pre g'.ext (.ref hn))
          cases z
          cases rr with
          | lst rs => exact ⟨_, .inl (.inl u), rs⟩
        | _ => simp only [q] at e1; cases e1
    | _ => cases e1
/-- range -/
def rgD (lo : Int) (n : Nat) : List D := (List.range n).map fun i => D.int (lo + (i : Nat))
theorem rgD_get {lo : Int} {n i : Nat} {d : D} (h : (rgD lo n)[i]? = some d) : i < n ∧ d = .int (lo + (i : Nat)) := by
  unfold rgD at h
  rw [List.getElem?_map] at h
  cases e : (List.range n)[i]? with
  | none => rw [e] at h; cases h
  | some j =>
    rw [e] at h
    obtain ⟨h1, h2⟩ := List.getElem?_eq_some_iff.mp e
    rw [List.getElem_range] at h2
    subst h2
    rw [List.length_range] at h1
    cases h
    exact ⟨h1, rfl⟩
theorem rgD_len {lo : Int} {n : Nat} : (rgD lo n).length = n := by simp [rgD]
theorem rit_range {K : PySem.W.Frag} {mg : Str → Option Value} {ρ : List Addr} {H : Hp} {lo : Int} {n : Nat} : RIt K mg ρ H { items := rgD lo n } (Itr lo n) := fun ρ' st' H' g' ok => by
  refine ⟨fun i d hd => ?_, fun i hi => by rw [rgD_len] at hi; exact hi⟩
  obtain ⟨h1, h2⟩ := rgD_get hd
  subst h2
  refine ⟨h1, fun y H2 hy => ?_⟩
  obtain ⟨rfl, rfl⟩ := hy
  exact ⟨.refl g'.sim, .int _⟩
def fRange1 (f : Ev (List D)) : Ev Src := fun env st => bindR (f env st) fun ds st1 => match ds with
  | [.int j] => if -(2 ^ 62) ≤ j ∧ j < 2 ^ 62 then .ok { items := rgD 0 j.toNat } st1 else .bad
  | _ => .bad
def fRange2 (f : Ev (List D)) : Ev Src := fun env st => bindR (f env st) fun ds st1 => match ds with
  | [.int i, .int j] => if -(2 ^ 62) ≤ i ∧ i < 2 ^ 62 ∧ -(2 ^ 62) ≤ j ∧ j < 2 ^ 62 then .ok { items := rgD i (j - i).toNat } st1 else .bad
  | _ => .bad
theorem mi_range1 {X : Cx} {E : XK} {p pos : Pos} {tg a : Expr} {f : Ev (List D)} (hm : X.mg "range" = none) (ha : MA X E [a] f) (hg : Gl X "range" := by rfl) (hs : starEach [a] X.env = [(false, eval a X.env)] := by rfl) : MI X E tg (.Call (.Name "range" p) [a] [] pos) (fRange1 f) := by
  obtain ⟨t, pa, ra⟩ := ha
  refine ⟨_, pi_range1 hg hm pa hs, fun ρ env st σ H Q s e h => ?_⟩
  refine ra ρ env st σ H _ s e (h.split fun ds st1 ρ1 H1 vs g1 rd h1 => ?_)
  match ds, vs, rd with
  | [], _, .nil => exact h1.elim
  | [a], _, .cons r .nil =>
    cases r with
    | int j =>
      simp only at h1
      by_cases hj : -(2 ^ 62) ≤ j ∧ j < 2 ^ 62
      · rw [if_pos hj] at h1
        exact ⟨j, rfl, hj.1, hj.2, h1.done (R := RIt X.K X.mg) g1.sim rit_range⟩
      · rw [if_neg hj] at h1
        exact h1.elim
    | _ => exact h1.elim
  | _ :: _ :: _, _, .cons r (.cons r2 _) => cases r <;> exact h1.elim
theorem mi_range2 {X : Cx} {E : XK} {p pos : Pos} {tg a b : Expr} {f : Ev (List D)} (hm : X.mg "range" = none) (ha : MA X E [a, b] f) (hg : Gl X "range" := by rfl) (hs : starEach [a, b] X.env = [(false, eval a X.env), (false, eval b X.env)] := by rfl) (hs2 : starEach [b] X.env = [(false, eval b X.env)] := by rfl) : MI X E tg (.Call (.Name "range" p) [a, b] [] pos) (fRange2 f) := by
  obtain ⟨t, pa, ra⟩ := ha
  refine ⟨_, pi_range2 hg hm pa hs hs2, fun ρ env st σ H Q s e h => ?_⟩
  refine ra ρ env st σ H _ s e (h.split fun ds st1 ρ1 H1 vs g1 rd h1 => ?_)
  match ds, vs, rd with
  | [], _, .nil => exact h1.elim
  | [a], _, .cons r .nil => cases r <;> exact h1.elim
  | [a, b], _, .cons r (.cons r2 .nil) =>
    cases r with
    | int i =>
      cases r2 with
      | int j =>
        simp only at h1
        by_cases hj : -(2 ^ 62) ≤ i ∧ i < 2 ^ 62 ∧ -(2 ^ 62) ≤ j ∧ j < 2 ^ 62
        · rw [if_pos hj] at h1
          exact ⟨i, j, rfl, hj, h1.done (R := RIt X.K X.mg) g1.sim rit_range⟩
        · rw [if_neg hj] at h1
          exact h1.elim
      | _ => exact h1.elim
    | _ => exact h1.elim
  | _ :: _ :: _ :: _, _, .cons r (.cons r2 (.cons r3 _)) => cases r <;> cases r2 <;> exact h1.elim

/-! ### defs -/
section
variable {P : Program} {w : World} {K : PySem.W.Frag} {mg : Str → Option Value} {base : Heap}
/-- a def of the text keeps the mirror of its body -/
theorem fn_ok {x qual : Str} {st : Stmt} {f : Addr} {fd : FuncData} {N ps : List Str} {k : Nat} {g : Env → Store → SR} (F : Fun K x qual st f fd) (S : FnScope N ps (defScope st))
    (hb : ∀ (cdv : Value) (A : Around) (outer : List PySem.Env) (s : Shared) (H : Hp) (E : XK), Room k (A.deeper (envOfC qual (defScope st) s.heap.objs.size f cdv)) →
      MSs (cxOf CX0 P w K mg base N qual (defScope st) f cdv A outer s H E).nox E0 (defBody st) g) : FnOk P w K mg base CX0 (k + 1) f fd ps (spM K mg ps.length (ofBody N.length g)) := by
  refine F.ok S (fun vs H Q E h => h.1) (fun cdv A outer s H vs Q E hr h => ?_)
  obtain ⟨t, pt, rt⟩ := hb cdv A outer s H E hr
  refine ⟨t, pt, ?_⟩
  obtain ⟨hl, ρ, st0, ds, s0, rs, hp⟩ := h
  refine rt ρ _ st0 _ H _ s0 (envR_start (N := N.length) rs) ?_
  unfold ofBody at hp
  have el : start N vs = vs.map some ++ List.replicate (N.length - vs.length) none := rfl
  cases q : g (ds.map some ++ List.replicate (N.length - ds.length) none) st0 with
  | ret d st1 => simp only [q] at hp; exact hp
  | next env st1 => simp only [q] at hp; exact fun ρ' σ' H' g' e' => hp ρ' H' .non g' .non
  | brk env st1 => simp only [q] at hp; exact hp.elim
  | cnt env st1 => simp only [q] at hp; exact hp.elim
  | exc c d env st1 => simp only [q] at hp; exact hp.elim
  | bad => simp only [q] at hp; exact hp.elim
/-- a def that is called -/
def eDef (n : Nat) (m : List D → Store → Res D) (f : Ev (List D)) : Ev D := fun env st => bindR (f env st) fun ds st1 => if ds.length = n then m ds st1 else .bad
/-- what a caller knows of a def -/
structure Fn (P : Program) (w : World) (K : PySem.W.Frag) (mg : Str → Option Value) (base : Heap) (k : Nat) (x : Str) (n : Nat) (m : List D → Store → Res D) : Prop where
  ex : ∃ (f : Addr) (fd : FuncData) (ps : List Str), FnOk P w K mg base CX0 k f fd ps (spM K mg n m) ∧ mg x = some (.ref f) ∧ PySem.W.keepIn K (.ref f) = true ∧ Binds K fd ps []
theorem me_call {X : Cx} {E : XK} {k j : Nat} {x : Str} {n : Nat} {m : List D → Store → Res D} {p pos : Pos} {e : Expr} {es : List Expr} {f : Ev (List D)} (F : Fn X.prog X.w X.K X.mg X.base k x n m) (hr : Room j X.A) (ha : MA X E (e :: es) f) (hk : k ≤ j := by decide) (hg : Gl X x := by rfl)
    (hx : Passes CX0 X E := by exact pass0) (hdb : (x == ("__debug__" : Str)) = false := by decide) (he : starEach (e :: es) X.env = (false, eval e X.env) :: starEach es X.env := by rfl) (hpl : (backTo pos (starEach es X.env)).any (·.1) = false := by rfl) :
    ME X E (.Call (.Name x p) (e :: es) [] pos) (eDef n m f) := by
  obtain ⟨a, fd, ps, F, hm, kp, hb⟩ := F
  obtain ⟨t, pa, ra⟩ := ha
  refine ⟨_, pe_call F (hr.mono hk) hg hm kp hb .nil hx pa hdb he hpl, fun ρ env st σ H Q s e h => ?_⟩
  refine ra ρ env st σ H _ s e (h.split fun ds st1 ρ1 H1 vs g1 rd h1 => ?_)
  by_cases hl : ds.length = n
  · rw [if_pos hl] at h1
    show spM X.K X.mg n m (vs ++ []) H1 Q E
    rw [List.append_nil]
    exact ⟨by rw [← rd.length]; exact hl, ρ1, st1, ds, g1.sim, rd, h1⟩
  · rw [if_neg hl] at h1
    exact h1.elim
/-- the law's own promise -/
def spLaw (K : PySem.W.Frag) : Sp := fun vs H Q _ => ∃ (a : Addr) (ns : List Int), vs = [.ref a] ∧ ns.length ≤ 63 ∧ SqF K H a (ns.map V.int) ∧ (TBs.cs.map (·.2)).Nodup ∧ (∀ b ∈ TBs.cs.map (·.2), H b = some (.tbl #[])) ∧ ∀ H', Q (.bl true) H'
theorem only_seq {H : Hp} {a : Addr} {xs : List V} (o : Only H) (h : SqL K H a xs) : SqF K H a xs := by
  rcases h with (h | h) | h
  · rcases o a with q | ⟨ob, ys, q⟩
    · rw [q] at h; cases h
    · rw [q] at h; cases h
  · exact .inl h
  · exact .inr h
theorem sim_tabs {H : Hp} (hn : (TBs.cs.map (·.2)).Nodup) (ht : ∀ b ∈ TBs.cs.map (·.2), H b = some (.tbl #[])) : Sim K mg (TBs.cs.map (·.2)) (TBs.cs.map fun _ => O.tab) H := by
  refine ⟨by simp, hn, List.prefix_refl _, fun n o e => ?_⟩
  rw [List.getElem?_map] at e
  cases q : TBs.cs[n]? with
  | none => rw [q] at e; cases e
  | some p =>
    rw [q] at e
    cases e
    have hp : (TBs.cs.map (·.2))[n]? = some p.2 := by rw [List.getElem?_map, q]; rfl
    exact ⟨p.2, .tbl #[], hp, ht _ (List.mem_of_getElem? hp), .tab trivial⟩
/-- the law: its mirror gives True at every script -/
theorem law_ok {k : Nat} {f : Addr} {fd : FuncData} {ps : List Str} {m : List D → Store → Res D} (F : FnOk P w K mg base CX0 k f fd ps (spM K mg 1 m)) (h : ∀ ns : List Int, ns.length ≤ 63 → ∃ st, m [.scr ns] (TBs.cs.map fun _ => O.tab) = .ok (.bl true) st) : FnOk P w K mg base CX0 k f fd ps (spLaw K) :=
  F.imp fun vs H Q E q => by
    obtain ⟨a, ns, rfl, hl, hS, hn, ht, hq⟩ := q
    obtain ⟨st, hm⟩ := h ns hl
    refine ⟨rfl, _, _, [.scr ns], sim_tabs hn ht, .cons (.scr hS) .nil, ?_⟩
    rw [hm]
    intro ρ' H' v g r
    cases r
    exact hq H'
end
/-- x.append(e) -/
def appTo (n : Nat) (d : D) (st : Store) : Res D := match st[n]? with
  | some (.lst ds) => if ds.length < sizeLine then .ok .non (st.set n (.lst (ds ++ [d]))) else .bad
  | _ => .bad
def eApp (fo : Ev D) (f : Ev D) : Ev D := fun env st => bindR (fo env st) fun o st1 => match o with
  | .ref n => match st1[n]? with
    | some (.lst _) => bindR (f env st1) fun d st2 => appTo n d st2
    | _ => .bad
  | _ => .bad
theorem me_append {X : Cx} {E : XK} {apos cpos : Pos} {o e : Expr} {fo fe : Ev D} (ho : ME X E o fo) (he : ME X E e fe) (hbase : attributeBase o "append" X.env (eval o X.env) = eval o X.env := by rfl)
    (hfew : ((backTo cpos (starEach [e] X.env)).all (fun x => !x.1) && (backToKw cpos (keywordEach [] X.env)).all (fun x => x.1.isSome)
      && decide ([e].length + ([] : List Keyword).length + (if ([] : List Keyword).isEmpty then 0 else 1) < 30)) = true := by rfl)
    (hline : (apos.endLine == cpos.line) = true := by rfl) (hs : starEach [e] X.env = (false, eval e X.env) :: starEach [] X.env := by rfl) (hplain : (backTo cpos (starEach [] X.env)).any (·.1) = false := by rfl) :
    ME X E (.Call (.Attribute o "append" apos) [e] [] cpos) (eApp fo fe) := by
  obtain ⟨t1, p1, r1⟩ := ho
  obtain ⟨t2, p2, r2⟩ := he
  refine ⟨_, pe_bm PySem.F.plainAttrs_list PySem.F.slot_list_append PySem.F.type_list_append mt_append p1 (pa_cons p2 pa_nil hs) hbase hfew hline hs hplain, fun ρ env st σ H Q s e h => ?_⟩
  refine r1 ρ env st σ H _ s e (h.split fun x st1 ρ1 H1 xv g1 q1 h1 => ?_)
  cases x with
  | ref n =>
    simp only at h1
    cases e1 : st1[n]? with
    | none => simp only [e1] at h1; exact h1.elim
    | some o =>
      obtain ⟨a, ho, z, w, u, rr⟩ := g1.sim.get e1 q1
      subst z
      cases rr with
      | @lst ds xs rs =>
        simp only [e1] at h1
        refine ⟨.inl ⟨rfl, _, .inl (.inl u)⟩, r2 ρ1 env st1 σ H1 _ g1.sim (e.mono g1.pre g1.ext) (h1.split fun d st2 ρ2 H2 dv g2 q2 h2 => ?_)⟩
        unfold appTo at h2
        cases e2 : st2[n]? with
        | none => simp only [e2] at h2; exact h2.elim
        | some o2 =>
          obtain ⟨a2, ho2, z2, w2, u2, rr2⟩ := g2.sim.get e2 (q1.mono g2.pre g2.ext)
          cases z2
          cases rr2 with
          | @lst ds2 xs2 rs2 =>
            simp only [e2] at h2
            by_cases hz : ds2.length < sizeLine
            · rw [if_pos hz] at h2
              refine ⟨a, xs2, dv, rfl, rfl, u2, by rw [← rs2.length]; exact hz, ?_⟩
              exact h2 _ _ _ (Go.set (o' := .lst (ds2 ++ [d])) (u' := .lst (xs2 ++ [dv])) g2.sim e2 w2 u2 (.lst rs2) (.lst (rs2.append (.cons q2 .nil)))) .non
            · rw [if_neg hz] at h2
              exact h2.elim
          | _ => simp only [e2] at h2; exact h2.elim
      | _ => simp only [e1] at h1; exact h1.elim
  | _ => exact h1.elim
end MP
theorem L2.Room.units65 {k : Nat} {A : PySem.Around} (r : L2.Room k A) : A.units + 65 < PySem.cLine := by have := r.un; omega

/-! the mirror, run by simp -/
namespace MP
open PySem PySem.Spec PyProof.Rows L2
theorem bindR_congr {α β : Type} {r r' : Res α} {k : α → Store → Res β} (h : r = r') : bindR r k = bindR r' k := by rw [h]
theorem bindS_congr {α : Type} {env : Env} {r r' : Res α} {k : α → Store → SR} (h : r = r') : bindS env r k = bindS env r' k := by rw [h]
def contS (r : SR) (g : Env → Store → SR) : SR := match r with
  | .next e st => g e st
  | r => r
theorem contS_congr {r r' : SR} {g : Env → Store → SR} (h : r = r') : contS r g = contS r' g := by rw [h]
theorem contS_next (e : Env) (st : Store) (g : Env → Store → SR) : contS (.next e st) g = g e st := rfl
theorem contS_ret (d : D) (st : Store) (g : Env → Store → SR) : contS (.ret d st) g = .ret d st := rfl
theorem seq_def (g1 g2 : Env → Store → SR) (env : Env) (st : Store) : sSeq g1 g2 env st = contS (g1 env st) g2 := rfl
theorem seq_asg (f : Ev D) (t : Tg) (g : Env → Store → SR) (env : Env) (st : Store) : sSeq (sAsg f t) g env st = bindS env (f env st) fun d st1 => bindS env (t d env st1) fun env1 st2 => g env1 st2 := by
  unfold sSeq sAsg
  cases f env st with
  | ok d st1 =>
    simp only [bindS_ok]
    cases t d env st1 <;> rfl
  | _ => rfl
theorem seq_if (c : Ev Bool) (a b g : Env → Store → SR) (env : Env) (st : Store) : sSeq (sIf c a b) g env st = bindS env (c env st) fun p st1 => if p = true then sSeq a g env st1 else sSeq b g env st1 := by
  unfold sSeq sIf
  cases c env st with
  | ok p st1 => cases p <;> rfl
  | _ => rfl
theorem seq_ret (f : Ev D) (g : Env → Store → SR) (env : Env) (st : Store) : sSeq (sRet f) g env st = sRet f env st := by
  unfold sSeq sRet
  cases f env st <;> rfl
theorem seq_nil (g : Env → Store → SR) (env : Env) (st : Store) : sSeq sNil g env st = g env st := rfl
theorem seq_expr (f : Ev D) (g : Env → Store → SR) (env : Env) (st : Store) : sSeq (sExpr f) g env st = bindS env (f env st) fun _ st1 => g env st1 := by
  unfold sSeq sExpr
  cases f env st <;> rfl
theorem seq_seq (a b g : Env → Store → SR) (env : Env) (st : Store) : sSeq (sSeq a b) g env st = sSeq a (sSeq b g) env st := by
  unfold sSeq
  cases a env st <;> rfl
theorem seq_for (f : Ev Src) (t : Tg) (b g : Env → Store → SR) (env : Env) (st : Store) : sSeq (sFor f t b) g env st = bindS env (f env st) fun s st1 => contS (forM s t b s.items env st1) g := by
  unfold sSeq sFor
  cases f env st <;> rfl
theorem for_def (f : Ev Src) (t : Tg) (b : Env → Store → SR) (env : Env) (st : Store) : sFor f t b env st = bindS env (f env st) fun s st1 => forM s t b s.items env st1 := rfl
theorem asg_def (f : Ev D) (t : Tg) (env : Env) (st : Store) : sAsg f t env st = bindS env (f env st) fun d st1 => bindS env (t d env st1) fun env1 st2 => .next env1 st2 := rfl
theorem if_def (c : Ev Bool) (a b : Env → Store → SR) (env : Env) (st : Store) : sIf c a b env st = bindS env (c env st) fun p st1 => if p = true then a env st1 else b env st1 := rfl
theorem ret_def (f : Ev D) (env : Env) (st : Store) : sRet f env st = bindS env (f env st) fun d st1 => .ret d st1 := rfl
theorem retN_def (env : Env) (st : Store) : sRetN env st = .ret .non st := rfl
theorem expr_def (f : Ev D) (env : Env) (st : Store) : sExpr f env st = bindS env (f env st) fun _ st1 => .next env st1 := rfl
theorem nil_def (env : Env) (st : Store) : sNil env st = .next env st := rfl
/-- a body's end -/
def endB (r : SR) : Res D := match r with
  | .ret d st' => .ok d st'
  | .next _ st' => .ok .non st'
  | _ => .bad
theorem endB_congr {r r' : SR} (h : r = r') : endB r = endB r' := by rw [h]
theorem endB_ret (d : D) (st : Store) : endB (.ret d st) = .ok d st := rfl
theorem endB_next (e : Env) (st : Store) : endB (.next e st) = .ok .non st := rfl
theorem endB_ite {c : Prop} [Decidable c] (a b : SR) : endB (if c then a else b) = if c then endB a else endB b := by split <;> rfl
theorem body_def (N : Nat) (g : Env → Store → SR) (ds : List D) (st : Store) : ofBody N g ds st = endB (g (ds.map some ++ List.replicate (N - ds.length) none) st) := rfl
theorem var_zero (d : D) (r : Env) (st : Store) : eVar 0 (some d :: r) st = .ok d st := rfl
theorem var_succ (n : Nat) (x : Option D) (r : Env) (st : Store) : eVar (n + 1) (x :: r) st = eVar n r st := by
  unfold eVar
  rw [List.getElem?_cons_succ]
theorem c_def (d : D) (env : Env) (st : Store) : eC d env st = .ok d st := rfl
theorem bin_def (g : G2) (fa fb : Ev D) (env : Env) (st : Store) : eBin g fa fb env st = bindR (fa env st) fun x st1 => bindR (fb env st1) fun y st2 => g x y st2 := rfl
theorem un_def (g : D → Store → Res D) (fa : Ev D) (env : Env) (st : Store) : eUn g fa env st = bindR (fa env st) g := rfl
theorem call_def (g : List D → Store → Res D) (fa : Ev (List D)) (env : Env) (st : Store) : eCall g fa env st = bindR (fa env st) g := rfl
theorem nilA_def (env : Env) (st : Store) : aNil env st = .ok [] st := rfl
theorem consA_def (f : Ev D) (g : Ev (List D)) (env : Env) (st : Store) : aCons f g env st = bindR (f env st) fun d st1 => bindR (g env st1) fun ds st2 => .ok (d :: ds) st2 := rfl
theorem def_def (n : Nat) (m : List D → Store → Res D) (f : Ev (List D)) (env : Env) (st : Store) : eDef n m f env st = bindR (f env st) fun ds st1 => if ds.length = n then m ds st1 else .bad := rfl
theorem lt_line : ∀ {n : Nat}, n ≤ 1000 → n ≤ sizeLine := fun h => Nat.le_trans h (by rw [sizeLine_eq]; decide)
theorem tup_def (f : Ev (List D)) (env : Env) (st : Store) : eTup f env st = bindR (f env st) fun ds st1 => if ds.length ≤ sizeLine then .ok (.tup ds) st1 else .bad := rfl
theorem lst_def (f : Ev (List D)) (env : Env) (st : Store) : eLst f env st = bindR (f env st) fun ds st1 => if ds.length ≤ sizeLine then .ok (.ref st1.length) (st1 ++ [.lst ds]) else .bad := rfl
theorem asB_def (f : Ev D) (env : Env) (st : Store) : asB f env st = bindR (f env st) fun d st1 => match d with
  | .bl b => .ok b st1
  | _ => .bad := rfl
theorem asT_def (f : Ev D) (env : Env) (st : Store) : asT f env st = bindR (f env st) fun d st1 => match truD st1 d with
  | some b => .ok b st1
  | none => .bad := rfl
theorem notM_def (f : Ev Bool) (env : Env) (st : Store) : tNotM f env st = bindR (f env st) fun b st1 => .ok (!b) st1 := rfl
theorem andM_def (f g : Ev Bool) (env : Env) (st : Store) : tAndM f g env st = bindR (f env st) fun b st1 => if b = true then g env st1 else .ok false st1 := rfl
theorem orM_def (f g : Ev Bool) (env : Env) (st : Store) : tOrM f g env st = bindR (f env st) fun b st1 => if b = true then .ok true st1 else g env st1 := rfl
theorem not_def (f : Ev D) (env : Env) (st : Store) : eNot f env st = bindR (f env st) fun d st1 => match truD st1 d with
  | some b => .ok (.bl (!b)) st1
  | none => .bad := rfl
theorem and_def (f g : Ev D) (env : Env) (st : Store) : eAnd f g env st = bindR (f env st) fun d st1 => match truD st1 d with
  | some true => g env st1
  | some false => .ok d st1
  | none => .bad := rfl
theorem or_def (f g : Ev D) (env : Env) (st : Store) : eOr f g env st = bindR (f env st) fun d st1 => match truD st1 d with
  | some true => .ok d st1
  | some false => g env st1
  | none => .bad := rfl
theorem ifE_def (c : Ev Bool) (f g : Ev D) (env : Env) (st : Store) : eIf c f g env st = bindR (c env st) fun b st1 => if b = true then f env st1 else g env st1 := rfl
theorem gN_def (i : Nat) (d : D) (env : Env) (st : Store) : gN i d env st = .ok (env.set i (some d)) st := rfl
theorem gT_tup (n : Nat) (gs : List D → Env → Store → Res Env) (ds : List D) (env : Env) (st : Store) : gT n gs (.tup ds) env st = if ds.length = n then gs ds env st else .bad := rfl
theorem gsNil_def (env : Env) (st : Store) : gsNil [] env st = .ok env st := rfl
theorem gsCons_def (g : Tg) (gs : List D → Env → Store → Res Env) (d : D) (r : List D) (env : Env) (st : Store) : gsCons g gs (d :: r) env st = bindR (g d env st) fun env1 st1 => gs r env1 st1 := rfl
theorem gI_def (fo fi : Ev D) (d : D) (env : Env) (st : Store) : gI fo fi d env st = bindR (fo env st) fun o st1 => bindR (fi env st1) fun i st2 => match o, i with
  | .ref n, .int k => match st2[n]? with
    | some (.lst ds) => match ixN ds.length k with
      | some j => .ok env (st2.set n (.lst (ds.set j d)))
      | none => .bad
    | _ => .bad
  | _, _ => .bad := rfl
theorem add_ii (i j : Int) (st : Store) : gAdd (.int i) (.int j) st = .ok (.int (i + j)) st := rfl
theorem sub_ii (i j : Int) (st : Store) : MP.gSub (.int i) (.int j) st = .ok (.int (i - j)) st := rfl
theorem mul_ii (i j : Int) (st : Store) : gMul (.int i) (.int j) st = if CMul i j then .ok (.int (i * j)) st else .bad := rfl
theorem div_ii (i j : Int) (st : Store) : gDiv (.int i) (.int j) st = if CDiv i j then .ok (.int (i / j)) st else .bad := rfl
theorem mod_ii (i j : Int) (st : Store) : gMod (.int i) (.int j) st = if 0 < j then .ok (.int (i % j)) st else .bad := rfl
theorem pow_ii (i j : Int) (st : Store) : gPow (.int i) (.int j) st = if CPow i j then .ok (.int (i ^ j.toNat)) st else .bad := rfl
theorem neg_i (i : Int) (st : Store) : gNeg (.int i) st = .ok (.int (-i)) st := rfl
theorem cmp_ii (f : Int → Int → Bool) (i j : Int) (st : Store) : gCmp f (.int i) (.int j) st = .ok (.bl (f i j)) st := rfl
theorem eq_ii (n : Bool) (i j : Int) (st : Store) : gEq n (.int i) (.int j) st = .ok (.bl (decide (i = j) ^^ n)) st := rfl
theorem eq_ss (n : Bool) (i j : Str) (st : Store) : gEq n (.str i) (.str j) st = .ok (.bl (decide (i = j) ^^ n)) st := rfl
theorem eq_bb (n : Bool) (i j : Bool) (st : Store) : gEq n (.bl i) (.bl j) st = .ok (.bl (decide (i = j) ^^ n)) st := rfl
theorem int_i (i : Int) (st : Store) : gInt [.int i] st = .ok (.int i) st := rfl
theorem int_b (b : Bool) (st : Store) : gInt [.bl b] st = .ok (.int (if b then 1 else 0)) st := rfl
theorem ixD_ (x : D) (i : Int) (st : Store) (h : ∀ z, x ≠ .str z) : gIx x (.int i) st = ixSeq st i (itemsOf st x) := by
  cases x <;> first
    | rfl
    | exact absurd rfl (h _)
theorem ixT_ (ds : List D) (i : Int) (st : Store) : gIx (.tup ds) (.int i) st = match atI ds i with
  | some d => .ok d st
  | none => .bad := rfl
theorem ixR_ (n : Nat) (ds : List D) (i : Int) (st : Store) (h : st[n]? = some (.lst ds)) : gIx (.ref n) (.int i) st = match atI ds i with
  | some d => .ok d st
  | none => .bad := by
  show ixSeq st i (match st[n]? with | some (.lst ds) => some ds | _ => none) = _
  rw [h]
  rfl
theorem lenR_ (n : Nat) (ds : List D) (st : Store) (h : st[n]? = some (.lst ds)) : gLen [.ref n] st = .ok (.int ds.length) st := by
  show (match st[n]? with | some (.lst ds) => Res.ok (D.int ds.length) st | some (.dct kvs) => .ok (.int kvs.length) st | _ => .bad) = _
  rw [h]
theorem lenT_ (ds : List D) (st : Store) : gLen [.tup ds] st = .ok (.int ds.length) st := rfl
theorem list_def (x : D) (st : Store) : gList [x] st = match itemsOf st x with
  | some ds => .ok (.ref st.length) (st ++ [.lst ds])
  | none => .bad := rfl
theorem tuple_def (x : D) (st : Store) : gTuple [x] st = match itemsOf st x with
  | some ds => .ok (.tup ds) st
  | none => .bad := rfl
theorem itT_ (ds : List D) (st : Store) : itemsOf st (.tup ds) = some ds := rfl
theorem itS_ (ns : List Int) (st : Store) : itemsOf st (.scr ns) = some (ns.map D.int) := rfl
theorem itR_ (n : Nat) (ds : List D) (st : Store) (h : st[n]? = some (.lst ds)) : itemsOf st (.ref n) = some ds := by
  show (match st[n]? with | some (.lst ds) => some ds | _ => none) = _
  rw [h]
theorem at_zero {α : Type} (x : α) (r : List α) : atI (x :: r) 0 = some x := by
  have := atI_nat (xs := x :: r) (j := 0) (v := x) rfl
  exact this
theorem at_one {α : Type} (x y : α) (r : List α) : atI (x :: y :: r) 1 = some y := by
  have := atI_nat (xs := x :: y :: r) (j := 1) (v := y) rfl
  exact this
theorem at_two {α : Type} (x y z : α) (r : List α) : atI (x :: y :: z :: r) 2 = some z := by
  have := atI_nat (xs := x :: y :: z :: r) (j := 2) (v := z) rfl
  exact this
theorem at_three {α : Type} (x y z u : α) (r : List α) : atI (x :: y :: z :: u :: r) 3 = some u := by
  have := atI_nat (xs := x :: y :: z :: u :: r) (j := 3) (v := u) rfl
  exact this
theorem at_in {α : Type} (xs : List α) (k : Int) (h0 : 0 ≤ k) (h1 : k < xs.length) : atI xs k = xs[k.toNat]? := by
  obtain ⟨n, rfl⟩ := Int.eq_ofNat_of_zero_le h0
  have hl : n < xs.length := by omega
  rw [Int.toNat_natCast, List.getElem?_eq_getElem hl]
  exact atI_nat (List.getElem?_eq_getElem hl)
def lstOf : Option O → Option (List D)
  | some (.lst ds) => some ds
  | _ => none
def atR (o : Option D) (st : Store) : Res D := match o with
  | some d => .ok d st
  | none => .bad
theorem it_ref (n : Nat) (st : Store) : itemsOf st (.ref n) = lstOf st[n]? := by
  show (match st[n]? with | some (.lst ds) => some ds | _ => none) = _
  cases st[n]? with
  | none => rfl
  | some o => cases o <;> rfl
theorem lstOf_lst (ds : List D) : lstOf (some (.lst ds)) = some ds := rfl
theorem ix_ref' (n : Nat) (i : Int) (st : Store) : gIx (.ref n) (.int i) st = ixSeq st i (lstOf st[n]?) := by
  rw [← it_ref]
  rfl
theorem ixS_some (st : Store) (i : Int) (ds : List D) : ixSeq st i (some ds) = atR (atI ds i) st := by
  show (match atI ds i with | some d => Res.ok d st | none => .bad) = _
  cases atI ds i <;> rfl
theorem ix_tup' (ds : List D) (i : Int) (st : Store) : gIx (.tup ds) (.int i) st = atR (atI ds i) st := ixS_some st i ds
theorem atR_some (d : D) (st : Store) : atR (some d) st = .ok d st := rfl
def lenO (o : Option O) (st : Store) : Res D := match o with
  | some (.lst ds) => .ok (.int ds.length) st
  | some (.dct kvs) => .ok (.int kvs.length) st
  | _ => .bad
theorem len_ref' (n : Nat) (st : Store) : gLen [.ref n] st = lenO st[n]? st := by
  show (match st[n]? with | some (.lst ds) => Res.ok (D.int ds.length) st | some (.dct kvs) => .ok (.int kvs.length) st | _ => .bad) = _
  cases st[n]? with
  | none => rfl
  | some o => cases o <;> rfl
theorem lenO_lst (ds : List D) (st : Store) : lenO (some (.lst ds)) st = .ok (.int ds.length) st := rfl
def truO : Option O → Option Bool
  | some (.lst ds) => some (!ds.isEmpty)
  | some (.dct kvs) => some (!kvs.isEmpty)
  | _ => none
theorem tru_ref' (n : Nat) (st : Store) : truD st (.ref n) = truO st[n]? := by
  show (match st[n]? with | some (.lst ds) => some (!ds.isEmpty) | some (.dct kvs) => some (!kvs.isEmpty) | _ => none) = _
  cases st[n]? with
  | none => rfl
  | some o => cases o <;> rfl
theorem truO_lst (ds : List D) : truO (some (.lst ds)) = some (!ds.isEmpty) := rfl
/-- a store into a list -/
def putL (o : Option O) (n : Nat) (k : Int) (d : D) (env : Env) (st : Store) : Res Env := match o with
  | some (.lst ds) => match ixN ds.length k with
    | some j => .ok env (st.set n (.lst (ds.set j d)))
    | none => .bad
  | _ => .bad
def putD (o i d : D) (env : Env) (st : Store) : Res Env := match o, i with
  | .ref n, .int k => putL st[n]? n k d env st
  | _, _ => .bad
theorem gI_def' (fo fi : Ev D) (d : D) (env : Env) (st : Store) : gI fo fi d env st = bindR (fo env st) fun o st1 => bindR (fi env st1) fun i st2 => putD o i d env st2 := by
  unfold gI
  cases fo env st with
  | ok o st1 =>
    simp only [bindR_ok]
    cases fi env st1 with
    | ok i st2 =>
      simp only [bindR_ok]
      cases o <;> cases i <;> first
        | rfl
        | skip
    | _ => rfl
  | _ => rfl
theorem putD_ri (n : Nat) (k : Int) (d : D) (env : Env) (st : Store) : putD (.ref n) (.int k) d env st = putL st[n]? n k d env st := rfl
def setAt (o : Option Nat) (n : Nat) (ds : List D) (d : D) (env : Env) (st : Store) : Res Env := match o with
  | some j => .ok env (st.set n (.lst (ds.set j d)))
  | none => .bad
theorem putL_lst (ds : List D) (n : Nat) (k : Int) (d : D) (env : Env) (st : Store) : putL (some (.lst ds)) n k d env st = setAt (ixN ds.length k) n ds d env st := by
  show (match ixN ds.length k with | some j => Res.ok env (st.set n (.lst (ds.set j d))) | none => .bad) = _
  cases ixN ds.length k <;> rfl
theorem setAt_some (j n : Nat) (ds : List D) (d : D) (env : Env) (st : Store) : setAt (some j) n ds d env st = .ok env (st.set n (.lst (ds.set j d))) := rfl
theorem ixN_in (n : Nat) (k : Int) (h0 : 0 ≤ k) (h1 : k < n) : ixN n k = some k.toNat := by
  unfold ixN
  rw [if_pos h0, if_pos h1]
/-- tests -/
def boolR (d : D) (st : Store) : Res Bool := match d with
  | .bl b => .ok b st
  | _ => .bad
theorem asB_def' (f : Ev D) (env : Env) (st : Store) : asB f env st = bindR (f env st) boolR := rfl
theorem boolR_bl (b : Bool) (st : Store) : boolR (.bl b) st = .ok b st := rfl
def optR {α : Type} (o : Option α) (st : Store) : Res α := match o with
  | some b => .ok b st
  | none => .bad
theorem optR_some {α : Type} (b : α) (st : Store) : optR (some b) st = .ok b st := rfl
theorem asT_def' (f : Ev D) (env : Env) (st : Store) : asT f env st = bindR (f env st) fun d st1 => optR (truD st1 d) st1 := by
  unfold asT
  congr 1
  funext d st1
  cases truD st1 d <;> rfl
theorem not_def' (f : Ev D) (env : Env) (st : Store) : eNot f env st = bindR (f env st) fun d st1 => bindR (optR (truD st1 d) st1) fun b st2 => .ok (.bl (!b)) st2 := by
  unfold eNot
  congr 1
  funext d st1
  cases truD st1 d <;> rfl
theorem and_def' (f g : Ev D) (env : Env) (st : Store) : eAnd f g env st = bindR (f env st) fun d st1 => bindR (optR (truD st1 d) st1) fun b st2 => if b = true then g env st2 else .ok d st2 := by
  unfold eAnd
  congr 1
  funext d st1
  cases truD st1 d with
  | none => rfl
  | some b => cases b <;> rfl
theorem or_def' (f g : Ev D) (env : Env) (st : Store) : eOr f g env st = bindR (f env st) fun d st1 => bindR (optR (truD st1 d) st1) fun b st2 => if b = true then .ok d st2 else g env st2 := by
  unfold eOr
  congr 1
  funext d st1
  cases truD st1 d with
  | none => rfl
  | some b => cases b <;> rfl
def blR (neg : Bool) (o : Option Bool) (st : Store) : Res D := match o with
  | some b => .ok (.bl (b ^^ neg)) st
  | none => .bad
theorem blR_some (neg b : Bool) (st : Store) : blR neg (some b) st = .ok (.bl (b ^^ neg)) st := rfl
theorem gEq_def (n : Bool) (x y : D) (st : Store) : gEq n x y st = blR n (eqD st x y) st := by
  unfold gEq
  cases eqD st x y <;> rfl
theorem gIn_def (n : Bool) (x y : D) (st : Store) : gIn n x y st = blR n (MP.inD st x y) st := by
  unfold gIn
  cases MP.inD st x y <;> rfl
theorem tupR_def (x : D) (st : Store) : gTuple [x] st = bindR (optR (itemsOf st x) st) fun ds st1 => .ok (.tup ds) st1 := by
  show (match itemsOf st x with | some ds => Res.ok (D.tup ds) st | none => .bad) = _
  cases itemsOf st x <;> rfl
theorem lstR_def (x : D) (st : Store) : gList [x] st = bindR (optR (itemsOf st x) st) fun ds st1 => .ok (.ref st1.length) (st1 ++ [O.lst ds]) := by
  show (match itemsOf st x with | some ds => Res.ok (D.ref st.length) (st ++ [O.lst ds]) | none => .bad) = _
  cases itemsOf st x <;> rfl
/-- x in (texts) -/
theorem in_list_str {st : Store} {n : Nat} {x : Str} {ds : List D} {vs : List V} (h : st[n]? = some (.lst ds)) (hv : ds.mapM flat = some vs) : MP.inD st (.str x) (.ref n) = some (inV (.str x) vs) := by
  unfold MP.inD
  rw [it_ref, h]
  show (match (match flat (.str x), ds.mapM flat with | some v, some vs => some (inV v vs) | _, _ => none) with | some b => some b | none => _) = _
  rw [hv]
  rfl
theorem tru_non (st : Store) : truD st .non = some false := rfl
theorem tru_bl (b : Bool) (st : Store) : truD st (.bl b) = some b := rfl
theorem tru_int (i : Int) (st : Store) : truD st (.int i) = some (i != 0) := rfl
theorem tru_tup (ds : List D) (st : Store) : truD st (.tup ds) = some (!ds.isEmpty) := rfl
theorem tru_ref (n : Nat) (ds : List D) (st : Store) (h : st[n]? = some (.lst ds)) : truD st (.ref n) = some (!ds.isEmpty) := by
  show (match st[n]? with | some (.lst ds) => some (!ds.isEmpty) | some (.dct kvs) => some (!kvs.isEmpty) | _ => none) = _
  rw [h]
theorem isi_of {x : D} {t n : String} {b : Bool} {st : Store} (h : tyOfD st x = some t) (k : kitB t n = some b) : gIsi [x, .ty n] st = .ok (.bl b) st := by
  show (match tyOfD st x with | some t => (match kitB t n with | some b => Res.ok (D.bl b) st | none => .bad) | none => .bad) = _
  rw [h]
  show (match kitB t n with | some b => Res.ok (D.bl b) st | none => .bad) = _
  rw [k]
theorem isi_bb (a : Bool) (st : Store) : gIsi [.bl a, .ty "bool"] st = .ok (.bl true) st := isi_of (t := "bool") rfl (by decide +kernel)
theorem isi_ii (a : Int) (st : Store) : gIsi [.int a, .ty "int"] st = .ok (.bl true) st := isi_of (t := "int") rfl (by decide +kernel)
theorem isi_ib (a : Int) (st : Store) : gIsi [.int a, .ty "bool"] st = .ok (.bl false) st := isi_of (t := "int") rfl (by decide +kernel)
theorem isi_tt (ds : List D) (st : Store) : gIsi [.tup ds, .ty "tuple"] st = .ok (.bl true) st := isi_of (t := "tuple") rfl (by decide +kernel)
theorem isi_ss (x : Str) (st : Store) : gIsi [.str x, .ty "str"] st = .ok (.bl true) st := isi_of (t := "str") rfl (by decide +kernel)
theorem isi_ll (n : Nat) (ds : List D) (st : Store) (h : st[n]? = some (.lst ds)) : gIsi [.ref n, .ty "list"] st = .ok (.bl true) st := by
  refine isi_of (t := "list") ?_ (by decide +kernel)
  show (match st[n]? with | some (.lst _) => some "list" | some (.dct _) => some "dict" | _ => none) = _
  rw [h]
/-- a turn's end -/
def loopK (r : SR) (k : Env → Store → SR) : SR := match r with
  | .next e st => k e st
  | .cnt e st => k e st
  | .brk e st => .next e st
  | r => r
theorem loopK_next (e : Env) (st : Store) (k : Env → Store → SR) : loopK (.next e st) k = k e st := rfl
theorem loopK_ret (d : D) (st : Store) (k : Env → Store → SR) : loopK (.ret d st) k = .ret d st := rfl
theorem for_nil (s : Src) (g : Tg) (b : Env → Store → SR) (env : Env) (st : Store) (h : s.Ok st) : forM s g b [] env st = .next env st := by
  unfold forM
  rw [if_pos h]
theorem for_cons (s : Src) (g : Tg) (b : Env → Store → SR) (d : D) (ds : List D) (env : Env) (st : Store) (h : s.Ok st) :
    forM s g b (d :: ds) env st = bindS env (g d env st) fun env1 st1 => loopK (b env1 st1) fun e st2 => forM s g b ds e st2 := by
  rw [forM]
  rw [if_pos h]
  cases g d env st with
  | ok env1 st1 =>
    show (match b env1 st1 with | .next env2 st2 => _ | .cnt env2 st2 => _ | .brk env2 st2 => _ | r => r) = loopK (b env1 st1) _
    cases b env1 st1 <;> rfl
  | _ => rfl
theorem ok_vals (ds : List D) (st : Store) : Src.Ok { items := ds } st := trivial
theorem ok_obj (ds : List D) (n : Nat) (st : Store) (h : st[n]? = some (.lst ds)) : Src.Ok { items := ds, obj := some n } st := h
def srcO (o : Option O) (n : Nat) : Option Src := match o with
  | some (.lst ds) => some { items := ds, obj := some n }
  | _ => none
theorem src_ref (n : Nat) (st : Store) : srcOf st (.ref n) = srcO st[n]? n := by
  show (match st[n]? with | some (.lst ds) => some (Src.mk ds (some n) []) | _ => none) = _
  cases st[n]? with
  | none => rfl
  | some o => cases o <;> rfl
theorem srcO_lst (ds : List D) (n : Nat) : srcO (some (.lst ds)) n = some { items := ds, obj := some n } := rfl
theorem src_tup (ds : List D) (st : Store) : srcOf st (.tup ds) = some { items := ds } := rfl
theorem fseq_def (f : Ev D) (env : Env) (st : Store) : fSeq f env st = bindR (f env st) fun d st1 => optR (srcOf st1 d) st1 := by
  unfold fSeq
  congr 1
  funext d st1
  cases srcOf st1 d <;> rfl
end MP

/-! list comprehensions -/
namespace MP
open PySem PySem.Spec PyProof.Rows L2
variable [TBs]
/-- in a block no exception leaves -/
def bindX {α β : Type} (r : Res α) (k : α → Store → Res β) : Res β := match r with
  | .ok a st => k a st
  | _ => .bad
theorem bindX_ok {α β : Type} (a : α) (st : Store) (k : α → Store → Res β) : bindX (.ok a st) k = k a st := rfl
section
variable {K : PySem.W.Frag} {mg : Str → Option Value} {E E' : XK} {α β γ δ : Type} {R : RL α β} {R2 : RL γ δ} {ρ ρ' : List Addr} {H H' : Hp} {st st' : Store}
theorem Post.splitX {Q : δ → Hp → Prop} {r : Res α} {k : α → Store → Res γ} {Q1 : β → Hp → Prop} (h : Post K mg R2 E ρ H Q (bindX r k))
    (hk : ∀ a st1 ρ1 H1 v, Go K mg ρ H ρ1 st1 H1 → R ρ1 H1 a v → Post K mg R2 E ρ1 H1 Q (k a st1) → Q1 v H1) : Post K mg R E' ρ H Q1 r := by
  cases r with
  | ok a st2 => exact fun ρ1 H1 v g q => hk a st2 ρ1 H1 v g q (Post.from g h)
  | exc c d st2 => exact h.elim
  | bad => exact h
end
/-- a target whose slots are among vs -/
def RealGW (K : PySem.W.Frag) (mg : Str → Option Value) (E : XK) (vs : List Nat) (t : TG) (g : Tg) : Prop := ∀ ρ env st σ H v d (Q : L2.St → Hp → Prop), Sim K mg ρ st H → EnvR K mg ρ H env σ → Rep K mg ρ H d v →
  Post K mg (fun ρ H e σ' => EnvR K mg ρ H e σ' ∧ wipe σ' vs = wipe σ vs) E ρ H Q (g d env st) → t v σ H Q
def RealGsW (K : PySem.W.Frag) (mg : Str → Option Value) (E : XK) (vs : List Nat) (t : TGs) (g : List D → Env → Store → Res Env) : Prop := ∀ ρ env st σ H us ds (Q : L2.St → Hp → Prop), Sim K mg ρ st H → EnvR K mg ρ H env σ → Reps K mg ρ H ds us →
  Post K mg (fun ρ H e σ' => EnvR K mg ρ H e σ' ∧ wipe σ' vs = wipe σ vs) E ρ H Q (g ds env st) → t us σ H Q
structure MGW (X : Cx) (E : XK) (vs : List Nat) (e : Expr) (g : Tg) : Prop where
  ex : ∃ t, PG X e t ∧ RealGW X.K X.mg E vs t g
structure MGsW (X : Cx) (E : XK) (vs : List Nat) (es : List Expr) (g : List D → Env → Store → Res Env) : Prop where
  ex : ∃ t, PGs X es t ∧ RealGsW X.K X.mg E vs t g
theorem wipe_get (σ : L2.St) (j : Nat) : ∀ vs : List Nat, (wipe σ vs)[j]? = if j ∈ vs ∧ j < σ.length then some none else σ[j]?
  | [] => by simp [wipe]
  | v :: vs => by
    unfold wipe
    by_cases h : v = j
    · subst h
      by_cases hl : v < σ.length
      · rw [List.getElem?_set_self (by rw [wipe_length]; exact hl)]
        simp [hl]
      · rw [List.getElem?_eq_none (by simpa [wipe_length] using hl)]
        simp [hl]
    · rw [List.getElem?_set_ne h, wipe_get σ j vs]
      simp [Ne.symm h]
theorem wipe_set {σ : L2.St} {i : Nat} {x : Option V} {vs : List Nat} (h : i ∈ vs) : wipe (σ.set i x) vs = wipe σ vs := by
  apply List.ext_getElem?
  intro j
  rw [wipe_get, wipe_get, List.length_set]
  by_cases hj : j ∈ vs ∧ j < σ.length
  · rw [if_pos hj, if_pos hj]
  · rw [if_neg hj, if_neg hj]
    by_cases e : i = j
    · subst e
      have : ¬ i < σ.length := fun z => hj ⟨h, z⟩
      rw [List.getElem?_eq_none (by simpa using this), List.getElem?_eq_none (by simpa using this)]
    · rw [List.getElem?_set_ne e]
section
variable {X : Cx} {E : XK} {pos : Pos} {vs : List Nat}
theorem mgw_name (i : Nat) {x : Str} (hv : i ∈ vs) (hN : X.N.Nodup) (hi : X.N[i]? = some x := by rfl) (hx : Loc X.env.scope x := by first | exact Or.inl rfl | exact Or.inr rfl) (hf : X.fn x = true ∨ X.env.scope.names.lookup x = some .local := by first | exact .inl rfl | exact .inr rfl | assumption) : MGW X E vs (.Name x pos) (gN i) :=
  ⟨_, pg_name hN hi hx hf, fun ρ env st σ H v d Q s e r h => h ρ H (σ.set i (some v)) (.refl s) ⟨envR_set e r i, wipe_set hv⟩⟩
theorem mgsw_nil : MGsW X E vs [] gsNil := by
  refine ⟨_, pgs_nil, fun ρ env st σ H us ds Q s e r h => ?_⟩
  cases r with
  | nil => exact ⟨rfl, h ρ H σ (.refl s) ⟨e, rfl⟩⟩
  | cons _ _ => exact h.elim
theorem mgsw_cons {e : Expr} {es : List Expr} {g : Tg} {gs : List D → Env → Store → Res Env} (h1 : MGW X E vs e g) (h2 : MGsW X E vs es gs) (hs : (assignEach (e :: es) X.env).map (·.2) = assign e X.env :: (assignEach es X.env).map (·.2) := by rfl) : MGsW X E vs (e :: es) (gsCons g gs) := by
  obtain ⟨t1, p1, r1⟩ := h1
  obtain ⟨t2, p2, r2⟩ := h2
  refine ⟨_, pgs_cons p1 p2 hs, fun ρ env st σ H us ds Q s e r h => ?_⟩
  cases r with
  | nil => exact h.elim
  | cons r t => exact ⟨_, _, rfl, r1 ρ env st σ H _ _ _ s e r (Post.split h fun env1 st1 ρ1 H1 σ1 g1 q1 h1 => r2 ρ1 env1 st1 σ1 H1 _ _ Q g1.sim q1.1 (t.mono g1.pre g1.ext) (by rw [q1.2]; exact h1))⟩
theorem mgw_tup {es : List Expr} {k : Nat} {gs : List D → Env → Store → Res Env} (n : Nat) (hc : X.calm = true) (h : MGsW X E vs es gs)
    (hn : (assignEach es X.env).length = n := by rfl) (hst : (assignEach es X.env).findIdx? (·.1) = none := by rfl) : MGW X E vs (.Tuple es k pos) (gT n gs) := by
  obtain ⟨t, p, q⟩ := h
  refine ⟨_, pg_tup hc p hn hst, fun ρ env st σ H v d Q s e r h => ?_⟩
  cases r with
  | @tup a xs ds hs rs =>
    simp only [gT] at h
    by_cases hl : ds.length = n
    · rw [if_pos hl] at h
      exact ⟨a, xs, rfl, hs, by rw [← rs.length]; exact hl, q ρ env st σ H _ _ Q s e rs h⟩
    · rw [if_neg hl] at h
      exact h.elim
  | _ => exact h.elim
end
/-- a clause's tests -/
structure MTs (X : Cx) (E : XK) (ifs : List Expr) (f : Ev Bool) : Prop where
  ex : ∃ t, PTs X ifs t ∧ Real X.K X.mg (REq Bool) E t f
def tYesM : Ev Bool := fun _ st => .ok true st
theorem mts_nil {X : Cx} {E : XK} : MTs X E [] tYesM := ⟨_, pts_nil, fun ρ env st σ H Q s e h => h.done s rfl⟩
theorem mts_one {X : Cx} {E : XK} {c : Expr} {f : Ev Bool} (h : MT X E c f) : MTs X E [c] f := let ⟨t, p, r⟩ := h; ⟨t, pts_one p, r⟩
def wipeD (env : Env) : List Nat → Env
  | [] => env
  | v :: vs => (wipeD env vs).set v none
theorem wipe_R {K : PySem.W.Frag} {mg : Str → Option Value} {ρ : List Addr} {H : Hp} {env : Env} {σ : L2.St} (e : EnvR K mg ρ H env σ) : ∀ vs : List Nat, EnvR K mg ρ H (wipeD env vs) (wipe σ vs)
  | [] => e
  | v :: vs => paired_set (fun x q => by cases q) v (wipe_R e vs)
/-- the new list grows -/
def grow (id : Nat) (y : D) (st : Store) : Res Unit := match st[id]? with
  | some (.lst acc) => if acc.length < sizeLine then .ok () (st.set id (.lst (acc ++ [y]))) else .bad
  | _ => .bad
open Classical in
noncomputable def lcM (s : Src) (g : Tg) (c : Ev Bool) (f : Ev D) (id : Nat) (env : Env) : List D → Store → Res Unit
  | [], st => if s.Ok st then .ok () st else .bad
  | d :: ds, st => if s.Ok st then bindX (g d env st) fun env1 st1 => bindX (c env1 st1) fun b st2 => if b = true then bindX (f env1 st2) fun y st3 => bindX (grow id y st3) fun _ st4 => lcM s g c f id env ds st4 else lcM s g c f id env ds st2 else .bad
noncomputable def eLc (fi : Ev Src) (vs : List Nat) (g : Tg) (c : Ev Bool) (f : Ev D) : Ev D := fun env st => bindR (fi env st) fun s st1 => bindX (lcM s g c f st1.length (wipeD env vs) s.items (st1 ++ [.lst []])) fun _ st2 => .ok (.ref st1.length) st2
theorem real_lc {K : PySem.W.Frag} {mg : Str → Option Value} {E : XK} {wi : TI} {tg : TG} {tt : TT} {te : TE} {vs : List Nat} {fi : Ev Src} {g : Tg} {c : Ev Bool} {f : Ev D} (ri : Real K mg (RIt K mg) E wi fi) (rg : RealGW K mg E0 vs tg g) (rc : Real K mg (REq Bool) E0 tt c) (rf : Real K mg (Rep K mg) E0 te f) :
    Real K mg (Rep K mg) E (tLc wi tg tt te vs) (eLc fi vs g c f) := by
  intro ρ env st σ H Q s e h
  refine ri ρ env st σ H _ s e (h.split fun src st1 ρ1 H1 J g1 qJ h1 => ?_)
  intro D hD
  have gn := Go.new (o := .lst []) (u := .lst []) g1.sim hD (.lst .nil)
  refine ⟨fun i m H' => i ≤ src.items.length ∧ m = src.items.length - i ∧ ∃ ρ' st', Go K mg (ρ1 ++ [D]) (upd H1 D (.lst [])) ρ' st' H' ∧ Post K mg (Rep K mg) E ρ' H' Q (bindX (lcM src g c f st1.length (wipeD env vs) (src.items.drop i) st') fun _ st2 => .ok (.ref st1.length) st2),
    ⟨_, Nat.zero_le _, rfl, _, _, .refl gn.sim, Post.from gn h1⟩, fun i m H' hW => ?_⟩
  obtain ⟨hi, rfl, ρ2, st2, g2, h2⟩ := hW
  have gg := gn.trans g2
  have eW : EnvR K mg ρ2 H' (wipeD env vs) (wipe σ vs) := ((wipe_R e vs).mono g1.pre g1.ext).mono gg.pre gg.ext
  have rD : ∀ {ρ' st' H'}, Go K mg (ρ1 ++ [D]) (upd H1 D (.lst [])) ρ' st' H' → Rep K mg ρ' H' (.ref st1.length) (.ref D) := fun g' => Rep.mono g'.pre g'.ext (.ref (by rw [← g1.sim.len]; simp))
  by_cases hok : src.Ok st2
  · obtain ⟨q1, q2⟩ := qJ ρ2 st2 H' gg hok
    by_cases hlt : i < src.items.length
    · rw [List.drop_eq_getElem_cons hlt] at h2
      obtain ⟨go, yld⟩ := q1 i _ (List.getElem?_eq_getElem hlt)
      refine .inr ⟨go, fun H3 => i + 1 ≤ src.items.length ∧ ∃ ρ' st', Go K mg (ρ1 ++ [D]) (upd H1 D (.lst [])) ρ' st' H3 ∧ Post K mg (Rep K mg) E ρ' H3 Q (bindX (lcM src g c f st1.length (wipeD env vs) (src.items.drop (i + 1)) st') fun _ st2 => .ok (.ref st1.length) st2), fun H3 hN => ?_, fun x H3 hy => ?_⟩
      · exact ⟨src.items.length - (i + 1), by omega, hN.1, rfl, hN.2⟩
      · obtain ⟨g3, rx⟩ := yld x H3 hy
        simp only [lcM, if_pos hok] at h2
        have h3 := Post.from g3 h2
        refine rg ρ2 _ st2 _ H3 x _ _ g3.sim (eW.mono g3.pre g3.ext) rx ?_
        have ass : ∀ {α β γ : Type} (r : Res α) (k1 : α → Store → Res β) (k2 : β → Store → Res γ), bindX (bindX r k1) k2 = bindX r fun a s => bindX (k1 a s) k2 := fun r k1 k2 => by cases r <;> rfl
        rw [ass] at h3
        refine h3.splitX fun env4 st4 ρ4 H4 σ4 g4 q4 h4 => ⟨by rw [q4.2]; exact wipe_wipe _ _, ?_⟩
        rw [ass] at h4
        refine rc ρ4 env4 st4 σ4 H4 _ g4.sim q4.1 (h4.splitX fun b st5 ρ5 H5 b' g5 q5 h5 => ?_)
        cases q5
        have g35 := g2.trans (g3.trans (g4.trans g5))
        cases b with
        | false => exact ⟨hlt, ρ5, st5, g35, h5⟩
        | true =>
          rw [if_pos rfl] at h5 ⊢
          rw [ass] at h5
          refine rf ρ5 env4 st5 σ4 H5 _ g5.sim (q4.1.mono g5.pre g5.ext) (h5.splitX fun y st6 ρ6 H6 yv g6 q6 h6 => ?_)
          have g36 := g35.trans g6
          unfold grow at h6
          cases e6 : st6[st1.length]? with
          | none => simp only [e6] at h6; exact h6.elim
          | some o =>
            obtain ⟨a, ho, z, w, u, rr⟩ := g6.sim.get e6 (rD g36)
            cases z
            cases rr with
            | @lst acc xs rs =>
              simp only [e6] at h6
              by_cases hz : acc.length < sizeLine
              · rw [if_pos hz] at h6
                have g7 := Go.set (o' := .lst (acc ++ [y])) (u' := .lst (xs ++ [yv])) g6.sim e6 w u (.lst rs) (.lst (rs.append (.cons q6 .nil)))
                exact ⟨xs, u, by rw [← rs.length]; exact hz, hlt, ρ6, _, g36.trans g7, Post.from g7 h6⟩
              · rw [if_neg hz] at h6
                exact h6.elim
            | _ => simp only [e6] at h6; exact h6.elim
    · have ei : src.items.drop i = [] := List.drop_eq_nil_of_le (Nat.le_of_not_lt hlt)
      rw [ei] at h2
      simp only [lcM, if_pos hok] at h2
      exact .inl ⟨q2 i (Nat.le_of_not_lt hlt), h2 ρ2 H' (.ref D) (.refl g2.sim) (rD g2)⟩
  · exfalso
    cases hd : src.items.drop i with
    | nil => rw [hd] at h2; simp only [lcM, if_neg hok] at h2; exact h2
    | cons d ds => rw [hd] at h2; simp only [lcM, if_neg hok] at h2; exact h2
where
  wipe_wipe (σ : L2.St) (vs : List Nat) : wipe (wipe σ vs) vs = wipe σ vs := by
    apply List.ext_getElem?
    intro j
    rw [wipe_get, wipe_get, wipe_length]
    by_cases hj : j ∈ vs ∧ j < σ.length
    · rw [if_pos hj, if_pos hj]
    · rw [if_neg hj, if_neg hj]
/-- the reading that a mirror serves at best -/
def tOf {α β : Type} (K : PySem.W.Frag) (mg : Str → Option Value) (R : RL α β) (E : XK) (f : Ev α) : L2.St → Hp → (β → Hp → Prop) → Prop := fun σ H Q => ∃ ρ env st, Sim K mg ρ st H ∧ EnvR K mg ρ H env σ ∧ Post K mg R E ρ H Q (f env st)
theorem real_tOf {α β : Type} {K : PySem.W.Frag} {mg : Str → Option Value} {R : RL α β} {E : XK} {f : Ev α} : Real K mg R E (tOf K mg R E f) f := fun ρ env st σ H Q s e h => ⟨ρ, env, st, s, e, h⟩
theorem tOf_imp {α β : Type} {K : PySem.W.Frag} {mg : Str → Option Value} {R : RL α β} {E : XK} {f : Ev α} {t : L2.St → Hp → (β → Hp → Prop) → Prop} (r : Real K mg R E t f) : ∀ σ H Q, tOf K mg R E f σ H Q → t σ H Q := fun σ H Q ⟨ρ, env, st, s, e, h⟩ => r ρ env st σ H Q s e h
theorem ME.canon {X : Cx} {E : XK} {e : Expr} {f : Ev D} (h : ME X E e f) : PE X e (tOf X.K X.mg (Rep X.K X.mg) E f) := by
  obtain ⟨t, p, r⟩ := h
  exact ⟨fun pins s σ H Q I q => p.run pins s σ H Q I (tOf_imp r σ H Q q)⟩
theorem MTs.canon {X : Cx} {E : XK} {es : List Expr} {f : Ev Bool} (h : MTs X E es f) : PTs X es (tOf X.K X.mg (REq Bool) E f) := by
  obtain ⟨t, p, r⟩ := h
  exact ⟨fun pins s σ H Q I q => p.run pins s σ H Q I (tOf_imp r σ H Q q)⟩
def tOfG (K : PySem.W.Frag) (mg : Str → Option Value) (E : XK) (vs : List Nat) (g : Tg) : TG := fun v σ H Q => ∃ ρ env st d, Sim K mg ρ st H ∧ EnvR K mg ρ H env σ ∧ Rep K mg ρ H d v ∧ Post K mg (fun ρ H e σ' => EnvR K mg ρ H e σ' ∧ wipe σ' vs = wipe σ vs) E ρ H Q (g d env st)
theorem MGW.canon {X : Cx} {E : XK} {vs : List Nat} {e : Expr} {g : Tg} (h : MGW X E vs e g) : PG X e (tOfG X.K X.mg E vs g) := by
  obtain ⟨t, p, r⟩ := h
  exact ⟨fun pins s σ H v u Q I rv ⟨ρ, env, st, d, s0, e0, rd, q⟩ => p.run pins s σ H v u Q I rv (r ρ env st σ H v d Q s0 e0 rd q)⟩
section
variable {X : Cx} {E : XK} {pos : Pos}
theorem me_lc {elt tg iter : Expr} {ifs : List Expr} {scope : Scope} (own : List (Str × Nat)) {fi : Ev Src} {g : Tg} {c : Ev Bool} {f : Ev D} (hc : X.calm = true) (hN : X.N.Nodup) (hi : MI X E tg iter fi) (ok : BlkOk X.N X.env.scope scope own)
    (hg : ∀ (s : Shared) (H : Hp) (C : Addr) (cl : List (Str × Addr)) (fp : List Addr), MGW (X.blk s H scope (compEnvC scope cl C X.env) fp) E0 (own.map (·.2)) tg g) (ht : ∀ (s : Shared) (H : Hp) (C : Addr) (cl : List (Str × Addr)) (fp : List Addr), MTs (X.blk s H scope (compEnvC scope cl C X.env) fp) E0 ifs c)
    (he : ∀ (s : Shared) (H : Hp) (C : Addr) (cl : List (Str × Addr)) (fp : List Addr), ME (X.blk s H scope (compEnvC scope cl C X.env) fp) E0 elt f) (hs : ∀ x, foldedSetIterable iter X.env x = pure x := by intro _; rfl) :
    ME X E (.ListComp elt [⟨tg, iter, ifs, 0⟩] scope pos) (eLc fi (own.map (·.2)) g c f) := by
  obtain ⟨ti, pi, ri⟩ := hi
  exact ⟨_, pe_lc (g := tOfG X.K X.mg E0 (own.map (·.2)) g) (tt := tOf X.K X.mg (REq Bool) E0 c) (te := tOf X.K X.mg (Rep X.K X.mg) E0 f) hc hN pi ok (fun s H C cl fp => (hg s H C cl fp).canon) (fun s H C cl fp => (ht s H C cl fp).canon) (fun s H C cl fp => (he s H C cl fp).canon) hs,
    real_lc ri (fun ρ env st σ H v d Q s e r h => ⟨ρ, env, st, d, s, e, r, h⟩) real_tOf real_tOf⟩
theorem ms_setLc (i : Nat) {y : Str} {py spos : Pos} {elt tg iter : Expr} {ifs : List Expr} {scope : Scope} (own : List (Str × Nat)) {fi : Ev Src} {g : Tg} {c : Ev Bool} {f : Ev D} (hc : X.calm = true) (hN : X.N.Nodup)
    (hsw : swapsWith (.ListComp elt [⟨tg, iter, ifs, 0⟩] scope pos) (some (.Name y py)) spos.line X.env = pure true) (hi : MI X E tg iter fi) (ok : BlkOk X.N X.env.scope scope own)
    (hg : ∀ (s : Shared) (H : Hp) (C : Addr) (cl : List (Str × Addr)) (fp : List Addr), MGW (X.blk s H scope (compEnvC scope cl C X.env) fp) E0 (own.map (·.2)) tg g) (ht : ∀ (s : Shared) (H : Hp) (C : Addr) (cl : List (Str × Addr)) (fp : List Addr), MTs (X.blk s H scope (compEnvC scope cl C X.env) fp) E0 ifs c)
    (he : ∀ (s : Shared) (H : Hp) (C : Addr) (cl : List (Str × Addr)) (fp : List Addr), ME (X.blk s H scope (compEnvC scope cl C X.env) fp) E0 elt f) (hy : X.N[i]? = some y := by rfl) (hyl : X.env.scope.names.lookup y = some .local := by rfl) (hs : ∀ x, foldedSetIterable iter X.env x = pure x := by intro _; rfl) :
    MS X E (.Assign [.Name y py] (.ListComp elt [⟨tg, iter, ifs, 0⟩] scope pos) spos) (sAsg (eLc fi (own.map (·.2)) g c f) (gN i)) := by
  obtain ⟨ti, pi, ri⟩ := hi
  exact ⟨_, ps_setLc (g := tOfG X.K X.mg E0 (own.map (·.2)) g) (tt := tOf X.K X.mg (REq Bool) E0 c) (te := tOf X.K X.mg (Rep X.K X.mg) E0 f) hc hN hy hyl hsw pi ok (fun s H C cl fp => (hg s H C cl fp).canon) (fun s H C cl fp => (ht s H C cl fp).canon) (fun s H C cl fp => (he s H C cl fp).canon) hs,
    real_asg (real_lc ri (fun ρ env st σ H v d Q s e r h => ⟨ρ, env, st, d, s, e, r, h⟩) real_tOf real_tOf) fun ρ env st σ H v d Q s e r h => h.done s (envR_set e r i)⟩
end
end MP

/-! generator expressions: how one runs, turn by turn, in the hands of a consumer -/
namespace MP
open PySem PySem.Spec PyProof.Rows L2
/-- where a generator expression runs: its own frame over the frames of its consumer -/
abbrev gX (X : Cx) (A : Around) (s : Shared) (H : Hp) (ge : PySem.Env) (fp : List Addr) (pn : List (Addr × Obj)) : Cx :=
  { X with A := A, s_0 := s, H_0 := H, env := ge, outer := X.stack, stack := ge :: X.stack, ex := fp, fn := fun _ => false, calm := true, pn := pn, xe := fun _ _ => False }
/-- the scope of a generator expression -/
structure GScp (N : List Str) (sc scope : Scope) (own : List (Str × Nat)) : Prop where
  blk : BlkOk N sc scope own
  co : scope.isCoroutine = false
  cell : ∀ y ∈ scope.names, y.2 ≠ .cell
  dot : scope.names.lookup (".0" : Str) = some NameKind.local
theorem clo_old {cells : List (Str × Addr)} {names : List (Str × NameKind)} {x : Str} {c : Addr} (hf : ∀ y ∈ names, y.2 = .free → ∃ c, cells.lookup y.1 = some c) (e : (cloFrom cells names []).lookup x = some c) : (x, NameKind.free) ∈ names ∧ cells.lookup x = some c := by
  rcases cloFrom_mem (PySem.mem_of_lookup e) with hm | ⟨h1, h2⟩
  · cases hm
  · obtain ⟨c1, hc⟩ := hf _ h1 rfl
    refine ⟨h1, ?_⟩
    rw [hc] at h2 ⊢
    rw [h2]
    rfl
/-- the frame has just been made -/
theorem gen_born {X : Cx} {pins : List (Addr × Obj)} {σ : L2.St} {H : Hp} {s s' : Shared} {scope : Scope} {own : List (Str × Nat)} {fp : List Addr} {ge : PySem.Env} {A : Around} {a : Addr} {go : Obj} {m : Str → Option Value} {cp : List (Addr × Obj)} (I : Inv X pins σ H s) (ok : GScp X.N X.env.scope scope own) (hN : X.N.Nodup) (hfp : ∀ b ∈ fp, FpOk X pins H b ∧ b < s.heap.objs.size)
    (g1 : ge.scope = scope) (g2 : ge.globals = X.env.globals) (g3 : ge.builtins = builtinsNs) (g4 : ge.cells = cloFrom X.env.cells scope.names []) (g5 : ge.frame = some ge.locals) (hA : A.handled = none) (hfr : A.frames = some (ge :: X.stack))
    (hL : s.heap.objs.size ≤ ge.locals) (kp : ∀ b o, s.heap.get? b = some o → s'.heap.get? b = some o) (ho : s'.os = s.os) (hb : AllBare s'.gens) (hNs : s'.heap.Ns ge.locals m)
    (hp : ∀ p ∈ (a, go) :: cp, s.heap.objs.size ≤ p.1 ∧ p.1 ≠ ge.locals ∧ s'.heap.get? p.1 = some p.2 ∧ ∀ v, p.2.data ≠ .cell v) :
    Inv (gX X A s H ge fp [(a, go)]) cp (wipe σ (own.map (·.2))) H s' := by
  have hfree : ∀ y ∈ scope.names, y.2 = .free → ∃ c, X.env.cells.lookup y.1 = some c := fun y hy e => by
    rcases ok.blk.free y hy e with z | z
    · exact I.ok.has _ (.inl z)
    · exact I.ok.has _ (.inr z)
  have old : ∀ {x : Str} {c : Addr}, ge.cells.lookup x = some c → (x, NameKind.free) ∈ scope.names ∧ X.env.cells.lookup x = some c := fun {x c} e => by
    rw [g4] at e
    exact clo_old hfree e
  have kd : ∀ x, ge.kindOf x = scope.names.lookup x := fun x => by
    unfold PySem.Env.kindOf
    rw [g1]
  have nocell : ∀ {x : Str}, scope.names.lookup x ≠ some .cell := fun {x} e => ok.cell _ (PySem.mem_of_lookup e) rfl
  have got : ∀ {x : Str}, scope.names.lookup x = some .free → ∃ c, ge.cells.lookup x = some c := fun {x} e => by
    obtain ⟨c, hc⟩ := mem_lookup (cloFrom_has (cells := X.env.cells) (acc := []) (PySem.mem_of_lookup e))
    exact ⟨c, by rw [g4]; exact hc⟩
  have younger : ∀ {b : Addr} {o : Obj}, s.heap.get? b = some o → b ≠ ge.locals := fun {b o} e z => absurd (Nat.lt_of_lt_of_le (Heap.lt_size e) (by rw [z]; exact hL)) (Nat.lt_irrefl _)
  refine ⟨⟨I.ok.mod, by show ge.scope.kind = _; rw [g1]; exact ok.blk.kind, g2.trans I.ok.glob, g3, hL, fun x y c e1 e2 => I.ok.inj x y c (old e1).2 (old e2).2, fun x z => ?_, fun x c z => (by cases z), fun _ => hA, hfr, .inr ⟨rfl, g5⟩, fun b hm => ⟨?_, fun x c e => ?_⟩, I.bs, Nat.le_trans I.ok.bsz I.sz, fun b o e hm => ?_, fun b hm z => ?_, I.stack, I.stkFree⟩,
    ho, hb, Un.kept kp, ⟨m, hNs, fun i x v e1 e2 e3 => ?_⟩, fun x c e => ?_, ?_, fun x c e => I.freeC x c (old e).2, fun p z => ?_, I.hok.kept kp, by rw [wipe_length]; exact I.len⟩
  · rcases z with z | z
    · exact absurd ((kd x).symm.trans z) nocell
    · exact got ((kd x).symm.trans z)
  · exact Nat.ne_of_lt (Nat.lt_of_lt_of_le (hfp b hm).2 hL)
  · exact (hfp b hm).1.2.2.2.2.1 x c (old e).2
  · rcases (hfp b hm).1.2.2.2.1 with z | z
    · exact I.ok.noex b o e z
    · exact absurd (Nat.lt_of_lt_of_le (Heap.lt_size e) (Nat.le_trans I.ok.bsz z)) (Nat.lt_irrefl _)
  · rcases List.mem_cons.mp (I.stkSub b z) with y | y
    · exact (hfp b hm).1.2.1 y
    · exact (hfp b hm).1.2.2.1 y
  · obtain ⟨f1, f2⟩ := wipe_some e2
    have e3' : Vis scope x := by
      have e4 : Vis ge.scope x := e3
      rw [g1] at e4
      exact e4
    rcases e3' with z | z | z
    · rcases ok.blk.own _ (PySem.mem_of_lookup z) (.inl rfl) with y | y
      · obtain ⟨p, hp1, hp2⟩ := List.mem_map.mp y
        have e5 := ok.blk.ix p hp1
        have hp3 : p.1 = x := hp2
        rw [hp3] at e5
        exact absurd (List.mem_map.mpr ⟨p, hp1, nodup_ix hN e5 e1⟩) f2
      · exact absurd (List.mem_of_getElem? e1) y
    · exact absurd z nocell
    · obtain ⟨c, hc⟩ := got z
      obtain ⟨_, hl⟩ := I.loc
      obtain ⟨_, hl⟩ := hl
      have hv : Vis X.env.scope x := by
        rcases ok.blk.free _ (PySem.mem_of_lookup z) rfl with y | y
        · exact .inr (.inl y)
        · exact .inr (.inr y)
      obtain ⟨u, r, l⟩ := hl i x v e1 f1 hv
      refine ⟨u, r, .inr ⟨.inr ((kd x).trans z), c, hc, ?_⟩⟩
      rcases l with ⟨q, _⟩ | ⟨_, c2, q1, q2⟩
      · rcases ok.blk.free _ (PySem.mem_of_lookup z) rfl with y | y
        · have y2 : X.env.kindOf x = some .cell := y
          rw [y2] at q; cases q
        · have y2 : X.env.kindOf x = some .free := y
          rw [y2] at q; cases q
      · have : c2 = c := by
          have := (old hc).2
          rw [q1] at this
          exact Option.some.inj this
        subst this
        obtain ⟨o, o1, o2⟩ := q2
        exact ⟨o, kp _ _ o1, o2⟩
  · obtain ⟨v, o, o1, o2⟩ := I.cell x c (old e).2
    exact ⟨v, o, kp _ _ o1, o2⟩
  · exact I.hok.fresh hL
  · obtain ⟨q1, q2, q3, q4⟩ := hp p z
    exact ⟨q3, I.hok.fresh q1, q2, fun y => (by
      rcases List.mem_cons.mp (I.stkSub p.1 y) with w | w
      · exact absurd (Nat.lt_of_lt_of_le I.lt (by rw [← w]; exact q1)) (Nat.lt_irrefl _)
      · exact I.nofs q1 w), q4⟩
end MP

namespace MP
open PySem PySem.Spec PyProof.Rows L2
abbrev Pins := List (Addr × Obj)
/-- what a consumer asks of one value; N: what it stands ready for behind it -/
abbrev Take := Pins → V → Hp → (Pins → Hp → Prop) → Prop
/-- a value is handed over -/
def hands (Γ : Cx) (T : Take) : Protocol := fun _ s₀ v s kap => ∃ cp y σ H N, RelV y v ∧ Inv Γ cp σ H s ∧ (∀ p ∈ cp, s₀.heap.get? p.1 = some p.2) ∧ T cp y H N ∧
  ∀ cp' s', N cp' H → Inv Γ cp' σ H s' → (∀ b o, b ∉ cp.map (·.1) → s.heap.get? b = some o → s'.heap.get? b = some o) → kap (.send .none) s'
def lastly (Γ : Cx) (Fin : Pins → Hp → Prop) : GenEnd := fun n s₀ r s => ((r = .ok (.ret .none) ∨ r = .ok .next) ∧ ∃ cp σ H, Inv Γ cp σ H s ∧ (∀ p ∈ cp, s₀.heap.get? p.1 = some p.2) ∧ Fin cp H) ∨ ∃ e, r = .error e ∧ False
/-- one turn, told ahead -/
def Ahead (J : It) (g : TG) (tt : TT) (te : TE) (σ : L2.St) (vs : List Nat) (T : Take) (Fin : Pins → Hp → Prop) (ca : List Addr) (W : Nat → Nat → Pins → Hp → Prop) : Prop :=
  ∀ i m cp H, W i m cp H → cp.map (·.1) = ca ∧ ((J.stop i H ∧ Fin cp H) ∨ (J.go i H ∧ ∃ N : Pins → Hp → Prop, (∀ cp' H', N cp' H' → ∃ m', m' < m ∧ W (i + 1) m' cp' H') ∧
    ∀ x H3, J.yld i H x H3 → g x (wipe σ vs) H3 fun σ4 H4 => wipe σ4 vs = wipe σ vs ∧ tt σ4 H4 fun b H5 => if b = true then te σ4 H5 fun y H6 => T cp y H6 N else N cp H5))
section
variable {Γ : Cx} {A : Around} {elt tg iter : Expr} {ifs : List Expr} {scope : Scope} {gpos : Pos} {it : Addr} {fp : List Addr} {tn : Nat → Heap → Prop} {J : It} {g : TG} {tt : TT} {te : TE} {σ : L2.St} {vs : List Nat} {T : Take} {Fin : Pins → Hp → Prop} {ca : List Addr} {W : Nat → Nat → Pins → Hp → Prop}
theorem gen_turns (hA : A.over (.compLoop (.GeneratorExp elt [⟨tg, iter, ifs, 0⟩] scope gpos) 0 (.ref it) .none Γ.env) [] = Γ.A) (hx : Γ.xe = fun _ _ => False) (hc : Γ.calm = true) (hco : Γ.env.scope.isCoroutine = false)
    (hT : Turn Γ.prog Γ.w Γ.K tg J fp it tn) (pg : PG Γ tg g) (pt : PTs Γ ifs tt) (pe : PE Γ elt te) (hfp : ∀ b ∈ fp, b ∈ Γ.ex ∧ (∀ p ∈ Γ.pn, p.1 ≠ b) ∧ b ∉ ca) (hW : Ahead J g tt te σ vs T Fin ca W) :
    ∀ m n i s₀ s cp H, m < n → W i m cp H → Inv Γ cp (wipe σ vs) H s → tn i s.heap → (∀ b ∈ fp, H b = none) → (∀ p ∈ cp, s₀.heap.get? p.1 = some p.2) →
      Seg (model Γ.prog Γ.w) A (lastly Γ Fin) (hands Γ T) n s₀ (.compLoop (.GeneratorExp elt [⟨tg, iter, ifs, 0⟩] scope gpos) 0 (.ref it) .none Γ.env)
        ((model Γ.prog Γ.w).den (.compLoop (.GeneratorExp elt [⟨tg, iter, ifs, 0⟩] scope gpos) 0 (.ref it) .none Γ.env)) [] s := by
  have okF : ∀ {cp : Pins} {σ' : L2.St} {H : Hp} {s : Shared}, Inv Γ cp σ' H s → cp.map (·.1) = ca → (∀ b ∈ fp, H b = none) → ∀ b ∈ fp, FpOk Γ cp H b := fun {cp σ' H s} I hca hn b hb => by
    obtain ⟨q1, q2, q3⟩ := hfp b hb
    refine ⟨hn b hb, (I.ok.exf b q1).1, I.ok.exfs b q1, .inl q1, (I.ok.exf b q1).2, fun p hp => ?_⟩
    rcases List.mem_append.mp hp with z | z
    · exact q2 p z
    · exact fun y => q3 (by rw [← hca, ← y]; exact List.mem_map_of_mem z)
  intro m
  induction m using Nat.strongRecOn with
  | ind m ih =>
    intro n i s₀ s cp H hmn hw I st hn hp
    obtain ⟨hca, hw⟩ := hW i m cp H hw
    show Seg _ A _ _ n s₀ _ ((compTurn (.GeneratorExp elt [⟨tg, iter, ifs, 0⟩] scope gpos) 0 (.ref it) .none Γ.env).onRaise (leaving Γ.env)) [] s
    rw [compTurn_gen, Sem.onRaise_eq_wrap]
    refine seg_bind_wrap (wpAny_standAt ?_)
    rcases hw with ⟨stop, fin⟩ | ⟨go, N, hN, step⟩
    · refine seg_bind_wrap ?_
      rw [hA]
      refine wpAny_mono (hT.done Γ rfl rfl rfl hc i cp s _ H (fun _ _ => False) I (okF I hca hn) st stop) (fun r s1 ⟨hr, I1⟩ => ?_) fun _ _ z => z.elim
      subst hr
      exact seg_end (.ok .next) (.inl ⟨.inr rfl, cp, _, H, I1, hp, fin⟩)
    · refine seg_bind_wrap ?_
      rw [hA]
      refine wpAny_mono (hT.item Γ rfl rfl rfl hc i cp s _ H (fun _ _ => False) I (okF I hca hn) st go) (fun r s1 ⟨u, hr, h1⟩ => ?_) fun _ _ z => z.elim
      subst hr
      refine seg_bind_wrap ?_
      rw [hA]
      refine wpAny_mono h1 (fun _ s2 ⟨x, H2, I2, r2, y2, st2, n2⟩ => ?_) fun _ _ z => z.elim
      have I2' := I2.pinned (okF I2 hca n2) (hT.obj _ _ st2)
      refine seg_bind_wrap ?_
      rw [hA]
      refine wpAny_mono (pg.run _ s2 _ H2 x u _ I2' r2 (step x H2 y2)) (fun _ s3 ⟨σ4, H4, I4, hw4, q4⟩ => ?_) fun e s' z => (by rw [hx] at z; exact z.elim)
      refine seg_bind_wrap ?_
      rw [hA]
      refine wpAny_mono (pt.run _ s3 σ4 H4 _ I4 q4) (fun b s4 ⟨H5, I5, q5⟩ => ?_) fun e s' z => (by rw [hx] at z; exact z.elim)
      have hl : (wipe σ vs).length = σ4.length := by rw [← hw4, wipe_length]
      have hk : ∀ (j : Nat) v, (wipe σ vs)[j]? = some (some v) → σ4[j]? = some (some v) := fun j v e => by
        rw [← hw4] at e
        exact (wipe_some e).1
      have held : ∀ {H' : Hp} {s' : Shared} {σ' : L2.St}, Inv Γ (cp ++ pinsAt fp s2.heap) σ' H' s' → ∀ b ∈ fp, ∀ o, s2.heap.get? b = some o → s'.heap.get? b = some o ∧ H' b = none := fun I' b hb o e =>
        let z := I'.pin (b, o) (List.mem_append_right _ (List.mem_append_right _ (mem_pinsAt hb e)))
        ⟨z.1, z.2.1⟩
      have none_at : ∀ {H' : Hp} {s' : Shared} {σ' : L2.St}, Inv Γ (cp ++ pinsAt fp s2.heap) σ' H' s' → ∀ b ∈ fp, H' b = none := fun I' b hb => by
        obtain ⟨o, e, _⟩ := hT.obj _ _ st2 b hb
        exact (held I' b hb o e).2
      cases b with
      | false =>
        simp only [Bool.false_eq_true, if_false] at q5 ⊢
        obtain ⟨m', hm, w'⟩ := hN cp H5 q5
        exact seg_again rfl (ih m' hm n (i + 1) s₀ s4 cp H5 (Nat.lt_trans hm hmn) w' (I5.unpinned.weak hl hk) (hT.keep _ _ _ st2 fun b hb o e => (held I5 b hb o e).1) (none_at I5) hp)
      | true =>
        simp only [if_true] at q5 ⊢
        have out : ∀ v, yieldOut Γ.env v = yieldValue v := fun v => by simp only [yieldOut, hco, Bool.false_eq_true, if_false]
        simp only [out]
        rw [Sem.bind_eq_wrap', Sem.bind_eq_wrap', Sem.wrap_wrap, Sem.wrap_wrap]
        refine seg_wrap ?_
        rw [hA]
        refine wpAny_mono (pe.run _ s4 σ4 H5 _ I5 q5) (fun yv s5 ⟨y, H6, I6, ry, q6⟩ => ?_) fun e s' z => (by rw [hx] at z; exact z.elim)
        obtain ⟨n, rfl⟩ : ∃ k, n = k + 1 := ⟨n - 1, by omega⟩
        refine seg_at (seg_yield rfl rfl rfl ?_)
        refine ⟨cp, y, σ4, H6, N, ry, I6.unpinned, hp, q6, fun cp' s'' nN I'' kp => ?_⟩
        obtain ⟨m', hm, w'⟩ := hN cp' H6 nN
        refine seg_again rfl (ih m' hm n (i + 1) s'' s'' cp' H6 (by omega) w' (I''.weak hl hk) (hT.keep _ _ _ st2 fun b hb o e => kp b o (by rw [hca]; exact (hfp b hb).2.2) (held I6 b hb o e).1) (none_at I6) fun p hp' => ?_)
        exact (I''.pin p (List.mem_append_right _ hp')).1
theorem gen_first (hA : A.over (.compLoop (.GeneratorExp elt [⟨tg, iter, ifs, 0⟩] scope gpos) 0 (.ref it) .none Γ.env) [] = Γ.A) (hx : Γ.xe = fun _ _ => False) (hc : Γ.calm = true) (hco : Γ.env.scope.isCoroutine = false)
    (hT : Turn Γ.prog Γ.w Γ.K tg J fp it tn) (pg : PG Γ tg g) (pt : PTs Γ ifs tt) (pe : PE Γ elt te) (hfp : ∀ b ∈ fp, b ∈ Γ.ex ∧ (∀ p ∈ Γ.pn, p.1 ≠ b) ∧ b ∉ ca) (hW : Ahead J g tt te σ vs T Fin ca W)
    {m n : Nat} {s₀ s : Shared} {cp : Pins} {H : Hp} (hmn : m < n) (hw : W 0 m cp H) (I : Inv Γ cp (wipe σ vs) H s) (st : tn 0 s.heap) (hn : ∀ b ∈ fp, H b = none) (hp : ∀ p ∈ cp, s₀.heap.get? p.1 = some p.2) :
    Seg (model Γ.prog Γ.w) A (lastly Γ Fin) (hands Γ T) n s₀ (.compStart (.GeneratorExp elt [⟨tg, iter, ifs, 0⟩] scope gpos) 0 (.ref it) .none Γ.env)
        ((model Γ.prog Γ.w).den (.compStart (.GeneratorExp elt [⟨tg, iter, ifs, 0⟩] scope gpos) 0 (.ref it) .none Γ.env)) [] s := by
  have all := gen_turns hA hx hc hco hT pg pt pe hfp hW m n 0 s₀ s cp H hmn hw I st hn hp
  show Seg _ A _ _ n s₀ _ ((compStart (.GeneratorExp elt [⟨tg, iter, ifs, 0⟩] scope gpos) 0 (.ref it) .none Γ.env).onRaise (leaving Γ.env)) [] s
  unfold compStart
  rw [Sem.onRaise_eq_wrap]
  show Seg _ A _ _ n s₀ _ ((ask >>= _).wrap _ _ _ _) [] s
  refine seg_bind_wrap (wpAny_askSetting ?_)
  split
  · exact seg_again rfl all
  · first
      | exact seg_bind_wrap (wpAny_rule (seg_bind_wrap (wpAny_standAt (seg_bind_wrap (hT.self _ 0 _ _ _ st (seg_again rfl all))))))
      | (refine seg_bind_wrap (wpAny_rule ?_); show Seg _ A _ _ n s₀ _ ((standAt iter.pos >>= _).wrap _ _ _ _) [] s; exact seg_bind_wrap (wpAny_standAt (seg_bind_wrap (hT.self _ 0 _ _ _ st (seg_again rfl all)))))
end
end MP

namespace MP
open PySem PySem.Spec PyProof.Rows L2
theorem Inv_gens {Γ : Cx} {cp : Pins} {σ : L2.St} {H : Hp} {s : Shared} {g : Nat} {x : GenState} (I : Inv Γ cp σ H s) (hx : x.bare = true) : Inv Γ cp σ H (s.setGen g x) :=
  ⟨I.ok, I.os, allBare_setGen I.bare hx, I.base, I.loc, I.cell, I.free, I.freeC, I.pin, I.hok, I.len⟩
/-- what a sleeping generator keeps ready -/
def Sleeps (Γ : Cx) (A : Around) (T : Take) (Fin : Pins → Hp → Prop) (g : Nat) (n : Nat) (cp : Pins) (H : Hp) (σ : L2.St) (s : Shared) : Prop :=
  Inv Γ cp σ H s ∧ ∃ gs, s.gens[g]? = some gs ∧ gs.Goes (model Γ.prog Γ.w) A (lastly Γ Fin) (hands Γ T) n (.send .none) (s.setGen g .running)
section
variable {Γ : Cx} {A : Around} {T : Take} {Fin : Pins → Hp → Prop} {g n : Nat} {a : Addr} {cp : Pins} {H : Hp} {σ : L2.St} {s : Shared} {Q : Option Value → Shared → Prop} {E : Value → Shared → Prop}
theorem gen_next (hh : A.handled = none) (hd : A.depth < recursionLimit) (hg : s.heap.IsGen a g) (z : Sleeps Γ A.in1 T Fin g n cp H σ s)
    (hend : ∀ s' cp' σ' H', Inv Γ cp' σ' H' s' → (∀ p ∈ cp', s.heap.get? p.1 = some p.2) → Fin cp' H' → Q none s')
    (hyld : ∀ v y s' cp' σ' H' N, RelV y v → Inv Γ cp' σ' H' s' → (∀ p ∈ cp', s.heap.get? p.1 = some p.2) → T cp' y H' N →
      (∀ cp'' s'', N cp'' H' → Inv Γ cp'' σ' H' s'' → s''.gens = s'.gens → (∀ b o, b ∉ cp'.map (·.1) → s'.heap.get? b = some o → s''.heap.get? b = some o) → ∃ m, m < n ∧ Sleeps Γ A.in1 T Fin g m cp'' H' σ' s'') → Q (some v) s') :
    wpAny (model Γ.prog Γ.w) A (pyNext (.ref a)) Q E s := by
  obtain ⟨I, gs, hgs, hgo⟩ := z
  have hgl : g < s.gens.size := (Array.getElem?_eq_some_iff.mp hgs).1
  refine GenW.wpAny_gsz (n := g + 1) hgl (next_genG hh I.nolimit hd hg hgs hgo (fun v s1 gs' hb hv => ?_) (fun s1 hp h' hk => ?_) fun e s1 he => he.elim)
  · intro hsz
    obtain ⟨cp', y, σ', H', N, ry, I1, hp, q, wake⟩ := hv
    have hg1 : g < s1.gens.size := by
      have e : (s1.setGen g gs').gens.size = s1.gens.size := GenW.setGen_size _ _ _
      omega
    refine hyld v y (s1.setGen g gs') cp' σ' H' N ry (Inv_gens I1 hb) hp q fun cp'' s'' nN I'' eg kp => ?_
    have w := wake cp'' (s''.setGen g .running) nN (Inv_gens I'' rfl) kp
    cases n with
    | zero => exact w.elim
    | succ m =>
      refine ⟨m, Nat.lt_succ_self m, I'', gs', ?_, w⟩
      rw [eg]
      exact setGen_at hg1
  · intro _
    obtain ⟨cp', σ', H', I1, hp, q⟩ := hp
    have I2 := (Inv_gens (g := g) (x := .finished) I1 rfl).kept (h' := h') (t' := s1.toks) hk
    exact hend _ cp' σ' H' I2 hp q
end
/-! ### any, all -/
/-- «stop» ends it -/
def takeB (stop : Bool) (Q : V → Hp → Prop) : Take := fun cp y H N => ∃ b, y = .bl b ∧ if b = stop then Q (.bl stop) H else N cp H
def finB (stop : Bool) (Q : V → Hp → Prop) : Pins → Hp → Prop := fun _ H => Q (.bl (!stop)) H
section
variable {Γ : Cx} {A : Around} {g : Nat} {a : Addr} {Q : V → Hp → Prop} {R : Result → Shared → Prop}
theorem any_turns (hh : A.handled = none) (hd : A.depth + 1 < recursionLimit) (hgen : ∀ {cp σ H s}, Inv Γ cp σ H s → s.heap.IsGen a g) (hR : ∀ b s cp σ H, Inv Γ cp σ H s → Q (.bl b) H → R (.ok (.ret (.bool b))) s) :
    ∀ n s cp σ H, Sleeps Γ A.in1.in1 (takeB true Q) (finB true Q) g n cp H σ s → codeAny (model Γ.prog Γ.w) A (.builtin "any.loop" ⟨[.ref a], []⟩) R s := by
  intro n
  induction n using Nat.strongRecOn with
  | ind n ih =>
    intro s cp σ H z
    refine codeAny_builtin F.entry_any_loop ?_
    rw [Around.under_plainId F.plain_any_loop _]
    show wpAny _ A.in1 (pyNext (.ref a) >>= _) _ _ s
    refine wpAny_bind (gen_next (A := A.in1) hh (by show A.depth < _; omega) (hgen z.1) z (fun s' cp' σ' H' I' _ q => ?_) fun v y s' cp' σ' H' N ry I' _ q wake => ?_)
    · exact wpAny_bind (wpAny_rule (wpAny_pure (hR false s' cp' σ' H' I' q)))
    · obtain ⟨b, rfl, q⟩ := q
      obtain rfl : v = .bool b := ry
      refine wpAny_bind (wpAny_holding (wpAny_truthy_bool (wpAny_bind (wpAny_letGo ?_))))
      cases b with
      | true =>
        simp only [if_true] at q ⊢
        exact wpAny_bind (wpAny_rule (wpAny_pure (hR true s' cp' σ' H' I' q)))
      | false =>
        simp only [Bool.false_eq_true, if_false] at q ⊢
        obtain ⟨m, hm, z'⟩ := wake cp' s' q I' rfl fun b o _ e => e
        exact wpAny_pure ⟨plainId_quiet F.plain_any_loop _, ih m hm s' cp' σ' H' z'⟩
theorem all_turns (hh : A.handled = none) (hd : A.depth + 1 < recursionLimit) (hgen : ∀ {cp σ H s}, Inv Γ cp σ H s → s.heap.IsGen a g) (hR : ∀ b s cp σ H, Inv Γ cp σ H s → Q (.bl b) H → R (.ok (.ret (.bool b))) s) :
    ∀ n s cp σ H, Sleeps Γ A.in1.in1 (takeB false Q) (finB false Q) g n cp H σ s → codeAny (model Γ.prog Γ.w) A (.builtin "all.loop" ⟨[.ref a], []⟩) R s := by
  intro n
  induction n using Nat.strongRecOn with
  | ind n ih =>
    intro s cp σ H z
    refine codeAny_builtin F.entry_all_loop ?_
    rw [Around.under_plainId F.plain_all_loop _]
    show wpAny _ A.in1 (pyNext (.ref a) >>= _) _ _ s
    refine wpAny_bind (gen_next (A := A.in1) hh (by show A.depth < _; omega) (hgen z.1) z (fun s' cp' σ' H' I' _ q => ?_) fun v y s' cp' σ' H' N ry I' _ q wake => ?_)
    · exact wpAny_bind (wpAny_rule (wpAny_pure (hR true s' cp' σ' H' I' q)))
    · obtain ⟨b, rfl, q⟩ := q
      obtain rfl : v = .bool b := ry
      refine wpAny_bind (wpAny_holding (wpAny_truthy_bool (wpAny_bind (wpAny_letGo ?_))))
      cases b with
      | false =>
        simp only [Bool.false_eq_true, if_false, if_true] at q ⊢
        exact wpAny_bind (wpAny_rule (wpAny_pure (hR false s' cp' σ' H' I' q)))
      | true =>
        simp only [if_true, Bool.true_eq_false, if_false] at q ⊢
        obtain ⟨m, hm, z'⟩ := wake cp' s' q I' rfl fun b o _ e => e
        exact wpAny_pure ⟨plainId_quiet F.plain_all_loop _, ih m hm s' cp' σ' H' z'⟩
/-! ### sum -/
abbrev sumObj (i : Int) (t : Tok) (c : Nat) : Obj := { cls := .type "list", dict := none, data := .seq #[.int i t] c, slots := #[] }
def takeS (S : Addr) : Take := fun cp y H N => ∃ i t c j, cp = [(S, sumObj i t c)] ∧ y = .int j ∧ InLong j ∧ InLong (i + j) ∧ ∀ t' c', N [(S, sumObj (i + j) t' c')] H
def finS (S : Addr) (Q : V → Hp → Prop) : Pins → Hp → Prop := fun cp H => ∃ i t c, cp = [(S, sumObj i t c)] ∧ Q (.int i) H
/-- the object that its consumer keeps is stored anew -/
theorem Inv_own {cp : Pins} {σ : L2.St} {H : Hp} {s : Shared} {S : Addr} {o o' : Obj} {tk : Nat} (I : Inv Γ ((S, o) :: cp) σ H s) (hS : Γ.s_0.heap.objs.size ≤ S ∧ ∀ x c, Γ.env.cells.lookup x = some c → c ≠ S) (hpn : ∀ p ∈ Γ.pn, p.1 ≠ S) (hcp : ∀ p ∈ cp, p.1 ≠ S) {f : Obj → Obj} (hf : (s.heap.update S f).get? S = some o') (hc : ∀ v, o'.data ≠ .cell v) :
    Inv Γ ((S, o') :: cp) σ H { s with heap := s.heap.update S f, toks := tk } := by
  obtain ⟨e, n, nL, nF, _⟩ := I.pin (S, o) (List.mem_append_right _ List.mem_cons_self)
  have I1 : Inv Γ cp σ H s := I.pins_of fun p hp => I.pin p (List.mem_append_right _ (List.mem_cons_of_mem _ hp))
  have J := I1.turned (t' := tk) (h' := s.heap.update S f) (it := S) (fun b u hb q => (Heap.get?_update_other _ _ (Ne.symm hb)).trans q) n nL (.inr hS.1) hS.2 fun p hp => (List.mem_append.mp hp).elim (hpn p) (hcp p)
  refine J.pins_of fun p hp => ?_
  rcases List.mem_cons.mp hp with z | z
  · subst z
    exact ⟨hf, n, nL, nF, hc⟩
  · exact J.pin p (List.mem_append_right _ z)
theorem sum_turns {S : Addr} (hh : A.handled = none) (hd : A.depth + 1 < recursionLimit) (hgen : ∀ {cp σ H s}, Inv Γ cp σ H s → s.heap.IsGen a g) (hS : Γ.s_0.heap.objs.size ≤ S ∧ ∀ x c, Γ.env.cells.lookup x = some c → c ≠ S) (hpn : ∀ p ∈ Γ.pn, p.1 ≠ S)
    (hR : ∀ i t s cp σ H, Inv Γ cp σ H s → Q (.int i) H → R (.ok (.ret (.int i t))) s) :
    ∀ n s i t c σ H, Sleeps Γ A.in1.in1 (takeS S) (finS S Q) g n [(S, sumObj i t c)] H σ s → codeAny (model Γ.prog Γ.w) A (.builtin "sum.loop" ⟨[.ref a, .ref S, rawInt 0, rawInt 0], []⟩) R s := by
  intro n
  induction n using Nat.strongRecOn with
  | ind n ih =>
    intro s i t c σ H z
    have e0 : s.heap.get? S = some (sumObj i t c) := (z.1.pin (S, sumObj i t c) (List.mem_append_right _ List.mem_cons_self)).1
    refine codeAny_builtin F.entry_sum_loop ?_
    rw [Around.under_plainId F.plain_sum_loop _]
    show wpAny _ A.in1 (seqItems? (.ref S) >>= _) _ _ s
    refine wpAny_bind (wpAny_seqItems e0 rfl ?_)
    show wpAny _ A.in1 (tryCatch (pyNext (.ref a)) _ >>= _) _ _ s
    refine wpAny_bind (wpAny_tryCatch (gen_next (A := A.in1) hh (by show A.depth < _; omega) (hgen z.1) z (fun s' cp' σ' H' I' hp q => ?_) fun v y s' cp' σ' H' N ry I' hp q wake => ?_))
    · obtain ⟨i', t', c', rfl, q⟩ := q
      have e1 := hp (S, sumObj i' t' c') List.mem_cons_self
      have e2 : i = i' := by
        have e3 := e0.symm.trans e1
        simp at e3
        exact e3.1.1
      subst e2
      exact wpAny_pure (hR i t s' _ σ' H' I' q)
    · obtain ⟨i', t', c', j, rfl, rfl, f1, f2, q⟩ := q
      obtain ⟨tj, rfl⟩ := ry
      have e1 := hp (S, sumObj i' t' c') List.mem_cons_self
      have e2 : i = i' := by
        have e3 := e0.symm.trans e1
        simp at e3
        exact e3.1.1
      subst e2
      have e4 : s'.heap.get? S = some (sumObj i t' c') := (I'.pin (S, sumObj i t' c') (List.mem_append_right _ List.mem_cons_self)).1
      have fits : ((decide (-(2 ^ 63) ≤ j) && decide (j < 2 ^ 63)) && (decide (-(2 ^ 63) ≤ i + j) && decide (i + j < 2 ^ 63))) = true := by
        simp only [Bool.and_eq_true, decide_eq_true_eq]
        exact ⟨f1, f2⟩
      show wpAny _ A.in1 (if (_ : Bool) = true then (mkInt (i + j) >>= _) else _) _ _ _
      split
      · refine wpAny_bind (wpAny_mkInt ?_)
        show wpAny _ A.in1 (updateSeq S (fun _ => #[.int (i + j) s'.toks]) >>= _) _ _ _
        refine wpAny_bind ?_
        refine wpAny_updateSeq (s := { s' with toks := _ }) e4 rfl (wpAny_pure ⟨plainId_quiet F.plain_sum_loop _, ?_⟩)
        obtain ⟨c2, hc2⟩ : ∃ c2, (s'.heap.update S (Obj.mapSeq fun _ => #[.int (i + j) s'.toks])).get? S = some (sumObj (i + j) s'.toks c2) := ⟨_, Heap.get?_update_self _ e4 rfl⟩
        have own : ∀ tk, L2.Inv Γ [(S, sumObj (i + j) s'.toks c2)] σ' H' { s' with heap := s'.heap.update S (Obj.mapSeq fun _ => #[.int (i + j) s'.toks]), toks := tk } := fun tk =>
          Inv_own I' hS hpn (fun p hp => (by cases hp)) hc2 fun v z => (by cases z)
        obtain ⟨m, hm, z'⟩ := wake _ _ (q _ _) (own _) rfl fun b o hb e => (Heap.get?_update_other _ _ (fun y : S = b => hb (by rw [← y]; exact List.mem_cons_self))).trans e
        exact ih m hm _ _ _ _ σ' H' z'
      · rename_i hneg
        exact absurd fits hneg
end
end MP

namespace MP
open PySem PySem.Spec PyProof.Rows L2
/-! ### a tuple, a list of all -/
def takeL (S : Addr) : Take := fun cp y H N => ∃ acc c, cp = [(S, lstObj acc c)] ∧ acc.size < sizeLine ∧ ∀ v c', RelV y v → N [(S, lstObj (acc.push v) c')] H
def finL (S : Addr) (Q : List V → Hp → Prop) : Pins → Hp → Prop := fun cp H => ∃ ys acc c, cp = [(S, lstObj acc c)] ∧ Vals ys acc.toList ∧ ys.length ≤ sizeLine ∧ Q ys H
section
variable {Γ : Cx} {A : Around} {g : Nat} {a : Addr} {Q : List V → Hp → Prop} {R : Result → Shared → Prop}
theorem ext_turns {S : Addr} {res : Value} (hh : A.handled = none) (hd : A.depth + 1 < recursionLimit) (hgen : ∀ {cp σ H s}, L2.Inv Γ cp σ H s → s.heap.IsGen a g) (hS : Γ.s_0.heap.objs.size ≤ S ∧ ∀ x c, Γ.env.cells.lookup x = some c → c ≠ S) (hpn : ∀ p ∈ Γ.pn, p.1 ≠ S)
    (hR : ∀ ys acc c s σ H, L2.Inv Γ [(S, lstObj acc c)] σ H s → Vals ys acc.toList → ys.length ≤ sizeLine → Q ys H → R (.ok (.ret res)) s) :
    ∀ n s acc c σ H, Sleeps Γ A.in1.in1 (takeL S) (finL S Q) g n [(S, lstObj acc c)] H σ s → codeAny (model Γ.prog Γ.w) A (.builtin "list.extend.loop" ⟨[.ref S, .ref a, res], []⟩) R s := by
  intro n
  induction n using Nat.strongRecOn with
  | ind n ih =>
    intro s acc c σ H z
    refine codeAny_builtin F.entry_extend_loop ?_
    rw [Around.under_plainId F.plain_extend_loop _]
    show wpAny _ A.in1 (pyNext (.ref a) >>= _) _ _ s
    refine wpAny_bind (gen_next (A := A.in1) hh (by show A.depth < _; omega) (hgen z.1) z (fun s' cp' σ' H' I' hp q => ?_) fun v y s' cp' σ' H' N ry I' hp q wake => ?_)
    · obtain ⟨ys, acc', c', rfl, r, hl, q⟩ := q
      exact wpAny_pure (hR ys acc' c' s' σ' H' I' r hl q)
    · obtain ⟨acc', c', rfl, hz, q⟩ := q
      have e4 : s'.heap.get? S = some (lstObj acc' c') := (I'.pin (S, lstObj acc' c') (List.mem_append_right _ List.mem_cons_self)).1
      show wpAny _ A.in1 (updateSeq S (·.push v) >>= _) _ _ _
      refine wpAny_bind ?_
      refine wpAny_updateSeq e4 rfl (wpAny_pure ⟨plainId_quiet F.plain_extend_loop _, ?_⟩) (Nat.le_of_lt hz) (by show (acc'.push v).size ≤ sizeLine + 1; rw [Array.size_push]; omega)
      obtain ⟨c2, hc2⟩ : ∃ c2, (s'.heap.update S (Obj.mapSeq (·.push v))).get? S = some (lstObj (acc'.push v) c2) := ⟨_, Heap.get?_update_self _ e4 rfl⟩
      have own : L2.Inv Γ [(S, lstObj (acc'.push v) c2)] σ' H' { s' with heap := s'.heap.update S (Obj.mapSeq (·.push v)) } :=
        Inv_own (tk := s'.toks) I' hS hpn (fun p hp => (by cases hp)) hc2 fun v z => (by cases z)
      obtain ⟨m, hm, z'⟩ := wake _ _ (q v c2 ry) own rfl fun b o hb e => (Heap.get?_update_other _ _ (fun y : S = b => hb (by rw [← y]; exact List.mem_cons_self))).trans e
      exact ih m hm _ _ _ σ' H' z'
theorem gen_collect {s : Shared} {P : List Value → Shared → Prop} {E : Value → Shared → Prop} (hh : A.handled = none) (hd : A.depth + 1 < recursionLimit) (hgen : ∀ {cp σ H s}, L2.Inv Γ cp σ H s → s.heap.IsGen a g) (hS : Γ.s_0.heap.objs.size ≤ s.heap.objs.size ∧ ∀ x c, Γ.env.cells.lookup x = some c → c ≠ s.heap.objs.size) (hpn : ∀ p ∈ Γ.pn, p.1 ≠ s.heap.objs.size)
    (hg0 : s.heap.IsGen a g) (hb : ∀ ys acc c s' σ H, L2.Inv Γ [(s.heap.objs.size, lstObj acc c)] σ H s' → Vals ys acc.toList → ys.length ≤ sizeLine → Q ys H → P acc.toList s')
    (hz : ∀ s2 c, (∀ b o, s.heap.get? b = some o → s2.heap.get? b = some o) → s2.heap.get? s.heap.objs.size = some (lstObj #[] c) → s2.gens = s.gens → s2.os = s.os → ∃ n σ H, Sleeps Γ A.in1.in1 (takeL s.heap.objs.size) (finL s.heap.objs.size Q) g n [(s.heap.objs.size, lstObj #[] c)] H σ s2) :
    wpAny (model Γ.prog Γ.w) A (collect (.ref a)) P E s := by
  have hSa : s.heap.objs.size ≠ a := by
    obtain ⟨o, _, _, e, _⟩ := hg0
    exact Nat.ne_of_gt (Heap.lt_size e)
  unfold collect
  refine wpAny_bind (wpAny_runValue (codeAny_builtin F.entry_proto_collect ?_))
  rw [Around.under_plainId F.plain_proto_collect _]
  show wpAny _ A.in1 (newList [] >>= fun l => again (.builtin "list.__iadd__" ⟨[l, .ref a], []⟩)) _ _ s
  refine wpAny_bind (wpAny_newObj_type ?_)
  refine wpAny_pure ⟨plainId_quiet F.plain_list_iadd _, codeAny_builtin F.entry_list_iadd ?_⟩
  rw [Around.under_plainId F.plain_list_iadd _]
  have e1 : (s.heap.push { cls := .type "list", data := .seq ([] : List Value).toArray }).get? s.heap.objs.size = some { cls := .type "list", data := .seq ([] : List Value).toArray } := Heap.get?_push_size _ rfl
  have k1 : ∀ b o, s.heap.get? b = some o → (s.heap.push { cls := .type "list", data := .seq ([] : List Value).toArray }).get? b = some o := fun b o e => Heap.get?_push_of_some _ e
  show wpAny _ A.in1 (Builtin.List.listExtendWith (.ref s.heap.objs.size) (.ref a) (.ref s.heap.objs.size)) _ _ _
  unfold Builtin.List.listExtendWith
  have gty : ∀ {h : Heap}, (∀ b o, s.heap.get? b = some o → h.get? b = some o) → h.IsGen a g := fun {h} q => hg0.keeps q
  refine wpAny_bind (wpAny_typeOf (Heap.IsGen.typeIs (s := { s with heap := _ }) (gty k1)) ?_)
  have n1 : Builtin.List.listSameRef (.ref s.heap.objs.size) (.ref a) = false := by simp [Builtin.List.listSameRef, hSa]
  have n2 : (Value.type "generator" == Value.type "list") = false := by decide
  have n3 : (Value.type "generator" == Value.type "tuple") = false := by decide
  simp only [n1, n2, n3, Bool.or_false, Bool.false_eq_true, if_false]
  refine wpAny_bind (wpAny_pyIter_gen (s := { s with heap := _ }) (gty k1) ?_)
  refine wpAny_bind (wpAny_holding ?_)
  unfold Builtin.List.listLengthHint
  refine wpAny_bind (wpAny_specialOf (Heap.IsGen.typeIs (s := { s with heap := _ }) (gty k1)) F.gen_no_len ?_)
  show wpAny _ A.in1 (specialOf (Value.ref a) (Str.ofString "__length_hint__") >>= _) _ _ _
  refine wpAny_bind (wpAny_specialOf (Heap.IsGen.typeIs (s := { s with heap := _ }) (gty k1)) F.gen_no_hint ?_)
  refine wpAny_pure ?_
  show wpAny _ A.in1 (rule "list.extend.makes-room" >>= fun _ => Builtin.List.listTouch (.ref s.heap.objs.size) >>= fun _ =>
    again (.builtin "list.extend.loop" ⟨[.ref s.heap.objs.size, .ref a, .ref s.heap.objs.size], []⟩)) _ _ _
  refine wpAny_bind (wpAny_rule (wpAny_bind ?_))
  show wpAny _ A.in1 (updateSeq s.heap.objs.size (·.push .none) >>= fun _ => updateSeq s.heap.objs.size (·.pop)) _ _ _
  refine wpAny_bind (wpAny_updateSeq e1 rfl ?_)
  have e2 := Heap.get?_update_self (Obj.mapSeq (·.push Value.none)) e1 rfl
  refine wpAny_updateSeq (hz := by seq_fits) e2 rfl ?_
  have e3 := Heap.get?_update_self (Obj.mapSeq (·.pop)) e2 rfl
  refine wpAny_pure ⟨plainId_quiet F.plain_extend_loop _, ?_⟩
  obtain ⟨n, σ, H, z⟩ := hz { s with heap := ((s.heap.push { cls := .type "list", data := .seq ([] : List Value).toArray }).update s.heap.objs.size (Obj.mapSeq (·.push Value.none))).update s.heap.objs.size (Obj.mapSeq (·.pop)) } _
    (fun b o e => (Heap.get?_update_other _ _ (Ne.symm (Nat.ne_of_lt (Heap.lt_size e)))).trans ((Heap.get?_update_other _ _ (Ne.symm (Nat.ne_of_lt (Heap.lt_size e)))).trans (k1 b o e))) e3 rfl rfl
  refine ext_turns (Q := Q) (g := g) (a := a) hh hd hgen hS hpn (fun ys acc c s' σ' H' I' r hl q => ?_) n _ _ _ σ H z
  have e5 : s'.heap.get? s.heap.objs.size = some (lstObj acc c) := (I'.pin (s.heap.objs.size, lstObj acc c) (List.mem_append_right _ List.mem_cons_self)).1
  show wpAny _ A (load s.heap.objs.size >>= _) _ _ s'
  exact wpAny_bind (wpAny_load e5 (wpAny_pure (hb ys acc c s' σ' H' I' r hl q)))
end
end MP

namespace MP
open PySem PySem.Spec PyProof.Rows L2
theorem over_gen {A : Around} {elt tg iter : Expr} {ifs : List Expr} {scope : Scope} {gpos : Pos} {it : Value} {ge : PySem.Env} : A.over (.compLoop (.GeneratorExp elt [⟨tg, iter, ifs, 0⟩] scope gpos) 0 it .none ge) [] = A.deeper ge := by
  first
    | rfl
    | (obtain ⟨hd, d, fr, gs, u⟩ := A; simp [Around.over, Around.deeper, marksOver, frameCount, unitsOf, envsOf, guardsOf, pushEnvs, pushGuards, Code.envs, Code.env?, Code.isFrame, Code.guards, Code.isGuard, Code.weight, Code.frames, Code.isCreation, Code.isCaller, Code.cUnits])
/-- a generator expression that has just been made -/
structure Born (X : Cx) (pins : Pins) (σ : L2.St) (H4 : Hp) (s4 s5 : Shared) (scope : Scope) (tg gexp : Expr) (J : It) (a : Addr) (g : Nat) (it : Addr) (fp : List Addr) (tn : Nat → Heap → Prop) (cd : Value) (go : Obj) : Prop where
  I : L2.Inv X pins σ H4 s4
  T : Turn X.prog X.w X.K tg J fp it tn
  st : tn 0 s5.heap
  fpok : ∀ b ∈ fp, FpOk X pins H4 b ∧ b < s4.heap.objs.size
  ns : ∃ m, s5.heap.Ns s4.heap.objs.size m
  a1 : s4.heap.objs.size < a
  a2 : a < s5.heap.objs.size
  ga : s5.heap.get? a = some go
  isg : ∀ h : Heap, h.get? a = some go → h.IsGen a g
  nc : ∀ v, go.data ≠ .cell v
  gs : s5.gens[g]? = some (.fresh (.compStart gexp 0 (.ref it) .none (genEnv scope (cloFrom X.env.cells scope.names []) s4.heap.objs.size cd builtinsNs X.env)))
  kp : ∀ b o, s4.heap.get? b = some o → s5.heap.get? b = some o
  os : s5.os = s4.os
  bare : AllBare s5.gens
/-- what all of them begin with -/
def tGen (P : Addr) (wi : TI) (Rest : It → Hp → Prop) : L2.St → Hp → Prop := fun σ H => wi σ H fun J H1 => ∃ ps : Array Value, H1 P = some (.tbl ps) ∧ TriplesOk ps.toList ∧ ∀ more, TriplesOk (ps ++ more).toList → Rest J (upd H1 P (.tbl (ps ++ more)))
section
variable {X : Cx} {pins : Pins} {σ : L2.St} {H : Hp} {s : Shared} {c P : Addr} {elt tg iter : Expr} {ifs : List Expr} {scope : Scope} {gpos : Pos} {own : List (Str × Nat)} {wi : TI} {Rest : It → Hp → Prop} {Q' : Value → Shared → Prop}
theorem gen_make (hd : X.A.depth < recursionLimit) (TB : GxR.TabB X.base X.mg c P) (hcode : X.env.code = .ref c) (ok : GScp X.N X.env.scope scope own) (hi : PI X tg iter wi) (hs : ∀ v, genFold iter X.env v = pure v) (I : L2.Inv X pins σ H s)
    (h : tGen P wi Rest σ H)
    (hQ : ∀ J H4 s4 s5 a g it fp tn cd go, Rest J H4 → Born X pins σ H4 s4 s5 scope tg (.GeneratorExp elt [⟨tg, iter, ifs, 0⟩] scope gpos) J a g it fp tn cd go → Q' (.ref a) s5) :
    wpAny (model X.prog X.w) X.A (eval (.GeneratorExp elt [⟨tg, iter, ifs, 0⟩] scope gpos) X.env) Q' X.xe s := by
  have hfree : ∀ y ∈ scope.names, y.2 = .free → ∃ c, X.env.cells.lookup y.1 = some c := fun y hy e => by
    rcases ok.blk.free y hy e with z | z
    · exact I.ok.has _ (.inl z)
    · exact I.ok.has _ (.inr z)
  refine wpAny_GeneratorExp_make ok.co (closure_ok hfree) ok.cell ok.dot ok.blk.kind hd (thn (hi.run pins s σ H _ I h) fun xv s1 hx => thn hx fun itv s2 h2 => ?_) hs
  obtain ⟨it, fp, tn, J, H2, rfl, I2, T, st2, f2, ps, hP, ht, hrest⟩ := h2
  refine ⟨I2.nolimit, ?_⟩
  have hPs : s2.heap.get? P = some { cls := .none, data := .fields ps } := I2.hok P _ hP
  have cd : PySem.W.CodeHd s2.heap c P := TB.code.keeps fun b u e => I2.bk b u e
  have nP : ∀ b ∈ fp, b ≠ P := fun b hb z => by
    have q := (f2 b hb).1
    rw [z, hP] at q
    cases q
  have cont : ∀ (code : Value) (h3 : Heap) (tk : Nat) (more : Array Value), Heap.ExtBut P s2.heap h3 → h3.get? P = some { cls := .none, data := .fields (ps ++ more) } → TriplesOk (ps ++ more).toList →
      wpAny (model X.prog X.w) X.A (builtinsFor X.env.globals X.env.builtins) (fun bi s4 => ∀ h', h'.Ns s4.heap.objs.size (fun y => if y = ".0" then some (.ref it) else none) → Heap.SameBut s4.heap.objs.size (s4.heap.push { cls := .type "frame", data := .dict #[] }) h' →
          Q' (.ref h'.objs.size) { s4 with
            gens := s4.gens.push (.fresh (.compStart (.GeneratorExp elt [⟨tg, iter, ifs, 0⟩] scope gpos) 0 (.ref it) .none (genEnv scope (cloFrom X.env.cells scope.names []) s4.heap.objs.size code bi X.env))),
            toks := s4.toks + 1 + 1 + 1,
            heap := h'.push { cls := .type "generator", data := .fields #[.int s4.gens.size 0, .str "<genexpr>" (s4.toks + 1), .str (X.env.qual ++ "<genexpr>") (s4.toks + 1 + 1)] } }) X.xe { s2 with heap := h3, toks := tk } := by
    intro code h3 tk more hx hP3 ht3
    obtain ⟨bm, ob, e1, e2, e3, e4, e5, e6, e7, e8⟩ := TB.bm
    have keep3 : ∀ b u, b ≠ P → s2.heap.get? b = some u → h3.get? b = some u := fun b u hb e => hx b u hb e
    have I4 : L2.Inv X pins σ (upd H2 P (.tbl (ps ++ more))) { s2 with heap := h3, toks := tk } := by
      have J4 := GxR.inv_tab (more := more) (h' := h3) (g' := s2.gens) (d' := s2.drawn) (t' := tk) I2 hP keep3 hP3 I2.bare
      exact J4
    refine wpAny_builtinsFor (m := X.mg) (by rw [I2.ok.glob]; exact (I2.mod.glob.keeps I2.bk).extBut hx TB.gP) e1 e2 (keep3 _ _ e4 (I2.bk _ _ e5)) e6 e7 e8 ?_
    intro h' hn hsb
    have sz : h'.objs.size = h3.objs.size + 1 := by rw [hsb.1]; exact Heap.size_push ..
    have kp' : ∀ b o, h3.get? b = some o → h'.get? b = some o := fun b o e => hsb.extBut b o (Nat.ne_of_lt (Heap.lt_size e)) (Heap.get?_push_of_some _ e)
    refine hQ J _ { s2 with heap := h3, toks := tk } _ _ s2.gens.size it fp tn code _ (hrest more ht3) ⟨I4, T, ?_, fun b hb => ⟨⟨?_, (f2 b hb).2⟩, ?_⟩, ⟨_, hn.push _⟩, ?_, ?_, Heap.get?_push_size _ rfl, fun h e => ⟨_, _, _, e, rfl, rfl, rfl⟩, fun v z => (by cases z), Array.getElem?_push_size .., fun b o e => Heap.get?_push_of_some _ (kp' b o e), rfl, AllBare.push I2.bare rfl⟩
    · exact T.keep _ _ _ st2 fun b hb o e => Heap.get?_push_of_some _ (kp' b o (keep3 b o (nP b hb) e))
    · rw [upd_ne (nP b hb)]
      exact (f2 b hb).1
    · obtain ⟨o, e, _⟩ := T.obj _ _ st2 b hb
      exact Heap.lt_size (keep3 b o (nP b hb) e)
    · show h3.objs.size < h'.objs.size
      omega
    · show h'.objs.size < (h'.push _).objs.size
      rw [Heap.size_push]
      exact Nat.lt_succ_self _
  cases hf : codeAmong gpos ps.toList with
  | none =>
    refine wpAny_genexprCodeX hcode (cd.code hPs ht) (cd.tab hPs) hf fun c' h' tk hx _ _ hco' _ htab' _ => ?_
    obtain ⟨o1, vs, f1, tf, fl, tg, inF, tx, tt, op, _, _, _, _, _, _, _, _, _, htr, _⟩ := hco'
    exact cont _ h' tk _ hx htab'.2 htr
  | some cv =>
    refine wpAny_genexprCode_hit hcode (cd.code hPs ht) hf ?_
    have := cont cv s2.heap s2.toks #[] (Heap.ExtBut.refl _ _) (by simpa using hPs) (by simpa using ht)
    exact this
end
/-- the first turn may come -/
theorem Born.ready {X : Cx} {pins : Pins} {σ : L2.St} {H4 : Hp} {s4 s5 s6 : Shared} {elt tg iter : Expr} {ifs : List Expr} {scope : Scope} {gpos : Pos} {own : List (Str × Nat)} {J : It} {a : Addr} {gn : Nat} {it : Addr} {fp : List Addr} {tn : Nat → Heap → Prop} {cd : Value} {go : Obj} {A : Around} {g : TG} {tt : TT} {te : TE} {T : Take} {Fin : Pins → Hp → Prop} {ca : List Addr} {W : Nat → Nat → Pins → Hp → Prop} {m : Nat} {cp : Pins}
    (B : Born X pins σ H4 s4 s5 scope tg (.GeneratorExp elt [⟨tg, iter, ifs, 0⟩] scope gpos) J a gn it fp tn cd go) (ok : GScp X.N X.env.scope scope own) (hN : X.N.Nodup) (hh : A.handled = none) (hf : A.frames = some X.stack)
    (pg : PG (gX X (A.deeper (genEnv scope (cloFrom X.env.cells scope.names []) s4.heap.objs.size cd builtinsNs X.env)) s4 H4 (genEnv scope (cloFrom X.env.cells scope.names []) s4.heap.objs.size cd builtinsNs X.env) fp [(a, go)]) tg g)
    (pt : PTs (gX X (A.deeper (genEnv scope (cloFrom X.env.cells scope.names []) s4.heap.objs.size cd builtinsNs X.env)) s4 H4 (genEnv scope (cloFrom X.env.cells scope.names []) s4.heap.objs.size cd builtinsNs X.env) fp [(a, go)]) ifs tt)
    (pe : PE (gX X (A.deeper (genEnv scope (cloFrom X.env.cells scope.names []) s4.heap.objs.size cd builtinsNs X.env)) s4 H4 (genEnv scope (cloFrom X.env.cells scope.names []) s4.heap.objs.size cd builtinsNs X.env) fp [(a, go)]) elt te)
    (hW : Ahead J g tt te σ (own.map (·.2)) T Fin ca W) (w0 : W 0 m cp H4) (kp : ∀ b o, s5.heap.get? b = some o → s6.heap.get? b = some o) (hg : s6.gens = s5.gens) (ho : s6.os = s5.os)
    (hca : ∀ b ∈ ca, s5.heap.objs.size ≤ b) (hcp : ∀ p ∈ cp, s6.heap.get? p.1 = some p.2 ∧ ∀ v, p.2.data ≠ .cell v) :
    Sleeps (gX X (A.deeper (genEnv scope (cloFrom X.env.cells scope.names []) s4.heap.objs.size cd builtinsNs X.env)) s4 H4 (genEnv scope (cloFrom X.env.cells scope.names []) s4.heap.objs.size cd builtinsNs X.env) fp [(a, go)]) A T Fin gn (m + 1) cp H4 (wipe σ (own.map (·.2))) s6 := by
  generalize hge : genEnv scope (cloFrom X.env.cells scope.names []) s4.heap.objs.size cd builtinsNs X.env = ge at pg pt pe ⊢
  have z1 : ge.scope = scope := by rw [← hge]; rfl
  have z2 : ge.globals = X.env.globals := by rw [← hge]; rfl
  have z3 : ge.builtins = builtinsNs := by rw [← hge]; rfl
  have z4 : ge.cells = cloFrom X.env.cells scope.names [] := by rw [← hge]; rfl
  have z5 : ge.frame = some ge.locals := by rw [← hge]; rfl
  have z6 : ge.locals = s4.heap.objs.size := by rw [← hge]; rfl
  obtain ⟨mm, hn⟩ := B.ns
  have hcm := (hW _ _ _ _ w0).1
  have szl : s4.heap.objs.size < s5.heap.objs.size := Nat.lt_trans B.a1 B.a2
  have hfr : (A.deeper ge).frames = some (ge :: X.stack) := by
    unfold Around.deeper
    simp only [hf]
    rfl
  have I6 : L2.Inv (gX X (A.deeper ge) s4 H4 ge fp [(a, go)]) cp (wipe σ (own.map (·.2))) H4 s6 := by
    refine gen_born B.I ok hN B.fpok z1 z2 z3 z4 z5 hh hfr (by rw [z6]; exact Nat.le_refl _) (fun b o e => kp b o (B.kp b o e)) (ho.trans B.os) (by rw [hg]; exact B.bare) (m := mm) ?_ fun p hp => ?_
    · rw [z6]
      exact hn.keeps kp
    · rcases List.mem_cons.mp hp with y | y
      · subst y
        exact ⟨Nat.le_of_lt B.a1, by rw [z6]; exact Nat.ne_of_gt B.a1, kp _ _ B.ga, B.nc⟩
      · have hb := hca p.1 (by rw [← hcm]; exact List.mem_map_of_mem y)
        exact ⟨Nat.le_trans (Nat.le_of_lt szl) hb, by rw [z6]; exact Nat.ne_of_gt (Nat.lt_of_lt_of_le szl hb), hcp p y⟩
  have hgs := B.gs
  rw [hge] at hgs
  refine ⟨I6, .fresh _, by rw [hg]; exact hgs, rfl, ?_⟩
  have fl : ∀ b ∈ fp, b < s4.heap.objs.size := fun b hb => (B.fpok b hb).2
  refine gen_first (Γ := gX X (A.deeper ge) s4 H4 ge fp [(a, go)]) (A := A) (σ := σ) (vs := own.map (·.2)) (ca := ca) (W := W) (m := m) over_gen rfl rfl (by show ge.scope.isCoroutine = false; rw [z1]; exact ok.co) B.T pg pt pe (fun b hb => ⟨hb, fun p hp z => ?_, fun z => ?_⟩) hW (Nat.lt_succ_self _) w0 (Inv_gens I6 rfl) (B.T.keep _ _ _ B.st fun b _ o e => kp b o e) (fun b hb => (B.fpok b hb).1.1) fun p hp => (hcp p hp).1
  · rw [List.mem_singleton.mp hp] at z
    have z' : a = b := z
    have := fl b hb
    rw [← z'] at this
    exact absurd (Nat.lt_trans this B.a1) (Nat.lt_irrefl _)
  · exact absurd (Nat.lt_of_lt_of_le (fl b hb) (Nat.le_trans (Nat.le_of_lt szl) (hca b z))) (Nat.lt_irrefl _)
end MP

namespace MP
open PySem PySem.Spec PyProof.Rows L2
theorem room_in {k : Nat} {A B : Around} (r : Room (k + 1) A) (e : PySem.Env) (h1 : B.handled = A.handled) (h2 : B.depth = A.depth) (h3 : B.units ≤ A.units + 13) : Room k (B.deeper e) :=
  ⟨by show B.handled = _; rw [h1]; exact r.hd, by have := r.dp; show B.depth + 1 + 3 * k + 5 < _; omega, by have := r.un; show B.units + 3 + 16 * k + 200 < _; omega⟩
section
variable {X : Cx} {pins : Pins} {σ : L2.St} {c P : Addr} {elt tg iter : Expr} {ifs : List Expr} {scope : Scope} {gpos : Pos} {own : List (Str × Nat)} {wi : TI} {g : TG} {tt : TT} {te : TE} {k : Nat}
theorem Born.back {H4 H' : Hp} {s4 s5 s' : Shared} {gexp : Expr} {J : It} {a : Addr} {gn : Nat} {it : Addr} {fp : List Addr} {tn : Nat → Heap → Prop} {cd : Value} {go : Obj} {A : Around} {ge : PySem.Env} {pn cp : Pins} {σ' : L2.St} (B : Born X pins σ H4 s4 s5 scope tg gexp J a gn it fp tn cd go) (I' : L2.Inv (gX X A s4 H4 ge fp pn) cp σ' H' s') : L2.Inv X pins σ H' s' :=
  B.I.call' (ch := fp) I'.os I'.base I'.hok I'.bare fun b hb => let z := (B.fpok b hb).1; ⟨z.2.2.2.1, z.2.1, z.2.2.2.2.1, z.2.2.2.2.2⟩
/-- the parts of a generator expression, wherever it stands -/
structure Parts (X : Cx) (k : Nat) (scope : Scope) (tg : Expr) (ifs : List Expr) (elt : Expr) (g : TG) (tt : TT) (te : TE) : Prop where
  pg : ∀ (A : Around) (s : Shared) (H : Hp) (cl : List (Str × Addr)) (C : Addr) (cd : Value) (bi : Addr) (fp : List Addr) (pn : Pins), Room k A → PG (gX X A s H (genEnv scope cl C cd bi X.env) fp pn) tg g
  pt : ∀ (A : Around) (s : Shared) (H : Hp) (cl : List (Str × Addr)) (C : Addr) (cd : Value) (bi : Addr) (fp : List Addr) (pn : Pins), Room k A → PTs (gX X A s H (genEnv scope cl C cd bi X.env) fp pn) ifs tt
  pe : ∀ (A : Around) (s : Shared) (H : Hp) (cl : List (Str × Addr)) (C : Addr) (cd : Value) (bi : Addr) (fp : List Addr) (pn : Pins), Room k A → PE (gX X A s H (genEnv scope cl C cd bi X.env) fp pn) elt te
def tGenB (stop : Bool) (P : Addr) (wi : TI) (g : TG) (tt : TT) (te : TE) (vs : List Nat) : TE := fun σ H Q => tGen P wi (fun J H4 => ∃ W m, W 0 m [] H4 ∧ Ahead J g tt te σ vs (takeB stop Q) (finB stop Q) [] W) σ H
theorem pe_genAny {p pos : Pos} (hr : Room (k + 1) X.A) (hN : X.N.Nodup) (TB : GxR.TabB X.base X.mg c P) (hcode : X.env.code = .ref c) (ok : GScp X.N X.env.scope scope own) (hi : PI X tg iter wi) (hs : ∀ v, genFold iter X.env v = pure v) (D : Parts X k scope tg ifs elt g tt te) (hg : Gl X "any") (hm : X.mg "any" = none)
    (he : starEach [.GeneratorExp elt [⟨tg, iter, ifs, 0⟩] scope gpos] X.env = (false, eval (.GeneratorExp elt [⟨tg, iter, ifs, 0⟩] scope gpos) X.env) :: starEach [] X.env := by rfl) :
    PE X (.Call (.Name "any" p) [.GeneratorExp elt [⟨tg, iter, ifs, 0⟩] scope gpos] [] pos) (tGenB true P wi g tt te (own.map (·.2))) := by
  refine ⟨fun pins s σ H Q I h => ?_⟩
  refine wpAny_Call_Name_kw (ld_blt I hg hm boot_any ?_)
  refine PyProof.Rows.callWith_builtin1 ?_ he (by rfl)
  rw [he]
  show wpAny _ _ (spliced ((false, eval (.GeneratorExp elt [⟨tg, iter, ifs, 0⟩] scope gpos) X.env) :: backTo pos (starEach [] X.env))) _ _ s
  refine Calls.spliced_cons (gen_make hr.depth TB hcode ok hi hs I h fun J H4 s4 s5 a gn it fp tn cd go ⟨W, m, w0, hW⟩ B => ?_)
  refine Calls.spliced_nil ?_
  refine call_function_tree F.kind_any F.plain_any F.entry_any (F.args_any1 _) ?_
  unfold Builtin.«any»
  refine wpAny_bind (m := oneArg "any" _) (wpAny_pure ?_)
  refine wpAny_bind (wpAny_pyIter_gen (B.isg _ B.ga) ?_)
  have rm : ∀ e, Room k (X.A.in1.in1.deeper e) := fun e => room_in hr e rfl rfl (by show X.A.units + 1 + 1 ≤ _; omega)
  have z := B.ready (s6 := s5) (A := X.A.in1.in1) ok hN hr.hd B.I.ok.frames (D.pg _ _ _ _ _ _ _ _ _ (rm _)) (D.pt _ _ _ _ _ _ _ _ _ (rm _)) (D.pe _ _ _ _ _ _ _ _ _ (rm _)) hW w0 (fun _ _ e => e) rfl rfl (fun b hb => (by cases hb)) fun p hp => (by cases hp)
  refine wpAny_pure ⟨plainId_quiet F.plain_any_loop _, any_turns (Γ := gX X (X.A.in1.in1.deeper (genEnv scope (cloFrom X.env.cells scope.names []) s4.heap.objs.size cd builtinsNs X.env)) s4 H4 (genEnv scope (cloFrom X.env.cells scope.names []) s4.heap.objs.size cd builtinsNs X.env) fp [(a, go)]) (Q := Q) hr.hd ?_ (fun {cp σ H s} I' => B.isg _ (I'.pin (a, go) (List.mem_append_left _ (List.mem_singleton.mpr rfl))).1) (fun b s' cp σ' H' I' q => ?_) _ s5 _ _ _ z⟩
  · have := hr.dp
    omega
  · exact ⟨.bl b, H', B.back I', rfl, q⟩
theorem pe_genAll {p pos : Pos} (hr : Room (k + 1) X.A) (hN : X.N.Nodup) (TB : GxR.TabB X.base X.mg c P) (hcode : X.env.code = .ref c) (ok : GScp X.N X.env.scope scope own) (hi : PI X tg iter wi) (hs : ∀ v, genFold iter X.env v = pure v) (D : Parts X k scope tg ifs elt g tt te) (hg : Gl X "all") (hm : X.mg "all" = none)
    (hb : bootBuiltins "all" = some (.builtin "all") := by decide +kernel)
    (he : starEach [.GeneratorExp elt [⟨tg, iter, ifs, 0⟩] scope gpos] X.env = (false, eval (.GeneratorExp elt [⟨tg, iter, ifs, 0⟩] scope gpos) X.env) :: starEach [] X.env := by rfl) :
    PE X (.Call (.Name "all" p) [.GeneratorExp elt [⟨tg, iter, ifs, 0⟩] scope gpos] [] pos) (tGenB false P wi g tt te (own.map (·.2))) := by
  refine ⟨fun pins s σ H Q I h => ?_⟩
  refine wpAny_Call_Name_kw (ld_blt I hg hm hb ?_)
  refine PyProof.Rows.callWith_builtin1 ?_ he (by rfl)
  rw [he]
  show wpAny _ _ (spliced ((false, eval (.GeneratorExp elt [⟨tg, iter, ifs, 0⟩] scope gpos) X.env) :: backTo pos (starEach [] X.env))) _ _ s
  refine Calls.spliced_cons (gen_make hr.depth TB hcode ok hi hs I h fun J H4 s4 s5 a gn it fp tn cd go ⟨W, m, w0, hW⟩ B => ?_)
  refine Calls.spliced_nil ?_
  refine call_function_tree F.kind_all F.plain_all F.entry_all (F.args_all1 _) ?_
  unfold Builtin.«all»
  refine wpAny_bind (m := oneArg "all" _) (wpAny_pure ?_)
  refine wpAny_bind (wpAny_pyIter_gen (B.isg _ B.ga) ?_)
  have rm : ∀ e, Room k (X.A.in1.in1.deeper e) := fun e => room_in hr e rfl rfl (by show X.A.units + 1 + 1 ≤ _; omega)
  have z := B.ready (s6 := s5) (A := X.A.in1.in1) ok hN hr.hd B.I.ok.frames (D.pg _ _ _ _ _ _ _ _ _ (rm _)) (D.pt _ _ _ _ _ _ _ _ _ (rm _)) (D.pe _ _ _ _ _ _ _ _ _ (rm _)) hW w0 (fun _ _ e => e) rfl rfl (fun b hb => (by cases hb)) fun p hp => (by cases hp)
  refine wpAny_pure ⟨plainId_quiet F.plain_all_loop _, all_turns (Γ := gX X (X.A.in1.in1.deeper (genEnv scope (cloFrom X.env.cells scope.names []) s4.heap.objs.size cd builtinsNs X.env)) s4 H4 (genEnv scope (cloFrom X.env.cells scope.names []) s4.heap.objs.size cd builtinsNs X.env) fp [(a, go)]) (Q := Q) hr.hd ?_ (fun {cp σ H s} I' => B.isg _ (I'.pin (a, go) (List.mem_append_left _ (List.mem_singleton.mpr rfl))).1) (fun b s' cp σ' H' I' q => ?_) _ s5 _ _ _ z⟩
  · have := hr.dp
    omega
  · exact ⟨.bl b, H', B.back I', rfl, q⟩
/-! ### sum -/
def tGenS (P : Addr) (wi : TI) (g : TG) (tt : TT) (te : TE) (vs : List Nat) : TE := fun σ H Q => tGen P wi (fun J H4 => ∀ S t c, ∃ W m, W 0 m [(S, sumObj 0 t c)] H4 ∧ Ahead J g tt te σ vs (takeS S) (finS S Q) [S] W) σ H
theorem pe_genSum {p pos : Pos} (hr : Room (k + 1) X.A) (hN : X.N.Nodup) (TB : GxR.TabB X.base X.mg c P) (hcode : X.env.code = .ref c) (ok : GScp X.N X.env.scope scope own) (hi : PI X tg iter wi) (hs : ∀ v, genFold iter X.env v = pure v) (D : Parts X k scope tg ifs elt g tt te) (hg : Gl X "sum") (hm : X.mg "sum" = none)
    (hb : bootBuiltins "sum" = some (.builtin "sum") := by decide +kernel)
    (he : starEach [.GeneratorExp elt [⟨tg, iter, ifs, 0⟩] scope gpos] X.env = (false, eval (.GeneratorExp elt [⟨tg, iter, ifs, 0⟩] scope gpos) X.env) :: starEach [] X.env := by rfl) :
    PE X (.Call (.Name "sum" p) [.GeneratorExp elt [⟨tg, iter, ifs, 0⟩] scope gpos] [] pos) (tGenS P wi g tt te (own.map (·.2))) := by
  refine ⟨fun pins s σ H Q I h => ?_⟩
  refine wpAny_Call_Name_kw (ld_blt I hg hm hb ?_)
  refine PyProof.Rows.callWith_builtin1 ?_ he (by rfl)
  rw [he]
  show wpAny _ _ (spliced ((false, eval (.GeneratorExp elt [⟨tg, iter, ifs, 0⟩] scope gpos) X.env) :: backTo pos (starEach [] X.env))) _ _ s
  refine Calls.spliced_cons (gen_make hr.depth TB hcode ok hi hs I h fun J H4 s4 s5 a gn it fp tn cd go hR B => ?_)
  refine Calls.spliced_nil ?_
  refine call_function_tree F.kind_sum F.plain_sum F.entry_sum (F.args_sum1 _) ?_
  unfold Builtin.«sum»
  simp only [List.length_cons, List.length_nil]
  rw [if_neg (by decide)]
  refine wpAny_bind (wpAny_of_eq (show Builtin.Builtins.bindParams "sum" ["start"] 0 { } = pure [none] from rfl) ?_)
  refine wpAny_bind (wpAny_pyIter_gen (B.isg _ B.ga) ?_)
  refine wpAny_bind (wpAny_mkInt (wpAny_bind (wpAny_pure ?_)))
  simp only [List.forIn_cons, List.forIn_nil]
  refine wpAny_bind (wpAny_bind (wpAny_bind (wpAny_isInstance (T := "int") (b := false) (typeIs_int _ _ _) PySem.sub_int_str ?_)))
  simp only [Bool.false_eq_true, if_false]
  refine wpAny_pure (wpAny_bind (wpAny_bind (wpAny_isInstance (T := "int") (b := false) (typeIs_int _ _ _) PySem.sub_int_bytes ?_)))
  simp only [Bool.false_eq_true, if_false]
  refine wpAny_pure (wpAny_bind (wpAny_bind (wpAny_isInstance (T := "int") (b := false) (typeIs_int _ _ _) PySem.sub_int_bytearray ?_)))
  simp only [Bool.false_eq_true, if_false]
  refine wpAny_pure (wpAny_pure (wpAny_bind (wpAny_newObj_type ?_)))
  obtain ⟨W, m, w0, hW⟩ := hR s5.heap.objs.size s5.toks 0
  have rm : ∀ e, Room k (X.A.in1.in1.deeper e) := fun e => room_in hr e rfl rfl (by show X.A.units + 1 + 1 ≤ _; omega)
  have z := B.ready (s6 := { s5 with heap := s5.heap.push (sumObj 0 s5.toks 0), toks := s5.toks + 1 }) (A := X.A.in1.in1) ok hN hr.hd B.I.ok.frames (D.pg _ _ _ _ _ _ _ _ _ (rm _)) (D.pt _ _ _ _ _ _ _ _ _ (rm _)) (D.pe _ _ _ _ _ _ _ _ _ (rm _)) hW w0 (fun _ _ e => Heap.get?_push_of_some _ e) rfl rfl
    (fun b hb => Nat.le_of_eq (List.mem_singleton.mp hb).symm) fun p hp => (by rw [List.mem_singleton.mp hp]; exact ⟨Heap.get?_push_size _ rfl, fun v z => (by cases z)⟩)
  refine wpAny_pure ⟨plainId_quiet F.plain_sum_loop _, sum_turns (Γ := gX X (X.A.in1.in1.deeper (genEnv scope (cloFrom X.env.cells scope.names []) s4.heap.objs.size cd builtinsNs X.env)) s4 H4 (genEnv scope (cloFrom X.env.cells scope.names []) s4.heap.objs.size cd builtinsNs X.env) fp [(a, go)]) (Q := Q) hr.hd ?_ (fun {cp σ H s} I' => B.isg _ (I'.pin (a, go) (List.mem_append_left _ (List.mem_singleton.mpr rfl))).1) ⟨Nat.le_of_lt (Nat.lt_trans B.a1 B.a2), fun x c0 e z0 => ?_⟩ (fun p hp => ?_) (fun i t s' cp σ' H' I' q => ?_) _ _ _ _ _ _ _ z⟩
  · have := hr.dp
    omega
  · have e' : (cloFrom X.env.cells scope.names []).lookup x = some c0 := e
    have hfree : ∀ y ∈ scope.names, y.2 = .free → ∃ c, X.env.cells.lookup y.1 = some c := fun y hy e => by
      rcases ok.blk.free y hy e with z | z
      · exact I.ok.has _ (.inl z)
      · exact I.ok.has _ (.inr z)
    obtain ⟨v, q⟩ := B.I.cell x c0 (clo_old hfree e').2
    have := q.lt
    rw [z0] at this
    exact absurd (Nat.lt_trans this (Nat.lt_trans B.a1 B.a2)) (Nat.lt_irrefl _)
  · rw [List.mem_singleton.mp hp]
    exact Nat.ne_of_lt B.a2
  · exact ⟨.int i, H', B.back I', ⟨t, rfl⟩, q⟩
/-! ### tuple -/
theorem tuple_by {M : Program} {w : World} {A : Around} {a : Addr} {s : Shared} {Q E : Value → Shared → Prop} {P : List Value → Shared → Prop} (hT : s.TypeIs (.ref a) "generator") (hc : ∀ (Q' : List Value → Shared → Prop) (E' : Value → Shared → Prop), (∀ l s', P l s' → Q' l s') → wpAny (model M w) A.in1.in1 (collect (.ref a)) Q' E' s)
    (hP : ∀ l s', P l s' → l.length ≤ sizeLine ∧ Q (.ref s'.heap.objs.size) { s' with heap := s'.heap.push { cls := .type "tuple", data := .seq l.toArray } }) :
    wpAny (model M w) A (call (.type "tuple") [.ref a]) Q E s := by
  refine callType_codes (Q₁ := fun v s1 => s1.TypeIs v "tuple" ∧ Q v s1) F.called_tuple (F.typeCall_tuple_1 _) F.entry_object_init ?_ fun v s1 h1 => ⟨h1.1, F.args_object_init_2 v _, object_init_meets F.called_tuple.init.lookup F.called_tuple.made (by decide) M w A.in1 _ s1 ⟨h1.1, rfl, h1.2⟩⟩
  refine codeAny_of_tree ?_
  show wpAny _ _ (do checkBuiltinCall "tuple.__new__" ⟨[.type "tuple", .ref a], []⟩; again (.builtin "tuple.__new__" ⟨[.type "tuple", .ref a], []⟩)) _ _ s
  refine wpAny_bind (wpAny_of_eq (F.newCall_tuple_1 _) (wpAny_pure ⟨plainId_quiet F.plain_tuple_new _, codeAny_builtin F.entry_tuple_new ?_⟩))
  rw [Around.under_plainId F.plain_tuple_new _]
  have k1 := sub_tuple_self
  have k2 := init_tuple_lookup
  have k3 := madeHere_tuple
  wp_walk using wpAny_typeOf hT, hc
  intro l s' hl
  obtain ⟨h1, h2⟩ := hP l s' hl
  show wpAny _ _ (Builtin.Tuple.tupleExact l.toArray >>= fun v => ret v) _ _ _
  unfold Builtin.Tuple.tupleExact
  exact wpAny_bind (wpAny_newObj_type (wpAny_pure ⟨⟨_, Heap.get?_push_size _ rfl, rfl⟩, h2⟩) (by show l.toArray.size ≤ sizeLine; rw [List.size_toArray]; exact h1))
def tGenT (P : Addr) (wi : TI) (g : TG) (tt : TT) (te : TE) (vs : List Nat) : TE := fun σ H Q => tGen P wi (fun J H4 => ∀ S c, ∃ W m, W 0 m [(S, lstObj #[] c)] H4 ∧ Ahead J g tt te σ vs (takeL S) (finL S fun ys H' => ∀ l, H' l = none → Q (.ref l) (upd H' l (.tup ys))) [S] W) σ H
theorem boot_tuple : bootBuiltins "tuple" = some (.type "tuple") := by decide +kernel
theorem pe_genTup {p pos : Pos} (hr : Room (k + 1) X.A) (hN : X.N.Nodup) (TB : GxR.TabB X.base X.mg c P) (hcode : X.env.code = .ref c) (ok : GScp X.N X.env.scope scope own) (hi : PI X tg iter wi) (hs : ∀ v, genFold iter X.env v = pure v) (D : Parts X k scope tg ifs elt g tt te) (hg : Gl X "tuple") (hm : X.mg "tuple" = none)
    (he : starEach [.GeneratorExp elt [⟨tg, iter, ifs, 0⟩] scope gpos] X.env = (false, eval (.GeneratorExp elt [⟨tg, iter, ifs, 0⟩] scope gpos) X.env) :: starEach [] X.env := by rfl) :
    PE X (.Call (.Name "tuple" p) [.GeneratorExp elt [⟨tg, iter, ifs, 0⟩] scope gpos] [] pos) (tGenT P wi g tt te (own.map (·.2))) := by
  refine ⟨fun pins s σ H Q I h => ?_⟩
  refine wpAny_Call_Name_kw (ld_blt I hg hm boot_tuple ?_)
  refine PyProof.Rows.callWith_type1 ?_ he (by rfl)
  rw [he]
  show wpAny _ _ (spliced ((false, eval (.GeneratorExp elt [⟨tg, iter, ifs, 0⟩] scope gpos) X.env) :: backTo pos (starEach [] X.env))) _ _ s
  refine Calls.spliced_cons (gen_make hr.depth TB hcode ok hi hs I h fun J H4 s4 s5 a gn it fp tn cd go hR B => ?_)
  refine Calls.spliced_nil ?_
  have rm : ∀ e, Room k (X.A.in1.in1.in1.in1.deeper e) := fun e => room_in hr e rfl rfl (by show X.A.units + 1 + 1 + 1 + 1 ≤ _; omega)
  have hfree : ∀ y ∈ scope.names, y.2 = .free → ∃ c, X.env.cells.lookup y.1 = some c := fun y hy e => by
    rcases ok.blk.free y hy e with z | z
    · exact I.ok.has _ (.inl z)
    · exact I.ok.has _ (.inr z)
  have young : ∀ x c0, (cloFrom X.env.cells scope.names []).lookup x = some c0 → c0 ≠ s5.heap.objs.size := fun x c0 e z0 => by
    obtain ⟨v, q⟩ := B.I.cell x c0 (clo_old hfree e).2
    have := q.lt
    rw [z0] at this
    exact absurd (Nat.lt_trans this (Nat.lt_trans B.a1 B.a2)) (Nat.lt_irrefl _)
  refine tuple_by (P := fun l s' => ∃ ys H', L2.Inv X pins σ H' s' ∧ Vals ys l ∧ ys.length ≤ sizeLine ∧ ∀ q, H' q = none → Q (.ref q) (upd H' q (.tup ys))) (B.isg _ B.ga).typeIs (fun Q' E' hq => ?_) fun l s' ⟨ys, H', I', r, hl, q⟩ => ⟨by rw [← r.length]; exact hl, ?_⟩
  · refine gen_collect (Γ := gX X (X.A.in1.in1.in1.in1.deeper (genEnv scope (cloFrom X.env.cells scope.names []) s4.heap.objs.size cd builtinsNs X.env)) s4 H4 (genEnv scope (cloFrom X.env.cells scope.names []) s4.heap.objs.size cd builtinsNs X.env) fp [(a, go)]) (g := gn) (Q := fun ys H' => ∀ l, H' l = none → Q (.ref l) (upd H' l (.tup ys))) hr.hd ?_ (fun {cp σ H s} I' => B.isg _ (I'.pin (a, go) (List.mem_append_left _ (List.mem_singleton.mpr rfl))).1) ⟨Nat.le_of_lt (Nat.lt_trans B.a1 B.a2), young⟩ (fun p hp => ?_) (B.isg _ B.ga)
      (fun ys acc c s' σ' H' I' r hl q => hq _ s' ⟨ys, H', B.back I', r, hl, q⟩) fun s2 c0 kp e eg eo => ?_
    · have := hr.dp
      show X.A.depth + 1 < _
      omega
    · rw [List.mem_singleton.mp hp]
      exact Nat.ne_of_lt B.a2
    · obtain ⟨W, m, w0, hW⟩ := hR s5.heap.objs.size c0
      exact ⟨m + 1, _, H4, B.ready (s6 := s2) (A := X.A.in1.in1.in1.in1) ok hN hr.hd B.I.ok.frames (D.pg _ _ _ _ _ _ _ _ _ (rm _)) (D.pt _ _ _ _ _ _ _ _ _ (rm _)) (D.pe _ _ _ _ _ _ _ _ _ (rm _)) hW w0 kp eg eo
        (fun b hb => Nat.le_of_eq (List.mem_singleton.mp hb).symm) fun p hp => (by rw [List.mem_singleton.mp hp]; exact ⟨e, fun v z => (by cases z)⟩)⟩
  · have hn : H' s'.heap.objs.size = none := I'.hok.fresh (Nat.le_refl _)
    refine ⟨.ref s'.heap.objs.size, upd H' s'.heap.objs.size (.tup ys), ?_, rfl, q _ hn⟩
    exact I'.laid (t' := s'.toks) (fun b o e => Heap.get?_push_of_some _ e) (Nat.le_refl _) ⟨hl, l, r, _, Heap.get?_push_size _ rfl, rfl, _, rfl⟩
end
end MP

namespace MP
open PySem PySem.Spec PyProof.Rows L2
variable [TBs]
/-! ### the mirror of a generator expression in its consumer's hands -/
open Classical in
noncomputable def genM {β : Type} (step : β → D → Option (Sum β D)) (fin : β → D) (s : Src) (g : Tg) (c : Ev Bool) (f : Ev D) (env : Env) : β → List D → Store → Res D
  | b, [], st => if s.Ok st then .ok (fin b) st else .bad
  | b, d :: ds, st => if s.Ok st then bindX (g d env st) fun env1 st1 => bindX (c env1 st1) fun t st2 => if t = true then bindX (f env1 st2) fun y st3 => match step b y with
      | some (.inl b') => genM step fin s g c f env b' ds st3
      | some (.inr r) => .ok r st3
      | none => .bad
    else genM step fin s g c f env b ds st2 else .bad
/-- how a consumer and its mirror go together -/
structure Cons (K : PySem.W.Frag) (mg : Str → Option Value) {β : Type} (T : Take) (Fin : Pins → Hp → Prop) (Q : VK) (step : β → D → Option (Sum β D)) (fin : β → D) (RB : β → Pins → List Addr → Hp → Prop) (ca : List Addr) : Prop where
  at_ : ∀ b cp ρ H, RB b cp ρ H → cp.map (·.1) = ca
  mono : ∀ b cp ρ H ρ' H', RB b cp ρ H → ρ <+: ρ' → Ext K H H' → RB b cp ρ' H'
  last : ∀ E b cp ρ H st, Sim K mg ρ st H → RB b cp ρ H → Post K mg (Rep K mg) E ρ H Q (.ok (fin b) st) → Fin cp H
  next : ∀ E b cp ρ H st y v N, Sim K mg ρ st H → RB b cp ρ H → Rep K mg ρ H y v → (match step b y with
    | some (.inl b') => ∀ cp', RB b' cp' ρ H → N cp' H
    | some (.inr r) => Post K mg (Rep K mg) E ρ H Q (.ok r st)
    | none => False) → T cp v H N
theorem gen_ahead {K : PySem.W.Frag} {mg : Str → Option Value} {β : Type} {T : Take} {Fin : Pins → Hp → Prop} {Q : VK} {step : β → D → Option (Sum β D)} {fin : β → D} {RB : β → Pins → List Addr → Hp → Prop} {ca : List Addr} {E : XK} {src : Src} {J : It} {ρ1 ρ2 : List Addr} {H1 H2 : Hp} {st2 : Store} {env : Env} {σ : L2.St} {vs : List Nat} {b0 : β} {cp0 : Pins}
    {tg : TG} {tt : TT} {te : TE} {g : Tg} {c : Ev Bool} {f : Ev D} (C : Cons K mg T Fin Q step fin RB ca) (qJ : RIt K mg ρ1 H1 src J) (g12 : Go K mg ρ1 H1 ρ2 st2 H2) (e : EnvR K mg ρ2 H2 env σ)
    (rg : RealGW K mg E0 vs tg g) (rc : Real K mg (REq Bool) E0 tt c) (rf : Real K mg (Rep K mg) E0 te f) (rb : RB b0 cp0 ρ2 H2) (h : Post K mg (Rep K mg) E ρ2 H2 Q (genM step fin src g c f (wipeD env vs) b0 src.items st2)) :
    ∃ W m, W 0 m cp0 H2 ∧ Ahead J tg tt te σ vs T Fin ca W := by
  refine ⟨fun i m cp H' => i ≤ src.items.length ∧ m = src.items.length - i ∧ ∃ b ρ' st', RB b cp ρ' H' ∧ Go K mg ρ2 H2 ρ' st' H' ∧ Post K mg (Rep K mg) E ρ' H' Q (genM step fin src g c f (wipeD env vs) b (src.items.drop i) st'), _, ⟨Nat.zero_le _, rfl, b0, ρ2, st2, rb, .refl g12.sim, h⟩, fun i m cp H' hW => ?_⟩
  obtain ⟨hi, rfl, b, ρ3, st3, rb3, g3, h3⟩ := hW
  refine ⟨C.at_ _ _ _ _ rb3, ?_⟩
  have gg := g12.trans g3
  have eW : EnvR K mg ρ3 H' (wipeD env vs) (wipe σ vs) := (wipe_R e vs).mono g3.pre g3.ext
  by_cases hok : src.Ok st3
  · obtain ⟨q1, q2⟩ := qJ ρ3 st3 H' gg hok
    by_cases hlt : i < src.items.length
    · rw [List.drop_eq_getElem_cons hlt] at h3
      obtain ⟨go, yld⟩ := q1 i _ (List.getElem?_eq_getElem hlt)
      refine .inr ⟨go, fun cp' H4 => i + 1 ≤ src.items.length ∧ ∃ b ρ' st', RB b cp' ρ' H4 ∧ Go K mg ρ2 H2 ρ' st' H4 ∧ Post K mg (Rep K mg) E ρ' H4 Q (genM step fin src g c f (wipeD env vs) b (src.items.drop (i + 1)) st'), fun cp' H4 hN => ⟨src.items.length - (i + 1), by omega, hN.1, rfl, hN.2⟩, fun x H4 hy => ?_⟩
      obtain ⟨g4, rx⟩ := yld x H4 hy
      simp only [genM, if_pos hok] at h3
      have h4 := Post.from g4 h3
      refine rg ρ3 _ st3 _ H4 x _ _ g4.sim (eW.mono g4.pre g4.ext) rx ?_
      refine h4.splitX fun env5 st5 ρ5 H5 σ5 g5 q5 h5 => ⟨by rw [q5.2]; exact real_lc.wipe_wipe _ _, ?_⟩
      refine rc ρ5 env5 st5 σ5 H5 _ g5.sim q5.1 (h5.splitX fun t st6 ρ6 H6 t' g6 q6 h6 => ?_)
      cases q6
      have g36 := g3.trans (g4.trans (g5.trans g6))
      cases t with
      | false => exact ⟨hlt, b, ρ6, st6, C.mono _ _ _ _ _ _ rb3 (g4.trans (g5.trans g6)).pre (g4.trans (g5.trans g6)).ext, g36, h6⟩
      | true =>
        rw [if_pos rfl] at h6 ⊢
        refine rf ρ6 env5 st6 σ5 H6 _ g6.sim (q5.1.mono g6.pre g6.ext) (h6.splitX fun y st7 ρ7 H7 yv g7 q7 h7 => ?_)
        have g37 := g36.trans g7
        have gs := g4.trans (g5.trans (g6.trans g7))
        refine C.next E b cp ρ7 H7 st7 y yv _ g7.sim (C.mono _ _ _ _ _ _ rb3 gs.pre gs.ext) q7 ?_
        cases es : step b y with
        | none => rw [es] at h7; exact h7.elim
        | some r =>
          rw [es] at h7
          cases r with
          | inl b' => exact fun cp' rb' => ⟨hlt, b', ρ7, st7, rb', g37, h7⟩
          | inr r => exact h7
    · have ei : src.items.drop i = [] := List.drop_eq_nil_of_le (Nat.le_of_not_lt hlt)
      rw [ei] at h3
      simp only [genM, if_pos hok] at h3
      exact .inl ⟨q2 i (Nat.le_of_not_lt hlt), C.last E b cp ρ3 H' st3 g3.sim rb3 h3⟩
  · exfalso
    cases hd : src.items.drop i with
    | nil => rw [hd] at h3; simp only [genM, if_neg hok] at h3; exact h3
    | cons d ds => rw [hd] at h3; simp only [genM, if_neg hok] at h3; exact h3
/-! the consumers -/
def stepB (stop : Bool) : Unit → D → Option (Sum Unit D) := fun _ y => match y with
  | .bl b => if b = stop then some (.inr (.bl stop)) else some (.inl ())
  | _ => none
def stepS : Int → D → Option (Sum Int D) := fun a y => match y with
  | .int j => if -(2 ^ 63) ≤ j ∧ j < 2 ^ 63 ∧ -(2 ^ 63) ≤ a + j ∧ a + j < 2 ^ 63 then some (.inl (a + j)) else none
  | _ => none
def stepT : List D → D → Option (Sum (List D) D) := fun a y => if a.length < sizeLine then some (.inl (a ++ [y])) else none
section
variable {K : PySem.W.Frag} {mg : Str → Option Value} {Q : VK}
theorem cons_B (stop : Bool) : Cons K mg (takeB stop Q) (finB stop Q) Q (stepB stop) (fun _ => .bl (!stop)) (fun _ cp _ _ => cp = []) [] where
  at_ := fun b cp ρ H h => by rw [h]; rfl
  mono := fun b cp ρ H ρ' H' h _ _ => h
  last := fun E b cp ρ H st s _ h => (h.done s (Rep.bl _) : Q (V.bl (!stop)) H)
  next := fun E b cp ρ H st y v N s rb ry h => by
    subst rb
    cases ry with
    | bl t =>
      refine ⟨t, rfl, ?_⟩
      unfold stepB at h
      by_cases ht : t = stop
      · simp only [if_pos ht] at h ⊢
        exact h.done s (.bl _)
      · simp only [if_neg ht] at h ⊢
        exact h [] rfl
    | _ => exact h.elim
theorem cons_S (S : Addr) : Cons K mg (takeS S) (finS S Q) Q stepS D.int (fun a cp _ _ => ∃ t c, cp = [(S, sumObj a t c)]) [S] where
  at_ := fun b cp ρ H ⟨t, c, h⟩ => by rw [h]; rfl
  mono := fun b cp ρ H ρ' H' h _ _ => h
  last := fun E b cp ρ H st s ⟨t, c, e⟩ h => ⟨b, t, c, e, h.done s (.int _)⟩
  next := fun E b cp ρ H st y v N s ⟨t, c, e⟩ ry h => by
    cases ry with
    | int j =>
      unfold stepS at h
      by_cases hj : -(2 ^ 63) ≤ j ∧ j < 2 ^ 63 ∧ -(2 ^ 63) ≤ b + j ∧ b + j < 2 ^ 63
      · simp only [if_pos hj] at h
        exact ⟨b, t, c, j, e, rfl, ⟨hj.1, hj.2.1⟩, hj.2.2, fun t' c' => h _ ⟨t', c', rfl⟩⟩
      · simp only [if_neg hj] at h
    | _ => exact h.elim
theorem cons_T (S : Addr) : Cons K mg (takeL S) (finL S fun ys H' => ∀ l, H' l = none → Q (.ref l) (upd H' l (.tup ys))) Q stepT D.tup (fun a cp ρ H => a.length ≤ sizeLine ∧ ∃ acc c ys, cp = [(S, lstObj acc c)] ∧ Vals ys acc.toList ∧ Reps K mg ρ H a ys) [S] where
  at_ := fun b cp ρ H ⟨_, acc, c, ys, h, _⟩ => by rw [h]; rfl
  mono := fun b cp ρ H ρ' H' ⟨hl, acc, c, ys, h, r, q⟩ hp he => ⟨hl, acc, c, ys, h, r, q.mono hp he⟩
  last := fun E b cp ρ H st s ⟨hl, acc, c, ys, e, r, q⟩ h => by
    refine ⟨ys, acc, c, e, r, by rw [← q.length]; exact hl, fun l hn => ?_⟩
    have g := Go.fresh (u := .tup ys) s hn
    exact h _ _ _ g (.tup (.inl (.inl upd_same)) (q.mono g.pre g.ext))
  next := fun E b cp ρ H st y v N s ⟨hl, acc, c, ys, e, r, q⟩ ry h => by
    unfold stepT at h
    by_cases hz : b.length < sizeLine
    · simp only [if_pos hz] at h
      refine ⟨acc, c, e, ?_, fun u c' ru => h _ ⟨?_, acc.push u, c', ys ++ [v], rfl, ?_, q.append (.cons ry .nil)⟩⟩
      · have e1 := r.length
        have e2 : acc.toList.length = acc.size := by simp
        have e3 := q.length
        omega
      · rw [List.length_append]
        exact hz
      · rw [Array.toList_push]
        exact r.append (.cons ru .nil)
    · simp only [if_neg hz] at h
end
/-! ### the expressions -/
noncomputable def eGen {β : Type} (ti : Nat) (step : β → D → Option (Sum β D)) (fin : β → D) (b0 : β) (fi : Ev Src) (vs : List Nat) (g : Tg) (c : Ev Bool) (f : Ev D) : Ev D := fun env st => bindR (fi env st) fun s st1 => match st1[ti]? with
  | some .tab => genM step fin s g c f (wipeD env vs) b0 s.items st1
  | _ => .bad
omit [TBs] in
theorem set_self {α : Type} : ∀ {l : List α} {n : Nat} {a : α}, l[n]? = some a → l.set n a = l
  | [], _, _, h => by simp at h
  | x :: l, 0, a, h => by simp at h; simp [h]
  | x :: l, n + 1, a, h => by simp at h; simp [set_self h]
theorem real_gen {K : PySem.W.Frag} {mg : Str → Option Value} {E : XK} {wi : TI} {fi : Ev Src} {β : Type} {ti : Nat} {c P : Addr} {step : β → D → Option (Sum β D)} {fin : β → D} {b0 : β} {vs : List Nat} {g : Tg} {cc : Ev Bool} {f : Ev D} {Q : VK} {ρ : List Addr} {env : Env} {st : Store} {σ : L2.St} {H : Hp} {Rest : It → Hp → Prop}
    (ri : Real K mg (RIt K mg) E wi fi) (ht : TBs.cs[ti]? = some (c, P)) (s : Sim K mg ρ st H) (e : EnvR K mg ρ H env σ) (h : Post K mg (Rep K mg) E ρ H Q (eGen ti step fin b0 fi vs g cc f env st))
    (hR : ∀ src J ρ1 H1 st1 H4, RIt K mg ρ1 H1 src J → Go K mg ρ1 H1 ρ1 st1 H4 → EnvR K mg ρ1 H4 env σ → Post K mg (Rep K mg) E ρ1 H4 Q (genM step fin src g cc f (wipeD env vs) b0 src.items st1) → Rest J H4) : tGen P wi Rest σ H := by
  refine ri ρ env st σ H _ s e (h.split fun src st1 ρ1 H1 J g1 qJ h1 => ?_)
  cases q : st1[ti]? with
  | none => rw [q] at h1; exact h1.elim
  | some o =>
    cases o with
    | tab =>
      rw [q] at h1
      obtain ⟨a, ho, e1, e2, r⟩ := g1.sim.at_ ti _ q
      have eP : (TBs.cs.map (·.2))[ti]? = some P := by rw [List.getElem?_map, ht]; rfl
      have e3 : ρ1[ti]? = some P := by
        obtain ⟨t, et⟩ := g1.sim.tb
        rw [← et, List.getElem?_append_left (List.getElem?_eq_some_iff.mp eP).1]
        exact eP
      rw [e3] at e1
      cases e1
      cases r with
      | @tab ps hp =>
        refine ⟨ps, e2, hp, fun more hm => ?_⟩
        have gt := Go.set (o' := .tab) (u' := .tbl (ps ++ more)) g1.sim q e3 e2 (.tab hp) (.tab hm)
        rw [set_self q] at gt
        exact hR src J ρ1 H1 st1 _ qJ gt ((e.mono g1.pre g1.ext).mono gt.pre gt.ext) (Post.from gt h1)
    | _ => rw [q] at h1; exact h1.elim
/-- the table of the running def -/
structure TbAt (mg : Str → Option Value) (base : Heap) (ti : Nat) (c P : Addr) : Prop where
  ix : TBs.cs[ti]? = some (c, P)
  tab : GxR.TabB base mg c P
/-- its parts -/
structure MParts (X : Cx) (k : Nat) (scope : Scope) (tg : Expr) (ifs : List Expr) (elt : Expr) (vs : List Nat) (g : Tg) (cc : Ev Bool) (f : Ev D) : Prop where
  pg : ∀ (A : Around) (s : Shared) (H : Hp) (cl : List (Str × Addr)) (C : Addr) (cd : Value) (bi : Addr) (fp : List Addr) (pn : Pins), Room k A → MGW (gX X A s H (genEnv scope cl C cd bi X.env) fp pn) E0 vs tg g
  pt : ∀ (A : Around) (s : Shared) (H : Hp) (cl : List (Str × Addr)) (C : Addr) (cd : Value) (bi : Addr) (fp : List Addr) (pn : Pins), Room k A → MTs (gX X A s H (genEnv scope cl C cd bi X.env) fp pn) E0 ifs cc
  pe : ∀ (A : Around) (s : Shared) (H : Hp) (cl : List (Str × Addr)) (C : Addr) (cd : Value) (bi : Addr) (fp : List Addr) (pn : Pins), Room k A → ME (gX X A s H (genEnv scope cl C cd bi X.env) fp pn) E0 elt f
theorem MParts.canon {X : Cx} {k : Nat} {scope : Scope} {tg : Expr} {ifs : List Expr} {elt : Expr} {vs : List Nat} {g : Tg} {cc : Ev Bool} {f : Ev D} (D : MParts X k scope tg ifs elt vs g cc f) :
    Parts X k scope tg ifs elt (tOfG X.K X.mg E0 vs g) (tOf X.K X.mg (REq Bool) E0 cc) (tOf X.K X.mg (Rep X.K X.mg) E0 f) :=
  ⟨fun A s H cl C cd bi fp pn r => (D.pg A s H cl C cd bi fp pn r).canon, fun A s H cl C cd bi fp pn r => (D.pt A s H cl C cd bi fp pn r).canon, fun A s H cl C cd bi fp pn r => (D.pe A s H cl C cd bi fp pn r).canon⟩
section
variable {X : Cx} {E : XK} {c P : Addr} {elt tg iter : Expr} {ifs : List Expr} {scope : Scope} {gpos p pos : Pos} {fi : Ev Src} {g : Tg} {cc : Ev Bool} {f : Ev D} {k : Nat}
theorem me_genAny (ti : Nat) (own : List (Str × Nat)) (tb : TbAt X.mg X.base ti c P) (hcode : X.env.code = .ref c) (hr : Room (k + 1) X.A) (hN : X.N.Nodup) (hm : X.mg "any" = none) (ok : GScp X.N X.env.scope scope own) (hi : MI X E tg iter fi) (D : MParts X k scope tg ifs elt (own.map (·.2)) g cc f) (hg : Gl X "any" := by rfl) (hs : ∀ v, genFold iter X.env v = pure v := by intro _; rfl)
    (he : starEach [.GeneratorExp elt [⟨tg, iter, ifs, 0⟩] scope gpos] X.env = (false, eval (.GeneratorExp elt [⟨tg, iter, ifs, 0⟩] scope gpos) X.env) :: starEach [] X.env := by rfl) :
    ME X E (.Call (.Name "any" p) [.GeneratorExp elt [⟨tg, iter, ifs, 0⟩] scope gpos] [] pos) (eGen ti (stepB true) (fun _ => .bl false) () fi (own.map (·.2)) g cc f) := by
  obtain ⟨wi, pi, ri⟩ := hi
  refine ⟨_, pe_genAny hr hN tb.tab hcode ok pi hs D.canon hg hm he, fun ρ env st σ H Q s e h => ?_⟩
  exact real_gen ri tb.ix s e h fun src J ρ1 H1 st1 H4 qJ gt e4 h4 => gen_ahead (cons_B true) qJ gt e4 (fun ρ env st σ H v d Q s e r h => ⟨ρ, env, st, d, s, e, r, h⟩) real_tOf real_tOf rfl h4
theorem me_genAll (ti : Nat) (own : List (Str × Nat)) (tb : TbAt X.mg X.base ti c P) (hcode : X.env.code = .ref c) (hr : Room (k + 1) X.A) (hN : X.N.Nodup) (hm : X.mg "all" = none) (ok : GScp X.N X.env.scope scope own) (hi : MI X E tg iter fi) (D : MParts X k scope tg ifs elt (own.map (·.2)) g cc f) (hg : Gl X "all" := by rfl) (hs : ∀ v, genFold iter X.env v = pure v := by intro _; rfl)
    (he : starEach [.GeneratorExp elt [⟨tg, iter, ifs, 0⟩] scope gpos] X.env = (false, eval (.GeneratorExp elt [⟨tg, iter, ifs, 0⟩] scope gpos) X.env) :: starEach [] X.env := by rfl) :
    ME X E (.Call (.Name "all" p) [.GeneratorExp elt [⟨tg, iter, ifs, 0⟩] scope gpos] [] pos) (eGen ti (stepB false) (fun _ => .bl true) () fi (own.map (·.2)) g cc f) := by
  obtain ⟨wi, pi, ri⟩ := hi
  refine ⟨_, pe_genAll hr hN tb.tab hcode ok pi hs D.canon hg hm (he := he), fun ρ env st σ H Q s e h => ?_⟩
  exact real_gen ri tb.ix s e h fun src J ρ1 H1 st1 H4 qJ gt e4 h4 => gen_ahead (cons_B false) qJ gt e4 (fun ρ env st σ H v d Q s e r h => ⟨ρ, env, st, d, s, e, r, h⟩) real_tOf real_tOf rfl h4
theorem me_genSum (ti : Nat) (own : List (Str × Nat)) (tb : TbAt X.mg X.base ti c P) (hcode : X.env.code = .ref c) (hr : Room (k + 1) X.A) (hN : X.N.Nodup) (hm : X.mg "sum" = none) (ok : GScp X.N X.env.scope scope own) (hi : MI X E tg iter fi) (D : MParts X k scope tg ifs elt (own.map (·.2)) g cc f) (hg : Gl X "sum" := by rfl) (hs : ∀ v, genFold iter X.env v = pure v := by intro _; rfl)
    (he : starEach [.GeneratorExp elt [⟨tg, iter, ifs, 0⟩] scope gpos] X.env = (false, eval (.GeneratorExp elt [⟨tg, iter, ifs, 0⟩] scope gpos) X.env) :: starEach [] X.env := by rfl) :
    ME X E (.Call (.Name "sum" p) [.GeneratorExp elt [⟨tg, iter, ifs, 0⟩] scope gpos] [] pos) (eGen ti stepS .int 0 fi (own.map (·.2)) g cc f) := by
  obtain ⟨wi, pi, ri⟩ := hi
  refine ⟨_, pe_genSum hr hN tb.tab hcode ok pi hs D.canon hg hm (he := he), fun ρ env st σ H Q s e h => ?_⟩
  exact real_gen ri tb.ix s e h fun src J ρ1 H1 st1 H4 qJ gt e4 h4 S t c => gen_ahead (cons_S S) qJ gt e4 (fun ρ env st σ H v d Q s e r h => ⟨ρ, env, st, d, s, e, r, h⟩) real_tOf real_tOf ⟨t, c, rfl⟩ h4
theorem me_genTup (ti : Nat) (own : List (Str × Nat)) (tb : TbAt X.mg X.base ti c P) (hcode : X.env.code = .ref c) (hr : Room (k + 1) X.A) (hN : X.N.Nodup) (hm : X.mg "tuple" = none) (ok : GScp X.N X.env.scope scope own) (hi : MI X E tg iter fi) (D : MParts X k scope tg ifs elt (own.map (·.2)) g cc f) (hg : Gl X "tuple" := by rfl) (hs : ∀ v, genFold iter X.env v = pure v := by intro _; rfl)
    (he : starEach [.GeneratorExp elt [⟨tg, iter, ifs, 0⟩] scope gpos] X.env = (false, eval (.GeneratorExp elt [⟨tg, iter, ifs, 0⟩] scope gpos) X.env) :: starEach [] X.env := by rfl) :
    ME X E (.Call (.Name "tuple" p) [.GeneratorExp elt [⟨tg, iter, ifs, 0⟩] scope gpos] [] pos) (eGen ti stepT .tup [] fi (own.map (·.2)) g cc f) := by
  obtain ⟨wi, pi, ri⟩ := hi
  refine ⟨_, pe_genTup hr hN tb.tab hcode ok pi hs D.canon hg hm he, fun ρ env st σ H Q s e h => ?_⟩
  exact real_gen ri tb.ix s e h fun src J ρ1 H1 st1 H4 qJ gt e4 h4 S c => gen_ahead (cons_T S) qJ gt e4 (fun ρ env st σ H v d Q s e r h => ⟨ρ, env, st, d, s, e, r, h⟩) real_tOf real_tOf ⟨Nat.zero_le _, #[], c, [], rfl, .nil, .nil⟩ h4
end
end MP

namespace MP
open PySem PySem.Spec PyProof.Rows L2
variable [TBs]
omit [TBs] in
theorem gscp_by {N : List Str} {sc scope : Scope} {own : List (Str × Nat)} (h : blkC N sc scope own = true) (h2 : (!scope.isCoroutine && scope.names.all (fun y => !(y.2 == NameKind.cell)) && (scope.names.lookup (".0" : Str) == some NameKind.local)) = true) : GScp N sc scope own := by
  simp only [Bool.and_eq_true, Bool.not_eq_true', List.all_eq_true, beq_iff_eq] at h2
  exact ⟨blkOk_by h, h2.1.1, fun y hy e => (by have := h2.1.2 y hy; rw [e] at this; cases this), h2.2⟩
/-! ### defs with a table -/
structure FunT (K : PySem.W.Frag) (x qual : Str) (st : Stmt) (f : Addr) (fd : FuncData) (c : Addr) : Prop where
  fn : Fun K x qual st f fd
  ex : ∃ (oc : Value) (od : Option Addr) (kV doc pm : Value) (an : Option Addr) (ct : Value) (osl : Array (Option Value)),
    fd = PySem.W.fnOf x qual (defArgs st) (defBody st) (defScope st) .none kV doc pm an (.ref c) ct ∧ K.lookup f = some ⟨oc, od, .func fd, osl⟩ ∧ PySem.W.codeIn K (.ref c) qual = true
omit [TBs] in
theorem funT_mk {K : PySem.W.Frag} {x qual : Str} {st : Stmt} {f c : Addr} {oc : Value} {od an : Option Addr} {osl : Array (Option Value)} {kV doc pm cdv ct : Value} (l : K.lookup f = some ⟨oc, od, .func (PySem.W.fnOf x qual (defArgs st) (defBody st) (defScope st) .none kV doc pm an cdv ct), osl⟩)
    (h : PySem.W.codeIn K cdv qual = true) (k : PySem.W.keepIn K (.ref f) = true) (e : cdv = .ref c) : FunT K x qual st f (PySem.W.fnOf x qual (defArgs st) (defBody st) (defScope st) .none kV doc pm an cdv ct) c := by
  subst e
  exact ⟨fun_mk l h k, oc, od, kV, doc, pm, an, ct, osl, rfl, l, h⟩
section
variable {P : Program} {w : World} {K : PySem.W.Frag} {mg : Str → Option Value} {base : Heap}
theorem fn_okT {x qual : Str} {st : Stmt} {f c : Addr} {fd : FuncData} {N ps : List Str} {k : Nat} {g : Env → Store → SR} (F : FunT K x qual st f fd c) (S : FnScope N ps (defScope st))
    (hb : ∀ (A : Around) (outer : List PySem.Env) (s : Shared) (H : Hp) (E : XK), Room k (A.deeper (envOfC qual (defScope st) s.heap.objs.size f (.ref c))) →
      MSs (cxOf CX0 P w K mg base N qual (defScope st) f (.ref c) A outer s H E).nox E0 (defBody st) g) : FnOk P w K mg base CX0 (k + 1) f fd ps (spM K mg ps.length (ofBody N.length g)) := by
  obtain ⟨oc, od, kV, doc, pm, an, ct, osl, rfl, lk, hcd⟩ := F.ex
  refine fn_of lk hcd S (fun vs H Q E h => h.1) fun A outer s H vs Q E hr h => ?_
  obtain ⟨t, pt, rt⟩ := hb A outer s H E hr
  refine ⟨t, pt.nox, ?_⟩
  obtain ⟨hl, ρ, st0, ds, s0, rs, hp⟩ := h
  refine rt ρ _ st0 _ H _ s0 (envR_start (N := N.length) rs) ?_
  unfold ofBody at hp
  cases q : g (ds.map some ++ List.replicate (N.length - ds.length) none) st0 with
  | ret d st1 => simp only [q] at hp; exact hp
  | next env st1 => simp only [q] at hp; exact fun ρ' σ' H' g' e' => hp ρ' H' .non g' .non
  | brk env st1 => simp only [q] at hp; exact hp.elim
  | cnt env st1 => simp only [q] at hp; exact hp.elim
  | exc c d env st1 => simp only [q] at hp; exact hp.elim
  | bad => simp only [q] at hp; exact hp.elim
/-- the law's promise as its end hands it over: the script may be any list -/
def spEnd (K : PySem.W.Frag) : Sp := fun vs H Q _ => ∃ (a : Addr) (ns : List Int), vs = [.ref a] ∧ ns.length ≤ 63 ∧ SqL K H a (ns.map V.int) ∧ (TBs.cs.map (·.2)).Nodup ∧ (∀ b ∈ TBs.cs.map (·.2), H b = some (.tbl #[])) ∧ ∀ v, v = V.bl true → ∀ H', Q v H'
/-- a list that stays as it is: nobody writes it -/
theorem law_end {k : Nat} {f : Addr} {fd : FuncData} {ps : List Str} (F : FnOk P w K mg base CX0 k f fd ps (spLaw K)) (hps : ps.length = 1) : FnOk P w K mg base CX0 k f fd ps (spEnd K) := by
  refine ⟨fun vs H Q E ⟨a, ns, e, _⟩ => (by rw [e, hps]; rfl), fun A outer s H args us vs Q E hr he hbd hv q => ?_⟩
  obtain ⟨a, ns, rfl, hl, hS, hn, ht, hq⟩ := q
  have known : ∀ H1 : Hp, SqF K H1 a (ns.map V.int) → (∀ b ∈ TBs.cs.map (·.2), H1 b = some (.tbl #[])) → spLaw K [.ref a] H1 (fun v _ => v = .bl true) E := fun H1 h1 h2 => ⟨a, ns, rfl, hl, h1, hn, h2, fun _ => rfl⟩
  rcases hS with (hS | hS) | hS
  · have ha := he.hok a _ hS
    obtain ⟨hz, its, n, r, e⟩ := id ha
    have nt : ∀ b ∈ TBs.cs.map (·.2), b ≠ a := fun b hb z => by
      have := ht b hb
      rw [z, hS] at this
      cases this
    generalize ho : ({ cls := .type "list", data := .seq its.toArray n } : Obj) = o at e
    have a1 : upd H a (.frz o (.lst (ns.map V.int))) a = some (.frz o (.lst (ns.map V.int))) := upd_same
    have off : ∀ {b}, b ≠ a → upd H a (.frz o (.lst (ns.map V.int))) b = H b := fun h => upd_ne h
    have nnA : ∀ {b}, H b = none → b ≠ a := fun h z => by rw [z, hS] at h; cases h
    have e1 : Env0 P w K mg base A outer s (upd H a (.frz o (.lst (ns.map V.int)))) := by
      refine ⟨he.frames, he.mod, fun b o' h => ⟨(he.bs b o' h).1, by rw [off (nnA (he.bs b o' h).2)]; exact (he.bs b o' h).2⟩, he.bsz, he.funs, fun b h => by rw [off (nnA (he.frf b h))]; exact he.frf b h, fun b u h => ?_, he.bare⟩
      by_cases hb : b = a
      · subst hb
        rw [a1] at h
        cases h
        exact ⟨e, hz, its, n, r, by rw [← ho] at e; exact e⟩
      · rw [off hb] at h
        exact (he.hok b u h).stay (fun d v _ q => q) (fun d q => by rw [off (fun z => by rw [z, hS] at q; cases q)]; exact q) fun d xs q => by rw [off (fun z => by rw [z, hS] at q; cases q)]; exact q
    refine codeAny_mono (F.run A outer s _ args us _ _ E hr e1 hbd hv (known _ (.inl ⟨o, a1⟩) fun b hb => by rw [off (nt b hb)]; exact ht b hb)) fun r' s' hc => ?_
    cases r' with
    | error x => exact hc
    | ok fl =>
      cases fl with
      | ret u =>
        obtain ⟨v, H2, os, ba, un, ok2, rv, qv⟩ := hc
        have fz := un.frzs a o _ a1
        have back : ∀ {b}, b ≠ a → upd H2 a (.lst (ns.map V.int)) b = H2 b := fun h => upd_ne h
        have backA : upd H2 a (.lst (ns.map V.int)) a = some (.lst (ns.map V.int)) := upd_same
        refine ⟨v, upd H2 a (.lst (ns.map V.int)), os, ba, ⟨fun b u h1 h2 h3 h4 => un.keep b u h1 (by rw [off (nnA h2)]; exact h2) h3 h4, fun b u h1 h2 h3 h4 => un.slot b u h1 (by rw [off (nnA h2)]; exact h2) h3 h4, fun b u h1 h2 h3 => ?_, un.there, fun b xs h1 => ?_, fun b u y h1 => ?_, fun b qs h1 => ?_⟩, fun b u h1 => ?_, rv, hq v qv _⟩
        · rw [back (nnA h2)]
          exact un.free b u h1 (by rw [off (nnA h2)]; exact h2) h3
        · have nb : b ≠ a := fun z => by rw [z, hS] at h1; cases h1
          rw [back nb]
          exact un.tups b xs (by rw [off nb]; exact h1)
        · have nb : b ≠ a := fun z => by rw [z, hS] at h1; cases h1
          rw [back nb]
          exact un.frzs b u y (by rw [off nb]; exact h1)
        · have nb : b ≠ a := fun z => by rw [z, hS] at h1; cases h1
          rw [back nb]
          exact un.tbls b qs (by rw [off nb]; exact h1)
        · by_cases hb : b = a
          · subst hb
            rw [backA] at h1
            cases h1
            exact (ok2 _ _ fz).2
          · rw [back hb] at h1
            exact (ok2 b u h1).stay (fun d v _ q => q) (fun d q => by rw [back (fun z => by rw [z, fz] at q; cases q)]; exact q) fun d xs q => by rw [back (fun z => by rw [z, fz] at q; cases q)]; exact q
      | next => exact hc
      | brk => exact hc
      | cont => exact hc
  all_goals
    refine codeAny_mono (F.run A outer s H args us _ _ E hr he hbd hv (known H (by first | exact .inl hS | exact .inr hS) ht)) fun r' s' hc => ?_
    cases r' with
    | error x => exact hc
    | ok fl =>
      cases fl with
      | ret u =>
        obtain ⟨v, H2, os, ba, un, ok2, rv, qv⟩ := hc
        exact ⟨v, H2, os, ba, un, ok2, rv, hq v qv H2⟩
      | next => exact hc
      | brk => exact hc
      | cont => exact hc
end
end MP
namespace MP
open PySem PySem.Spec PyProof.Rows L2
/-- what the end needs of a law with tables -/
def TabLaw (l : PySem.W.OpenLaw) (w : World) (K : PySem.W.Frag) (k : Nat) (x : Str) (mg : Str → Option Value) (fa : Addr) (h : Heap) : Prop :=
  ∃ (fd : FuncData) (cs : List (Addr × Addr)), (∀ p ∈ cs, h.get? p.2 = some { cls := .none, data := .fields #[] }) ∧ (∀ p ∈ cs, K.lookup p.2 = none) ∧ (∀ p ∈ cs, PySem.W.CodeHd h p.1 p.2) ∧ (cs.map (·.2)).Nodup ∧ (∀ (s : Shared) (u : Value), BindsTo s fd ⟨[u], []⟩ [(x, u)]) ∧
    ∀ base : Heap, K.In base → base.Ns mainGlobals mg → (∀ p ∈ cs, GxR.TabB base mg p.1 p.2) → FnOk l.prog w K mg base CX0 k fa fd [x] (@spEnd ⟨cs⟩ K)
/-- the end of a law row: the tables of its defs -/
theorem walk_tabs {l : PySem.W.OpenLaw} {k : Nat} {q : Program} {loose : List Str} {XP : (Str → Option Value) → Heap → Prop} {YP : World → Heap → Prop} {d : DefRec} {K : Params → PySem.W.Frag} {x : Str} {xs : List Str}
    (hn : l.most = some 63) (hdf : d.params.defaults = []) (hr : Room k callerA) (hrec : (xs.all fun x => (recsOf q).any fun e => e.name == x) = true) (hY : ∀ (w : World) (h : Heap), YP w h → (K w.params).In h)
    (F : ∀ (w : World) (mg : Str → Option Value) (fa : Addr) (h : Heap), (K w.params).In h → h.Ns mainGlobals mg → mg d.name = some (.ref fa) → (∀ (x : Str) (f : Addr), x ∈ xs → mg x = some (.ref f) → LamX.OwnTab (K w.params) f h) → TabLaw l w (K w.params) k x mg fa h) :
    PySem.W.WalkO q loose XP YP l.row.toRowW d [] (fun f vs => PySem.call f vs) := by
  refine Att.attach_callB hn hdf fun w s₀ s₁ mg mb fa o pm cd doc a vs ns G Y ho hd hcd hmg hobj hints hlen hbits hg => ?_
  have KX := hY w _ Y
  obtain ⟨fd, cs, hT, nT, C, nd, hb, hF⟩ := F w mg fa _ KX G.T.g hmg fun x f hx hf c P o1 fd1 e dd vs1 sl k1 k2 k3 k4 k5 => by
    obtain ⟨r, hm, hr1⟩ := List.any_eq_true.mp (List.all_eq_true.mp hrec x hx)
    have er : r.name = x := beq_iff_eq.mp hr1
    obtain ⟨a', o', fd', c', P', h1, h2, h3, h4, _, h6⟩ := G.T.tab r hm
    rw [er, hf] at h1
    cases h1
    have g1 := KX _ _ k1
    rw [g1] at h2
    cases h2
    rw [k2] at h3
    cases h3
    rw [k3] at h4
    cases h4
    obtain ⟨⟨oc, vc, e1, _, e3, e4⟩, hP⟩ := h6
    have g2 := KX _ _ k4
    rw [g2] at e1
    cases e1
    cases e3
    rw [k5] at e4
    cases e4
    exact hP
  refine LamX.law_callTs (CX := CX0) KX G.T.g G.T.b G.T.builtins G.T.nolimit hg hT nT C G.T.bmain hobj hints (Nat.le_trans hlen (by decide)) hr (fun base z1 z2 z3 => hF base z1 z2 fun p hp => ⟨(z3 p hp).1, (z3 p hp).2, (z3 p hp).3⟩) hb (fun H hH hS => ?_) fun H e s' z => z
  exact ⟨a, ns, rfl, hlen, hS, nd, fun b hb => (by obtain ⟨p, hp, e⟩ := List.mem_map.mp hb; rw [← e]; exact hH p hp), fun v hv _ => hv⟩
end MP

/-! more of the mirror, run by simp -/
namespace MP
open PySem PySem.Spec PyProof.Rows L2
/-! ranges -/
def rg1 (ds : List D) (st : Store) : Res Src := match ds with
  | [.int j] => if -(2 ^ 62) ≤ j ∧ j < 2 ^ 62 then .ok { items := rgD 0 j.toNat } st else .bad
  | _ => .bad
theorem rg1_def (f : Ev (List D)) (env : Env) (st : Store) : fRange1 f env st = bindR (f env st) rg1 := rfl
theorem rg1_int (j : Int) (st : Store) : rg1 [.int j] st = if -(2 ^ 62) ≤ j ∧ j < 2 ^ 62 then .ok { items := rgD 0 j.toNat } st else .bad := rfl
theorem rgD_zero (i : Int) : rgD i 0 = [] := rfl
theorem rgD_succ (i : Int) (n : Nat) : rgD i (n + 1) = .int i :: rgD (i + 1) n := by
  unfold rgD
  rw [List.range_succ_eq_map, List.map_cons, List.map_map]
  congr 1
  · simp
  · apply List.map_congr_left
    intro a _
    show D.int (i + ((a + 1 : Nat) : Int)) = D.int (i + 1 + (a : Nat))
    congr 1
    omega
/-! append -/
def appL (o : Option O) (r : Res D) : Res D := match o with
  | some (.lst _) => r
  | _ => .bad
def appD (o : D) (st : Store) (r : Res D) : Res D := match o with
  | .ref n => appL st[n]? r
  | _ => .bad
def appP (o : Option O) (n : Nat) (d : D) (st : Store) : Res D := match o with
  | some (.lst ds) => if ds.length < sizeLine then .ok .non (st.set n (.lst (ds ++ [d]))) else .bad
  | _ => .bad
def appE (o : D) (d : D) (st : Store) : Res D := match o with
  | .ref n => appP st[n]? n d st
  | _ => .bad
theorem app_def (fo f : Ev D) (env : Env) (st : Store) : eApp fo f env st = bindR (fo env st) fun o st1 => appD o st1 (bindR (f env st1) fun d st2 => appE o d st2) := by
  unfold eApp
  have h : ∀ o st1, (match o with | D.ref n => (match st1[n]? with | some (O.lst _) => bindR (f env st1) fun d st2 => appTo n d st2 | _ => Res.bad) | _ => Res.bad) = appD o st1 (bindR (f env st1) fun d st2 => appE o d st2) := fun o st1 => by
    cases o with
    | ref n =>
      show (match st1[n]? with | some (.lst _) => bindR (f env st1) fun d st2 => appTo n d st2 | _ => .bad) = appL st1[n]? _
      cases st1[n]? with
      | none => rfl
      | some o => cases o <;> rfl
    | _ => rfl
  exact congrArg (bindR (fo env st)) (funext fun o => funext fun st1 => h o st1)
theorem appD_ref (n : Nat) (st : Store) (r : Res D) : appD (.ref n) st r = appL st[n]? r := rfl
theorem appL_lst (ds : List D) (r : Res D) : appL (some (.lst ds)) r = r := rfl
theorem appE_ref (n : Nat) (d : D) (st : Store) : appE (.ref n) d st = appP st[n]? n d st := rfl
theorem appP_lst (ds : List D) (n : Nat) (d : D) (st : Store) (h : ds.length < sizeLine) : appP (some (.lst ds)) n d st = .ok .non (st.set n (.lst (ds ++ [d]))) := if_pos h
/-! generator expressions -/
def tabR (o : Option O) (r : Res D) : Res D := match o with
  | some .tab => r
  | _ => .bad
theorem tabR_tab (r : Res D) : tabR (some .tab) r = r := rfl
theorem gen_def {β : Type} (ti : Nat) (step : β → D → Option (Sum β D)) (fin : β → D) (b0 : β) (fi : Ev Src) (vs : List Nat) (g : Tg) (c : Ev Bool) (f : Ev D) (env : Env) (st : Store) :
    eGen ti step fin b0 fi vs g c f env st = bindR (fi env st) fun s st1 => tabR st1[ti]? (genM step fin s g c f (wipeD env vs) b0 s.items st1) := by
  unfold eGen
  have h : ∀ (o : Option O) (r : Res D), (match o with | some O.tab => r | _ => Res.bad) = tabR o r := fun o r => by
    cases o with
    | none => rfl
    | some o => cases o <;> rfl
  exact congrArg (bindR (fi env st)) (funext fun s => funext fun st1 => h _ _)
theorem wipe_nil (env : Env) : wipeD env [] = env := rfl
theorem wipe_cons (env : Env) (v : Nat) (vs : List Nat) : wipeD env (v :: vs) = (wipeD env vs).set v none := rfl
def stepK {β : Type} (o : Option (Sum β D)) (st : Store) (k : β → Store → Res D) : Res D := match o with
  | some (.inl b) => k b st
  | some (.inr r) => .ok r st
  | none => .bad
theorem stepK_l {β : Type} (b : β) (st : Store) (k : β → Store → Res D) : stepK (some (.inl b)) st k = k b st := rfl
theorem stepK_r {β : Type} (r : D) (st : Store) (k : β → Store → Res D) : stepK (some (.inr r)) st k = .ok r st := rfl
theorem genM_nil {β : Type} (step : β → D → Option (Sum β D)) (fin : β → D) (s : Src) (g : Tg) (c : Ev Bool) (f : Ev D) (env : Env) (b : β) (st : Store) (h : s.Ok st) : genM step fin s g c f env b [] st = .ok (fin b) st := by
  unfold genM
  rw [if_pos h]
theorem genM_cons {β : Type} (step : β → D → Option (Sum β D)) (fin : β → D) (s : Src) (g : Tg) (c : Ev Bool) (f : Ev D) (env : Env) (b : β) (d : D) (ds : List D) (st : Store) (h : s.Ok st) :
    genM step fin s g c f env b (d :: ds) st = bindX (g d env st) fun env1 st1 => bindX (c env1 st1) fun t st2 => if t = true then bindX (f env1 st2) fun y st3 => stepK (step b y) st3 fun b' st' => genM step fin s g c f env b' ds st' else genM step fin s g c f env b ds st2 := by
  rw [genM]
  rw [if_pos h]
  have hk : ∀ (o : Option (Sum β D)) st3, (match o with | some (.inl b') => genM step fin s g c f env b' ds st3 | some (.inr r) => Res.ok r st3 | none => .bad) = stepK o st3 fun b' st' => genM step fin s g c f env b' ds st' := fun o st3 => by
    cases o with
    | none => rfl
    | some r => cases r <;> rfl
  refine congrArg (bindX (g d env st)) (funext fun env1 => funext fun st1 => congrArg (bindX (c env1 st1)) (funext fun t => funext fun st2 => ?_))
  split
  · exact congrArg (bindX (f env1 st2)) (funext fun y => funext fun st3 => hk _ _)
  · rfl
theorem stepB_bl (stop b : Bool) (u : Unit) : stepB stop u (.bl b) = if b = stop then some (.inr (.bl stop)) else some (.inl ()) := rfl
theorem stepS_int (a j : Int) : stepS a (.int j) = if -(2 ^ 63) ≤ j ∧ j < 2 ^ 63 ∧ -(2 ^ 63) ≤ a + j ∧ a + j < 2 ^ 63 then some (.inl (a + j)) else none := rfl
theorem stepT_def (a : List D) (y : D) (h : a.length < sizeLine) : stepT a y = some (.inl (a ++ [y])) := if_pos h
theorem yes_def (env : Env) (st : Store) : tYesM env st = .ok true st := rfl
/-! list comprehensions -/
theorem lc_def (fi : Ev Src) (vs : List Nat) (g : Tg) (c : Ev Bool) (f : Ev D) (env : Env) (st : Store) : eLc fi vs g c f env st = bindR (fi env st) fun s st1 => bindX (lcM s g c f st1.length (wipeD env vs) s.items (st1 ++ [.lst []])) fun _ st2 => .ok (.ref st1.length) st2 := rfl
theorem lcM_nil (s : Src) (g : Tg) (c : Ev Bool) (f : Ev D) (id : Nat) (env : Env) (st : Store) (h : s.Ok st) : lcM s g c f id env [] st = .ok () st := by
  unfold lcM
  rw [if_pos h]
theorem lcM_cons (s : Src) (g : Tg) (c : Ev Bool) (f : Ev D) (id : Nat) (env : Env) (d : D) (ds : List D) (st : Store) (h : s.Ok st) :
    lcM s g c f id env (d :: ds) st = bindX (g d env st) fun env1 st1 => bindX (c env1 st1) fun b st2 => if b = true then bindX (f env1 st2) fun y st3 => bindX (grow id y st3) fun _ st4 => lcM s g c f id env ds st4 else lcM s g c f id env ds st2 := by
  rw [lcM]
  rw [if_pos h]
def growO (o : Option O) (id : Nat) (y : D) (st : Store) : Res Unit := match o with
  | some (.lst acc) => if acc.length < sizeLine then .ok () (st.set id (.lst (acc ++ [y]))) else .bad
  | _ => .bad
theorem grow_def (id : Nat) (y : D) (st : Store) : grow id y st = growO st[id]? id y st := by
  unfold grow
  cases st[id]? with
  | none => rfl
  | some o => cases o <;> rfl
theorem growO_lst (acc : List D) (id : Nat) (y : D) (st : Store) (h : acc.length < sizeLine) : growO (some (.lst acc)) id y st = .ok () (st.set id (.lst (acc ++ [y]))) := if_pos h
/-! plain data -/
mutual
def ofP : PyData → D
  | .none => .non
  | .bool b => .bl b
  | .int i => .int i
  | .str x => .str x
  | .tuple ps => .tup (ofPs ps)
  | _ => .non
def ofPs : List PyData → List D
  | [] => []
  | p :: ps => ofP p :: ofPs ps
end
mutual
def pln : PyData → Bool
  | .none => true
  | .bool _ => true
  | .int _ => true
  | .str x => PyData.strOk x
  | .tuple ps => plns ps
  | _ => false
def plns : List PyData → Bool
  | [] => true
  | p :: ps => pln p && plns ps
end
mutual
theorem pl_toP (st : Store) : ∀ (n : Nat) (p : PyData), pln p = true → p.depth ≤ n → toP st n (ofP p) = some p
  | _, .none, _, _ => by cases ‹Nat› <;> rfl
  | _, .bool _, _, _ => by cases ‹Nat› <;> rfl
  | _, .int _, _, _ => by cases ‹Nat› <;> rfl
  | _, .str _, _, _ => by cases ‹Nat› <;> rfl
  | 0, .tuple ps, _, hd => by simp [PyData.depth] at hd
  | n + 1, .tuple ps, h, hd => by
    have hd' : PyData.depthAll ps ≤ n := by
      simp only [PyData.depth] at hd
      omega
    show ((ofPs ps).mapM (toP st n)).map PyData.tuple = _
    rw [pls_toP st n ps h hd']
    rfl
theorem pls_toP (st : Store) : ∀ (n : Nat) (ps : List PyData), plns ps = true → PyData.depthAll ps ≤ n → (ofPs ps).mapM (toP st n) = some ps
  | _, [], _, _ => rfl
  | n, p :: ps, h, hd => by
    simp only [plns, Bool.and_eq_true] at h
    simp only [PyData.depthAll] at hd
    show (ofP p :: ofPs ps).mapM (toP st n) = _
    rw [List.mapM_cons, pl_toP st n p h.1 (by omega)]
    show ((ofPs ps).mapM (toP st n)).bind _ = _
    rw [pls_toP st n ps h.2 (by omega)]
    rfl
end
mutual
theorem pln_lay : ∀ p : PyData, pln p = true → p.canLay0 = true
  | .none, _ => rfl
  | .bool _, _ => rfl
  | .int _, _ => rfl
  | .str x, h => h
  | .tuple ps, h => plns_lay ps h
theorem plns_lay : ∀ ps : List PyData, plns ps = true → PyData.canLayAll0 ps = true
  | [], _ => rfl
  | p :: ps, h => by
    simp only [plns, Bool.and_eq_true] at h
    simp only [PyData.canLayAll0, Bool.and_eq_true]
    exact ⟨pln_lay p h.1, plns_lay ps h.2⟩
end
theorem shaped_pln {p : PyData} (h : pln p = true) (hd : p.depth ≤ 64) : SeqAt.shaped p = true := by
  unfold SeqAt.shaped
  rw [pln_lay p h]
  simpa using hd
theorem deep_same {st : Store} {x y : D} {p : PyData} (hx : toP st 64 x = some p) (hy : toP st 64 y = some p) (hs : SeqAt.shaped p = true) : deepEq st x y = some true := by
  unfold deepEq
  rw [hx, hy]
  show (if SeqAt.shaped p = true ∧ SeqAt.shaped p = true then some (PyData.eqv p p) else none) = _
  rw [if_pos ⟨hs, hs⟩, SeqAt.eqv_refl _ (SeqAt.canLay_of_shaped hs)]
/-- two tuples of the same data -/
theorem eq_tt {st : Store} {neg : Bool} {ps : List PyData} (h : plns ps = true) (hd : PyData.depthAll ps ≤ 63) : gEq neg (.tup (ofPs ps)) (.tup (ofPs ps)) st = .ok (.bl (!neg)) st := by
  have e : toP st 64 (.tup (ofPs ps)) = some (.tuple ps) := pl_toP st 64 (.tuple ps) h (by simp only [PyData.depth]; omega)
  rw [gEq_def, show eqD st (.tup (ofPs ps)) (.tup (ofPs ps)) = deepEq st (.tup (ofPs ps)) (.tup (ofPs ps)) from rfl, deep_same e e (shaped_pln (p := .tuple ps) h (by simp only [PyData.depth]; omega)), blR_some]
  cases neg <;> rfl
/-- two lists of the same data -/
theorem eq_ll {st : Store} {neg : Bool} {n m : Nat} {ps : List PyData} (hn : st[n]? = some (.lst (ofPs ps))) (hm : st[m]? = some (.lst (ofPs ps))) (h : plns ps = true) (hd : PyData.depthAll ps ≤ 63) : gEq neg (.ref n) (.ref m) st = .ok (.bl (!neg)) st := by
  have e : ∀ k, st[k]? = some (.lst (ofPs ps)) → toP st 64 (.ref k) = some (.list ps) := fun k hk => by
    show (match st[k]? with | some (.lst ds) => (ds.mapM (toP st 63)).map PyData.list | _ => none) = _
    rw [hk]
    show ((ofPs ps).mapM (toP st 63)).map PyData.list = _
    rw [pls_toP st 63 ps h hd]
    rfl
  have hs : SeqAt.shaped (.list ps) = true := by
    unfold SeqAt.shaped
    have hd2 : (PyData.list ps).depth ≤ 64 := by
      simp only [PyData.depth]
      omega
    have hc : (PyData.list ps).canLay0 = true := plns_lay ps h
    rw [hc, decide_eq_true hd2]
    rfl
  rw [gEq_def, show eqD st (.ref n) (.ref m) = deepEq st (.ref n) (.ref m) from rfl, deep_same (e n hn) (e m hm) hs, blR_some]
  cases neg <;> rfl
end MP

/-! chains, abs, slices, list methods -/
namespace MP
open PySem PySem.Spec PyProof.Rows L2
variable [TBs]
def eChn (g1 g2 : G2) (fa fb fc : Ev D) : Ev D := fun env st => bindR (fa env st) fun x st1 => bindR (fb env st1) fun y st2 => bindR (g1 x y st2) fun z st3 => match z with
  | .bl true => bindR (fc env st3) fun u st4 => g2 y u st4
  | .bl false => .ok (.bl false) st3
  | _ => .bad
section
variable {X : Cx} {E : XK} {pos : Pos} {a b c : Expr} {fa fb fc : Ev D} {g1 g2 : G2}
theorem real_chain {K : PySem.W.Frag} {mg : Str → Option Value} {r1 r2 : R2} {ta tb tc : TE} (ra : Real K mg (Rep K mg) E ta fa) (rb : Real K mg (Rep K mg) E tb fb) (rc : Real K mg (Rep K mg) E tc fc) (h1 : Real2 K mg E r1 g1) (h2 : Real2 K mg E r2 g2) :
    Real K mg (Rep K mg) E (tChain r1 r2 ta tb tc) (eChn g1 g2 fa fb fc) := fun ρ env st σ H Q s e h =>
  ra ρ env st σ H _ s e (h.split fun x st1 ρ1 H1 xv q1 rx k1 => rb ρ1 env st1 σ H1 _ q1.sim (e.mono q1.pre q1.ext) (k1.split fun y st2 ρ2 H2 yv q2 ry k2 =>
    h1 ρ2 st2 H2 _ _ _ _ _ q2.sim (rx.mono q2.pre q2.ext) ry (k2.split fun z st3 ρ3 H3 zv q3 rz k3 => by
      cases z with
      | bl t =>
        cases rz
        refine ⟨t, rfl, ?_⟩
        have g := (q1.trans q2).trans q3
        cases t with
        | true =>
          rw [if_pos rfl]
          exact rc ρ3 env st3 σ H3 _ q3.sim (e.mono g.pre g.ext) (k3.split fun u st4 ρ4 H4 uv q4 ru k4 => h2 ρ4 st4 H4 _ _ _ _ _ q4.sim ((ry.mono q3.pre q3.ext).mono q4.pre q4.ext) ru k4)
        | false =>
          rw [if_neg Bool.false_ne_true]
          exact k3.done q3.sim (.bl false)
      | _ => exact k3.elim)))
theorem me_chain {op op' : CmpOp} {r1 r2 : R2} (ho : OpR X (compareOp op) r1) (h1 : Real2 X.K X.mg E r1 g1) (ho' : OpR X (compareOp op') r2) (h2 : Real2 X.K X.mg E r2 g2) (ha : ME X E a fa) (hb : ME X E b fb) (hc : ME X E c fc)
    (hm : lastMarks [op, op'] [b, c] = false := by with_unfolding_all rfl) : ME X E (.Compare a [op, op'] [b, c] pos) (eChn g1 g2 fa fb fc) := by
  obtain ⟨ta, pa, ra⟩ := ha
  obtain ⟨tb, pb, rb⟩ := hb
  obtain ⟨tc, pc, rc⟩ := hc
  exact ⟨_, pe_chain ho ho' pa pb pc hm, real_chain ra rb rc h1 h2⟩
theorem mt_chain {op op' : CmpOp} {r1 r2 : R2} (ho : OpR X (compareOp op) r1) (h1 : Real2 X.K X.mg E r1 g1) (ho' : OpR X (compareOp op') r2) (h2 : Real2 X.K X.mg E r2 g2) (ha : ME X E a fa) (hb : ME X E b fb) (hc : ME X E c fc)
    (hm : lastMarks [op, op'] [b, c] = false := by with_unfolding_all rfl) : MT X E (.Compare a [op, op'] [b, c] pos) (asB (eChn g1 g2 fa fb fc)) := by
  obtain ⟨ta, pa, ra⟩ := ha
  obtain ⟨tb, pb, rb⟩ := hb
  obtain ⟨tc, pc, rc⟩ := hc
  exact ⟨_, pt_chain ho ho' pa pb pc hm, (real_chain ra rb rc h1 h2).test⟩
/-- abs -/
def gAbs : List D → Store → Res D := fun ds st => match ds with
  | [.int i] => .ok (.int (if i < 0 then -i else i)) st
  | _ => .bad
theorem real_abs {K : PySem.W.Frag} {mg : Str → Option Value} : RealC K mg E (fun xs H Q => ∃ i, xs = [.int i] ∧ Q (.int (if i < 0 then -i else i)) H) gAbs := by
  intro ρ st H xs as Q s rs h
  match as, xs, rs with
  | [], _, .nil => exact h.elim
  | d :: e :: l, _, .cons r (.cons _ _) => cases d <;> exact h.elim
  | [d], _, .cons r .nil =>
    cases r with
    | int i => exact ⟨i, rfl, h.done s (.int _)⟩
    | _ => exact h.elim
/-! slices -/
def cutD (xs : List D) (lo hi : Option Int) : List D := (xs.drop (HT.sIx xs.length 0 lo)).take (HT.sIx xs.length xs.length hi - HT.sIx xs.length 0 lo)
def gSl (x : D) (lo hi : Option Int) (st : Store) : Res D := match x with
  | .tup ds => if HT.sIx ds.length 0 lo = 0 ∧ HT.sIx ds.length ds.length hi = ds.length then .bad else .ok (.tup (cutD ds lo hi)) st
  | .ref n => match st[n]? with
    | some (.lst ds) => .ok (.ref st.length) (st ++ [.lst (cutD ds lo hi)])
    | _ => .bad
  | _ => .bad
abbrev EvP := Env → Store → Res (Option Int)
structure MP' (X : Cx) (E : XK) (e : Option Expr) (f : EvP) : Prop where
  ex : ∃ t, PO X e t ∧ Real X.K X.mg (REq (Option Int)) E t f
def pNone : EvP := fun _ st => .ok none st
def pSome (f : Ev D) : EvP := fun env st => bindR (f env st) fun d st1 => match d with
  | .int i => .ok (some i) st1
  | _ => .bad
theorem mp_none : MP' X E none pNone := ⟨_, po_none, fun ρ env st σ H Q s e h => h.done s rfl⟩
theorem mp_some (ha : ME X E a fa) : MP' X E (some a) (pSome fa) := by
  obtain ⟨t, p, r⟩ := ha
  refine ⟨_, po_some p, fun ρ env st σ H Q s e h => ?_⟩
  refine r ρ env st σ H _ s e (h.split fun d st1 ρ1 H1 v g1 rd k1 => ?_)
  cases d with
  | int i => cases rd; exact ⟨i, rfl, k1.done g1.sim rfl⟩
  | _ => exact k1.elim
def eSl (f : Ev D) (lo hi : EvP) : Ev D := fun env st => bindR (f env st) fun x st1 => bindR (lo env st1) fun l st2 => bindR (hi env st2) fun u st3 => gSl x l u st3
theorem reps_cut {K : PySem.W.Frag} {mg : Str → Option Value} {ρ : List Addr} {H : Hp} {ds : List D} {vs : List V} (r : Reps K mg ρ H ds vs) (lo hi : Option Int) : Reps K mg ρ H (cutD ds lo hi) (cutV vs lo hi) := by
  unfold cutD cutV
  rw [r.length]
  exact (r.drop _).take _
theorem me_slice {lo hi : Option Expr} {p2 : Pos} {fl fh : EvP} (ha : ME X E a fa) (hl : MP' X E lo fl) (hh : MP' X E hi fh) : ME X E (.Subscript a (.Slice lo hi none p2) pos) (eSl fa fl fh) := by
  obtain ⟨t, p, r⟩ := ha
  obtain ⟨tl, pl, rl⟩ := hl
  obtain ⟨th, ph, rh⟩ := hh
  refine ⟨_, pe_slice (sl_tup.or sl_list) p pl ph, fun ρ env st σ H Q s e h => ?_⟩
  refine r ρ env st σ H _ s e (h.split fun x st1 ρ1 H1 v g1 rx k1 => rl ρ1 env st1 σ H1 _ g1.sim (e.mono g1.pre g1.ext) (k1.split fun l st2 ρ2 H2 l' g2 q2 k2 => ?_))
  cases q2
  have g12 := g1.trans g2
  refine rh ρ2 env st2 σ H2 _ g2.sim (e.mono g12.pre g12.ext) (k2.split fun u st3 ρ3 H3 u' g3 q3 k3 => ?_)
  cases q3
  have rx3 := (rx.mono g2.pre g2.ext).mono g3.pre g3.ext
  cases rx3 with
  | @tup p xs ds hs rs =>
    simp only [gSl] at k3
    by_cases hw : HT.sIx ds.length 0 l = 0 ∧ HT.sIx ds.length ds.length u = ds.length
    · rw [if_pos hw] at k3
      exact k3.elim
    · rw [if_neg hw] at k3
      refine .inl ⟨p, xs, rfl, hs, by rw [← rs.length]; exact hw, fun q hq => ?_⟩
      have g := Go.fresh (u := .tup (cutV xs l u)) g3.sim hq
      exact k3 _ _ _ g (.tup (.inl (.inl upd_same)) ((reps_cut rs l u).mono g.pre g.ext))
  | @ref p n hn =>
    simp only [gSl] at k3
    cases e1 : st3[n]? with
    | none => simp only [e1] at k3; exact k3.elim
    | some o =>
      obtain ⟨q, ho, z, w1, u1, rr⟩ := g3.sim.get e1 (.ref hn)
      cases z
      cases rr with
      | @lst ds xs rs =>
        simp only [e1] at k3
        refine .inr ⟨p, xs, rfl, .inl (.inl u1), fun q hq => ?_⟩
        obtain ⟨g, r'⟩ := Go.lst g3.sim (reps_cut rs l u) hq
        exact k3 _ _ _ g r'
      | _ => simp only [e1] at k3; exact k3.elim
  | _ => exact k3.elim
/-! methods of lists -/
def eLm (g : Nat → List D → List D → Store → Res D) (fo : Ev D) (fa : Ev (List D)) : Ev D := fun env st => bindR (fo env st) fun o st1 => match o with
  | .ref n => match st1[n]? with
    | some (.lst _) => bindR (fa env st1) fun as st2 => match st2[n]? with
      | some (.lst ds) => g n ds as st2
      | _ => .bad
    | _ => .bad
  | _ => .bad
def RealL (K : PySem.W.Frag) (mg : Str → Option Value) (E : XK) (r : V → List V → Hp → VK → Prop) (g : Nat → List D → List D → Store → Res D) : Prop := ∀ ρ st H n p ds xs as us Q, Sim K mg ρ st H → st[n]? = some (.lst ds) → ρ[n]? = some p → H p = some (.lst xs) → Reps K mg ρ H ds xs → Reps K mg ρ H as us →
  Post K mg (Rep K mg) E ρ H Q (g n ds as st) → r (.ref p) us H Q
theorem real_lm {K : PySem.W.Frag} {mg : Str → Option Value} {r : V → List V → Hp → VK → Prop} {g : Nat → List D → List D → Store → Res D} {to : TE} {ta : TA} {fo : Ev D} {fA : Ev (List D)} (ro : Real K mg (Rep K mg) E to fo) (ra : Real K mg (Reps K mg) E ta fA) (h1 : RealL K mg E r g) :
    Real K mg (Rep K mg) E (tBM K "list" r to ta) (eLm g fo fA) := by
  intro ρ env st σ H Q s e h
  refine ro ρ env st σ H _ s e (h.split fun o st1 ρ1 H1 ov g1 q1 k1 => ?_)
  cases o with
  | ref n =>
    simp only at k1
    cases e1 : st1[n]? with
    | none => simp only [e1] at k1; exact k1.elim
    | some ob =>
      obtain ⟨a, ho, z, w, u, rr⟩ := g1.sim.get e1 q1
      subst z
      cases rr with
      | @lst ds xs rs =>
        simp only [e1] at k1
        refine ⟨.inl ⟨rfl, _, .inl (.inl u)⟩, ra ρ1 env st1 σ H1 _ g1.sim (e.mono g1.pre g1.ext) (k1.split fun as st2 ρ2 H2 us g2 q2 k2 => ?_)⟩
        cases e2 : st2[n]? with
        | none => simp only [e2] at k2; exact k2.elim
        | some o2 =>
          obtain ⟨a2, ho2, z2, w2, u2, rr2⟩ := g2.sim.get e2 (q1.mono g2.pre g2.ext)
          cases z2
          cases rr2 with
          | @lst ds2 xs2 rs2 =>
            simp only [e2] at k2
            exact h1 ρ2 st2 H2 n a ds2 xs2 as us Q g2.sim e2 w2 u2 rs2 q2 k2
          | _ => simp only [e2] at k2; exact k2.elim
      | _ => simp only [e1] at k1; exact k1.elim
  | _ => exact k1.elim
def gPopAt : Nat → List D → List D → Store → Res D := fun n ds as st => match as with
  | [.int i] => if -(2 ^ 63) ≤ i ∧ i < 2 ^ 63 then match seqIndex? i ds.length with
    | some k => match ds[k]? with
      | some d => .ok d (st.set n (.lst (ds.eraseIdx k)))
      | none => .bad
    | none => .bad
    else .bad
  | _ => .bad
theorem Reps.erase {K : PySem.W.Frag} {mg : Str → Option Value} {ρ : List Addr} {H : Hp} : ∀ {ds : List D} {vs : List V} (k : Nat), Reps K mg ρ H ds vs → Reps K mg ρ H (ds.eraseIdx k) (vs.eraseIdx k)
  | _, _, _, .nil => .nil
  | _, _, 0, .cons r t => t
  | _, _, k + 1, .cons r t => .cons r (Reps.erase k t)
theorem real_popAt {K : PySem.W.Frag} {mg : Str → Option Value} : RealL K mg E rPopAt gPopAt := by
  intro ρ st H n p ds xs as us Q s e1 w u rs ra h
  match as, us, ra with
  | [], _, .nil => exact h.elim
  | d :: e :: l, _, .cons r (.cons _ _) => cases d <;> exact h.elim
  | [d], _, .cons r .nil =>
    cases r with
    | int i =>
      simp only [gPopAt] at h
      by_cases hi : -(2 ^ 63) ≤ i ∧ i < 2 ^ 63
      · rw [if_pos hi] at h
        cases e2 : seqIndex? i ds.length with
        | none => simp only [e2] at h; exact h.elim
        | some k =>
          simp only [e2] at h
          cases e3 : ds[k]? with
          | none => simp only [e3] at h; exact h.elim
          | some d =>
            simp only [e3] at h
            obtain ⟨y, hy, ry⟩ := rs.get e3
            refine ⟨p, xs, i, k, y, rfl, rfl, u, hi.1, hi.2, by rw [← rs.length]; exact e2, hy, ?_⟩
            have g := Go.set (o' := .lst (ds.eraseIdx k)) (u' := .lst (xs.eraseIdx k)) s e1 w u (.lst rs) (.lst (rs.erase k))
            exact h _ _ _ g (ry.mono g.pre g.ext)
      · rw [if_neg hi] at h
        exact h.elim
    | _ => exact h.elim
def gInsert : Nat → List D → List D → Store → Res D := fun n ds as st => match as with
  | [.int i, y] => if ds.length < sizeLine ∧ 0 ≤ i ∧ i < 2 ^ 63 then .ok .non (st.set n (.lst (ds.take i.toNat ++ [y] ++ ds.drop i.toNat))) else .bad
  | _ => .bad
theorem real_insert {K : PySem.W.Frag} {mg : Str → Option Value} : RealL K mg E (fun x vs H Q => ∃ (l : Addr) (xs : List V) (i : Int) (y : V), x = .ref l ∧ vs = [.int i, y] ∧ H l = some (.lst xs) ∧ xs.length < sizeLine ∧ 0 ≤ i ∧ i < 2 ^ 63 ∧ Q .non (upd H l (.lst (xs.take i.toNat ++ [y] ++ xs.drop i.toNat)))) gInsert := by
  intro ρ st H n p ds xs as us Q s e1 w u rs ra h
  match as, us, ra with
  | [], _, .nil => exact h.elim
  | [d], _, .cons r .nil => cases d <;> exact h.elim
  | d :: e :: f :: l, _, .cons r (.cons _ (.cons _ _)) => cases d <;> exact h.elim
  | [d, y], _, .cons r (.cons ry .nil) =>
    cases r with
    | int i =>
      simp only [gInsert] at h
      by_cases hi : ds.length < sizeLine ∧ 0 ≤ i ∧ i < 2 ^ 63
      · rw [if_pos hi] at h
        refine ⟨p, xs, i, _, rfl, rfl, u, by rw [← rs.length]; exact hi.1, hi.2.1, hi.2.2, ?_⟩
        have g := Go.set (o' := .lst (ds.take i.toNat ++ [y] ++ ds.drop i.toNat)) s e1 w u (.lst rs) (.lst (((rs.take i.toNat).append (.cons ry .nil)).append (rs.drop i.toNat)))
        exact h _ _ _ g .non
      · rw [if_neg hi] at h
        exact h.elim
    | _ => exact h.elim
theorem me_lm {apos cpos : Pos} {o e : Expr} {es : List Expr} {name : Str} {id : String} {r : V → List V → Hp → VK → Prop} {g : Nat → List D → List D → Store → Res D} {fo : Ev D} {fA : Ev (List D)} (slot : Slot "list" name id) (hty : typeOf (.builtin id) = pure (.type "method_descriptor")) (hm : MtR X id r) (hr : RealL X.K X.mg E r g) (ho : ME X E o fo) (ha : MA X E (e :: es) fA)
    (hbase : attributeBase o name X.env (eval o X.env) = eval o X.env := by rfl)
    (hfew : ((backTo cpos (starEach (e :: es) X.env)).all (fun x => !x.1) && (backToKw cpos (keywordEach [] X.env)).all (fun x => x.1.isSome)
      && decide ((e :: es).length + ([] : List Keyword).length + (if ([] : List Keyword).isEmpty then 0 else 1) < 30)) = true := by rfl)
    (hline : (apos.endLine == cpos.line) = true := by rfl) (hs : starEach (e :: es) X.env = (false, eval e X.env) :: starEach es X.env := by rfl) (hplain : (backTo cpos (starEach es X.env)).any (·.1) = false := by rfl) :
    ME X E (.Call (.Attribute o name apos) (e :: es) [] cpos) (eLm g fo fA) := by
  obtain ⟨to, po, ro⟩ := ho
  obtain ⟨ta, pa, ra⟩ := ha
  exact ⟨_, pe_bm PySem.F.plainAttrs_list slot hty hm po pa hbase hfew hline hs hplain, real_lm ro ra hr⟩
end
end MP

/-! sorted({e for x in xs}), ints -/
namespace MP
open PySem PySem.Spec PyProof.Rows L2
/-- the set is begun at D; what is put in -/
def tSetI (w : World) (wi : TI) (g : TG) (tt : TT) (te : TE) (vs : List Nat) (Qd : Addr → Hp → Prop) : L2.St → Hp → Prop := fun σ H => wi σ H fun J H1 => ∀ D, H1 D = none → ∃ W : Nat → Nat → Hp → Prop, (∃ m, W 0 m (upd H1 D (SetO w D (fun _ => false) 0))) ∧ ∀ i m H, W i m H →
  (J.stop i H ∧ Qd D H) ∨ (J.go i H ∧ ∃ Nx : Hp → Prop, (∀ H', Nx H' → ∃ m', m' < m ∧ W (i + 1) m' H') ∧ ∀ x H', J.yld i H x H' → g x (wipe σ vs) H' fun σ2 H2 => wipe σ2 vs = wipe σ vs ∧ tt σ2 H2 fun b H3 =>
    if b = true then te σ2 H3 fun y H4 => ∃ (c : Int) (S : Int → Bool) (n : Nat), y = .int c ∧ H4 D = some (SetO w D S n) ∧ n + 1 < scanBound ∧ Nx (upd H4 D (SetO w D (fun j => S j || decide (j = c)) (if S c = true then n else n + 1))) else Nx H3)
theorem addI_ok {X : Cx} {pins : Pins} {σ : L2.St} {H : Hp} {s : Shared} {E : Value → Shared → Prop} {D : Addr} {S : Int → Bool} {n : Nat} {y : Int} {tk : Tok} {Q : Value → Shared → Prop} (I : L2.Inv X pins σ H s) (hD : H D = some (SetO X.w D S n)) (room : n + 1 < scanBound)
    (h : ∀ s', L2.Inv X pins σ (upd H D (SetO X.w D (fun j => S j || decide (j = y)) (if S y = true then n else n + 1))) s' → Q .none s') : wpAny (model X.prog X.w) X.A (call (.builtin "set.add") [.ref D, .int y tk]) Q E s := by
  refine setR_add (setO_get I hD) room fun h' sb new => ?_
  obtain ⟨o, es, ep, tb, ho, hr⟩ := id new
  exact h _ (I.write (e := D) (t' := s.toks + 1) (by rw [hD]; trivial) (.inl rfl) (fun b u hb hu => (sb.2 b hb).trans hu) ⟨o, ho⟩ (setO_new new))
section
variable {X : Cx} {elt tg iter : Expr} {ifs : List Expr} {scope : Scope} {own : List (Str × Nat)} {spos : Pos} {wi : TI} {g : TG} {tt : TT} {te : TE}
theorem setc_ok {pins : Pins} {s : Shared} {σ : L2.St} {H : Hp} {Qd : Addr → Hp → Prop} {Q' : Value → Shared → Prop} (hc : X.calm = true) (hN : X.N.Nodup) (I : L2.Inv X pins σ H s) (hi : PI X tg iter wi) (ok : BlkOk X.N X.env.scope scope own)
    (hg : ∀ (s : Shared) (H : Hp) (C : Addr) (cl : List (Str × Addr)) (fp : List Addr), PG (X.blk s H scope (compEnvC scope cl C X.env) fp) tg g) (ht : ∀ (s : Shared) (H : Hp) (C : Addr) (cl : List (Str × Addr)) (fp : List Addr), PTs (X.blk s H scope (compEnvC scope cl C X.env) fp) ifs tt)
    (he : ∀ (s : Shared) (H : Hp) (C : Addr) (cl : List (Str × Addr)) (fp : List Addr), PE (X.blk s H scope (compEnvC scope cl C X.env) fp) elt te) (hs : ∀ x, foldedSetIterable iter X.env x = pure x)
    (h : tSetI X.w wi g tt te (own.map (·.2)) Qd σ H) (hQ : ∀ D s' H', L2.Inv X pins σ H' s' → Qd D H' → Q' (.ref D) s') : wpAny (model X.prog X.w) X.A (eval (.SetComp elt [⟨tg, iter, ifs, 0⟩] scope spos) X.env) Q' X.xe s := by
  rw [PpSet.eval_SetComp]
  have hfree : ∀ y ∈ scope.names, y.2 = .free → ∃ c, X.env.cells.lookup y.1 = some c := fun y hy e => by
    rcases ok.free y hy e with k | k
    · exact I.ok.has _ (.inl k)
    · exact I.ok.has _ (.inr k)
  refine wpAny_comprehension_free (use := none) rfl hs (closure_ok hfree) ok.kind (fun y hy e => by rw [ok.uniq y hy, e]) (thn (hi.run pins s σ H _ I h) fun xv s1 hx => thn hx fun itv s2 h2 => ?_)
  obtain ⟨it, fp, tn, J, H2, rfl, I2, T, st2, f2, q⟩ := h2
  refine PpSet.newSet_ok (newEnv_comp ?_)
  generalize eD : s2.heap.objs.size = D
  have nD : H2 D = none := I2.hok.fresh (Nat.le_of_eq eD)
  obtain ⟨W, ⟨m0, w0⟩, turn⟩ := q D nD
  generalize e3 : ({ s2 with heap := s2.heap.push { cls := .type "set", dict := none, data := .set #[] 0 (.fresh 0 0 (!X.w.params.followText "set-order")) } } : Shared) = s3
  have I3 : L2.Inv X pins σ (upd H2 D (SetO X.w D (fun _ => false) 0)) s3 := by
    rw [← e3]
    refine I2.laid (t' := s2.toks) (fun b o e => Heap.get?_push_of_some _ e) (Nat.le_of_eq eD) ?_
    rw [← eD]
    exact setO_new (setR_fresh X.w)
  have p3 : s3.heap = s2.heap.push { cls := .type "set", dict := none, data := .set #[] 0 (.fresh 0 0 (!X.w.params.followText "set-order")) } := by rw [← e3]
  have f3 : ∀ b ∈ fp, FpOk X pins (upd H2 D (SetO X.w D (fun _ => false) 0)) b ∧ b < s3.heap.objs.size := fun b hb => by
    obtain ⟨o, e, _⟩ := T.obj _ _ st2 b hb
    have hlt : b < s2.heap.objs.size := Heap.lt_size e
    refine ⟨⟨?_, (f2 b hb).2⟩, by rw [p3, Heap.size_push]; exact Nat.lt_succ_of_lt hlt⟩
    rw [upd_ne (by rw [← eD]; exact Nat.ne_of_lt hlt)]
    exact (f2 b hb).1
  have st3 : tn 0 s3.heap := T.keep _ _ _ st2 fun b _ o e => by rw [p3]; exact Heap.get?_push_of_some _ e
  have I4 := block_start I3 ok hN f3
  generalize eH : upd H2 D (SetO X.w D (fun _ => false) 0) = H3 at I3 I4 w0 f3
  have pg := hg s3 H3 s3.heap.objs.size (cellsFrom (s3.heap.objs.size + 1) scope.names (cloFrom X.env.cells scope.names [])) fp
  have pt := ht s3 H3 s3.heap.objs.size (cellsFrom (s3.heap.objs.size + 1) scope.names (cloFrom X.env.cells scope.names [])) fp
  have pe := he s3 H3 s3.heap.objs.size (cellsFrom (s3.heap.objs.size + 1) scope.names (cloFrom X.env.cells scope.names [])) fp
  show codeAny _ _ (.compStart (.SetComp elt [⟨tg, iter, ifs, 0⟩] scope spos) 0 (.ref it) (.ref D) (compEnvC scope (cellsFrom (s3.heap.objs.size + 1) scope.names (cloFrom X.env.cells scope.names [])) s3.heap.objs.size X.env)) (compPost (model X.prog X.w) X.A X.xe none Q' (.ref D) s3.heap.objs.size) { s3 with heap := pushCells (s3.heap.push { cls := .type "dict", data := .dict #[] }) scope.names }
  have n3 : ∀ b ∈ fp, H3 b = none := fun b hb => (f3 b hb).1.1
  generalize ece : compEnvC scope (cellsFrom (s3.heap.objs.size + 1) scope.names (cloFrom X.env.cells scope.names [])) s3.heap.objs.size X.env = ce at I4 pg pt pe ⊢
  have cL : ce.locals = s3.heap.objs.size := by subst ece; rfl
  generalize e4 : ({ s3 with heap := pushCells (s3.heap.push { cls := .type "dict", data := .dict #[] }) scope.names } : Shared) = s4 at I4 ⊢
  have st4 : tn 0 s4.heap := T.keep _ _ _ st3 fun b _ o e => by rw [← e4]; exact pushCells_keeps _ _ _ _ (Heap.get?_push_of_some _ e)
  have okF : ∀ {σ' : L2.St} {H' : Hp} {s' : Shared}, L2.Inv (X.blk s3 H3 scope ce fp) [] σ' H' s' → (∀ b ∈ fp, H' b = none) → ∀ b ∈ fp, FpOk (X.blk s3 H3 scope ce fp) [] H' b := fun I' hn b hb =>
    ⟨hn b hb, (I'.ok.exf b hb).1, I'.ok.exfs b hb, .inl hb, (I'.ok.exf b hb).2, fun p hp => (by cases hp)⟩
  have loop : codeAny (model X.prog X.w) X.A (.compLoop (.SetComp elt [⟨tg, iter, ifs, 0⟩] scope spos) 0 (.ref it) (.ref D) ce) (compPost (model X.prog X.w) X.A X.xe none Q' (.ref D) s3.heap.objs.size) s4 := by
    refine PpSet.compLoopS_any (fun n s' => ∃ i H', L2.Inv (X.blk s3 H3 scope ce fp) [] (wipe σ (own.map (·.2))) H' s' ∧ tn i s'.heap ∧ (∀ b ∈ fp, H' b = none) ∧ W i n H') ?_ m0 ⟨0, H3, I4, st4, n3, w0⟩
    rintro n s5 ⟨i, H5, I5, st5, n5, w5⟩
    rcases turn i n H5 w5 with ⟨stop, qq⟩ | ⟨go, Nx, hNx, step⟩
    · refine thnF (T.done (X.blk s3 H3 scope ce fp) rfl rfl rfl hc i [] s5 _ H5 (fun _ _ => False) I5 (okF I5 n5) st5 stop) fun r s6 ⟨hr, I6⟩ => ?_
      subst hr
      have I7 : L2.Inv X pins σ H5 s6 := I3.call' (ch := fp) I6.os I6.base I6.hok I6.bare fun b hb => let z := (f3 b hb).1; ⟨z.2.2.2.1, z.2.1, z.2.2.2.2.1, z.2.2.2.2.2⟩
      have nC : H5 s3.heap.objs.size = none := by
        rw [← cL]
        exact I6.free
      obtain ⟨m, hn, _⟩ := I6.loc
      have hn : s6.heap.Ns ce.locals m := hn
      rw [cL] at hn
      obtain ⟨y0, y1, _, y3, y4, y5⟩ := I3.fpOk (Nat.le_refl _) nC
      exact ⟨m, hn, fun h'' sb => hQ D _ H5 (I7.turned (t' := s6.toks) (fun b o hb e => (sb.2 b hb).trans e) y0 y1 y3 y4 y5) qq⟩
    · refine thnF (T.item (X.blk s3 H3 scope ce fp) rfl rfl rfl hc i [] s5 _ H5 (fun _ _ => False) I5 (okF I5 n5) st5 go) fun r s6 ⟨u, hr, h6⟩ => ?_
      subst hr
      refine thnF h6 fun _ s7 ⟨x, H7, I7, r7, y7, st7, n7⟩ => ?_
      have I7' := I7.pinned (okF I7 n7) (T.obj _ _ st7)
      refine thnF (pg.run _ s7 _ H7 x u _ I7' r7 (step x H7 y7)) fun _ s8 ⟨σ8, H8, I8, hw8, q8⟩ => ?_
      refine thnF (pt.run _ s8 σ8 H8 _ I8 q8) fun b s9 ⟨H9, I9, q9⟩ => ?_
      have fin : ∀ {s' : Shared} {H' : Hp}, L2.Inv (X.blk s3 H3 scope ce fp) ([] ++ pinsAt fp s7.heap) σ8 H' s' → Nx H' → ∃ m, m < n ∧ ∃ i H', L2.Inv (X.blk s3 H3 scope ce fp) [] (wipe σ (own.map (·.2))) H' s' ∧ tn i s'.heap ∧ (∀ b ∈ fp, H' b = none) ∧ W i m H' := fun {s' H'} I' nx => by
        obtain ⟨m', hm, w'⟩ := hNx H' nx
        have held : ∀ b ∈ fp, ∀ o, s7.heap.get? b = some o → s'.heap.get? b = some o ∧ H' b = none := fun b hb o e =>
          let z := I'.pin (b, o) (List.mem_append_right _ (List.mem_append_right _ (mem_pinsAt hb e)))
          ⟨z.1, z.2.1⟩
        refine ⟨m', hm, i + 1, H', (L2.Inv.unpinned (pins := []) I').weak (by rw [← hw8, wipe_length]) (fun j v e => by rw [← hw8] at e; exact (wipe_some e).1), T.keep _ _ _ st7 fun b hb o e => (held b hb o e).1, fun b hb => ?_, w'⟩
        obtain ⟨o, e, _⟩ := T.obj _ _ st7 b hb
        exact (held b hb o e).2
      cases b with
      | false =>
        simp only [Bool.false_eq_true, if_false] at q9 ⊢
        exact fin I9 q9
      | true =>
        simp only [if_true] at q9 ⊢
        refine thnF (pe.run _ s9 σ8 H9 _ I9 q9) fun z s10 ⟨yv, H10, I10, r10, c, S0, n0, ey, hD10, hz10, nx⟩ => ?_
        subst ey
        obtain ⟨tk, rfl⟩ := r10
        exact addI_ok (X := X.blk s3 H3 scope ce fp) I10 hD10 hz10 fun s11 I11 => fin I11 nx
  exact PpSet.codeAny_compStart_set loop (T.self X.A 0 _ _ _ st4 loop)
/-- sorted of it -/
def tSortSc (w : World) (wi : TI) (g : TG) (tt : TT) (te : TE) (vs : List Nat) : TE := fun σ H Q => tSetI w wi g tt te vs (fun D H' => ∃ (S : Int → Bool) (n : Nat), H' D = some (SetO w D S n) ∧ n < 64 ∧
  ∀ (ns : List Int) (p : Addr), ns.Pairwise (· < ·) → (∀ k : Int, k ∈ ns ↔ S k = true) → ns.length = n → H' p = none → Q (.ref p) (upd H' p (.lst (ns.map V.int)))) σ H
theorem pe_sortSc {p pos : Pos} (hc : X.calm = true) (hN : X.N.Nodup) (hm : X.mg "sorted" = none) (hi : PI X tg iter wi) (ok : BlkOk X.N X.env.scope scope own)
    (hg : ∀ (s : Shared) (H : Hp) (C : Addr) (cl : List (Str × Addr)) (fp : List Addr), PG (X.blk s H scope (compEnvC scope cl C X.env) fp) tg g) (ht : ∀ (s : Shared) (H : Hp) (C : Addr) (cl : List (Str × Addr)) (fp : List Addr), PTs (X.blk s H scope (compEnvC scope cl C X.env) fp) ifs tt)
    (he : ∀ (s : Shared) (H : Hp) (C : Addr) (cl : List (Str × Addr)) (fp : List Addr), PE (X.blk s H scope (compEnvC scope cl C X.env) fp) elt te) (hG : Gl X "sorted" := by rfl) (hs : ∀ x, foldedSetIterable iter X.env x = pure x := by intro _; rfl)
    (hb : bootBuiltins "sorted" = some (.builtin "sorted") := by decide +kernel)
    (hst : starEach [.SetComp elt [⟨tg, iter, ifs, 0⟩] scope spos] X.env = (false, eval (.SetComp elt [⟨tg, iter, ifs, 0⟩] scope spos) X.env) :: starEach [] X.env := by rfl) :
    PE X (.Call (.Name "sorted" p) [.SetComp elt [⟨tg, iter, ifs, 0⟩] scope spos] [] pos) (tSortSc X.w wi g tt te (own.map (·.2))) := by
  refine ⟨fun pins s σ H Q I h => ?_⟩
  refine wpAny_Call_Name_kw (ld_blt I hG hm hb ?_)
  refine PyProof.Rows.callWith_builtin1 ?_ hst (by rfl)
  rw [hst]
  show wpAny _ _ (spliced ((false, eval (.SetComp elt [⟨tg, iter, ifs, 0⟩] scope spos) X.env) :: backTo pos (starEach [] X.env))) _ _ s
  refine Calls.spliced_cons (setc_ok hc hN I hi ok hg ht he hs h fun D s' H' I' ⟨S, n, hD, h64, q⟩ => ?_)
  refine Calls.spliced_nil ?_
  exact cr_sortedSet hc pins s' σ H' [.ref D] [.ref D] Q I' (.cons rfl .nil) ⟨D, S, n, rfl, hD, h64, q⟩
end
end MP

/-! sorted({..}): its mirror -/
namespace MP
open PySem PySem.Spec PyProof.Rows L2
def insU (k : Int) : List Int → List Int
  | [] => [k]
  | x :: xs => if k < x then k :: x :: xs else if k = x then x :: xs else x :: insU k xs
def srtI (l : List Int) : List Int := l.foldl (fun a k => insU k a) []
theorem insU_mem (k : Int) : ∀ (l : List Int) (j : Int), j ∈ insU k l ↔ j = k ∨ j ∈ l
  | [], j => by simp [insU]
  | x :: xs, j => by
    unfold insU
    by_cases h : k < x
    · simp [h]
    · by_cases h2 : k = x
      · subst h2
        simp
      · simp only [h, h2, if_false, List.mem_cons, insU_mem k xs]
        constructor
        · rintro (a | a | a) <;> simp [a]
        · rintro (a | a | a) <;> simp [a]
theorem insU_pw (k : Int) : ∀ (l : List Int), l.Pairwise (· < ·) → (insU k l).Pairwise (· < ·)
  | [], _ => by simp [insU]
  | x :: xs, h => by
    rw [List.pairwise_cons] at h
    unfold insU
    by_cases h1 : k < x
    · rw [if_pos h1, List.pairwise_cons]
      refine ⟨fun a ha => ?_, List.pairwise_cons.mpr h⟩
      rcases List.mem_cons.mp ha with rfl | ha
      · exact h1
      · have := h.1 a ha
        omega
    · rw [if_neg h1]
      by_cases h2 : k = x
      · rw [if_pos h2]
        exact List.pairwise_cons.mpr h
      · rw [if_neg h2, List.pairwise_cons]
        refine ⟨fun a ha => ?_, insU_pw k xs h.2⟩
        rcases (insU_mem k xs a).mp ha with rfl | ha
        · omega
        · exact h.1 a ha
theorem fold_mem : ∀ (l a : List Int) (j : Int), j ∈ l.foldl (fun a k => insU k a) a ↔ j ∈ l ∨ j ∈ a
  | [], a, j => by simp
  | k :: l, a, j => by
    rw [List.foldl_cons, fold_mem l, insU_mem, List.mem_cons]
    constructor
    · rintro (h | h | h) <;> simp [h]
    · rintro ((h | h) | h) <;> simp [h]
theorem fold_pw : ∀ (l a : List Int), a.Pairwise (· < ·) → (l.foldl (fun a k => insU k a) a).Pairwise (· < ·)
  | [], a, h => h
  | k :: l, a, h => by
    rw [List.foldl_cons]
    exact fold_pw l _ (insU_pw k a h)
theorem srtI_mem (l : List Int) (j : Int) : j ∈ srtI l ↔ j ∈ l := by
  unfold srtI
  rw [fold_mem]
  simp
theorem srtI_pw (l : List Int) : (srtI l).Pairwise (· < ·) := fold_pw l [] List.Pairwise.nil
theorem asc_uniq : ∀ {a b : List Int}, a.Pairwise (· < ·) → b.Pairwise (· < ·) → (∀ k, k ∈ a ↔ k ∈ b) → a = b
  | [], [], _, _, _ => rfl
  | [], y :: ys, _, _, h => by have := (h y).mpr List.mem_cons_self; cases this
  | x :: xs, [], _, _, h => by have := (h x).mp List.mem_cons_self; cases this
  | x :: xs, y :: ys, ha, hb, h => by
    rw [List.pairwise_cons] at ha hb
    have e : x = y := by
      rcases List.mem_cons.mp ((h x).mp List.mem_cons_self) with z | z
      · exact z
      · rcases List.mem_cons.mp ((h y).mpr List.mem_cons_self) with w | w
        · exact w.symm
        · have := hb.1 x z
          have := ha.1 y w
          omega
    subst e
    rw [asc_uniq ha.2 hb.2 fun k => ?_]
    constructor
    · intro hk
      rcases List.mem_cons.mp ((h k).mp (List.mem_cons_of_mem _ hk)) with z | z
      · have := ha.1 k hk
        omega
      · exact z
    · intro hk
      rcases List.mem_cons.mp ((h k).mpr (List.mem_cons_of_mem _ hk)) with z | z
      · have := hb.1 k hk
        omega
      · exact z
open Classical in
noncomputable def scM (s : Src) (g : Tg) (c : Ev Bool) (f : Ev D) (env : Env) : List Int → List D → Store → Res (List Int)
  | acc, [], st => if s.Ok st then .ok acc st else .bad
  | acc, d :: ds, st => if s.Ok st then bindX (g d env st) fun env1 st1 => bindX (c env1 st1) fun b st2 => if b = true then bindX (f env1 st2) fun y st3 => match y with
      | .int k => if acc.length < 63 then scM s g c f env (acc ++ [k]) ds st3 else .bad
      | _ => .bad
    else scM s g c f env acc ds st2 else .bad
noncomputable def eSortSc (fi : Ev Src) (vs : List Nat) (g : Tg) (c : Ev Bool) (f : Ev D) : Ev D := fun env st => bindR (fi env st) fun s st1 => bindX (scM s g c f (wipeD env vs) [] s.items st1) fun acc st2 => .ok (.ref st2.length) (st2 ++ [.lst ((srtI acc).map D.int)])
variable [TBs]
theorem Post.splitE {K : PySem.W.Frag} {mg : Str → Option Value} {E E' : XK} {α β γ δ : Type} {R : RL α β} {R2 : RL γ δ} {ρ ρa : List Addr} {H Ha : Hp} {Q : δ → Hp → Prop} {r : Res α} {k : α → Store → Res γ} {Q1 : β → Hp → Prop} (h : Post K mg R2 E ρa Ha Q (bindX r k))
    (hk : ∀ a st1 ρ1 H1 v, r = .ok a st1 → Go K mg ρ H ρ1 st1 H1 → R ρ1 H1 a v → Q1 v H1) : Post K mg R E' ρ H Q1 r := by
  cases r with
  | ok a st2 => exact fun ρ1 H1 v g q => hk a st2 ρ1 H1 v rfl g q
  | exc c d st2 => exact h.elim
  | bad => exact h
theorem real_sortSc {w : World} {K : PySem.W.Frag} {mg : Str → Option Value} {E : XK} {wi : TI} {tg : TG} {tt : TT} {te : TE} {vs : List Nat} {fi : Ev Src} {g : Tg} {c : Ev Bool} {f : Ev D} (ri : Real K mg (RIt K mg) E wi fi) (rg : RealGW K mg E0 vs tg g) (rc : Real K mg (REq Bool) E0 tt c) (rf : Real K mg (Rep K mg) E0 te f) :
    Real K mg (Rep K mg) E (tSortSc w wi tg tt te vs) (eSortSc fi vs g c f) := by
  intro ρ env st σ H Q s e h
  refine ri ρ env st σ H _ s e (h.split fun src st1 ρ1 H1 J g1 qJ h1 => ?_)
  intro D hD
  have gn : Go K mg ρ1 H1 ρ1 st1 (upd H1 D (SetO w D (fun _ => false) 0)) := Go.fresh g1.sim hD
  refine ⟨fun i m H' => i ≤ src.items.length ∧ m = src.items.length - i ∧ ∃ ρ' st' acc S n, Go K mg ρ1 H1 ρ' st' H' ∧ H' D = some (SetO w D S n) ∧ (∀ k : Int, S k = true ↔ k ∈ acc) ∧ n ≤ acc.length ∧ acc.length ≤ 63 ∧
      Post K mg (Rep K mg) E ρ1 H1 Q (bindX (scM src g c f (wipeD env vs) acc (src.items.drop i) st') fun acc st2 => .ok (.ref st2.length) (st2 ++ [O.lst ((srtI acc).map MP.D.int)])),
    ⟨_, Nat.zero_le _, rfl, ρ1, st1, [], fun _ => false, 0, gn, upd_same, fun k => by simp, Nat.le_refl _, by decide, h1⟩, fun i m H' hW => ?_⟩
  obtain ⟨hi, rfl, ρ2, st2, acc, S, n, g2, hS, hm, hn, hl, h2⟩ := hW
  have eW : EnvR K mg ρ2 H' (wipeD env vs) (wipe σ vs) := ((wipe_R e vs).mono g1.pre g1.ext).mono g2.pre g2.ext
  by_cases hok : src.Ok st2
  · obtain ⟨q1, q2⟩ := qJ ρ2 st2 H' g2 hok
    by_cases hlt : i < src.items.length
    · rw [List.drop_eq_getElem_cons hlt] at h2
      obtain ⟨go, yld⟩ := q1 i _ (List.getElem?_eq_getElem hlt)
      refine .inr ⟨go, fun H3 => i + 1 ≤ src.items.length ∧ ∃ ρ' st' acc S n, Go K mg ρ1 H1 ρ' st' H3 ∧ H3 D = some (SetO w D S n) ∧ (∀ k : Int, S k = true ↔ k ∈ acc) ∧ n ≤ acc.length ∧ acc.length ≤ 63 ∧
        Post K mg (Rep K mg) E ρ1 H1 Q (bindX (scM src g c f (wipeD env vs) acc (src.items.drop (i + 1)) st') fun acc st2 => .ok (.ref st2.length) (st2 ++ [O.lst ((srtI acc).map MP.D.int)])), fun H3 hN => ⟨src.items.length - (i + 1), by omega, hN.1, rfl, hN.2⟩, fun x H3 hy => ?_⟩
      obtain ⟨g3, rx⟩ := yld x H3 hy
      simp only [scM, if_pos hok] at h2
      have ass : ∀ {α β γ : Type} (r : Res α) (k1 : α → Store → Res β) (k2 : β → Store → Res γ), bindX (bindX r k1) k2 = bindX r fun a s => bindX (k1 a s) k2 := fun r k1 k2 => by cases r <;> rfl
      rw [ass] at h2
      refine rg ρ2 _ st2 _ H3 x _ _ g3.sim (eW.mono g3.pre g3.ext) rx ?_
      refine h2.splitE fun env4 st4 ρ4 H4 σ4 er g4 q4 => ⟨by rw [q4.2]; exact real_lc.wipe_wipe _ _, ?_⟩
      rw [er] at h2
      have h4 : Post K mg (Rep K mg) E ρ1 H1 Q (bindX (bindX (c env4 st4) _) _) := h2
      rw [ass] at h4
      refine rc ρ4 env4 st4 σ4 H4 _ g4.sim q4.1 (h4.splitE fun b st5 ρ5 H5 b' ec g5 q5 => ?_)
      cases q5
      rw [ec] at h4
      have h5 : Post K mg (Rep K mg) E ρ1 H1 Q (bindX (if b = true then _ else _) _) := h4
      have g35 := g3.trans (g4.trans g5)
      cases b with
      | false => exact ⟨hlt, ρ5, st5, acc, S, n, g2.trans g35, g35.ext.oth D _ hS, hm, hn, hl, h5⟩
      | true =>
        rw [if_pos rfl] at h5 ⊢
        rw [ass] at h5
        refine rf ρ5 env4 st5 σ4 H5 _ g5.sim (q4.1.mono g5.pre g5.ext) (h5.splitE fun y st6 ρ6 H6 yv ey g6 q6 => ?_)
        rw [ey] at h5
        have g36 := g35.trans g6
        have hS6 := g36.ext.oth D _ hS
        cases y with
        | int k =>
          cases q6
          have h6 : Post K mg (Rep K mg) E ρ1 H1 Q (bindX (if acc.length < 63 then scM src g c f (wipeD env vs) (acc ++ [k]) (src.items.drop (i + 1)) st6 else .bad) _) := h5
          by_cases hz : acc.length < 63
          · rw [if_pos hz] at h6
            have g7 := Go.other (ψ := fun h => SetR w h D (fun j => S j || decide (j = k)) (if S k = true then n else n + 1)) (g2.trans g36) hS6 hD
            refine ⟨k, S, n, rfl, hS6, by unfold scanBound; omega, hlt, ρ6, st6, acc ++ [k], _, _, g7, upd_same, fun j => ?_, ?_, by rw [List.length_append]; simp only [List.length_cons, List.length_nil]; omega, h6⟩
            · simp only [Bool.or_eq_true, decide_eq_true_eq, List.mem_append, List.mem_singleton, hm]
            · rw [List.length_append]
              simp only [List.length_cons, List.length_nil]
              split <;> omega
          · rw [if_neg hz] at h6
            exact h6.elim
        | _ => exact h5.elim
    · have ei : src.items.drop i = [] := List.drop_eq_nil_of_le (Nat.le_of_not_lt hlt)
      rw [ei] at h2
      simp only [scM, if_pos hok] at h2
      refine .inl ⟨q2 i (Nat.le_of_not_lt hlt), S, n, hS, by omega, fun ns p hp hmem hlen hnp => ?_⟩
      have e1 : ns = srtI acc := asc_uniq hp (srtI_pw acc) fun k => by rw [hmem, hm, srtI_mem]
      subst e1
      obtain ⟨g7, r7⟩ := Go.lst g2.sim (reps_ints (srtI acc)) hnp
      exact h2 _ _ _ (g2.trans g7) r7
  · exfalso
    cases hd : src.items.drop i with
    | nil => rw [hd] at h2; simp only [scM, if_neg hok] at h2; exact h2
    | cons d ds => rw [hd] at h2; simp only [scM, if_neg hok] at h2; exact h2
theorem me_sortSc {X : Cx} {E : XK} {elt tg iter : Expr} {ifs : List Expr} {scope : Scope} (own : List (Str × Nat)) {spos p pos : Pos} {fi : Ev Src} {g : Tg} {c : Ev Bool} {f : Ev D} (hc : X.calm = true) (hN : X.N.Nodup) (hm : X.mg "sorted" = none) (hi : MI X E tg iter fi) (ok : BlkOk X.N X.env.scope scope own)
    (hg : ∀ (s : Shared) (H : Hp) (C : Addr) (cl : List (Str × Addr)) (fp : List Addr), MGW (X.blk s H scope (compEnvC scope cl C X.env) fp) E0 (own.map (·.2)) tg g) (ht : ∀ (s : Shared) (H : Hp) (C : Addr) (cl : List (Str × Addr)) (fp : List Addr), MTs (X.blk s H scope (compEnvC scope cl C X.env) fp) E0 ifs c)
    (he : ∀ (s : Shared) (H : Hp) (C : Addr) (cl : List (Str × Addr)) (fp : List Addr), ME (X.blk s H scope (compEnvC scope cl C X.env) fp) E0 elt f) (hG : Gl X "sorted" := by rfl) (hs : ∀ x, foldedSetIterable iter X.env x = pure x := by intro _; rfl)
    (hst : starEach [.SetComp elt [⟨tg, iter, ifs, 0⟩] scope spos] X.env = (false, eval (.SetComp elt [⟨tg, iter, ifs, 0⟩] scope spos) X.env) :: starEach [] X.env := by rfl) :
    ME X E (.Call (.Name "sorted" p) [.SetComp elt [⟨tg, iter, ifs, 0⟩] scope spos] [] pos) (eSortSc fi (own.map (·.2)) g c f) := by
  obtain ⟨ti, pi, ri⟩ := hi
  exact ⟨_, pe_sortSc (g := tOfG X.K X.mg E0 (own.map (·.2)) g) (tt := tOf X.K X.mg (REq Bool) E0 c) (te := tOf X.K X.mg (Rep X.K X.mg) E0 f) hc hN hm pi ok (fun s H C cl fp => (hg s H C cl fp).canon) (fun s H C cl fp => (ht s H C cl fp).canon) (fun s H C cl fp => (he s H C cl fp).canon) hG hs (hst := hst),
    real_sortSc ri (fun ρ env st σ H v d Q s e r h => ⟨ρ, env, st, d, s, e, r, h⟩) real_tOf real_tOf⟩
end MP

/-! set(xs), one item after the other, whatever is kept of the set -/
namespace MP
open PySem PyProof.Rows L2
section
variable {P : Program} {w : World}
abbrev bare (w : World) : Obj := { cls := .type "set", dict := none, data := .set #[] 0 (.fresh 0 0 (!w.params.followText "set-order")) }
/-- what one more item does to the set at S, as far as G tells -/
def AddsTo (P : Program) (w : World) (ok : Around → Prop) (S : Addr) (G : Nat → Heap → Prop) (Pv : Nat → Value → Prop) : Prop :=
  ∀ (A : Around) (i : Nat) (v : Value) (s : Shared) (E : Value → Shared → Prop) (Q : Bool → Shared → Prop), ok A → Pv i v → G i s.heap →
    (∀ b h' tk, s.toks ≤ tk → Heap.SameBut S s.heap h' → G (i + 1) h' → Q b { s with heap := h', toks := tk }) → wpAny (model P w) A (setAdd S v) Q E s
theorem set_walk {I : Addr} {fp wr : List Addr} {Gn : Array GenState → Array GenState → Prop} {n : Nat} {Pv : Nat → Value → Prop} {St : Nat → Shared → Prop} {R : Result → Shared → Prop} {A : Around} {ok : Around → Prop} {S : Addr} {G : Nat → Heap → Prop}
    (W : WalksS P w A.in1 I fp wr Gn n Pv St) (o1 : ok A.in1) (notin : S ∉ fp) (step : AddsTo P w ok S G Pv)
    (stay : ∀ i h h', G i h → (∀ b o, b ∉ wr → h.get? b = some o → h'.get? b = some o) → G i h') :
    ∀ (m i : Nat) (s : Shared), i + m = n → St i s → G i s.heap → (∀ s', Moved (S :: wr) Gn s s' → G n s'.heap → R (.ok (.ret .none)) s') → codeAny (model P w) A (.builtin "set.update.loop" ⟨[.ref S, .ref I], []⟩) R s := by
  have nw : S ∉ wr := fun h => notin (W.sub _ h)
  intro m
  induction m with
  | zero =>
    intro i s e st g fin
    obtain rfl : i = n := by omega
    refine codeAny_builtin F.entry_set_update_loop ?_
    rw [Around.under_plainId F.plain_set_update_loop _]
    refine (wpAny_bind (m := pyNext (.ref I)) (W.done s _ _ st fun s1 mv => ?_) : wpAny _ A.in1 (pyNext (.ref I) >>= _) _ _ s)
    have g1 : G i s1.heap := stay _ _ _ g fun b o hb => mv.heap b o hb
    show wpAny _ A.in1 (ret Value.none) _ _ s1
    exact wpAny_pure (fin s1 (mv.mono fun b hb => List.mem_cons_of_mem _ hb) g1)
  | succ m ih =>
    intro i s e st g fin
    refine codeAny_builtin F.entry_set_update_loop ?_
    rw [Around.under_plainId F.plain_set_update_loop _]
    refine (wpAny_bind (m := pyNext (.ref I)) (W.item i s _ _ (by omega) st fun v s1 hv st1 mv => ?_) : wpAny _ A.in1 (pyNext (.ref I) >>= _) _ _ s)
    have g1 : G i s1.heap := stay _ _ _ g fun b o hb => mv.heap b o hb
    refine (wpAny_bind (m := holding [v] (setAdd S v)) (wpAny_holding (step A.in1 i v s1 _ _ o1 hv g1 fun b h2 tk ht sb g2 => ?_)) : wpAny _ A.in1 (holding [v] (setAdd S v) >>= _) _ _ s1)
    have far : ∀ c, c ≠ S → ∀ o, s1.heap.get? c = some o → h2.get? c = some o := fun c hc o q => (sb.2 c hc).trans q
    refine wpAny_pure ⟨plainId_quiet F.plain_set_update_loop _, ih (i + 1) { s1 with heap := h2, toks := tk } (by omega) (W.frame _ s1 _ _ st1 ht fun c hc o q => far c (fun z => notin (z ▸ hc)) o q) g2 fun s3 mv3 g3 => ?_⟩
    exact fin s3 (Moved.trans W.gtrans ((mv.mono fun b hb => List.mem_cons_of_mem _ hb).then_heap ht fun c o hc q => far c (fun z => hc (z ▸ List.mem_cons_self)) o q) mv3) g3
end
end MP

namespace MP
open PySem PyProof.Rows L2
local macro_rules | `(tactic| walk_at "ws") => `(tactic| repeat (any_goals (first | assumption | wp_step)))
section
variable {P : Program} {w : World} {E : Value → Shared → Prop} {s : Shared}
/-- what iter(x) gives in a heap that has one more object -/
def Iters (P : Program) (w : World) (s1 : Shared) (l : Addr) (n : Nat) (Pv : Nat → Value → Prop) : Prop :=
  ∀ (A : Around) (Q : Value → Shared → Prop) (E : Value → Shared → Prop), A.handled = none →
    (∀ (h2 : Heap) (St : Nat → Shared → Prop), s1.heap.objs.size ≤ h2.objs.size → (∀ b o, s1.heap.get? b = some o → h2.get? b = some o) →
      (∀ A' : Around, A'.handled = none → WalksS P w A' s1.heap.objs.size [s1.heap.objs.size, l] [s1.heap.objs.size] (fun a b => b = a) n Pv St) → St 0 { s1 with heap := h2 } → Q (.ref s1.heap.objs.size) { s1 with heap := h2 }) →
    wpAny (model P w) A (pyIter (.ref l)) Q E s1
theorem set_call {A : Around} {ok : Around → Prop} {l : Addr} {k : String} {ol : Obj} {n : Nat} {Pv : Nat → Value → Prop} {G : Nat → Heap → Prop} {Q : Value → Shared → Prop} (hh : A.handled = none) (o1 : ok A.in1.in1.in1)
    (hol : s.heap.get? l = some ol) (hk : ol.cls = .type k) (sub1 : isSubtype (.type k) (.type "set") = pure false) (sub2 : isSubtype (.type k) (.type "frozenset") = pure false) (nd : (Value.type k == Value.type "dict") = false)
    (it : Iters P w { s with heap := s.heap.push (bare w) } l n Pv) (step : AddsTo P w ok s.heap.objs.size G Pv)
    (g0 : ∀ h, h.get? s.heap.objs.size = some (bare w) → (∀ b o, s.heap.get? b = some o → h.get? b = some o) → G 0 h)
    (stay : ∀ i h h', G i h → (∀ b o, b ∉ [s.heap.objs.size + 1] → h.get? b = some o → h'.get? b = some o) → G i h')
    (fin : ∀ (h' : Heap) (tk : Nat), s.toks ≤ tk → G n h' → (∀ b o, s.heap.get? b = some o → h'.get? b = some o) → Q (.ref s.heap.objs.size) { s with heap := h', toks := tk }) :
    wpAny (model P w) A (call (.type "set") [.ref l]) Q E s := by
  obtain ⟨c, tl, mro⟩ := F.called_set.mro
  have m1 := F.called_set.made
  have m2 := F.called_set.sub
  refine wpAny_call (codeAny_of_tree ?_)
  show wpAny _ _ (callAny (.type "set") _) _ _ _
  refine wpAny_pure ⟨Code.quiet_builtin _ (by decide +kernel), codeAny_builtin F.entry_type_call ?_⟩
  rw [Around.under_plain (weight_type_call_type "set" [.ref l] []) rfl]
  have m3 := F.called_set.notType
  have m4 := F.called_set.canCreate
  have m5 := F.typeCall_set_1 (.ref l)
  walk_at "ws"
  refine codeAny_mono (code_set_led1 (.ref l) (E := E) (Q₁ := fun z s1 => z = .ref s.heap.objs.size ∧ s1 = { s with heap := s.heap.push (bare w) }) ⟨rfl, rfl⟩) fun r s1 hr => ?_
  cases r with
  | error e => exact hr
  | ok fl =>
    cases fl with
    | ret z =>
      obtain ⟨rfl, rfl⟩ := hr
      have here : (s.heap.push (bare w)).get? s.heap.objs.size = some (bare w) := Heap.get?_push_size _ rfl
      have kind : Shared.TypeIs { s with heap := s.heap.push (bare w) } (.ref s.heap.objs.size) "set" := ⟨_, here, rfl⟩
      have i1 := F.called_set.init.lookup
      have i2 := F.called_set.init.bind (.ref s.heap.objs.size)
      walk_at "ws"
      refine codeAny_mono (codeAny_call_builtin (R := wants (fun r s2 => r = .none ∧ ∃ h' tk, s2 = { s with heap := h', toks := tk } ∧ s.toks ≤ tk ∧ G n h' ∧ (∀ b o, s.heap.get? b = some o → h'.get? b = some o)) E) F.called_set.init.plain F.entry_set_init (check_set_init_1 kind ?_)) fun r2 s2 hr2 => ?_
      · obtain ⟨ocls, odict, odata, oslots⟩ := ol
        simp only at hk
        subst hk
        have hol1 : (s.heap.push (bare w)).get? l = some { cls := .type k, dict := odict, data := odata, slots := oslots } := Heap.get?_push_of_some _ hol
        unfold Builtin.«set.__init__» noKeywords Builtin.Frozenset.updateFrom
        generalize hp : pyIter = PI
        wp_walk
        subst hp
        refine it _ _ _ (by simp [hh]) fun h2 St hsz keep W st0 => ?_
        have hz : (s.heap.push (bare w)).objs.size = s.heap.objs.size + 1 := Heap.size_push ..
        simp only [hz] at hsz keep W st0 ⊢
        have hl : l < s.heap.objs.size := Heap.lt_size hol
        have out : s.heap.objs.size ∉ [s.heap.objs.size + 1, l] := by
          intro hm
          rcases List.mem_cons.mp hm with e | e
          · exact absurd e (Nat.ne_of_lt (Nat.lt_succ_self _))
          · exact absurd (List.mem_singleton.mp e) (Nat.ne_of_gt hl)
        refine wpAny_bind (wpAny_runValue (set_walk (W _ (by simp [hh])) o1 out step stay n 0 _ (by omega) st0 (g0 _ (keep _ _ here) fun b o e => keep _ _ (Heap.get?_push_of_some _ e)) fun s3 mv g3 => ?_))
        obtain ⟨h3, g2, d3, tk, os3⟩ := s3
        obtain rfl : g2 = s.gens := mv.gens
        obtain rfl : d3 = s.drawn := mv.drawn
        obtain rfl : os3 = s.os := mv.os
        refine wpAny_pure (wpAny_pure ⟨rfl, h3, tk, rfl, mv.toks, g3, fun b o e => mv.heap b o (fun hm => ?_) (keep _ _ (Heap.get?_push_of_some _ e))⟩)
        have hb : b < s.heap.objs.size := Heap.lt_size e
        rcases List.mem_cons.mp hm with e | e
        · exact absurd e (Nat.ne_of_lt hb)
        · exact absurd (List.mem_singleton.mp e) (Nat.ne_of_lt (Nat.lt_succ_of_lt hb))
      · cases r2 with
        | error e => exact hr2
        | ok fl2 =>
          cases fl2 with
          | ret r =>
            obtain ⟨rfl, h', tk, rfl, ht, hg, hk'⟩ := hr2
            walk_at "ws"
            exact fin _ _ ht hg hk'
          | _ => exact hr2.elim
    | _ => exact hr.elim
end
end MP

/-! great ints, gcd, is True, unpacking a list -/
namespace MP
open PySem PySem.Spec PyProof.Rows L2
variable [TBs]
/-- // by a divisor of either sign, not too long -/
def CDivA (_ j : Int) : Prop := j ≠ 0 ∧ j.natAbs.log2 < 9000
instance (i j : Int) : Decidable (CDivA i j) := by unfold CDivA; infer_instance
instance (i j : Int) : Decidable (CMulW i j) := by unfold CMulW; infer_instance
theorem op_fdivA {X : Cx} : OpR X (binaryOp .FloorDiv) (rI CDivA fun i j => .int (i.fdiv j)) := opI fun i j _ _ _ _ _ hc q => floordiv_int hc.1 q (.inl (PyProof.noPylong_of_log2 hc.2))
def gMulW : G2 := gII CMulW fun i j => .int (i * j)
def gDivA : G2 := gII CDivA fun i j => .int (i.fdiv j)
def gModN : G2 := gII (fun _ j => j ≠ 0) fun i j => .int (i.fmod j)
section
variable {K : PySem.W.Frag} {mg : Str → Option Value} {E : XK}
theorem real_mulW : Real2 K mg E (rI CMulW fun i j => .int (i * j)) gMulW := real_II fun _ _ _ _ => .int _
theorem real_divA : Real2 K mg E (rI CDivA fun i j => .int (i.fdiv j)) gDivA := real_II fun _ _ _ _ => .int _
theorem real_modN : Real2 K mg E (rI (fun _ j => j ≠ 0) fun i j => .int (i.fmod j)) gModN := real_II fun _ _ _ _ => .int _
/-- is True, is False -/
def gIsB (neg : Bool) : G2 := fun x y st => match x, y with
  | .bl a, .bl b => .ok (.bl (decide (a = b) ^^ neg)) st
  | _, _ => .bad
theorem real_isB : Real2 K mg E (fun x y H Q => ∃ a b, x = .bl a ∧ y = .bl b ∧ Q (.bl (decide (a = b))) H) (gIsB false) := by
  intro ρ st H x y a b Q s ra rb h
  cases ra with
  | bl i =>
    cases rb with
    | bl j => exact ⟨i, j, rfl, rfl, by simpa [gIsB] using (show Post K mg (Rep K mg) E ρ H Q _ from h).done (v := V.bl (decide (i = j) ^^ false)) s (.bl _)⟩
    | _ => exact h.elim
  | _ => exact h.elim
theorem real_notB : Real2 K mg E (fun x y H Q => ∃ a b, x = .bl a ∧ y = .bl b ∧ Q (.bl (!decide (a = b))) H) (gIsB true) := by
  intro ρ st H x y a b Q s ra rb h
  cases ra with
  | bl i =>
    cases rb with
    | bl j => exact ⟨i, j, rfl, rfl, by simpa [gIsB] using (show Post K mg (Rep K mg) E ρ H Q _ from h).done (v := V.bl (decide (i = j) ^^ true)) s (.bl _)⟩
    | _ => exact h.elim
  | _ => exact h.elim
/-- gcd -/
def gGcd : List D → Store → Res D := fun ds st => match ds with
  | [.int i, .int j] => .ok (.int ((Nat.gcd i.natAbs j.natAbs : Nat) : Int)) st
  | _ => .bad
theorem real_gcd : RealC K mg E rGcd gGcd := by
  intro ρ st H xs as Q s rs h
  match as, xs, rs with
  | [], _, .nil => exact h.elim
  | [d], _, .cons r .nil => cases d <;> exact h.elim
  | d :: e :: f :: l, _, .cons r (.cons _ (.cons _ _)) => cases d <;> cases e <;> exact h.elim
  | [d, e], _, .cons r (.cons r2 .nil) =>
    cases r with
    | int i =>
      cases r2 with
      | int j => exact ⟨i, j, rfl, h.done s (.int _)⟩
      | _ => exact h.elim
    | _ => exact h.elim
end
theorem me_callF {X : Cx} {E : XK} {pos p : Pos} {x : Str} {id : String} {e : Expr} {es : List Expr} {r : List V → Hp → VK → Prop} {g : List D → Store → Res D} {f : Ev (List D)} (hc : CallR X (.builtin id) r) (hr : RealC X.K X.mg E r g) (hm : X.mg x = some (.builtin id)) (ha : MA X E (e :: es) f) (hg : Gl X x := by rfl) (hdb : (x == ("__debug__" : Str)) = false := by decide)
    (he : starEach (e :: es) X.env = (false, eval e X.env) :: starEach es X.env := by rfl) (hpl : (backTo pos (starEach es X.env)).any (·.1) = false := by rfl) : ME X E (.Call (.Name x p) (e :: es) [] pos) (eCall g f) := by
  obtain ⟨t, pa, ra⟩ := ha
  exact ⟨_, pe_callBfun hc hg hm pa hdb he hpl, fun ρ env st σ H Q s e h => ra ρ env st σ H _ s e (h.split fun a st1 ρ1 H1 v g1 qa h1 => hr ρ1 st1 H1 v a Q g1.sim qa h1)⟩
/-- unpacking a tuple or a list -/
theorem pg_or {X : Cx} {e : Expr} {t1 t2 : TG} (h1 : PG X e t1) (h2 : PG X e t2) : PG X e (fun v σ H Q => t1 v σ H Q ∨ t2 v σ H Q) :=
  ⟨fun pins s σ H v u Q I r hw => hw.elim (h1.run pins s σ H v u Q I r) (h2.run pins s σ H v u Q I r)⟩
def gU (n : Nat) (gs : List D → Env → Store → Res Env) : Tg := fun d env st => match itemsOf st d with
  | some ds => if ds.length = n then gs ds env st else .bad
  | none => .bad
theorem mg_unp {X : Cx} {E : XK} {pos : Pos} {es : List Expr} {k : Nat} {gs : List D → Env → Store → Res Env} (n : Nat) (hc : X.calm = true) (h : MGs X E es gs)
    (hn : (assignEach es X.env).length = n := by rfl) (hst : (assignEach es X.env).findIdx? (·.1) = none := by rfl) : MG X E (.Tuple es k pos) (gU n gs) := by
  obtain ⟨t, p, q⟩ := h
  refine ⟨_, pg_or (pg_tup hc p hn hst) (pg_unl hc p hn hst), fun ρ env st σ H v d Q s e r h => ?_⟩
  unfold gU at h
  cases hi : itemsOf st d with
  | none => simp only [hi] at h; exact h.elim
  | some ds =>
    simp only [hi] at h
    obtain ⟨a, xs, rfl, rs, z⟩ := items_of s r hi
    by_cases hl : ds.length = n
    · rw [if_pos hl] at h
      have hq := q ρ env st σ H _ _ Q s e rs h
      rcases z with ⟨es', _, hz⟩ | z
      · exact .inl ⟨a, xs, rfl, hz, by rw [← rs.length]; exact hl, hq⟩
      · exact .inr ⟨a, xs, rfl, by first | exact z | exact z.2 | exact z.2.2, by rw [← rs.length]; exact hl, hq⟩
    · rw [if_neg hl] at h
      exact h.elim
theorem mulW_ii (i j : Int) (st : Store) : gMulW (.int i) (.int j) st = if CMulW i j then .ok (.int (i * j)) st else .bad := rfl
theorem divA_ii (i j : Int) (st : Store) : gDivA (.int i) (.int j) st = if CDivA i j then .ok (.int (i.fdiv j)) st else .bad := rfl
omit [TBs] in
theorem modN_ii (i j : Int) (st : Store) : gModN (.int i) (.int j) st = if j = 0 then .bad else .ok (.int (i.fmod j)) st := by
  show (if j ≠ 0 then _ else _) = _
  by_cases h : j = 0 <;> simp [h]
theorem gcd_ii (i j : Int) (st : Store) : gGcd [.int i, .int j] st = .ok (.int ((Nat.gcd i.natAbs j.natAbs : Nat) : Int)) st := rfl
theorem isB_bb (n a b : Bool) (st : Store) : gIsB n (.bl a) (.bl b) st = .ok (.bl (decide (a = b) ^^ n)) st := rfl
theorem abs_i (i : Int) (st : Store) : gAbs [.int i] st = .ok (.int (if i < 0 then -i else i)) st := rfl
def unpE (o : Option (List D)) (n : Nat) (gs : List D → Env → Store → Res Env) (env : Env) (st : Store) : Res Env := match o with
  | some ds => if ds.length = n then gs ds env st else .bad
  | none => .bad
theorem gU_def (n : Nat) (gs : List D → Env → Store → Res Env) (d : D) (env : Env) (st : Store) : gU n gs d env st = unpE (itemsOf st d) n gs env st := rfl
theorem unpE_some (ds : List D) (n : Nat) (gs : List D → Env → Store → Res Env) (env : Env) (st : Store) : unpE (some ds) n gs env st = if ds.length = n then gs ds env st else .bad := rfl
end MP

/-! sets made from lists of ints -/
namespace MP
open PySem PySem.Spec PyProof.Rows L2
section
variable {P : Program} {w : World} {E : Value → Shared → Prop} {s : Shared}
def keptI (w : World) (S : Addr) (ns : List Int) (i : Nat) (h : Heap) : Prop := ∃ c, c ≤ i ∧ SetR w h S (fun j => decide (j ∈ ns.take i)) c
def nthI (ns : List Int) (i : Nat) (v : Value) : Prop := ∃ k t, ns[i]? = some k ∧ v = .int k t
theorem addsI {S : Addr} {ns : List Int} (few : ns.length + 1 < scanBound) : AddsTo P w (fun _ => True) S (keptI w S ns) (nthI ns) := by
  intro A i v s E Q _ hv hg h
  obtain ⟨z, t, hz, rfl⟩ := hv
  obtain ⟨c, hc, R⟩ := hg
  have hi := (List.getElem?_eq_some_iff.mp hz).1
  unfold setAdd
  refine wpAny_holding ?_
  refine wpAny_bind ((intKind P w).pyHash (k := z) (intKind_is _ _ _ _) ?_)
  refine setR_add_hashed (s := { s with toks := s.toks + 1 }) R (by omega) fun h' sb R2 => ?_
  refine h _ h' (s.toks + 1) (Nat.le_succ _) sb ⟨_, ?_, R2.congr fun j => ?_⟩
  · split <;> omega
  · rw [List.take_add_one, hz]
    simp [List.mem_append]
theorem ints_at : ∀ {vs : List Value} {ns : List Int} {i : Nat} {v : Value}, PyProof.Rows.IntsAre vs ns → vs[i]? = some v → nthI ns i v
  | _, _, _, _, .nil, e => by simp at e
  | _, _, 0, _, .cons k t _, e => by
    simp at e
    exact ⟨k, t, rfl, e.symm⟩
  | _, _, i + 1, v, .cons k t r, e => by
    obtain ⟨k', t', h1, h2⟩ := ints_at (i := i) (v := v) r (by simpa using e)
    exact ⟨k', t', by simpa using h1, h2⟩
theorem at_int {items : Array Value} {ns : List Int} {i : Nat} {v : Value} (hI : PyProof.Rows.IntsAre items.toList ns) (p : items[i]? = some v) : nthI ns i v :=
  ints_at hI (by rw [Array.getElem?_toList]; exact p)
theorem itersL {l : Addr} {items : Array Value} {ns : List Int} (hl : s.heap.IsList l items) (hI : PyProof.Rows.IntsAre items.toList ns) : Iters P w { s with heap := s.heap.push (bare w) } l items.size (nthI ns) := by
  intro A Q E hh hQ
  have hl1 : (s.heap.push (bare w)).IsList l items := hl.push _
  refine wpAny_pyIter_list hl1 ?_
  have lt : l < (s.heap.push (bare w)).objs.size := by
    obtain ⟨o, ho, _⟩ := hl1
    exact Heap.lt_size ho
  refine hQ _ (fun i s' => s'.heap.IsListIter (s.heap.push (bare w)).objs.size l i ∧ s'.heap.IsList l items) (by rw [Heap.size_push (h := s.heap.push (bare w))]; exact Nat.le_succ _) (fun b o e => Heap.get?_push_of_some _ e) (fun A' hA => ?_) ⟨⟨_, Heap.get?_push_size _ rfl, rfl, rfl⟩, hl1.push _⟩
  have W := ((Walks.list (prog := P) (w := w) hA (s.heap.push (bare w)).objs.size l (Nat.ne_of_lt lt) items).toS)
  exact { W with item := fun i s Q E hi st hQ => W.item i s Q E hi st fun v s' p st' mv => hQ v s' (at_int hI p) st' mv }
theorem set_listI {A : Around} {l : Addr} {items : Array Value} {ns : List Int} {Q : Value → Shared → Prop} (hh : A.handled = none) (hl : s.heap.IsList l items) (hI : PyProof.Rows.IntsAre items.toList ns) (few : ns.length + 1 < scanBound)
    (h : ∀ (h' : Heap) (tk c : Nat), c ≤ ns.length → SetR w h' s.heap.objs.size (fun j => decide (j ∈ ns)) c → (∀ b o, s.heap.get? b = some o → h'.get? b = some o) → Q (.ref s.heap.objs.size) { s with heap := h', toks := tk }) :
    wpAny (model P w) A (call (.type "set") [.ref l]) Q E s := by
  have hz : items.size = ns.length := by
    have q := IntsAre.length hI
    rw [Array.length_toList] at q
    exact q
  have hlI := hl
  obtain ⟨ol, hol, hk, _⟩ := hl
  refine set_call (ok := fun _ => True) (G := keptI w s.heap.objs.size ns) hh trivial hol hk F.sub_list_set F.sub_list_frozenset (by decide) (itersL hlI hI) (addsI few) (fun h ho _ => ⟨0, Nat.le_refl _, setR_new_at ho⟩) (fun i h h' ⟨c, hc, R⟩ st => ⟨c, hc, R.at fun o e => st _ o (fun m => absurd (List.mem_singleton.mp m) (Nat.ne_of_lt (Nat.lt_succ_self _))) e⟩) fun h' tk _ ⟨c, hc, R⟩ keep => ?_
  rw [hz] at hc R
  refine h h' tk c hc (R.congr fun j => ?_) keep
  rw [List.take_length]
/-- how many there are -/
theorem setR_count {h : Heap} {a : Addr} {ns : List Int} {c : Nat} (R : SetR w h a (fun j => decide (j ∈ ns)) c) : c = (srtI ns).length := by
  obtain ⟨o, es, ep, t, _, _, _, _, nd, hm, _, _, hn, _⟩ := R
  have h1 : (srtI ns).Nodup := (srtI_pw ns).imp fun {a b} (h : a < b) => by omega
  have h2 : (es.toList.map keyOf).Perm (srtI ns) := (List.perm_ext_iff_of_nodup nd h1).mpr fun k => by
    rw [srtI_mem, ← hm]
    simp
  have h3 := h2.length_eq
  rw [List.length_map, Array.length_toList] at h3
  omega
end
section
variable {X : Cx} {a : Expr} {ta : TE} {p p2 q pos : Pos}
def tSrtSet (K : PySem.W.Frag) (ta : TE) : TE := fun σ H Q => ta σ H fun x H1 => ∃ (l : Addr) (ns : List Int), x = V.ref l ∧ SqL K H1 l (ns.map V.int) ∧ ns.length < 64 ∧ ∀ p, H1 p = none → Q (.ref p) (upd H1 p (.lst ((srtI ns).map V.int)))
def tCntSet (K : PySem.W.Frag) (ta : TE) : TE := fun σ H Q => ta σ H fun x H1 => ∃ (l : Addr) (ns : List Int), x = V.ref l ∧ SqL K H1 l (ns.map V.int) ∧ ns.length < 64 ∧ Q (.int ((srtI ns).length : Nat)) H1
theorem vals_ints : ∀ {ns : List Int} {vs : List Value}, Vals (ns.map V.int) vs → PyProof.Rows.IntsAre vs ns
  | [], _, .nil => .nil
  | n :: ns, _, .cons r t => by
    obtain ⟨k, rfl⟩ := r
    exact .cons n k (vals_ints t)
theorem pe_srtSet (hc : X.calm = true) (hm : X.mg "sorted" = none) (hm2 : X.mg "set" = none) (ha : PE X a ta) (hg : Gl X "sorted" := by rfl) (hg2 : Gl X "set" := by rfl)
    (na : starEach [a] X.env = (false, eval a X.env) :: starEach [] X.env := by rfl) : PE X (.Call (.Name "sorted" p) [.Call (.Name "set" p2) [a] [] q] [] pos) (tSrtSet X.K ta) := by
  refine ⟨fun pins s σ H Q I h => ?_⟩
  refine Call_ (ld_blt I hg hm boot_sorted ?_)
  refine PyProof.Rows.callWith_builtin1 (PyProof.Rows.args_cons ?_ rfl) rfl rfl
  refine Call_ (ld_blt I hg2 hm2 PyProof.Rows.boot_set ?_)
  refine PyProof.Rows.callWith_type1 (PyProof.Rows.args_cons (thn (ha.run pins s σ H _ I h) fun v s1 ⟨x, H1, I1, r1, q1⟩ => PyProof.Rows.args_nil ?_) na) na rfl
  obtain ⟨l, ns, rfl, hq, hl, q1⟩ := q1
  cases r1
  obtain ⟨its, r, pl, hz⟩ := I1.list hq
  refine set_listI (I1.ok.hd hc) pl.isList (by simpa using vals_ints r) (by unfold scanBound; omega) fun h' tk c hcl R keep => ?_
  refine PyProof.Rows.args_nil ?_
  have I2 : L2.Inv X pins σ H1 { s1 with heap := h', toks := tk } := I1.kept fun b o e => keep b o e
  refine sorted_set R (I2.ok.hd hc) (by omega) fun s' p out k ns' kp hgn hos hp hg hi hs hmm hln => ?_
  have en : ns' = srtI ns := asc_uniq hs (srtI_pw ns) fun j => by rw [hmm, srtI_mem]; simp
  have hlen : (ns'.map V.int).length ≤ sizeLine := by rw [List.length_map, hln, sizeLine_eq]; omega
  have hn : H1 p = none := I2.hok.fresh hp
  have J : L2.Inv X pins σ (upd H1 p (.lst (ns'.map V.int))) { ({ s1 with heap := h', toks := tk } : Shared) with heap := s'.heap, gens := s'.gens, drawn := s'.drawn, toks := s'.toks } :=
    I2.call (ch := []) (Un.laid kp hp hn) (I2.hok.laid kp hp ⟨hlen, out.toList, k, vals_of_ints hi, hg⟩) (by rw [hgn]; exact I2.bare) (fun _ z => nomatch z)
  have e : s' = { s1 with heap := s'.heap, gens := s'.gens, drawn := s'.drawn, toks := s'.toks } := by
    cases s'
    cases s1
    cases hos
    rfl
  rw [e]
  rw [en] at J
  exact ⟨.ref p, _, J, rfl, q1 p hn⟩
theorem pe_cntSet (hc : X.calm = true) (hm : X.mg "len" = none) (hm2 : X.mg "set" = none) (ha : PE X a ta) (hg : Gl X "len" := by rfl) (hg2 : Gl X "set" := by rfl)
    (na : starEach [a] X.env = (false, eval a X.env) :: starEach [] X.env := by rfl) : PE X (.Call (.Name "len" p) [.Call (.Name "set" p2) [a] [] q] [] pos) (tCntSet X.K ta) := by
  refine ⟨fun pins s σ H Q I h => ?_⟩
  refine Call_ (ld_blt I hg hm boot_len ?_)
  refine PyProof.Rows.callWith_builtin1 (PyProof.Rows.args_cons ?_ rfl) rfl rfl
  refine Call_ (ld_blt I hg2 hm2 PyProof.Rows.boot_set ?_)
  refine PyProof.Rows.callWith_type1 (PyProof.Rows.args_cons (thn (ha.run pins s σ H _ I h) fun v s1 ⟨x, H1, I1, r1, q1⟩ => PyProof.Rows.args_nil ?_) na) na rfl
  obtain ⟨l, ns, rfl, hq, hl, q1⟩ := q1
  cases r1
  obtain ⟨its, r, pl, hz⟩ := I1.list hq
  refine set_listI (I1.ok.hd hc) pl.isList (by simpa using vals_ints r) (by unfold scanBound; omega) fun h' tk c hcl R keep => ?_
  refine PyProof.Rows.args_nil ?_
  have I2 : L2.Inv X pins σ H1 { s1 with heap := h', toks := tk } := I1.kept fun b o e => keep b o e
  have hcn := setR_count R
  obtain ⟨o, es, ep, t, ho, hex, hd, _, _, _, _, hf, hn, _⟩ := R
  exact call_len_set ho hex hd hf (by rw [hn] <;> omega) ⟨.int (srtI ns).length, H1, I2.tok _, ⟨_, by rw [hn, hcn]⟩, q1⟩
end
end MP

/-! sorted(set(xs)), len(set(xs)), list(range(n)), whole slices, a dict of the module, a def held by a local name -/
namespace MP
open PySem PySem.Spec PyProof.Rows L2
variable [TBs]
def intsOf : List D → Option (List Int)
  | [] => some []
  | .int i :: r => (intsOf r).map (i :: ·)
  | _ => none
omit [TBs] in
theorem ints_map : ∀ ns : List Int, intsOf (ns.map D.int) = some ns
  | [] => rfl
  | n :: r => by
    show (intsOf (r.map D.int)).map (n :: ·) = _
    rw [ints_map r]
    rfl
section
variable {K : PySem.W.Frag} {mg : Str → Option Value} {ρ : List Addr} {H : Hp} {st : Store}
omit [TBs] in
theorem ints_reps : ∀ {ds : List D} {vs : List V} {ns : List Int}, Reps K mg ρ H ds vs → intsOf ds = some ns → vs = ns.map V.int
  | _, _, _, .nil, e => by
    cases e
    rfl
  | d :: ds, _, ns, .cons r t, e => by
    cases d with
    | int i =>
      cases r
      have e : (intsOf ds).map (i :: ·) = some ns := e
      cases q : intsOf ds with
      | none => rw [q] at e; cases e
      | some ms =>
        rw [q] at e
        cases e
        rw [ints_reps t q]
        rfl
    | _ => cases e
end
/-- the ints of a list of the store, few -/
def fewI (st : Store) (x : D) (k : List Int → Res D) : Res D := match x with
  | .ref n => match st[n]? with
    | some (.lst ds) => match intsOf ds with
      | some ns => if ns.length < 64 then k ns else .bad
      | none => .bad
    | _ => .bad
  | _ => .bad
def eSrtSet (f : Ev D) : Ev D := fun env st => bindR (f env st) fun x st1 => fewI st1 x fun ns => .ok (.ref st1.length) (st1 ++ [.lst ((srtI ns).map .int)])
def eCntSet (f : Ev D) : Ev D := fun env st => bindR (f env st) fun x st1 => fewI st1 x fun ns => .ok (.int ((srtI ns).length : Nat)) st1
section
variable {X : Cx} {E : XK} {a b : Expr} {fa fb : Ev D} {p p2 q pos : Pos}
theorem few_at {K : PySem.W.Frag} {mg : Str → Option Value} {ρ : List Addr} {H : Hp} {st : Store} {x : D} {v : V} {k : List Int → Res D} {Q : V → Hp → Prop} (s : Sim K mg ρ st H) (r : Rep K mg ρ H x v) (h : Post K mg (Rep K mg) E ρ H Q (fewI st x k)) :
    ∃ (l : Addr) (ns : List Int), v = .ref l ∧ SqL K H l (ns.map V.int) ∧ ns.length < 64 ∧ Post K mg (Rep K mg) E ρ H Q (k ns) := by
  unfold fewI at h
  cases x with
  | ref n =>
    cases e1 : st[n]? with
    | none => simp only [e1] at h; exact h.elim
    | some o =>
      obtain ⟨l, ho, z, w1, u1, rr⟩ := s.get e1 r
      cases rr with
      | @lst ds xs rs =>
        simp only [e1] at h
        cases e2 : intsOf ds with
        | none => simp only [e2] at h; exact h.elim
        | some ns =>
          simp only [e2] at h
          by_cases hl : ns.length < 64
          · rw [if_pos hl] at h
            have := ints_reps rs e2
            subst this
            exact ⟨l, ns, z, .inl (.inl u1), hl, h⟩
          · rw [if_neg hl] at h
            exact h.elim
      | _ => simp only [e1] at h; exact h.elim
  | _ => exact h.elim
theorem me_srtSet (hc : X.calm = true) (hm : X.mg "sorted" = none) (hm2 : X.mg "set" = none) (ha : ME X E a fa) (hg : Gl X "sorted" := by rfl) (hg2 : Gl X "set" := by rfl)
    (na : starEach [a] X.env = (false, eval a X.env) :: starEach [] X.env := by rfl) : ME X E (.Call (.Name "sorted" p) [.Call (.Name "set" p2) [a] [] q] [] pos) (eSrtSet fa) := by
  obtain ⟨t, pa, ra⟩ := ha
  refine ⟨_, pe_srtSet hc hm hm2 pa hg hg2 na, fun ρ env st σ H Q s e h => ?_⟩
  refine ra ρ env st σ H _ s e (h.split fun x st1 ρ1 H1 v g1 rx h1 => ?_)
  obtain ⟨l, ns, rfl, hq, hl, h2⟩ := few_at g1.sim rx h1
  refine ⟨l, ns, rfl, hq, hl, fun pp hp => ?_⟩
  obtain ⟨g, r⟩ := Go.lst g1.sim (reps_ints (K := X.K) (mg := X.mg) (ρ := ρ1) (H := H1) (srtI ns)) hp
  exact h2 _ _ _ g r
theorem me_cntSet (hc : X.calm = true) (hm : X.mg "len" = none) (hm2 : X.mg "set" = none) (ha : ME X E a fa) (hg : Gl X "len" := by rfl) (hg2 : Gl X "set" := by rfl)
    (na : starEach [a] X.env = (false, eval a X.env) :: starEach [] X.env := by rfl) : ME X E (.Call (.Name "len" p) [.Call (.Name "set" p2) [a] [] q] [] pos) (eCntSet fa) := by
  obtain ⟨t, pa, ra⟩ := ha
  refine ⟨_, pe_cntSet hc hm hm2 pa hg hg2 na, fun ρ env st σ H Q s e h => ?_⟩
  refine ra ρ env st σ H _ s e (h.split fun x st1 ρ1 H1 v g1 rx h1 => ?_)
  obtain ⟨l, ns, rfl, hq, hl, h2⟩ := few_at g1.sim rx h1
  exact ⟨l, ns, rfl, hq, hl, h2.done g1.sim (.int _)⟩
/-- list(range(n)) -/
def lrD (x : D) (st : Store) : Res D := match x with
  | .int j => if -(2 ^ 62) ≤ j ∧ j < 2 ^ 62 ∧ j.toNat ≤ 2 ^ 24 then .ok (.ref st.length) (st ++ [.lst (rgD 0 j.toNat)]) else .bad
  | _ => .bad
def eLstRg (f : Ev D) : Ev D := fun env st => bindR (f env st) fun x st1 => lrD x st1
theorem rgV_reps {K : PySem.W.Frag} {mg : Str → Option Value} {ρ : List Addr} {H : Hp} (j : Int) : Reps K mg ρ H (rgD 0 j.toNat) (rgV 0 j) := by
  have e1 : rgD 0 j.toNat = ((List.range j.toNat).map fun i : Nat => (0 : Int) + (i : Int)).map D.int := by
    unfold rgD
    rw [List.map_map] <;> rfl
  have e2 : rgV 0 j = ((List.range j.toNat).map fun i : Nat => (0 : Int) + (i : Int)).map V.int := by
    unfold rgV
    rw [List.map_map, Int.sub_zero] <;> rfl
  rw [e1, e2]
  exact reps_ints _
theorem me_listRg {rp : Pos} (hc : X.calm = true) (hm : X.mg "list" = none) (hm2 : X.mg "range" = none) (ha : ME X E a fa) (hg : Gl X "list" := by rfl) (hg2 : Gl X "range" := by rfl)
    (na : starEach [a] X.env = (false, eval a X.env) :: starEach [] X.env := by rfl) : ME X E (.Call (.Name "list" p) [.Call (.Name "range" p2) [a] [] rp] [] pos) (eLstRg fa) := by
  obtain ⟨t, pa, ra⟩ := ha
  refine ⟨_, pe_listRg hc hg hm (prg_1 hg2 hm2 pa na), fun ρ env st σ H Q s e h => ?_⟩
  refine ra ρ env st σ H _ s e (h.split fun x st1 ρ1 H1 v g1 rx h1 => ?_)
  cases x with
  | int j =>
    cases rx
    unfold lrD at h1
    simp only at h1
    by_cases hj : -(2 ^ 62) ≤ j ∧ j < 2 ^ 62 ∧ j.toNat ≤ 2 ^ 24
    · rw [if_pos hj] at h1
      refine ⟨j, rfl, ⟨by decide, by decide, hj.1, hj.2.1, by rw [Int.sub_zero]; exact hj.2.2⟩, fun pp hp => ?_⟩
      obtain ⟨g, r⟩ := Go.lst g1.sim (rgV_reps (K := X.K) (mg := X.mg) (ρ := ρ1) (H := H1) j) hp
      exact h1 _ _ _ g r
    · rw [if_neg hj] at h1
      exact h1.elim
  | _ => exact h1.elim
/-- slices, whole ones too -/
def gSlA (x : D) (lo hi : Option Int) (st : Store) : Res D := match x with
  | .tup ds => .ok (.tup (cutD ds lo hi)) st
  | .ref n => match st[n]? with
    | some (.lst ds) => .ok (.ref st.length) (st ++ [.lst (cutD ds lo hi)])
    | _ => .bad
  | _ => .bad
def eSlA (f : Ev D) (lo hi : EvP) : Ev D := fun env st => bindR (f env st) fun x st1 => bindR (lo env st1) fun l st2 => bindR (hi env st2) fun u st3 => gSlA x l u st3
theorem cut_all {ds : List D} {lo hi : Option Int} (h : HT.sIx ds.length 0 lo = 0 ∧ HT.sIx ds.length ds.length hi = ds.length) : cutD ds lo hi = ds := by
  unfold cutD
  rw [h.1, h.2, Nat.sub_zero, List.drop_zero, List.take_length]
theorem me_sliceA {lo hi : Option Expr} {p2 : Pos} {fl fh : EvP} (ha : ME X E a fa) (hl : MP' X E lo fl) (hh : MP' X E hi fh) : ME X E (.Subscript a (.Slice lo hi none p2) pos) (eSlA fa fl fh) := by
  obtain ⟨t, p, r⟩ := ha
  obtain ⟨tl, pl, rl⟩ := hl
  obtain ⟨th, ph, rh⟩ := hh
  refine ⟨_, pe_slice (sl_tupA.or sl_list) p pl ph, fun ρ env st σ H Q s e h => ?_⟩
  refine r ρ env st σ H _ s e (h.split fun x st1 ρ1 H1 v g1 rx k1 => rl ρ1 env st1 σ H1 _ g1.sim (e.mono g1.pre g1.ext) (k1.split fun l st2 ρ2 H2 l' g2 q2 k2 => ?_))
  cases q2
  have g12 := g1.trans g2
  refine rh ρ2 env st2 σ H2 _ g2.sim (e.mono g12.pre g12.ext) (k2.split fun u st3 ρ3 H3 u' g3 q3 k3 => ?_)
  cases q3
  have rx3 := (rx.mono g2.pre g2.ext).mono g3.pre g3.ext
  cases rx3 with
  | @tup p xs ds hs rs =>
    have k3 : Post X.K X.mg (Rep X.K X.mg) E ρ3 H3 Q (.ok (.tup (cutD ds l u)) st3) := k3
    refine .inl ⟨p, xs, rfl, hs, fun hw => ?_, fun hw q hq => ?_⟩
    · rw [← rs.length] at hw
      rw [cut_all hw] at k3
      exact k3.done g3.sim (.tup hs rs)
    · have g := Go.fresh (u := .tup (cutV xs l u)) g3.sim hq
      exact k3 _ _ _ g (.tup (.inl (.inl upd_same)) ((reps_cut rs l u).mono g.pre g.ext))
  | @ref p n hn =>
    simp only [gSlA] at k3
    cases e1 : st3[n]? with
    | none => simp only [e1] at k3; exact k3.elim
    | some o =>
      obtain ⟨q, ho, z, w1, u1, rr⟩ := g3.sim.get e1 (.ref hn)
      cases z
      cases rr with
      | @lst ds xs rs =>
        simp only [e1] at k3
        refine .inr ⟨p, xs, rfl, .inl (.inl u1), fun q hq => ?_⟩
        obtain ⟨g, r'⟩ := Go.lst g3.sim (reps_cut rs l u) hq
        exact k3 _ _ _ g r'
      | _ => simp only [e1] at k3; exact k3.elim
  | _ => exact k3.elim
/-- T[z], T a dict of the module that nobody writes -/
def kdG (T : List (Str × D)) (x : D) (st : Store) : Res D := match x with
  | .str z => match T.lookup z with
    | some d => .ok d st
    | none => .bad
  | _ => .bad
def eKd (T : List (Str × D)) (f : Ev D) : Ev D := fun env st => bindR (f env st) fun x st1 => kdG T x st1
structure KdT (K : PySem.W.Frag) (w : World) (mg : Str → Option Value) (g : Str) (T : List (Str × D)) : Prop where
  ex : ∃ dct : Addr, mg g = some (.ref dct) ∧ ∀ z d, T.lookup z = some d → ∃ v, KDct K w dct z v ∧ ∀ ρ H, Rep K mg ρ H d v
theorem me_kd {g : Str} {T : List (Str × D)} (hT : KdT X.K X.w X.mg g T) (hb : ME X E b fb) (hg : Gl X g := by rfl) (hd : (g == ("__debug__" : Str)) = false := by decide) (hs : PlainIx b := by exact fun _ _ => rfl) : ME X E (.Subscript (.Name g p) b pos) (eKd T fb) := by
  obtain ⟨dct, hm, hT⟩ := hT
  obtain ⟨t2, p2, r2⟩ := hb
  refine ⟨_, pe_ix ix_kdict (pe_glob (v := .ref dct) hg hm rfl hd) p2 hs, fun ρ env st σ H Q s e h => ?_⟩
  refine r2 ρ env st σ H _ s e (h.split fun x st1 ρ1 H1 v g1 rx h1 => ?_)
  unfold kdG at h1
  cases x with
  | str z =>
    cases rx
    cases q : T.lookup z with
    | none => simp only [q] at h1; exact h1.elim
    | some d =>
      simp only [q] at h1
      obtain ⟨v0, kd, r0⟩ := hT z d q
      exact ⟨dct, z, v0, rfl, rfl, kd, h1.done g1.sim (r0 ρ1 H1)⟩
  | _ => exact h1.elim
/-- a call of a def that a local name holds -/
def locC (o : Option (Option D)) (T : List (Str × (List D → Store → Res D))) (k : (List D → Store → Res D) → Res D) : Res D := match o with
  | some (some (.fn y)) => match T.lookup y with
    | some m => k m
    | none => .bad
  | _ => .bad
def eLoc (i : Nat) (T : List (Str × (List D → Store → Res D))) (n : Nat) (f : Ev (List D)) : Ev D := fun env st => locC env[i]? T fun m => bindR (f env st) fun ds st1 => if ds.length = n then m ds st1 else .bad
theorem me_callLoc {j i : Nat} {x : Str} {n : Nat} {T : List (Str × (List D → Store → Res D))} {e : Expr} {es : List Expr} {f : Ev (List D)} (hT : ∀ y m, T.lookup y = some m → ∃ k, k ≤ j ∧ Fn X.prog X.w X.K X.mg X.base k y n m) (hr : Room j X.A) (ha : MA X E (e :: es) f)
    (hN : X.N[i]? = some x := by rfl) (hv : Vis X.env.scope x := by first | exact Or.inl rfl | exact Or.inr (Or.inl rfl) | exact Or.inr (Or.inr rfl)) (hx : Passes CX0 X E := by exact pass0) (hdb : (x == ("__debug__" : Str)) = false := by decide) (hcd : (x == ("__classdict__" : Str)) = false := by decide)
    (he : starEach (e :: es) X.env = (false, eval e X.env) :: starEach es X.env := by rfl) (hpl : (backTo pos (starEach es X.env)).any (·.1) = false := by rfl) :
    ME X E (.Call (.Name x p) (e :: es) [] pos) (eLoc i T n f) := by
  obtain ⟨t, pa, ra⟩ := ha
  refine ⟨fun σ H Q => ∃ (y : Str) (m : List D → Store → Res D) (a : Addr) (fd : FuncData) (ps : List Str) (k : Nat), k ≤ j ∧ FnOk X.prog X.w X.K X.mg X.base CX0 k a fd ps (spM X.K X.mg n m) ∧ PySem.W.keepIn X.K (.ref a) = true ∧ Binds X.K fd ps [] ∧ tCallL i a (spM X.K X.mg n m) [] E t σ H Q,
    ⟨fun pins s σ H Q I ⟨y, m, a, fd, ps, k, hk, F, kp, hb, h⟩ => (pe_callL F (hr.mono hk) hN hv kp hb .nil hx pa hdb hcd he hpl).run pins s σ H Q I h⟩, fun ρ env st σ H Q s e h => ?_⟩
  unfold eLoc locC at h
  cases q : env[i]? with
  | none => rw [q] at h; exact h.elim
  | some o =>
    cases o with
    | none => rw [q] at h; exact h.elim
    | some d =>
      cases d with
      | fn y =>
        rw [q] at h
        simp only at h
        cases q2 : T.lookup y with
        | none => rw [q2] at h; exact h.elim
        | some m =>
          rw [q2] at h
          simp only at h
          obtain ⟨v, e1, r⟩ := paired_get e q
          obtain ⟨u, e2, r⟩ := r _ rfl
          cases r with
          | @fn a' _ hm =>
            obtain ⟨k, hk, ⟨a, fd, ps, F, hm', kp, hb⟩⟩ := hT y m q2
            rw [hm] at hm'
            cases hm'
            refine ⟨y, m, _, fd, ps, k, hk, F, kp, hb, by rw [e1, e2], ?_⟩
            refine ra ρ env st σ H _ s e (h.split fun ds st1 ρ1 H1 vs g1 rd h1 => ?_)
            by_cases hl : ds.length = n
            · rw [if_pos hl] at h1
              show spM X.K X.mg n m (vs ++ []) H1 Q E
              rw [List.append_nil]
              exact ⟨by rw [← rd.length]; exact hl, ρ1, st1, ds, g1.sim, rd, h1⟩
            · rw [if_neg hl] at h1
              exact h1.elim
      | _ => rw [q] at h; exact h.elim
omit [TBs] in
theorem lk_nil {β : Type} {P : Str → β → Prop} : ∀ y m, ([] : List (Str × β)).lookup y = some m → P y m := fun y m h => by cases h
omit [TBs] in
theorem lk_cons {β : Type} {P : Str → β → Prop} {x : Str} {m0 : β} {T : List (Str × β)} (h0 : P x m0) (hT : ∀ y m, T.lookup y = some m → P y m) : ∀ y m, ((x, m0) :: T).lookup y = some m → P y m := fun y m h => by
  rw [List.lookup_cons] at h
  by_cases e : (y == x) = true
  · rw [e] at h
    cases h
    rw [show y = x from by simpa using e]
    exact h0
  · rw [Bool.eq_false_iff.mpr e] at h
    exact hT y m h
end
end MP

/-! x in t, t a tuple of plain data -/
namespace MP
open PySem PySem.Spec PyProof.Rows L2
def rInDT (K : PySem.W.Frag) : R2 := fun x y H Q => ∃ d ds, Dp K H x d ∧ Dp K H y (.tuple ds) ∧ SeqAt.shaped d = true ∧ SeqAt.shaped (.tuple ds) = true ∧ Q (.bl (ds.any fun z => PyData.eqv z d)) H
theorem op_inDT {X : Cx} (room : X.A.units + 65 < cLine) : OpR X (compareOp .In) (rInDT X.K) := by
  intro pins s σ H x y v u Q I rx ry h
  obtain ⟨d, ds, hd, he, sd, se, q⟩ := h
  obtain ⟨bs, r2⟩ := Dp.reads I (.tuple ds) y u he ry
  obtain ⟨as, r1⟩ := Dp.reads I d x v hd rx
  refine SeqAt.in_tuple_reads r2 r1 (SeqAt.canLay_of_shaped se) (SeqAt.canLay_of_shaped sd) (room_in_shaped sd room) ?_
  exact ⟨.bl _, H, I, rfl, q⟩
def inDT (st : Store) (x y : D) : Option Bool := match toP st 64 x, toP st 64 y with
  | some p, some (.tuple qs) => if SeqAt.shaped p = true ∧ SeqAt.shaped (.tuple qs) = true then some (qs.any fun z => PyData.eqv z p) else none
  | _, _ => none
def gInT : G2 := fun x y st => match inDT st x y with
  | some b => .ok (.bl b) st
  | none => .bad
section
variable [TBs] {K : PySem.W.Frag} {mg : Str → Option Value} {E : XK}
theorem real_inT : Real2 K mg E (rInDT K) gInT := by
  intro ρ st H x y a b Q s ra rb h
  unfold gInT at h
  cases e : inDT st a b with
  | none => simp only [e] at h; exact h.elim
  | some c =>
    simp only [e] at h
    unfold inDT at e
    cases e1 : toP st 64 a with
    | none => simp only [e1] at e; cases e
    | some p =>
      cases e2 : toP st 64 b with
      | none => simp only [e1, e2] at e; cases e
      | some q =>
        cases q with
        | tuple qs =>
          simp only [e1, e2] at e
          by_cases hs : SeqAt.shaped p = true ∧ SeqAt.shaped (.tuple qs) = true
          · rw [if_pos hs] at e
            cases e
            exact ⟨p, qs, toP_of s _ _ _ _ ra e1, toP_of s _ _ _ _ rb e2, hs.1, hs.2, h.done s (.bl _)⟩
          · rw [if_neg hs] at e
            cases e
        | _ => simp only [e1, e2] at e; cases e
end
theorem slA_def (f : Ev D) (lo hi : EvP) (env : Env) (st : Store) : eSlA f lo hi env st = bindR (f env st) fun x st1 => bindR (lo env st1) fun l st2 => bindR (hi env st2) fun u st3 => gSlA x l u st3 := rfl
def pI (d : D) (st : Store) : Res (Option Int) := match d with
  | .int i => .ok (some i) st
  | _ => .bad
theorem pSome_def (f : Ev D) (env : Env) (st : Store) : pSome f env st = bindR (f env st) pI := rfl
theorem pI_int (i : Int) (st : Store) : pI (.int i) st = .ok (some i) st := rfl
theorem pNone_def (env : Env) (st : Store) : pNone env st = .ok none st := rfl
theorem slA_tup (ds : List D) (lo hi : Option Int) (st : Store) : gSlA (.tup ds) lo hi st = .ok (.tup (cutD ds lo hi)) st := rfl
end MP

/-! sets whose keys are objects of any kind with a hash: asked and filled -/
namespace MP
open PySem PySem.Spec PyProof.Rows L2
section
variable {P : Program} {w : World} {κ : Type} [DecidableEq κ]
/-- what a set asks of its keys, beside what a dict asks -/
structure SetsOf (kd : HeapKind P w κ) : Prop where
  other : ∀ {h h' : Heap} {k : κ} {b a : Addr} {o : Obj} {es : Array (Int × Value)} {ep : Nat} {t : SetTable}, kd.is h k b → h.get? a = some o → o.data = .set es ep t → Heap.SameBut a h h' → kd.is h' k b
  grows : ∀ {h h' : Heap} {k : κ} {b : Addr}, kd.is h k b → (∀ c o, h.get? c = some o → h'.get? c = some o) → kd.is h' k b
  noCls : ∀ {A : Around} {E : Value → Shared → Prop} {s : Shared} {k : κ} {b : Addr} {Q : Bool → Shared → Prop}, kd.is s.heap k b → Q false s → wpAny (model P w) A (ofAClassStatement 8 (.ref b)) Q E s
  byVal : ∀ {A : Around} {E : Value → Shared → Prop} {s : Shared} {k : κ} {b : Addr} {Q : Bool → Shared → Prop}, kd.is s.heap k b → (∀ v, Q v s) → wpAny (model P w) A (hashByValue 8 (.ref b)) Q E s
abbrev track (m : Nat) (g : Int) (c : Nat) : SetTable.Probe := nth m (runAt m (SetTable.bits g % (m + 1)) (SetTable.bits g)) c
def ents (kd : HeapKind P w κ) (L : List (Addr × κ)) : List (Int × Value) := L.map fun q => (kd.hash q.2, Value.ref q.1)
/-- the set at a holds the keys of L, in the order of its table -/
structure Holds (kd : HeapKind P w κ) (h : Heap) (a : Addr) (L : List (Addr × κ)) (es : Array (Int × Value)) (ep : Nat) (t : SetTable) : Prop where
  ob : ∃ o, h.get? a = some o ∧ o.ExactSet ∧ o.data = .set es ep t
  rows : es.toList = ents kd L
  tab : TabOk t (L.map fun q => kd.hash q.2)
  once : (L.map (·.2)).Nodup
  key : ∀ q ∈ L, kd.is h q.2 q.1
  led : w.params.followText "set-order" = true ∨ t.led = true
  room : L.length * 5 < t.mask * 3
  few : L.length < 64
variable {kd : HeapKind P w κ} {A : Around} {E : Value → Shared → Prop} {s : Shared} {a : Addr} {L : List (Addr × κ)} {es : Array (Int × Value)} {ep : Nat} {t : SetTable}
theorem ents_len {kd : HeapKind P w κ} (h : es.toList = ents kd L) : es.size = L.length := by
  have := congrArg List.length h
  rw [Array.length_toList] at this
  rw [this]
  exact List.length_map ..
theorem ents_at {kd : HeapKind P w κ} (h : es.toList = ents kd L) {i : Nat} {q : Addr × κ} (e : L[i]? = some q) : es[i]? = some (kd.hash q.2, Value.ref q.1) := by
  rw [← Array.getElem?_toList, h, ents, List.getElem?_map, e]
  rfl
theorem fits_of {n : Nat} (h1 : t.place.size = n) (h2 : t.dummies = #[]) (h3 : n ≤ t.mask) : t.fits n = true := by
  unfold SetTable.fits SetTable.fill
  rw [h2, Bool.and_eq_true, beq_iff_eq, decide_eq_true_eq]
  exact ⟨h1, by show t.place.size + 0 ≤ t.mask; omega⟩
theorem Holds.fits (R : Holds kd s.heap a L es ep t) : t.fits es.size = true := by
  have z := R.tab.sz
  rw [List.length_map] at z
  have e := ents_len R.rows
  have := R.room
  exact fits_of (by omega) R.tab.dm (by omega)
theorem quiet_seek (Z : SetsOf kd) {k : κ} {b : Addr} (hk : kd.is s.heap k b) {ys : List Value} (hy : ∀ y ∈ ys, ∃ k' c, y = Value.ref c ∧ kd.is s.heap k' c) {Q : Bool → Shared → Prop} (h : Q false s) : wpAny (model P w) A (searchCouldBeSeen (.ref b) ys) Q E s := by
  unfold searchCouldBeSeen
  refine wpAny_bind (wpAny_forIn_list _ (fun l r s' => (r.1 = none ∧ s' = s) ∧ ∀ y ∈ l, ∃ k' c, y = Value.ref c ∧ kd.is s.heap k' c) _ (fun v l r s' hh => ?_) (fun r s' hh => ?_) _ _ ⟨⟨rfl, rfl⟩, hy⟩)
  · obtain ⟨⟨hr, rfl⟩, hl⟩ := hh
    obtain ⟨k', c, rfl, hc⟩ := hl v List.mem_cons_self
    have tl : ∀ y ∈ l, ∃ k' c, y = Value.ref c ∧ kd.is s'.heap k' c := fun y m => hl y (List.mem_cons_of_mem _ m)
    dsimp only
    by_cases hv : (b == c || (carriedByValue (.ref b) && carriedByValue (.ref c))) = true
    · exact wp_if_pos hv (wpAny_pure ⟨⟨rfl, rfl⟩, tl⟩)
    · refine wp_if_neg hv (wpAny_bind (kd.quiet hk ?_))
      simp only [Bool.not_true, Bool.false_eq_true, if_false]
      refine wpAny_bind (kd.quiet hc ?_)
      simp only [Bool.not_true, Bool.false_eq_true, if_false]
      refine wpAny_bind (Z.noCls hk ?_)
      simp only [Bool.false_eq_true, if_false]
      refine wpAny_bind (Z.noCls hc ?_)
      simp only [Bool.false_eq_true, if_false]
      exact wpAny_pure ⟨⟨rfl, rfl⟩, tl⟩
  · obtain ⟨r1, r2⟩ := r
    obtain ⟨⟨hr, rfl⟩, _⟩ := hh
    simp only at hr
    subst hr
    exact wpAny_pure h
theorem track_dm (m : Nat) (g : Int) : ∀ c, (track m g c).dummy = none := by
  have key : ∀ (n : Nat) (p : SetTable.Probe), p.dummy = none → (nth m p n).dummy = none := fun n => by
    induction n with
    | zero => exact fun _ h => h
    | succ n ih => exact fun p h => ih (adv m p) (by unfold adv; split <;> exact h)
  exact fun c => key c _ rfl
/-- the search from the c-th place of the way on; K is the first empty one -/
theorem seek (Z : SetsOf kd) (R : Holds kd s.heap a L es ep t) {x : Addr} {k : κ} (hx : kd.is s.heap k x) (hu : kd.room A) (adding : Bool) {K : Nat} (hKf : K < 10 * SetTable.turns t.mask)
    (hK : way t.mask (kd.hash k) K ∉ t.place.toList) (hKb : ∀ c, c < K → way t.mask (kd.hash k) c ∈ t.place.toList) {Q : SetFound → Shared → Prop}
    (yes : k ∈ L.map (·.2) → ∀ o, (adding = false → o.isSome = true) → Q (.there o) s) (no : k ∉ L.map (·.2) → Q (.free (way t.mask (kd.hash k) K) false) s) :
    ∀ (f c : Nat) (stand : Option SetTable.Probe), stand.getD (t.probeStart (kd.hash k)) = track t.mask (kd.hash k) c → c ≤ K → K - c < f →
      (∀ (i : Nat) q, L[i]? = some q → q.2 = k → ∃ c', c ≤ c' ∧ c' < K ∧ t.place.toList[i]? = some (way t.mask (kd.hash k) c')) →
      wpAny (model P w) A (setSearchFrom a (.ref x) (kd.hash k) adding f stand) Q E s := by
  obtain ⟨o, ho, hex, hd⟩ := R.ob
  have gw : ¬ t.gaveWay = true := by
    unfold SetTable.gaveWay
    rw [mask_odd R.tab.mok]
    decide
  have later : ∀ c q, nth t.mask (track t.mask (kd.hash k) c) q = track t.mask (kd.hash k) (c + q) := fun c q => (nth_add t.mask c _ q).symm
  have laterJ : ∀ c q, (nth t.mask (track t.mask (kd.hash k) c) q).j = way t.mask (kd.hash k) (c + q) := fun c q => congrArg SetTable.Probe.j (later c q)
  intro f
  induction f with
  | zero => exact fun c _ _ _ h _ => absurd h (Nat.not_lt_zero _)
  | succ f ih =>
    intro c stand hst hc hf hre
    rw [setSearchFrom_succ]
    refine wpAny_bind (wpAny_setState_of ho hd R.fits ?_)
    dsimp only
    refine wp_if_neg gw ?_
    try refine wpAny_bind (wpAny_pure ?_)
    have hash_at : ∀ (i : Nat) q, L[i]? = some q → (fun i => (es[i]?.map (·.1)).getD 0) i = kd.hash q.2 := fun i q e => by
      show (es[i]?.map (·.1)).getD 0 = _
      rw [ents_at R.rows e]
      rfl
    have last : (nth t.mask (track t.mask (kd.hash k) c) (K - c)).j = way t.mask (kd.hash k) K := by rw [laterJ, show c + (K - c) = K by omega]
    rcases go_spec t R.tab.ris R.tab.dm (fun i => (es[i]?.map (·.1)).getD 0) (kd.hash k) (10 * SetTable.turns t.mask) (K - c) _ (track_dm t.mask (kd.hash k) c) (by omega)
      (fun q hq => by rw [laterJ]; exact hKb (c + q) (by omega)) (by rw [last]; exact hK) with ⟨q, i, hq, hi, hh, hno, hpr⟩ | ⟨hno, hpr⟩
    · rw [laterJ] at hi
      have pr : t.probe (fun i => (es[i]?.map (·.1)).getD 0) (kd.hash k) (stand.getD (t.probeStart (kd.hash k))) = some (.candidate (way t.mask (kd.hash k) (c + q)) i (track t.mask (kd.hash k) (c + (q + 1)))) := by
        rw [hst, ← laterJ c q, ← later c (q + 1)]
        exact hpr
      rw [pr]
      dsimp only
      have il : i < L.length := by
        have h1 := (List.getElem?_eq_some_iff.mp hi).1
        have h2 := R.tab.sz
        rw [List.length_map] at h2
        rw [Array.length_toList] at h1
        omega
      obtain ⟨p, hp⟩ : ∃ p, L[i]? = some p := ⟨_, List.getElem?_eq_getElem il⟩
      have pm := List.mem_of_getElem? hp
      have live := slot_live R.tab.ris hi
      have go_on : wpAny (model P w) A (searchRest a (.ref x) (kd.hash k) adding f es t (way t.mask (kd.hash k) (c + q)) i (track t.mask (kd.hash k) (c + (q + 1)))) Q E s := by
        unfold searchRest
        rw [ents_at R.rows hp]
        dsimp only
        refine wpAny_bind (wpAny_holding (kd.eqBool hu (R.key p pm) hx ?_))
        refine wpAny_bind (wpAny_setState_of ho hd R.fits ?_)
        dsimp only
        by_cases same : p.2 = k
        · have hm : k ∈ L.map (·.2) := List.mem_map.mpr ⟨p, pm, same⟩
          cases adding with
          | true => exact wp_if_pos (by simp [same]) (wpAny_pure (yes hm _ fun z => nomatch z))
          | false =>
            refine wp_if_neg (by simp) ?_
            try refine wpAny_bind (wpAny_pure ?_)
            rw [sameMem]
            dsimp only
            simp only [if_true, live, ents_at R.rows hp]
            refine wpAny_bind (wpAny_isSame_ref_self (wpAny_bind (wpAny_pure ?_)))
            simp only [if_true]
            exact wp_if_pos (by simp [same]) (wpAny_pure (yes hm _ fun _ => rfl))
        · refine wp_if_neg (by simp [same]) ?_
          try refine wpAny_bind (wpAny_pure ?_)
          rw [sameMem]
          dsimp only
          simp only [if_true, live, ents_at R.rows hp]
          refine wpAny_bind (wpAny_isSame_ref_self (wpAny_bind (wpAny_pure ?_)))
          simp only [if_true]
          refine wp_if_neg (by simp [same]) (ih (c + (q + 1)) _ rfl (by omega) (by omega) fun i0 p0 h0 hk0 => ?_)
          obtain ⟨c', b1, b2, b3⟩ := hre i0 p0 h0 hk0
          refine ⟨c', ?_, b2, b3⟩
          apply Classical.byContradiction
          intro far
          rcases Nat.lt_or_ge c' (c + q) with z | z
          · exact hno (c' - c) i0 (by omega) (by rw [laterJ, show c + (c' - c) = c' by omega]; exact b3) ((hash_at i0 p0 h0).trans (congrArg kd.hash hk0))
          · have ec : c' = c + q := by omega
            rw [ec] at b3
            have s0 := slot_live R.tab.ris b3
            rw [live] at s0
            injection s0 with s0
            rw [← s0, hp] at h0
            exact same ((congrArg Prod.snd (Option.some.inj h0)).trans hk0)
      by_cases hl : t.led = true
      · refine wp_if_neg (by simp [hl]) ?_
        try refine wpAny_bind (wpAny_pure ?_)
        exact go_on
      · refine wp_if_pos (by simp [hl]) (wpAny_bind (quiet_seek Z hx (fun y hy => ?_) ?_))
        · obtain ⟨e, he, ee⟩ := List.mem_map.mp hy
          have he1 : e ∈ es ∧ e.1 = kd.hash k := by simpa using he
          have he2 : e ∈ es.toList := by simpa using he1.1
          rw [R.rows] at he2
          obtain ⟨p2, hp2, e2⟩ := List.mem_map.mp he2
          exact ⟨p2.2, p2.1, by rw [← ee, ← e2], R.key p2 hp2⟩
        · refine wp_if_neg (by decide) ?_
          try refine wpAny_bind (wpAny_pure ?_)
          exact go_on
    · have pr : t.probe (fun i => (es[i]?.map (·.1)).getD 0) (kd.hash k) (stand.getD (t.probeStart (kd.hash k))) = some (.empty (way t.mask (kd.hash k) K) none) := by
        rw [hst, ← last]
        exact hpr
      rw [pr]
      dsimp only
      refine wpAny_pure (no fun hm => ?_)
      obtain ⟨p0, h0, hk0⟩ := List.mem_map.mp hm
      obtain ⟨i0, e0⟩ := List.getElem?_of_mem h0
      obtain ⟨c', b1, b2, b3⟩ := hre i0 p0 e0 hk0
      exact hno (c' - c) i0 (by omega) (by rw [laterJ, show c + (c' - c) = c' by omega]; exact b3) ((hash_at i0 p0 e0).trans (congrArg kd.hash hk0))
theorem seek_all (Z : SetsOf kd) (R : Holds kd s.heap a L es ep t) {x : Addr} {k : κ} (hx : kd.is s.heap k x) (hu : kd.room A) (adding : Bool) {Q : SetFound → Shared → Prop}
    (yes : k ∈ L.map (·.2) → ∀ o, (adding = false → o.isSome = true) → Q (.there o) s)
    (no : ∀ K, k ∉ L.map (·.2) → way t.mask (kd.hash k) K ∉ t.place.toList → (∀ c, c < K → way t.mask (kd.hash k) c ∈ t.place.toList) → Q (.free (way t.mask (kd.hash k) K) false) s) :
    wpAny (model P w) A (setSearch a (.ref x) (kd.hash k) adding) Q E s := by
  have rm := R.room
  obtain ⟨K, hKf, hK, hKb⟩ := R.tab.first (by rw [List.length_map]; omega) (kd.hash k)
  have small : 10 * SetTable.turns t.mask ≤ 1420 := by
    unfold SetTable.turns
    rcases R.tab.mok with e | e | e <;> omega
  refine seek Z R hx hu adding hKf hK hKb yes (fun hn => no K hn hK hKb) 100000 0 none rfl (Nat.zero_le _) (by omega) fun i q hq hk => ?_
  have h1 : (L.map fun q => kd.hash q.2)[i]? = some (kd.hash k) := by
    rw [List.getElem?_map, hq, ← hk]
    rfl
  have h2 : i < t.place.toList.length := by
    have := (List.getElem?_eq_some_iff.mp hq).1
    have := R.tab.sz
    rw [List.length_map] at this
    rw [Array.length_toList]
    omega
  obtain ⟨c, hc, e⟩ := R.tab.before hK h1 (List.getElem?_eq_getElem h2)
  exact ⟨c, Nat.zero_le _, hc, by rw [List.getElem?_eq_getElem h2, e]⟩
/-- x in the set -/
theorem has_ok (Z : SetsOf kd) (R : Holds kd s.heap a L es ep t) {x : Addr} {k : κ} (hx : kd.is s.heap k x) (hu : kd.room A) {Q : Bool → Shared → Prop} (h : Q (decide (k ∈ L.map (·.2))) { s with toks := s.toks + kd.draws k }) :
    wpAny (model P w) A (setContains a (.ref x)) Q E s := by
  unfold setContains
  refine wpAny_holding (wpAny_bind (kd.pyHash hu hx (wpAny_bind ?_)))
  have R' : Holds kd ({ s with toks := s.toks + kd.draws k } : Shared).heap a L es ep t := R
  obtain ⟨o, ho, hex, hd⟩ := R.ob
  unfold setFind
  rw [show (100000 : Nat) = 99999 + 1 from rfl]
  unfold setFindIn
  refine wpAny_bind (wpAny_setState_of (s := { s with toks := s.toks + kd.draws k }) ho hd R.fits ?_)
  dsimp only
  refine wp_if_neg (by simp [byScan, Value.scannable]) ?_
  try refine wpAny_bind (wpAny_pure ?_)
  refine wpAny_bind (seek_all Z R' hx hu false (fun hm o hi => ?_) fun K hm _ _ => ?_)
  · dsimp only
    refine wpAny_pure (wpAny_pure ?_)
    rw [hi rfl]
    rw [decide_eq_true hm] at h
    exact h
  · dsimp only
    refine wpAny_pure (wpAny_pure ?_)
    rw [decide_eq_false hm] at h
    exact h
theorem all_of (L : List (Addr × κ)) : (List.range L.length).filterMap (fun i => L[i]?) = L := by
  have part : ∀ n, n ≤ L.length → (List.range n).filterMap (fun i => L[i]?) = L.take n := fun n => by
    induction n with
    | zero => exact fun _ => rfl
    | succ n ih =>
      intro hn
      have hl : n < L.length := hn
      rw [List.range_succ, List.filterMap_append, ih (Nat.le_of_lt hl), List.take_add_one]
      congr 1
  rw [part _ (Nat.le_refl _), List.take_length]
theorem reorder {order : Array Nat} (hr : es.toList = ents kd L) (hp : order.toList.Perm (List.range L.length)) :
    ∃ L2, (order.filterMap (es[·]?)).toList = ents kd L2 ∧ L2.Perm L ∧ (L2.map fun q => kd.hash q.2) = order.toList.map fun i => (es.map (·.1)).getD i 0 := by
  have at_ : ∀ i : Nat, es[i]? = (L[i]?).map fun q => (kd.hash q.2, Value.ref q.1) := fun i => by
    rw [← Array.getElem?_toList, hr, ents, List.getElem?_map]
  refine ⟨order.toList.filterMap fun i => L[i]?, ?_, ?_, ?_⟩
  · rw [Array.toList_filterMap, ents, List.map_filterMap]
    congr 1
    funext i
    exact at_ i
  · have h := hp.filterMap fun i => L[i]?
    rwa [all_of] at h
  · have key : ∀ l : List Nat, (∀ i ∈ l, i < L.length) → ((l.filterMap fun i => L[i]?).map fun q => kd.hash q.2) = l.map fun i => (es.map (·.1)).getD i 0 := fun l => by
      induction l with
      | nil => exact fun _ => rfl
      | cons i l ih =>
        intro hl
        have hi := hl i List.mem_cons_self
        have e : (es.map (·.1)).getD i 0 = kd.hash (L[i]).2 := by
          rw [Array.getD_eq_getD_getElem?, Array.getElem?_map, at_ i, List.getElem?_eq_getElem hi]
          rfl
        rw [List.filterMap_cons, List.getElem?_eq_getElem hi]
        simp only [List.map_cons]
        rw [ih fun j hj => hl j (List.mem_cons_of_mem _ hj), e]
    exact key _ fun i hi => List.mem_range.mp (hp.mem_iff.mp hi)
theorem relay_ok (Z : SetsOf kd) {o : Obj} (ho : s.heap.get? a = some o) (hex : o.ExactSet) (hd : o.data = .set es ep t) (hr : es.toList = ents kd L) (hsz : t.place.size = es.size) (hdm : t.dummies = #[]) (hfl : es.size ≤ t.mask)
    (once : (L.map (·.2)).Nodup) (key : ∀ q ∈ L, kd.is s.heap q.2 q.1) (ld : w.params.followText "set-order" = true ∨ t.led = true) (few : L.length < 64) {wanted M : Nat}
    (hw : SetTable.sizeAbove wanted - 1 = M) (hM : MaskOk M) (big : SetTable.sizeAbove wanted ≤ 128) (rm : L.length * 5 < M * 3) {Q : Unit → Shared → Prop}
    (hQ : ∀ h' L' es' ep' t', Heap.SameBut a s.heap h' → Holds kd h' a L' es' ep' t' → L'.Perm L → Q () { s with heap := h' }) : wpAny (model P w) A (setRelay a wanted) Q E s := by
  have n := ents_len hr
  obtain ⟨t', order, e, hp, T, em, el, e3, e4⟩ := relaid_ok t (hs := es.map (·.1)) (wanted := wanted) hw hM (by rw [Array.size_map, n]; omega)
  rw [Array.size_map, n] at hp
  obtain ⟨L2, r1, r2, r3⟩ := reorder hr hp
  rw [← r3] at T
  have n2 := ents_len (es := order.filterMap (es[·]?)) r1
  have hs2 : (order.filterMap (es[·]?)).size = es.size := by rw [n2, r2.length_eq, n]
  rw [setRelay_eq]
  refine wpAny_bind (wpAny_setState_of ho hd (fits_of hsz hdm hfl) ?_)
  dsimp only
  refine wp_if_neg (by rw [sizeLine_eq]; omega) ?_
  try refine wpAny_bind (wpAny_pure ?_)
  rw [e]
  dsimp only
  refine wpAny_bind (wp_if_neg (by rw [hs2]; simp) ?_)
  try refine wpAny_bind (wpAny_pure ?_)
  refine wpAny_pure ?_
  dsimp only
  refine wpAny_storeSet_of ho hd ?_ (by rw [hs2, n, sizeLine_eq]; omega)
  have sb : Heap.SameBut a s.heap (s.heap.update a (Obj.putSet (order.filterMap (es[·]?)) t')) := Heap.SameBut.update ..
  exact hQ _ L2 _ (ep + 1) t' sb ⟨⟨_, store_at ho hd, ⟨hex.1, hex.2.1, hex.2.2⟩, rfl⟩, r1, T, (r2.map (·.2)).nodup_iff.mpr once, fun q m => Z.other (key q (r2.mem_iff.mp m)) ho hd sb,
    by rw [el]; exact ld, by rw [r2.length_eq, em]; exact rm, by rw [r2.length_eq]; exact few⟩ r2
/-- one more key -/
theorem add_ok (Z : SetsOf kd) (R : Holds kd s.heap a L es ep t) {x : Addr} {k : κ} (hx : kd.is s.heap k x) (hu : kd.room A) (hfew : L.length + 1 < 64) {Q : Bool → Shared → Prop}
    (hQ : ∀ b h' L' es' ep' t', Heap.SameBut a s.heap h' → Holds kd h' a L' es' ep' t' → (k ∈ L.map (·.2) → L' = L) → (k ∉ L.map (·.2) → L'.Perm ((x, k) :: L)) → Q b { s with heap := h' }) :
    wpAny (model P w) A (setAddHashed a (.ref x) (kd.hash k)) Q E s := by
  obtain ⟨o, ho, hex, hd⟩ := R.ob
  have n := ents_len R.rows
  have rm := R.room
  unfold setAddHashed
  refine wpAny_holding ?_
  rw [show (100000 : Nat) = 99999 + 1 from rfl, setAddHashedIn_succ]
  refine wpAny_bind (wpAny_setState_of ho hd R.fits ?_)
  dsimp only
  refine wp_if_neg (by simp [byScan, Value.scannable]) ?_
  try refine wpAny_bind (wpAny_pure ?_)
  refine wpAny_bind (seek_all Z R hx hu true (fun hm o' _ => ?_) fun K hm hK hb => ?_)
  · exact wpAny_pure (hQ false s.heap L es ep t (Heap.SameBut.refl a s.heap) R (fun _ => rfl) fun z => absurd hm z)
  · dsimp only
    refine wpAny_bind (wpAny_setState_of ho hd R.fits ?_)
    dsimp only
    obtain ⟨q1, q2, q3, q4, q5, q6, q7, q8, q9⟩ := R.tab.put hK hb
    generalize e0 : t.put (way t.mask (kd.hash k) K) = pt at q1 q3 q4 q5 q6 q7 q8 q9 ⊢
    obtain ⟨t0, j⟩ := pt
    dsimp only at q1 q3 q4 q5 q6 q7 q8 q9 ⊢
    subst q1
    have plainly : ∀ {β : Type} {f : Bool → Sem β} {Q' : β → Shared → Prop}, (∀ v, wpAny (model P w) A (f v) Q' E s) → wpAny (model P w) A (if t0.plain = true then (hashByValue 8 (.ref x) >>= f) else (pure true >>= f)) Q' E s := fun hq => by
      by_cases c : t0.plain = true
      · rw [if_pos c]; exact wpAny_bind (Z.byVal hx hq)
      · rw [if_neg c]; exact wpAny_bind (wpAny_pure (hq _))
    refine plainly fun v => ?_
    obtain ⟨t1, et1⟩ : ∃ t1 : SetTable, (if v = true then t0 else { t0 with plain := false }) = t1 := ⟨_, rfl⟩
    rw [et1]
    replace q3 : TabOk t1 ((L.map fun q => kd.hash q.2).take (SetTable.below t.place (way t.mask (kd.hash k) K)) ++ kd.hash k :: (L.map fun q => kd.hash q.2).drop (SetTable.below t.place (way t.mask (kd.hash k) K))) := by
      rw [← et1]
      cases v
      · exact ⟨q3.ris, q3.dm, q3.sz, q3.mok, q3.bd, q3.reach⟩
      · exact q3
    replace q4 : t1.mask = t.mask := by rw [← et1]; cases v <;> exact q4
    replace q5 : t1.led = t.led := by rw [← et1]; cases v <;> exact q5
    replace q9 : t1.fill = (L.map fun q => kd.hash q.2).length + 1 := by rw [← et1]; cases v <;> exact q9
    clear q6 q7 q8 et1 e0 plainly
    generalize e1 : SetTable.below t.place (way t.mask (kd.hash k) K) = j at q2 q3 ⊢
    have rows1 : (SetTable.insertAt es j (kd.hash k, Value.ref x)).toList = ents kd (L.take j ++ (x, k) :: L.drop j) := by
      rw [SetTable.toList_insertAt, R.rows, ents, ents, List.map_append, List.map_cons, List.map_take, List.map_drop]
    have pm : (L.take j ++ (x, k) :: L.drop j).Perm ((x, k) :: L) := by
      have h : (L.take j ++ (x, k) :: L.drop j).Perm ((x, k) :: (L.take j ++ L.drop j)) := List.perm_middle
      rwa [List.take_append_drop] at h
    have hh : (L.take j ++ (x, k) :: L.drop j).map (fun q => kd.hash q.2) = (L.map fun q => kd.hash q.2).take j ++ kd.hash k :: (L.map fun q => kd.hash q.2).drop j := by
      rw [List.map_append, List.map_cons, List.map_take, List.map_drop]
    rw [← hh] at q3
    have once1 : ((L.take j ++ (x, k) :: L.drop j).map (·.2)).Nodup := by
      refine (pm.map (·.2)).nodup_iff.mpr ?_
      rw [List.map_cons]
      exact List.nodup_cons.mpr ⟨hm, R.once⟩
    generalize L.take j ++ (x, k) :: L.drop j = L1 at pm q3 once1 rows1
    have len1 : L1.length = L.length + 1 := pm.length_eq
    have n1 := ents_len rows1
    generalize SetTable.insertAt es j (kd.hash k, Value.ref x) = es1 at rows1 n1 ⊢
    refine wpAny_bind (wpAny_storeSet_of ho hd ?_ (by rw [n1, len1, sizeLine_eq]; omega))
    have sb : Heap.SameBut a s.heap (s.heap.update a (Obj.putSet es1 t1)) := Heap.SameBut.update ..
    have ho1 := store_at (es' := es1) (t' := t1) ho hd
    generalize s.heap.update a (Obj.putSet es1 t1) = h1 at sb ho1 ⊢
    have key1 : ∀ q ∈ L1, kd.is h1 q.2 q.1 := fun q m => by
      rcases List.mem_cons.mp (pm.mem_iff.mp m) with rfl | m
      · exact Z.other hx ho hd sb
      · exact Z.other (R.key q m) ho hd sb
    have ld1 : w.params.followText "set-order" = true ∨ t1.led = true := by rw [q5]; exact R.led
    by_cases hf : t1.tooFull = true
    · first
        | (refine wpAny_bind ?_; refine wp_if_pos (by simp [hf]) ?_)
        | (refine wp_if_pos (by simp [hf]) ?_; refine wpAny_bind ?_)
      have full : (L.length + 1) * 5 ≥ t1.mask * 3 := by
        have h := hf
        unfold SetTable.tooFull at h
        rw [decide_eq_true_eq, q9, List.length_map] at h
        exact h
      rw [n]
      have sz1 : t1.place.size = es1.size := by
        have h := q3.sz
        rw [List.length_map] at h
        omega
      have two : (t.mask = 7 ∧ L.length = 4) ∨ (t.mask = 31 ∧ L.length = 18) := by
        rw [q4] at full
        rcases R.tab.mok with e | e | e <;> rw [e] at rm full
        · exact .inl ⟨e, by omega⟩
        · exact .inr ⟨e, by omega⟩
        · omega
      have go : ∀ M, SetTable.sizeAbove (SetTable.grown (L.length + 1)) - 1 = M → MaskOk M → SetTable.sizeAbove (SetTable.grown (L.length + 1)) ≤ 128 → (L.length + 1) * 5 < M * 3 →
          wpAny (model P w) A (setRelay a (SetTable.grown (L.length + 1))) (fun _ s' => wpAny (model P w) A (pure true) Q E s') E { s with heap := h1 } := fun M z1 z2 z3 z4 =>
        relay_ok (s := { s with heap := h1 }) Z ho1 ⟨hex.1, hex.2.1, hex.2.2⟩ rfl rows1 sz1 q3.dm (by rw [n1, q4, len1]; rcases two with ⟨e, e2⟩ | ⟨e, e2⟩ <;> omega) once1 key1 ld1 (by omega) z1 z2 z3 (by rw [len1]; exact z4)
          fun h2 L2 es2 ep2 t2 sb2 R2 pm2 => wpAny_pure (hQ true h2 L2 es2 ep2 t2 (sb.trans sb2) R2 (fun z => absurd z hm) fun _ => pm2.trans pm)
      rcases two with ⟨_, e2⟩ | ⟨_, e2⟩
      · exact go 31 (by rw [e2, size_20]) (.inr (.inl rfl)) (by rw [e2, size_20]; decide) (by omega)
      · exact go 127 (by rw [e2, size_76]) (.inr (.inr rfl)) (by rw [e2, size_76]; decide) (by omega)
    · first
        | refine wp_if_neg (by simp [hf]) ?_
        | (refine wpAny_bind ?_; refine wp_if_neg (by simp [hf]) ?_; refine wpAny_pure ?_)
      refine wpAny_pure (hQ true h1 L1 es1 (ep + 1) t1 sb ⟨⟨_, ho1, ⟨hex.1, hex.2.1, hex.2.2⟩, rfl⟩, rows1, q3, once1, key1, ld1, ?_, by omega⟩ (fun z => absurd z hm) fun _ => pm)
      have h := hf
      unfold SetTable.tooFull at h
      rw [decide_eq_true_eq, q9, List.length_map] at h
      omega
/-- a new set -/
theorem bare_holds {h : Heap} (ho : h.get? a = some (bare w)) : Holds kd h a [] #[] 0 (.fresh 0 0 (!w.params.followText "set-order")) := by
  have T : TabOk (SetTable.fresh 0 0 (!w.params.followText "set-order")) (([] : List (Addr × κ)).map fun q => kd.hash q.2) := ⟨List.Pairwise.nil, rfl, rfl, .inl rfl, fun x hx => (by cases hx), fun i g j hi => (by simp at hi)⟩
  refine ⟨⟨_, ho, ⟨rfl, rfl, rfl⟩, rfl⟩, rfl, T, List.Pairwise.nil, (fun q m => by cases m), ?_, Nat.zero_lt_succ _, Nat.zero_lt_succ _⟩
  show _ ∨ (!w.params.followText "set-order") = true
  cases w.params.followText "set-order"
  · exact .inr rfl
  · exact .inl rfl
end
end MP

/-! tuples of ints and texts as keys of sets; len(set(xs)), xs a tuple or a list -/
namespace MP
open PySem PySem.Spec PyProof.Rows L2
section
variable {P : Program} {w : World}
abbrev TKd (P : Program) (w : World) : HeapKind P w (List L2.Key) := tupleKind (L2.mixKind P w)
theorem flat_items {k : List L2.Key} {vs : List Value} (h : ItemsAre (L2.mixKind P w) k vs) : ∀ v ∈ vs, (∃ i t, v = Value.int i t) ∨ ∃ x t, v = Value.str x t := by
  induction h with
  | nil => exact fun v m => by cases m
  | @cons k0 v0 ks vs h1 _ ih =>
    intro v m
    rcases List.mem_cons.mp m with rfl | m
    · rcases keyIs_shape h1 with ⟨i, t, rfl, rfl⟩ | ⟨x, t, rfl, rfl⟩
      · exact .inl ⟨i, t, rfl⟩
      · exact .inr ⟨x, t, rfl⟩
    · exact ih v m
theorem cls_flat (n : Nat) {v : Value} (h : (∃ i t, v = Value.int i t) ∨ ∃ x t, v = Value.str x t) : ofAClassStatement n v = pure false := by
  rcases h with ⟨i, t, rfl⟩ | ⟨x, t, rfl⟩ <;> cases n <;> rfl
theorem byv_flat (n : Nat) {v : Value} (h : (∃ i t, v = Value.int i t) ∨ ∃ x t, v = Value.str x t) : ∃ b, hashByValue n v = pure b := by
  rcases h with ⟨i, t, rfl⟩ | ⟨x, t, rfl⟩ <;> cases n <;> exact ⟨_, rfl⟩
theorem tkSets : SetsOf (TKd P w) where
  other := fun {h h' k b a o es ep t} hk ho hd sb => by
    obtain ⟨o', items, n, ho', hc, hd', hi⟩ := hk
    have hne : b ≠ a := fun e => by
      subst e
      rw [ho] at ho'
      cases ho'
      rw [hd] at hd'
      cases hd'
    exact ⟨o', items, n, (sb.2 b hne).trans ho', hc, hd', hi⟩
  grows := fun {h h' k b} hk keep => by
    obtain ⟨o', items, n, ho', r⟩ := hk
    exact ⟨o', items, n, keep _ _ ho', r⟩
  noCls := fun {A E s k b Q} hk h => by
    have hT := IsTupleKey.typeIs hk
    obtain ⟨o, items, n, ho, _, hd, hi⟩ := hk
    unfold ofAClassStatement
    refine wpAny_bind (wpAny_typeOf hT ?_)
    dsimp only
    simp only [show (("tuple" : String) == "tuple") = true by decide, if_true, Bool.not_true, Bool.false_eq_true, if_false]
    try refine wpAny_bind (wpAny_pure ?_)
    try simp only [Bool.not_true, Bool.false_eq_true, if_false]
    show wpAny _ _ (seqItems? (.ref b) >>= _) _ _ s
    refine wpAny_bind (wpAny_seqItems ho hd ?_)
    dsimp only
    refine wpAny_bind ?_
    show wpAny _ _ (forIn items _ _) _ _ s
    rw [← Array.forIn_toList]
    refine wpAny_forIn_list _ (fun l r s' => (r.1 = none ∧ s' = s) ∧ ∀ v ∈ l, (∃ i t, v = Value.int i t) ∨ ∃ x t, v = Value.str x t) _ (fun v l r s' hh => ?_) (fun r s' hh => ?_) _ _ ⟨⟨rfl, rfl⟩, flat_items hi⟩
    · obtain ⟨⟨hr, rfl⟩, hl⟩ := hh
      rw [cls_flat _ (hl v List.mem_cons_self)]
      refine wpAny_bind (wpAny_pure ?_)
      simp only [Bool.false_eq_true, if_false]
      exact wpAny_pure ⟨⟨rfl, rfl⟩, fun u m => hl u (List.mem_cons_of_mem _ m)⟩
    · obtain ⟨r1, r2⟩ := r
      obtain ⟨⟨hr, rfl⟩, _⟩ := hh
      simp only at hr
      subst hr
      exact wpAny_pure h
  byVal := fun {A E s k b Q} hk h => by
    have hT := IsTupleKey.typeIs hk
    obtain ⟨o, items, n, ho, _, hd, hi⟩ := hk
    unfold hashByValue
    refine wpAny_bind (wpAny_specialOf hT F.slot_tuple_hash.lookup ?_)
    show wpAny _ _ (seqItems? (.ref b) >>= _) _ _ s
    refine wpAny_bind (wpAny_seqItems ho hd ?_)
    refine wpAny_bind ?_
    show wpAny _ _ (forIn items _ _) _ _ s
    rw [← Array.forIn_toList]
    refine wpAny_forIn_list _ (fun l r s' => s' = s ∧ (r.1 = none ∨ r.1 = some false) ∧ ∀ v ∈ l, (∃ i t, v = Value.int i t) ∨ ∃ x t, v = Value.str x t) _ (fun v l r s' hh => ?_) (fun r s' hh => ?_) _ _ ⟨rfl, .inl rfl, flat_items hi⟩
    · obtain ⟨rfl, _, hl⟩ := hh
      obtain ⟨b, eb⟩ := byv_flat 7 (hl v List.mem_cons_self)
      rw [eb]
      refine wpAny_bind (wpAny_pure ?_)
      cases b with
      | true =>
        simp only [Bool.not_true, Bool.false_eq_true, if_false]
        exact wpAny_pure ⟨rfl, .inl rfl, fun u m => hl u (List.mem_cons_of_mem _ m)⟩
      | false =>
        simp only [Bool.not_false, if_true]
        refine wpAny_pure ?_
        show wpAny _ _ (pure false) _ _ _
        exact wpAny_pure (h _)
    · obtain ⟨r1, r2⟩ := r
      obtain ⟨rfl, hr, _⟩ := hh
      simp only at hr
      rcases hr with rfl | rfl
      · exact wpAny_pure (h _)
      · exact wpAny_pure (h _)
end
/-! from a list, from a tuple -/
section
variable {P : Program} {w : World} {κ : Type} [DecidableEq κ] {kd : HeapKind P w κ} {E : Value → Shared → Prop} {s : Shared}
/-- behind i items of xs -/
def keptK (kd : HeapKind P w κ) (S : Addr) (xs : List (Addr × κ)) (i : Nat) (h : Heap) : Prop :=
  ∃ (L : List (Addr × κ)) (es : Array (Int × Value)) (ep : Nat) (t : SetTable), Holds kd h S L es ep t ∧ L.length ≤ i ∧ (∀ q ∈ xs, kd.is h q.2 q.1) ∧ (∀ q ∈ L, q ∈ xs) ∧ ∀ k, k ∈ L.map (·.2) ↔ k ∈ (xs.take i).map (·.2)
def nthK (xs : List (Addr × κ)) (i : Nat) (v : Value) : Prop := ∃ q, xs[i]? = some q ∧ v = .ref q.1
theorem addsK (Z : SetsOf kd) {S : Addr} {xs : List (Addr × κ)} (few : xs.length < 63) : AddsTo P w (fun A => kd.room A) S (keptK kd S xs) (nthK xs) := by
  intro A i v s E Q ok hv hg h
  obtain ⟨q, hq, rfl⟩ := hv
  obtain ⟨L, es, ep, t, R, hl, hx, hs, hm⟩ := hg
  have hi := (List.getElem?_eq_some_iff.mp hq).1
  have hqm := List.mem_of_getElem? hq
  obtain ⟨o, ho, hex, hd⟩ := R.ob
  unfold setAdd
  refine wpAny_holding (wpAny_bind (kd.pyHash ok (hx q hqm) ?_))
  refine add_ok (s := { s with toks := s.toks + kd.draws q.2 }) Z R (hx q hqm) ok (by omega) fun b h' L' es' ep' t' sb R' same more => ?_
  have key : ∀ k, k ∈ (xs.take (i + 1)).map (·.2) ↔ k ∈ (xs.take i).map (·.2) ∨ k = q.2 := fun k => by
    rw [List.take_add_one, hq]
    simp [List.mem_append]
  refine h b h' _ (Nat.le_add_right _ _) sb ⟨L', es', ep', t', R', ?_, fun u m => Z.other (hx u m) ho hd sb, fun u m => ?_, fun k => ?_⟩
  · by_cases c : q.2 ∈ L.map (·.2)
    · rw [same c]; omega
    · rw [(more c).length_eq, List.length_cons]; omega
  · by_cases c : q.2 ∈ L.map (·.2)
    · rw [same c] at m; exact hs u m
    · rcases List.mem_cons.mp ((more c).mem_iff.mp m) with e | m
      · rw [e]; exact hqm
      · exact hs u m
  · rw [key k, ← hm k]
    by_cases c : q.2 ∈ L.map (·.2)
    · rw [same c]
      constructor
      · exact .inl
      · rintro (z | rfl)
        · exact z
        · exact c
    · rw [((more c).map (·.2)).mem_iff, List.map_cons, List.mem_cons]
      constructor
      · rintro (z | z)
        · exact .inr z
        · exact .inl z
      · rintro (z | z)
        · exact .inr z
        · exact .inl z
theorem itersT {l : Addr} {items : Array Value} {Pv : Nat → Value → Prop} (hl : s.heap.IsTuple l items) (hI : ∀ i v, items[i]? = some v → Pv i v) : Iters P w { s with heap := s.heap.push (bare w) } l items.size Pv := by
  intro A Q E hh hQ
  have hl1 : (s.heap.push (bare w)).IsTuple l items := hl.push _
  refine wpAny_pyIter_tuple hl1 ?_
  have lt : l < (s.heap.push (bare w)).objs.size := by
    obtain ⟨o, ho, _⟩ := hl1
    exact Heap.lt_size ho
  refine hQ _ (fun i s' => s'.heap.IsTupleIter (s.heap.push (bare w)).objs.size l i ∧ s'.heap.IsTuple l items) (by rw [Heap.size_push (h := s.heap.push (bare w))]; exact Nat.le_succ _) (fun b o e => Heap.get?_push_of_some _ e) (fun A' hA => ?_) ⟨⟨_, Heap.get?_push_size _ rfl, rfl, rfl⟩, hl1.push _⟩
  have W := ((Walks.tuple (prog := P) (w := w) hA (s.heap.push (bare w)).objs.size l (Nat.ne_of_lt lt) items).toS)
  exact { W with item := fun i s Q E hi st hQ => W.item i s Q E hi st fun v s' p st' mv => hQ v s' (hI i v p) st' mv }
theorem itersK {l : Addr} {items : Array Value} {Pv : Nat → Value → Prop} (hl : s.heap.IsList l items) (hI : ∀ i v, items[i]? = some v → Pv i v) : Iters P w { s with heap := s.heap.push (bare w) } l items.size Pv := by
  intro A Q E hh hQ
  have hl1 : (s.heap.push (bare w)).IsList l items := hl.push _
  refine wpAny_pyIter_list hl1 ?_
  have lt : l < (s.heap.push (bare w)).objs.size := by
    obtain ⟨o, ho, _⟩ := hl1
    exact Heap.lt_size ho
  refine hQ _ (fun i s' => s'.heap.IsListIter (s.heap.push (bare w)).objs.size l i ∧ s'.heap.IsList l items) (by rw [Heap.size_push (h := s.heap.push (bare w))]; exact Nat.le_succ _) (fun b o e => Heap.get?_push_of_some _ e) (fun A' hA => ?_) ⟨⟨_, Heap.get?_push_size _ rfl, rfl, rfl⟩, hl1.push _⟩
  have W := ((Walks.list (prog := P) (w := w) hA (s.heap.push (bare w)).objs.size l (Nat.ne_of_lt lt) items).toS)
  exact { W with item := fun i s Q E hi st hQ => W.item i s Q E hi st fun v s' p st' mv => hQ v s' (hI i v p) st' mv }
/-- what set(l) hands back -/
def GivesSet (kd : HeapKind P w κ) (s : Shared) (xs : List (Addr × κ)) (Q : Value → Shared → Prop) : Prop := ∀ (h' : Heap) (tk : Nat) (L : List (Addr × κ)) (es : Array (Int × Value)) (ep : Nat) (t : SetTable), Holds kd h' s.heap.objs.size L es ep t → (∀ q ∈ L, q ∈ xs) → (∀ k, k ∈ L.map (·.2) ↔ k ∈ xs.map (·.2)) →
  (∀ b o, s.heap.get? b = some o → h'.get? b = some o) → Q (.ref s.heap.objs.size) { s with heap := h', toks := tk }
theorem keptK_zero (Z : SetsOf kd) {xs : List (Addr × κ)} (hx : ∀ q ∈ xs, kd.is s.heap q.2 q.1) (h : Heap) (ho : h.get? s.heap.objs.size = some (bare w)) (keep : ∀ b o, s.heap.get? b = some o → h.get? b = some o) : keptK kd s.heap.objs.size xs 0 h :=
  ⟨[], #[], 0, _, bare_holds ho, Nat.le_refl _, fun q m => Z.grows (hx q m) keep, (by simp), (by simp)⟩
theorem keptK_stay (Z : SetsOf kd) (B : ∀ {h h' : Heap} {k : κ} {b : Addr}, kd.is h k b → (∀ o, h.get? b = some o → h'.get? b = some o) → kd.is h' k b) {xs : List (Addr × κ)} (hx : ∀ q ∈ xs, kd.is s.heap q.2 q.1) (lt : ∀ q ∈ xs, q.1 < s.heap.objs.size) (i : Nat) (h h' : Heap) (g : keptK kd s.heap.objs.size xs i h) (st : ∀ b o, b ∉ [s.heap.objs.size + 1] → h.get? b = some o → h'.get? b = some o) : keptK kd s.heap.objs.size xs i h' := by
  obtain ⟨L, es, ep, t, R, hl, hk, hs, hm⟩ := g
  have far : ∀ q ∈ xs, ∀ o, h.get? q.1 = some o → h'.get? q.1 = some o := fun q m o e => st _ o (fun z => by
    have := lt q m
    have z := List.mem_singleton.mp z
    rw [z] at this
    exact absurd this (Nat.not_lt.mpr (Nat.le_succ _))) e
  obtain ⟨o, ho, hex, hd⟩ := R.ob
  refine ⟨L, es, ep, t, ⟨⟨o, st _ o (fun z => absurd (List.mem_singleton.mp z) (Nat.ne_of_lt (Nat.lt_succ_self _))) ho, hex, hd⟩, R.rows, R.tab, R.once, fun q m => B (R.key q m) (far q (hs q m)), R.led, R.room, R.few⟩, hl, fun q m => B (hk q m) (far q m), hs, hm⟩
end
end MP

/-! len(set(t)), t a tuple of ints, or of tuples of ints and texts -/
namespace MP
open PySem PySem.Spec PyProof.Rows L2
/-- each once -/
def dd {α : Type} [DecidableEq α] : List α → List α
  | [] => []
  | x :: r => if x ∈ r then dd r else x :: dd r
theorem dd_mem {α : Type} [DecidableEq α] : ∀ (l : List α) (x : α), x ∈ dd l ↔ x ∈ l
  | [], x => Iff.rfl
  | y :: r, x => by
    unfold dd
    by_cases h : y ∈ r
    · rw [if_pos h, dd_mem r x, List.mem_cons]
      constructor
      · exact .inr
      · rintro (rfl | z)
        · exact h
        · exact z
    · rw [if_neg h, List.mem_cons, List.mem_cons, dd_mem r x]
theorem dd_nodup {α : Type} [DecidableEq α] : ∀ l : List α, (dd l).Nodup
  | [] => List.Pairwise.nil
  | y :: r => by
    unfold dd
    by_cases h : y ∈ r
    · rw [if_pos h]; exact dd_nodup r
    · rw [if_neg h]
      exact List.nodup_cons.mpr ⟨fun m => h ((dd_mem r y).mp m), dd_nodup r⟩
theorem dd_len {α : Type} [DecidableEq α] {l m : List α} (h : l.Nodup) (e : ∀ k, k ∈ l ↔ k ∈ m) : l.length = (dd m).length :=
  ((List.perm_ext_iff_of_nodup h (dd_nodup m)).mpr fun k => by rw [e k, dd_mem]).length_eq
theorem dd_same {α : Type} [DecidableEq α] : ∀ l : List α, ((dd l).length = l.length) ↔ l.Nodup
  | [] => by simp [dd]
  | y :: r => by
    have le : ∀ l : List α, (dd l).length ≤ l.length := fun l => by
      induction l with
      | nil => exact Nat.le_refl _
      | cons a l ih =>
        unfold dd
        split
        · rw [List.length_cons]; omega
        · rw [List.length_cons, List.length_cons]; omega
    have ih := dd_same r
    have := le r
    rw [List.nodup_cons]
    unfold dd
    by_cases h : y ∈ r
    · rw [if_pos h, List.length_cons]
      constructor
      · intro e; omega
      · intro e; exact absurd h e.1
    · rw [if_neg h, List.length_cons, List.length_cons]
      constructor
      · intro e; exact ⟨h, ih.mp (by omega)⟩
      · intro e; rw [ih.mpr e.2]
section
variable {X : Cx} {pins : Pins} {σ : L2.St} {H : Hp} {s : Shared}
theorem items_keys {P : Program} {w : World} : ∀ {k : List L2.Key} {us : List Value}, Vals (k.map kV) us → PySem.ItemsAre (L2.mixKind P w) k us
  | [], _, .nil => .nil
  | _ :: _, _, .cons r t => .cons (kV_is r) (items_keys t)
theorem key_at {b : Addr} {k : List L2.Key} (I : L2.Inv X pins σ H s) (h : SqT X.K H b (k.map kV)) : (TKd X.prog X.w).is s.heap k b := by
  obtain ⟨its, rv, pt, hz⟩ := I.tuple h
  obtain ⟨o, ho, hc, n, hd⟩ := pt
  exact ⟨o, its.toArray, n, ho, hc, hd, items_keys (by simpa using rv)⟩
theorem refs_vals {α : Type} (f : α → Addr) : ∀ {xs : List α} {us : List Value}, Vals (xs.map fun q => V.ref (f q)) us → us = xs.map fun q => Value.ref (f q)
  | [], _, .nil => rfl
  | q :: xs, _, .cons r t => by
    obtain rfl := (show _ = Value.ref (f q) from r)
    rw [List.map_cons, refs_vals f t]
theorem set_tupK {A : Around} {E : Value → Shared → Prop} {l : Addr} {xs : List (Addr × List L2.Key)} {Q : Value → Shared → Prop} (I : L2.Inv X pins σ H s) (hh : A.handled = none) (room : A.units + 3 < cLine) (hl : SqT X.K H l (xs.map fun q => V.ref q.1)) (hk : ∀ q ∈ xs, SqT X.K H q.1 (q.2.map kV)) (few : xs.length < 63)
    (h : GivesSet (TKd X.prog X.w) s xs Q) : wpAny (model X.prog X.w) A (call (.type "set") [.ref l]) Q E s := by
  obtain ⟨its, rv, pt, hz⟩ := I.tuple hl
  have ei := refs_vals (fun q : Addr × List L2.Key => q.1) rv
  have keys : ∀ q ∈ xs, (TKd X.prog X.w).is s.heap q.2 q.1 := fun q m => key_at I (hk q m)
  have lt : ∀ q ∈ xs, q.1 < s.heap.objs.size := fun q m => by
    obtain ⟨o, _, _, ho, _⟩ := keys q m
    exact Heap.lt_size ho
  have sz : its.toArray.size = xs.length := by rw [List.size_toArray, ei, List.length_map]
  have pt2 := pt
  obtain ⟨ol, hol, hcls, _⟩ := pt
  refine set_call (ok := fun A => (TKd X.prog X.w).room A) (G := keptK (TKd X.prog X.w) s.heap.objs.size xs) (Pv := nthK xs) hh room hol hcls F.sub_tuple_set F.sub_tuple_frozenset (by decide) (itersT pt2 fun i v hv => ?_) (addsK tkSets few) (keptK_zero tkSets keys) (keptK_stay tkSets (fun hk' keep => ?_) keys lt) fun h' tk _ g keep => ?_
  · rw [ei] at hv
    have hv2 : (xs.map fun q => Value.ref q.1)[i]? = some v := by simpa using hv
    rw [List.getElem?_map] at hv2
    cases e : xs[i]? with
    | none => rw [e] at hv2; cases hv2
    | some q => rw [e] at hv2; cases hv2; exact ⟨q, e, rfl⟩
  · obtain ⟨o, items, n, ho, r⟩ := hk'
    exact ⟨o, items, n, keep _ ho, r⟩
  · obtain ⟨L, es, ep, t, R, _, _, hs, hm⟩ := g
    rw [sz, List.take_length] at hm
    exact h h' tk L es ep t R hs hm keep
end
section
variable {X : Cx} {a : Expr} {ta : TE} {p p2 q pos : Pos}
def tCntAny (K : PySem.W.Frag) (ta : TE) : TE := fun σ H Q => ta σ H fun x H1 => ∃ l : Addr, x = V.ref l ∧ ((∃ ns : List Int, SqT K H1 l (ns.map V.int) ∧ ns.length < 63 ∧ Q (.int ((srtI ns).length : Nat)) H1) ∨
  ∃ xs : List (Addr × List L2.Key), SqT K H1 l (xs.map fun q => V.ref q.1) ∧ xs.length < 63 ∧ (∀ q ∈ xs, SqT K H1 q.1 (q.2.map kV)) ∧ Q (.int ((dd (xs.map (·.2))).length : Nat)) H1)
theorem pe_cntAny (hc : X.calm = true) (hu : X.A.units + 65 < cLine) (hm : X.mg "len" = none) (hm2 : X.mg "set" = none) (ha : PE X a ta) (hg : Gl X "len" := by rfl) (hg2 : Gl X "set" := by rfl)
    (na : starEach [a] X.env = (false, eval a X.env) :: starEach [] X.env := by rfl) : PE X (.Call (.Name "len" p) [.Call (.Name "set" p2) [a] [] q] [] pos) (tCntAny X.K ta) := by
  refine ⟨fun pins s σ H Q I h => ?_⟩
  refine Call_ (ld_blt I hg hm boot_len ?_)
  refine PyProof.Rows.callWith_builtin1 (PyProof.Rows.args_cons ?_ rfl) rfl rfl
  refine Call_ (ld_blt I hg2 hm2 PyProof.Rows.boot_set ?_)
  refine PyProof.Rows.callWith_type1 (PyProof.Rows.args_cons (thn (ha.run pins s σ H _ I h) fun v s1 ⟨x, H1, I1, r1, q1⟩ => PyProof.Rows.args_nil ?_) na) na rfl
  obtain ⟨l, rfl, q1⟩ := q1
  cases r1
  rcases q1 with ⟨ns, hq, hl, q1⟩ | ⟨xs, hq, hl, hk, q1⟩
  · obtain ⟨its, r, pt, hz⟩ := I1.tuple hq
    refine call_set_tupI ns (I1.ok.hd hc) (show s1.heap.IsTuple l its.toArray from pt) (by simpa using vals_ints r) (by unfold scanBound; omega) fun h' tk c R hcl keep => ?_
    refine PyProof.Rows.args_nil ?_
    have I2 : L2.Inv X pins σ H1 { s1 with heap := h', toks := tk } := I1.kept fun b o e => keep b o e
    have hcn := setR_count R
    obtain ⟨o, es, ep, t, ho, hex, hd, _, _, _, _, hf, hn, _⟩ := R
    exact call_len_set ho hex hd hf (by rw [hn] <;> omega) ⟨.int (srtI ns).length, H1, I2.tok _, ⟨_, by rw [hn, hcn]⟩, q1⟩
  · refine set_tupK I1 (I1.ok.hd hc) (by omega) hq hk hl fun h' tk L es ep t R hs hm => ?_
    intro keep
    refine PyProof.Rows.args_nil ?_
    have I2 : L2.Inv X pins σ H1 { s1 with heap := h', toks := tk } := I1.kept fun b o e => keep b o e
    have hcn : L.length = (dd (xs.map (·.2))).length := by rw [← dd_len R.once hm, List.length_map]
    have n := ents_len R.rows
    have fw := R.few
    have hf := Holds.fits (s := { s1 with heap := h', toks := tk }) R
    obtain ⟨o, ho, hex, hd⟩ := R.ob
    exact call_len_set ho hex hd hf (by omega) ⟨.int (dd (xs.map (·.2))).length, H1, I2.tok _, ⟨_, by rw [n, hcn]⟩, q1⟩
end
/-! the mirror -/
def keyD : List D → Option (List L2.Key)
  | [] => some []
  | .int i :: r => (keyD r).map (Sum.inl i :: ·)
  | .str x :: r => (keyD r).map (Sum.inr x :: ·)
  | _ => none
def keysD : List D → Option (List (List L2.Key))
  | [] => some []
  | .tup ds :: r => (keyD ds).bind fun k => (keysD r).map (k :: ·)
  | _ => none
section
variable {K : PySem.W.Frag} {mg : Str → Option Value} {ρ : List Addr} {H : Hp} {st : Store}
theorem key_reps : ∀ {ds : List D} {vs : List V} {k : List L2.Key}, Reps K mg ρ H ds vs → keyD ds = some k → vs = k.map kV
  | _, _, _, .nil, e => by cases e; rfl
  | d :: ds, _, k, .cons r t, e => by
    cases d with
    | int i =>
      cases r
      have e : (keyD ds).map (Sum.inl i :: ·) = some k := e
      cases q : keyD ds with
      | none => rw [q] at e; cases e
      | some m =>
        rw [q] at e
        cases e
        rw [key_reps t q]
        rfl
    | str x =>
      cases r
      have e : (keyD ds).map (Sum.inr x :: ·) = some k := e
      cases q : keyD ds with
      | none => rw [q] at e; cases e
      | some m =>
        rw [q] at e
        cases e
        rw [key_reps t q]
        rfl
    | _ => cases e
theorem keys_reps : ∀ {ds : List D} {vs : List V} {ks : List (List L2.Key)}, Reps K mg ρ H ds vs → keysD ds = some ks → ∃ xs : List (Addr × List L2.Key), vs = xs.map (fun q => V.ref q.1) ∧ xs.map (·.2) = ks ∧ ∀ q ∈ xs, SqT K H q.1 (q.2.map kV)
  | _, _, _, .nil, e => by
    cases e
    exact ⟨[], rfl, rfl, fun q m => by cases m⟩
  | d :: ds, _, ks, .cons r t, e => by
    cases d with
    | tup es =>
      have e : (keyD es).bind (fun k => (keysD ds).map (k :: ·)) = some ks := e
      cases q1 : keyD es with
      | none => rw [q1] at e; cases e
      | some k =>
        rw [q1] at e
        have e : (keysD ds).map (k :: ·) = some ks := e
        cases q2 : keysD ds with
        | none => rw [q2] at e; cases e
        | some m =>
          rw [q2] at e
          cases e
          obtain ⟨xs, h1, h2, h3⟩ := keys_reps t q2
          cases r with
          | @tup a ys _ hs rs =>
            have hy := key_reps rs q1
            subst hy
            refine ⟨(a, k) :: xs, by rw [h1]; rfl, by rw [List.map_cons, h2], fun q m => ?_⟩
            rcases List.mem_cons.mp m with rfl | m
            · exact hs
            · exact h3 q m
    | _ => cases e
end
def cntD (x : D) (st : Store) : Res D := match x with
  | .tup ds => match intsOf ds with
    | some ns => if ns.length < 63 then .ok (.int ((srtI ns).length : Nat)) st else .bad
    | none => match keysD ds with
      | some ks => if ks.length < 63 then .ok (.int ((dd ks).length : Nat)) st else .bad
      | none => .bad
  | _ => .bad
def eCntAny (f : Ev D) : Ev D := fun env st => bindR (f env st) cntD
section
variable [TBs] {X : Cx} {E : XK} {a : Expr} {fa : Ev D} {p p2 q pos : Pos}
theorem me_cntAny (hc : X.calm = true) (hu : X.A.units + 65 < cLine) (hm : X.mg "len" = none) (hm2 : X.mg "set" = none) (ha : ME X E a fa) (hg : Gl X "len" := by rfl) (hg2 : Gl X "set" := by rfl)
    (na : starEach [a] X.env = (false, eval a X.env) :: starEach [] X.env := by rfl) : ME X E (.Call (.Name "len" p) [.Call (.Name "set" p2) [a] [] q] [] pos) (eCntAny fa) := by
  obtain ⟨t, pa, ra⟩ := ha
  refine ⟨_, pe_cntAny hc hu hm hm2 pa hg hg2 na, fun ρ env st σ H Q s e h => ?_⟩
  refine ra ρ env st σ H _ s e (h.split fun x st1 ρ1 H1 v g1 rx h1 => ?_)
  unfold cntD at h1
  cases rx with
  | @tup l vs ds hs rs =>
    simp only at h1
    refine ⟨l, rfl, ?_⟩
    cases e1 : intsOf ds with
    | some ns =>
      simp only [e1] at h1
      by_cases hl : ns.length < 63
      · rw [if_pos hl] at h1
        have := ints_reps rs e1
        subst this
        exact .inl ⟨ns, hs, hl, h1.done g1.sim (.int _)⟩
      · rw [if_neg hl] at h1
        exact h1.elim
    | none =>
      simp only [e1] at h1
      cases e2 : keysD ds with
      | none => simp only [e2] at h1; exact h1.elim
      | some ks =>
        simp only [e2] at h1
        obtain ⟨xs, z1, z2, z3⟩ := keys_reps rs e2
        subst z1
        by_cases hl : ks.length < 63
        · rw [if_pos hl] at h1
          refine .inr ⟨xs, hs, by rw [← z2, List.length_map] at hl; exact hl, z3, ?_⟩
          rw [z2]
          exact h1.done g1.sim (.int _)
        · rw [if_neg hl] at h1
          exact h1.elim
  | _ => exact h1.elim
end
end MP

/-! tuples of the module; x not in a dict of the module -/
namespace MP
open PySem PySem.Spec PyProof.Rows L2
/-- the module's name g holds a tuple that nobody writes -/
structure GTup (K : PySem.W.Frag) (mg : Str → Option Value) (g : Str) (ds : List D) : Prop where
  ex : ∃ (a : Addr) (xs : List V), mg g = some (.ref a) ∧ (∀ H, SqT K H a xs) ∧ ∀ ρ H, Reps K mg ρ H ds xs
theorem reps_strs {K : PySem.W.Frag} {mg : Str → Option Value} {ρ : List Addr} {H : Hp} : ∀ ss : List Str, Reps K mg ρ H (ss.map D.str) (ss.map V.str)
  | [] => .nil
  | x :: r => .cons (.str x) (reps_strs r)
theorem gtup_mk {K : PySem.W.Frag} {mg : Str → Option Value} {g : Str} {a : Addr} {od : Option Addr} {its : Array Value} {n : Nat} {sl : Array (Option Value)} (ss : List Str) (hm : mg g = some (.ref a)) (hl : K.lookup a = some ⟨.type "tuple", od, .seq its n, sl⟩) (hv : Vals (ss.map V.str) its.toList) (hz : its.size ≤ sizeLine) : GTup K mg g (ss.map D.str) :=
  ⟨a, ss.map V.str, hm, fun H => .inr ⟨_, its, n, hl, rfl, rfl, hz, hv⟩, fun ρ H => reps_strs ss⟩
section
variable [TBs] {X : Cx} {E : XK} {a : Expr} {fa : Ev D} {p pos : Pos}
theorem me_gtup {g : Str} {ds : List D} (h : GTup X.K X.mg g ds) (hg : Gl X g := by rfl) (hd : (g == ("__debug__" : Str)) = false := by decide) : ME X E (.Name g p) (eC (.tup ds)) := by
  obtain ⟨b, xs, hm, hs, hr⟩ := h
  exact ⟨_, pe_glob (v := .ref b) hg hm rfl hd, real_C fun ρ H => .tup (hs H) (hr ρ H)⟩
/-- x not in T, x a key of T -/
def kdN (T : List (Str × D)) (x : D) (st : Store) : Res D := match x with
  | .str z => match T.lookup z with
    | some _ => .ok (.bl false) st
    | none => .bad
  | _ => .bad
def eKdN (T : List (Str × D)) (f : Ev D) : Ev D := fun env st => bindR (f env st) (kdN T)
structure KdN (K : PySem.W.Frag) (w : World) (mg : Str → Option Value) (g : Str) (T : List (Str × D)) : Prop where
  ex : ∃ (dct : Addr) (es : Array DictEntry) (n : Nat), mg g = some (.ref dct) ∧ KDict K w dct es n ∧ ∀ z d, T.lookup z = some d → ∃ u, PySem.W.nsIn K dct z = some (some u)
theorem real_kdN {g : Str} {T : List (Str × D)} {dct : Addr} {t1 : TE} (hk : ∀ z d, T.lookup z = some d → ∃ u, PySem.W.nsIn X.K dct z = some (some u)) (r1 : Real X.K X.mg (Rep X.K X.mg) E t1 fa) :
    Real X.K X.mg (Rep X.K X.mg) E (tOp (fun x y H Q => ∃ (z : Str) (r : Option Value), x = .str z ∧ y = .ref dct ∧ PySem.W.nsIn X.K dct z = some r ∧ Q (.bl (!r.isSome)) H) t1 (tC (.ref dct))) (eKdN T fa) := by
  intro ρ env st σ H Q s e h
  refine r1 ρ env st σ H _ s e (h.split fun x st1 ρ1 H1 v g1 rx h1 => ?_)
  unfold kdN at h1
  cases x with
  | str z =>
    cases rx
    cases q : T.lookup z with
    | none => simp only [q] at h1; exact h1.elim
    | some d =>
      simp only [q] at h1
      obtain ⟨u, hu⟩ := hk z d q
      exact ⟨z, some u, rfl, rfl, hu, h1.done g1.sim (.bl _)⟩
  | _ => exact h1.elim
theorem me_kdN {g : Str} {T : List (Str × D)} (hT : KdN X.K X.w X.mg g T) (ha : ME X E a fa) (hg : Gl X g := by rfl) (hd : (g == ("__debug__" : Str)) = false := by decide) (hm : behindInMarks .NotIn (.Name g p) = false := by rfl) : ME X E (.Compare a [.NotIn] [.Name g p] pos) (eKdN T fa) := by
  obtain ⟨dct, es, n, hmg, D, hk⟩ := hT
  obtain ⟨t1, p1, r1⟩ := ha
  exact ⟨_, pe_cmpR (op_notIn_kd D) p1 (pe_glob (v := .ref dct) hg hmg rfl hd) hm, real_kdN (g := g) hk r1⟩
theorem mt_kdN {g : Str} {T : List (Str × D)} (hT : KdN X.K X.w X.mg g T) (ha : ME X E a fa) (hg : Gl X g := by rfl) (hd : (g == ("__debug__" : Str)) = false := by decide) (hm : behindInMarks .NotIn (.Name g p) = false := by rfl) : MT X E (.Compare a [.NotIn] [.Name g p] pos) (asB (eKdN T fa)) := by
  obtain ⟨dct, es, n, hmg, D, hk⟩ := hT
  obtain ⟨t1, p1, r1⟩ := ha
  exact ⟨_, pt_cmpR (op_notIn_kd D) p1 (pe_glob (v := .ref dct) hg hmg rfl hd) hm, (real_kdN (g := g) hk r1).test⟩
end
end MP

/-! x = set(t), then a walk that asks `not in x` and returns False; behind it True: one piece -/
namespace MP
open PySem PySem.Spec PyProof.Rows L2
section
variable {P : Program} {w : World} {κ : Type} [DecidableEq κ] {kd : HeapKind P w κ} {A : Around} {E : Value → Shared → Prop} {s : Shared} {a : Addr} {L : List (Addr × κ)} {es : Array (Int × Value)} {ep : Nat} {t : SetTable}
/-- membership, by equality alone -/
def isIn {α : Type} [DecidableEq α] (x : α) (l : List α) : Bool := decide (x ∈ l)
theorem isIn_t {α : Type} [DecidableEq α] {x : α} {l : List α} : isIn x l = true ↔ x ∈ l := decide_eq_true_iff
theorem isIn_f {α : Type} [DecidableEq α] {x : α} {l : List α} (h : x ∉ l) : isIn x l = false := decide_eq_false h
theorem notin_holds (Z : SetsOf kd) (R : Holds kd s.heap a L es ep t) {x : Addr} {k : κ} (hx : kd.is s.heap k x) (hu : kd.room A.in1) {Q : Value → Shared → Prop}
    (h : Q (.bool (!isIn k (L.map (·.2)))) { s with toks := s.toks + kd.draws k }) : wpAny (model P w) A (compareOp .NotIn (.ref x) (.ref a)) Q E s := by
  have hT : s.TypeIs (.ref a) "set" := by
    obtain ⟨o, ho, hc, _⟩ := R.ob
    exact ⟨o, ho, hc.1⟩
  show wpAny _ _ (do return .bool (!(← contains (.ref a) (.ref x)))) Q E s
  refine wpAny_bind ?_
  unfold contains
  try with_reducible refine wpAny_holding ?_
  refine wpAny_bind (wpAny_specialOf hT F.slot_set_contains.lookup ?_)
  show wpAny _ _ (if (some (Value.builtin "set.__contains__") == some Value.none) = true then _ else _) _ E s
  rw [if_neg (by rw [beq_builtin_none]; exact Bool.false_ne_true)]
  refine wpAny_bind (wpAny_callSpecialUnlessNone?_slot (name := Str.ofString "__contains__") hT F.slot_set_contains
    (wpAny_call_entry F.slot_set_contains hT entry_set_contains ?_ (F.args_set_contains_2 _ _)))
  unfold Builtin.«frozenset.__contains__» Builtin.Frozenset.oneOther
  simp only [List.isEmpty_nil, bind_assoc]
  unfold Builtin.Frozenset.addrOf Builtin.Frozenset.withSetAsKey
  refine wpAny_bind (wpAny_pure ?_)
  try dsimp only
  refine wpAny_bind (wpAny_pure ?_)
  try dsimp only
  refine wpAny_bind (wpAny_tryCatch ?_)
  refine has_ok Z R hx hu ?_
  show wpAny _ _ (ret (Value.bool _)) _ _ _
  exact wpAny_pure ⟨_, rfl, wpAny_truthy_bool (wpAny_pure h)⟩
end
abbrev pinning (X : Cx) (p : Addr × Obj) : Cx := { X with pn := p :: X.pn }
theorem ok_pin {X : Cx} {p : Addr × Obj} (h : X.Ok) : (pinning X p).Ok :=
  ⟨h.mod, h.kind, h.glob, h.blt, h.above, h.inj, h.has, h.cab, h.hd, h.frames, h.stk, h.exf, h.bs, h.bsz, h.noex, h.exfs, h.funs, h.frf⟩
theorem ok_unpin {X : Cx} {p : Addr × Obj} (h : (pinning X p).Ok) : X.Ok :=
  ⟨h.mod, h.kind, h.glob, h.blt, h.above, h.inj, h.has, h.cab, h.hd, h.frames, h.stk, h.exf, h.bs, h.bsz, h.noex, h.exfs, h.funs, h.frf⟩
theorem inv_pin {X : Cx} {p : Addr × Obj} {pins : Pins} {σ : L2.St} {H : Hp} {s : Shared} (I : L2.Inv X (p :: pins) σ H s) : L2.Inv (pinning X p) pins σ H s :=
  ⟨ok_pin I.ok, I.os, I.bare, I.base, I.loc, I.cell, I.free, I.freeC, fun q hq => I.pin q (by
    rcases List.mem_append.mp hq with z | z
    · rcases List.mem_cons.mp z with rfl | z
      · exact List.mem_append_right _ List.mem_cons_self
      · exact List.mem_append_left _ z
    · exact List.mem_append_right _ (List.mem_cons_of_mem _ z)), I.hok, I.len⟩
theorem inv_unpin {X : Cx} {p : Addr × Obj} {pins : Pins} {σ : L2.St} {H : Hp} {s : Shared} (I : L2.Inv (pinning X p) pins σ H s) : L2.Inv X pins σ H s :=
  ⟨ok_unpin I.ok, I.os, I.bare, I.base, I.loc, I.cell, I.free, I.freeC, fun q hq => I.pin q (by
    rcases List.mem_append.mp hq with z | z
    · exact List.mem_append_left _ (List.mem_cons_of_mem _ z)
    · exact List.mem_append_right _ z), I.hok, I.len⟩
section
variable {X : Cx}
/-- what the set's object tells for good -/
structure SetFor (X : Cx) (o : Obj) (L : List (Addr × List L2.Key)) (es : Array (Int × Value)) (ep : Nat) (t : SetTable) : Prop where
  ex : o.ExactSet
  data : o.data = .set es ep t
  rows : es.toList = ents (TKd X.prog X.w) L
  tab : TabOk t (L.map fun q => (TKd X.prog X.w).hash q.2)
  once : (L.map (·.2)).Nodup
  led : X.w.params.followText "set-order" = true ∨ t.led = true
  room : L.length * 5 < t.mask * 3
  few : L.length < 64
def tNin (K : PySem.W.Frag) (a : Addr) (L : List (Addr × List L2.Key)) (iy ix : Nat) : TE := fun σ H Q => tVar iy σ H fun x H1 => tVar ix σ H1 fun y H2 =>
  ∃ (b : Addr) (k : List L2.Key), x = .ref b ∧ y = .ref a ∧ SqT K H2 b (k.map kV) ∧ (∀ q ∈ L, SqT K H2 q.1 (q.2.map kV)) ∧ Q (.bl (!isIn k (L.map (·.2)))) H2
theorem pc_nin {a : Addr} {o : Obj} {L : List (Addr × List L2.Key)} {es : Array (Int × Value)} {ep : Nat} {t : SetTable} (S : SetFor X o L es ep t) (hu : X.A.in1.units < cLine) {iy ix : Nat} {ys xs : Str} {p1 p2 : Pos}
    (hy : PE (pinning X (a, o)) (.Name ys p1) (tVar iy)) (hx : PE (pinning X (a, o)) (.Name xs p2) (tVar ix)) : PC (pinning X (a, o)) .NotIn (.Name ys p1) (.Name xs p2) (tNin X.K a L iy ix) := by
  refine ⟨fun pins s σ H Q I h => ?_⟩
  refine bin hy hx I h fun v u s2 x y H2 I2 rx ry q => ?_
  obtain ⟨b, k, rfl, rfl, hk, hL, q⟩ := q
  cases rx
  cases ry
  have ho := (I2.pin (a, o) (by simp)).1
  refine notin_holds (kd := TKd X.prog X.w) tkSets (L := L) (es := es) (ep := ep) (t := t) ⟨⟨o, ho, S.ex, S.data⟩, S.rows, S.tab, S.once, fun q m => key_at (inv_unpin I2) (hL q m), S.led, S.room, S.few⟩ (key_at (inv_unpin I2) hk) hu ?_
  exact ⟨.bl _, H2, I2.kept fun b o e => e, rfl, q⟩
/-- names: il the walked tuple, io the one that becomes the set, ix the set, iy what walks -/
def tOcc (K : PySem.W.Frag) (il io : Nat) : TS := fun D σ H => ∃ (l1 l2 : Addr) (ys xs : List (Addr × List L2.Key)), σ[il]? = some (some (.ref l1)) ∧ σ[io]? = some (some (.ref l2)) ∧
  SqT K H l1 (ys.map fun q => V.ref q.1) ∧ (∀ q ∈ ys, SqT K H q.1 (q.2.map kV)) ∧ SqT K H l2 (xs.map fun q => V.ref q.1) ∧ (∀ q ∈ xs, SqT K H q.1 (q.2.map kV)) ∧ xs.length < 63 ∧
  D.rt (.bl ((ys.map (·.2)).all fun k => isIn k (xs.map (·.2)))) H
theorem set_get {σ : L2.St} {i j : Nat} {v : Option V} (h : i ≠ j) : (σ.set i v)[j]? = σ[j]? := by
  rw [List.getElem?_set, if_neg h]
theorem pss_occ {il io ix iy : Nat} {nl no nx ny : Str} {p1 p2 p3 p4 p5 p6 p7 p8 p9 p10 p11 p12 p13 p14 p15 p16 : Pos} {j1 j2 : Nat} (hc : X.calm = true) (hu : X.A.units + 65 < cLine) (hm : X.mg "set" = none) (hg : Gl X "set")
    (hN : X.N.Nodup) (el : X.N[il]? = some nl) (eo : X.N[io]? = some no) (ex : X.N[ix]? = some nx) (ey : X.N[iy]? = some ny)
    (ll : X.env.scope.names.lookup nl = some .local) (lo : X.env.scope.names.lookup no = some .local) (lx : X.env.scope.names.lookup nx = some .local) (ly : X.env.scope.names.lookup ny = some .local)
    (dl : (nl == ("__debug__" : Str)) = false) (dO : (no == ("__debug__" : Str)) = false) (dx : (nx == ("__debug__" : Str)) = false) (dy : (ny == ("__debug__" : Str)) = false)
    (cl : (nl == ("__classdict__" : Str)) = false) (cO : (no == ("__classdict__" : Str)) = false) (cx : (nx == ("__classdict__" : Str)) = false) (cy : (ny == ("__classdict__" : Str)) = false)
    (hxl : ix ≠ il) (hyl : iy ≠ il) (hxy : ix ≠ iy) (hp : PassesOwn (model X.prog X.w) X.A X.env X.xe)
    (na : starEach [Expr.Name no p3] X.env = (false, eval (.Name no p3) X.env) :: starEach [] X.env := by rfl) :
    PSs X [.Assign [.Name nx p1] (.Call (.Name "set" p2) [.Name no p3] [] p4) p5, .For (.Name ny p6) (.Name nl p7) [.If (.Compare (.Name ny p8) [.NotIn] [.Name nx p9] p10) [.Return (some (.Constant (.bool false) j1 p11)) p12] [] p13] [] p14, .Return (some (.Constant (.bool true) j2 p15)) p16] (tOcc X.K il io) := by
  refine ⟨fun pins s σ H D I h => ?_⟩
  obtain ⟨l1, l2, ys, xs, gl, go, sl, kl, so, ko, few, hD⟩ := h
  have room : X.A.units + 3 < cLine := by omega
  have hu1 : X.A.in1.units < cLine := by show X.A.units + 1 < cLine; omega
  refine wpAny_execs_cons (wpAny_Assign_Name ?_ ?_)
  · refine Call_ (ld_blt I hg hm PyProof.Rows.boot_set ?_)
    refine PyProof.Rows.callWith_type1 (PyProof.Rows.args_cons (thn ((pe_var eo (.inl lo) dO cO).run pins s σ H (fun x H1 => x = .ref l2 ∧ H1 = H) I ⟨_, go, rfl, rfl⟩) fun v s1 ⟨x, H1, I1, r1, ex1, eH1⟩ => PyProof.Rows.args_nil ?_) na) na rfl
    subst ex1 eH1
    cases r1
    refine set_tupK I1 (I1.ok.hd hc) room so ko few fun h' tk L es ep t R hs hmem keep => ?_
    obtain ⟨o, ho, hex, hd⟩ := R.ob
    have I2 : L2.Inv X pins σ H1 { s1 with heap := h', toks := tk } := I1.kept fun b o e => keep b o e
    have hn : H1 s1.heap.objs.size = none := I1.hok.fresh (Nat.le_refl _)
    have fp := I1.fpOk (H' := H1) (Nat.le_refl _) hn
    have I3 : L2.Inv X ((s1.heap.objs.size, o) :: pins) σ H1 { s1 with heap := h', toks := tk } := I2.pins_of fun p m => by
      rcases List.mem_cons.mp m with rfl | m
      · exact ⟨ho, fp.1, fp.2.1, fp.2.2.1, fun v e => by rw [hd] at e; cases e⟩
      · exact I2.pin p (List.mem_append_right _ m)
    have S : SetFor X o L es ep t := ⟨hex, hd, R.rows, R.tab, R.once, R.led, R.room, R.few⟩
    refine store_ok I3 hN ex (.inl lx) (v := .ref s1.heap.objs.size) rfl (fun s4 I4 => ?_) (.inr lx)
    have vx : ∀ {p : Pos}, PE (pinning X (s1.heap.objs.size, o)) (.Name nx p) (tVar ix) := fun {p} => pe_var ex (.inl lx) dx cx
    have vy : ∀ {p : Pos}, PE (pinning X (s1.heap.objs.size, o)) (.Name ny p) (tVar iy) := fun {p} => pe_var ey (.inl ly) dy cy
    have vl : ∀ {p : Pos}, PE (pinning X (s1.heap.objs.size, o)) (.Name nl p) (tVar il) := fun {p} => pe_var el (.inl ll) dl cl
    refine thn ((pss_cons (ps_for (X := pinning X (s1.heap.objs.size, o)) (pos := p14) hp hc (pi_tup vl) (pg_name hN ey (.inl ly) (.inr ly)) (pss_one (ps_if (pos := p13) (pt_cmp (pos := p10) (pc_nin S hu1 vy vx) rfl) (pss_one (ps_ret (pos := p12) (pe_bl (j := j1) (pos := p11)))) pss_nil))) (pss_one (ps_ret (pos := p16) (pe_bl (j := j2) (pos := p15))))).run pins s4 _ H1 { D with } (inv_pin I4) ?_) fun f s5 q => ?_
    · have len4 := I4.len
      have exl : ix < X.N.length := (List.getElem?_eq_some_iff.mp ex).1
      have eyl : iy < X.N.length := (List.getElem?_eq_some_iff.mp ey).1
      refine ⟨_, (set_get hxl).trans gl, l1, rfl, ⟨_, sl⟩, ?_⟩
      refine for_tup (xs := ys.map fun q => V.ref q.1) (fun i σ' H' => H' = H1 ∧ σ'.length = X.N.length ∧ σ'[il]? = some (some (.ref l1)) ∧ σ'[ix]? = some (some (.ref s1.heap.objs.size)) ∧ ∀ q ∈ ys.take i, q.2 ∈ xs.map (·.2))
        ⟨rfl, len4, (set_get hxl).trans gl, List.getElem?_set_self (by rw [List.length_set] at len4; rw [len4]; exact exl), fun q m => by simp at m⟩ (fun i σ' H' _ p => by rw [p.1]; exact sl) (fun i x σ' H' e p => ?_) fun σ' H' p => ?_
      · obtain ⟨rfl, p0, p1, p2, p3⟩ := p
        rw [List.getElem?_map] at e
        cases eq : ys[i]? with
        | none => rw [eq] at e; cases e
        | some q =>
          rw [eq] at e
          cases e
          have mq := List.mem_of_getElem? eq
          refine ⟨_, List.getElem?_set_self (by rw [p0]; exact eyl), _, (set_get (Ne.symm hxy)).trans p2, q.1, q.2, rfl, rfl, kl q mq, fun r m => ko r (hs r m), ?_⟩
          refine ⟨_, rfl, ?_⟩
          show (if (!isIn q.2 (L.map (·.2))) = true then (_ : Prop) else _)
          by_cases c : q.2 ∈ L.map (·.2)
          · rw [if_neg (by simp [isIn, c])]
            refine ⟨rfl, by rw [List.length_set]; exact p0, (set_get hyl).trans p1, (set_get (Ne.symm hxy)).trans p2, fun r m => ?_⟩
            rw [take_next eq] at m
            rcases List.mem_append.mp m with m | m
            · exact p3 r m
            · obtain rfl := List.mem_singleton.mp m
              exact (hmem r.2).mp c
          · rw [if_pos (by simp [isIn, c])]
            have z : ((ys.map (·.2)).all fun k => isIn k (xs.map (·.2))) = false := by
              rw [List.all_eq_false]
              refine ⟨q.2, List.mem_map.mpr ⟨q, mq, rfl⟩, ?_⟩
              rw [isIn_t]
              exact fun z => c ((hmem q.2).mpr z)
            rw [z] at hD
            exact hD
      · obtain ⟨rfl, p0, p1, p2, p3⟩ := p
        have z : ((ys.map (·.2)).all fun k => isIn k (xs.map (·.2))) = true := by
          rw [List.all_eq_true]
          intro k m
          obtain ⟨q, mq, rfl⟩ := List.mem_map.mp m
          rw [isIn_t]
          refine p3 q ?_
          rw [List.length_map, List.take_length]
          exact mq
        rw [z] at hD
        exact hD
    · cases f with
      | next => obtain ⟨σ', H', I', q⟩ := q; exact ⟨σ', H', inv_unpin I', q⟩
      | brk => obtain ⟨σ', H', I', q⟩ := q; exact ⟨σ', H', inv_unpin I', q⟩
      | cont => obtain ⟨σ', H', I', q⟩ := q; exact ⟨σ', H', inv_unpin I', q⟩
      | ret u => obtain ⟨v, σ', H', I', r, q⟩ := q; exact ⟨v, σ', H', inv_unpin I', r, q⟩
  · rfl
end
/-! the mirror -/
def occR (ls os : List D) (st : Store) : SR := match keysD ls, keysD os with
  | some a, some b => if b.length < 63 then .ret (.bl (a.all fun k => isIn k b)) st else .bad
  | _, _ => .bad
def sOcc (il io : Nat) : Env → Store → SR := fun env st => match env[il]?, env[io]? with
  | some (some (.tup ls)), some (some (.tup os)) => occR ls os st
  | _, _ => .bad
section
variable [TBs] {X : Cx} {E : XK}
theorem env_tup {K : PySem.W.Frag} {mg : Str → Option Value} {ρ : List Addr} {H : Hp} {env : Env} {σ : L2.St} {i : Nat} {ds : List D} {ks : List (List L2.Key)} (e : EnvR K mg ρ H env σ) (q : env[i]? = some (some (.tup ds))) (k : keysD ds = some ks) :
    ∃ (a : Addr) (xs : List (Addr × List L2.Key)), σ[i]? = some (some (.ref a)) ∧ SqT K H a (xs.map fun q => V.ref q.1) ∧ (∀ q ∈ xs, SqT K H q.1 (q.2.map kV)) ∧ xs.map (·.2) = ks := by
  obtain ⟨v, e1, r⟩ := paired_get e q
  obtain ⟨y, e2, r⟩ := r _ rfl
  rw [e2] at e1
  cases r with
  | @tup a vs _ hs rs =>
    obtain ⟨xs, rfl, z2, z3⟩ := keys_reps rs k
    exact ⟨a, xs, e1, hs, z3, z2⟩
theorem mss_occ {il io ix iy : Nat} {nl no nx ny : Str} {p1 p2 p3 p4 p5 p6 p7 p8 p9 p10 p11 p12 p13 p14 p15 p16 : Pos} {j1 j2 : Nat} (hc : X.calm = true) (hu : X.A.units + 65 < cLine) (hm : X.mg "set" = none)
    (hN : X.N.Nodup) (el : X.N[il]? = some nl) (eo : X.N[io]? = some no) (ex : X.N[ix]? = some nx) (ey : X.N[iy]? = some ny)
    (ll : X.env.scope.names.lookup nl = some .local) (lo : X.env.scope.names.lookup no = some .local) (lx : X.env.scope.names.lookup nx = some .local) (ly : X.env.scope.names.lookup ny = some .local)
    (dl : (nl == ("__debug__" : Str)) = false) (dO : (no == ("__debug__" : Str)) = false) (dx : (nx == ("__debug__" : Str)) = false) (dy : (ny == ("__debug__" : Str)) = false)
    (cl : (nl == ("__classdict__" : Str)) = false) (cO : (no == ("__classdict__" : Str)) = false) (cx : (nx == ("__classdict__" : Str)) = false) (cy : (ny == ("__classdict__" : Str)) = false)
    (hxl : ix ≠ il) (hyl : iy ≠ il) (hxy : ix ≠ iy) (hp : PassesOwn (model X.prog X.w) X.A X.env X.xe) (hg : Gl X "set" := by rfl)
    (na : starEach [Expr.Name no p3] X.env = (false, eval (.Name no p3) X.env) :: starEach [] X.env := by rfl) :
    MSs X E [.Assign [.Name nx p1] (.Call (.Name "set" p2) [.Name no p3] [] p4) p5, .For (.Name ny p6) (.Name nl p7) [.If (.Compare (.Name ny p8) [.NotIn] [.Name nx p9] p10) [.Return (some (.Constant (.bool false) j1 p11)) p12] [] p13] [] p14, .Return (some (.Constant (.bool true) j2 p15)) p16] (sOcc il io) := by
  refine ⟨_, pss_occ hc hu hm hg hN el eo ex ey ll lo lx ly dl dO dx dy cl cO cx cy hxl hyl hxy hp na, fun ρ env st σ H Dn s e h => ?_⟩
  unfold sOcc at h
  split at h
  · rename_i ls os q1 q2
    unfold occR at h
    split at h
    · rename_i a b k1 k2
      by_cases hl : b.length < 63
      · rw [if_pos hl] at h
        obtain ⟨l1, ys, g1, s1, t1, rfl⟩ := env_tup e q1 k1
        obtain ⟨l2, xs, g2, s2, t2, rfl⟩ := env_tup e q2 k2
        refine ⟨l1, l2, ys, xs, g1, g2, s1, t1, s2, t2, by rw [List.length_map] at hl; exact hl, ?_⟩
        exact h ρ H _ (.refl s) (.bl _)
      · rw [if_neg hl] at h
        exact h.elim
    · exact h.elim
  · exact h.elim
end
end MP

/-! enumerate over a tuple; str of an int; what is never run -/
namespace MP
open PySem PySem.Spec PyProof.Rows L2
theorem meets_enum1 {v : Value} {o : Obj} {H : Heap → Prop} (B : Begins v o H) :
    Meets (Builtin.«enumerate.__new__» ⟨[.type "enumerate", v], []⟩) (fun _ R s => H s.heap ∧
      R (.ok (.ret (.ref (s.heap.push o).objs.size))) { s with heap := (s.heap.push o).push { cls := .type "enumerate", data := .fields #[.none, .bool false, .ref s.heap.objs.size, rawInt 0, .none, .none] } }) :=
  .of_wp fun prog w A R s h => by
    obtain ⟨hp, g, d, tk, os⟩ := s; obtain ⟨h1, h⟩ := h
    have hsub := sub_enumerate
    have q1 : ∀ {A' : Around} {E : Value → Shared → Prop} {Q : Value → Shared → Prop}, Q (.ref hp.objs.size) ⟨hp.push o, g, d, tk, os⟩ → wpAny (model prog w) A' (pyIter v) Q E ⟨hp, g, d, tk, os⟩ :=
      fun q => B.iter prog w _ _ ⟨hp, g, d, tk, os⟩ _ h1 q
    wp_walk using q1
    refine wpAny_stack_any fun st => wpAny_pure ?_
    split
    · rename_i c _ _ _ _ _
      cases (c == Value.type "enumerate")
      · wp_walk using q1
        exact ⟨_, rfl, h⟩
      · wp_walk using q1
        exact ⟨_, rfl, h⟩
    · wp_walk using q1
      exact ⟨_, rfl, h⟩
theorem enum_tup {prog : Program} {w : World} {A : Around} {E : Value → Shared → Prop} {s : Shared} {l : Addr} {items : Array Value} {Q : Value → Shared → Prop} (hL : s.heap.IsTuple l items)
    (h : ∀ h', IsEnum h' (s.heap.objs.size + 1) s.heap.objs.size 0 .none → h'.IsTupleIter s.heap.objs.size l 0 → h'.objs.size = s.heap.objs.size + 2 →
      (∀ b o, s.heap.get? b = some o → h'.get? b = some o) → Q (.ref (s.heap.objs.size + 1)) { s with heap := h' }) :
    wpAny (model prog w) A (call (.type "enumerate") [.ref l]) Q E s := by
  have B := begins_tuple l items
  refine callType_new F.called_enumerate (by decide) (F.typeCall_enumerate_1 _) (F.newCall_enumerate_1 _) (fun obj => F.args_object_init_2 obj _) F.entry_enumerate_new
    (meets_enum1 B) ⟨hL, ?_⟩
  generalize ho : ({ cls := .type "tuple_iterator", data := .fields #[.ref l, .int 0 0] } : Obj) = o at B ⊢
  have hz : (s.heap.push o).objs.size = s.heap.objs.size + 1 := Heap.size_push ..
  show _ ∧ _
  rw [hz]
  have he : IsEnum ((s.heap.push o).push { cls := .type "enumerate", data := .fields #[.none, .bool false, .ref s.heap.objs.size, rawInt 0, .none, .none] }) (s.heap.objs.size + 1) s.heap.objs.size 0 .none := by
    have := Heap.get?_push_size (s.heap.push o) (o := { cls := .type "enumerate", data := .fields #[.none, .bool false, .ref s.heap.objs.size, rawInt 0, .none, .none] }) rfl
    rw [hz] at this; exact this
  refine ⟨⟨_, he, rfl⟩, h _ he ?_ (by rw [Heap.size_push, hz]) fun b o x => Heap.get?_push_of_some _ (Heap.get?_push_of_some _ x)⟩
  have q : ((s.heap.push o).push { cls := .type "enumerate", data := .fields #[.none, .bool false, .ref s.heap.objs.size, rawInt 0, .none, .none] }).get? s.heap.objs.size = some o := Heap.get?_push_of_some _ (Heap.get?_push_size _ B.free)
  exact ⟨o, q, by rw [← ho], by rw [← ho]; rfl⟩
theorem enum_end_tup {prog : Program} {w : World} {A : Around} {E : Value → Shared → Prop} {s : Shared} {e it a : Addr} {i : Int} {j : Nat} {items : Array Value} {old : Value} {Q : Option Value → Shared → Prop} (hh : A.in1.handled = none)
    (he : IsEnum s.heap e it i old) (hit : s.heap.IsTupleIter it a j) (pt : s.heap.IsTuple a items) (hx : items[j]? = none) (hQ : ∀ h', Heap.ExtBut it s.heap h' → Q none { s with heap := h' }) : wpAny (model prog w) A (pyNext (.ref e)) Q E s := by
  have hT : s.TypeIs (.ref e) "enumerate" := ⟨_, he, rfl⟩
  unfold pyNext
  refine wpAny_bind (wpAny_attempt (wpAny_callSpecial?_slot (name := Str.ofString "__next__") hT F.slot_enumerate_next
    (wpAny_call_entry F.slot_enumerate_next hT F.entry_enumerate_next ?_ (F.args_enumerate_next_1 _))))
  show wpAny _ _ (field (.ref e) 2 >>= _) _ _ _
  refine wpAny_bind (wpAny_field he rfl (x := .ref it) rfl ?_)
  refine wpAny_bind (wpAny_nextOf_tuple_end hh hit pt hx fun h' x he' hx' => ?_)
  obtain ⟨o, ho, hc⟩ := hx'
  refine wpAny_bind (wpAny_isInstance (T := "StopIteration") (b := true) ⟨o, ho, hc⟩ isSubtype_stop ?_)
  exact wpAny_pure (hQ _ he')
/-- the tuple at a, each item in a new pair -/
def Itet (K : PySem.W.Frag) (a : Addr) : It :=
  ⟨fun i H => ∃ (xs : List V) (x : V), SqT K H a xs ∧ xs[i]? = some x, fun i H v H' => ∃ T x, v = .ref T ∧ H T = none ∧ H' = upd H T (.tup [.int (i : Nat), x]) ∧ ∀ xs, SqT K H a xs → xs[i]? = some x, fun i H => ∃ xs : List V, SqT K H a xs ∧ xs.length ≤ i⟩
theorem turn_enumT {P : Program} {w : World} {K : PySem.W.Frag} {elts : List Expr} {kk : Nat} {tpos : Pos} (a e it : Addr) (hea : e ≠ a) (hia : a ≠ it) :
    Turn P w K (.Tuple elts kk tpos) (Itet K a) [e, it] e (fun i h => (∃ old, IsEnum h e it ((i : Nat) : Int) old) ∧ h.IsTupleIter it a i ∧ e ≠ it) where
  mem := by simp
  obj := fun i h st b hb => by
    obtain ⟨⟨old, he⟩, ⟨o, ho, hc, hd⟩, _⟩ := st
    have e' : b = e ∨ b = it := by simpa using hb
    rcases e' with z | z
    · rw [z]; exact ⟨_, he, fun v q => nomatch q⟩
    · rw [z]; exact ⟨o, ho, fun v q => by rw [hd] at q; cases q⟩
  keep := fun i h h' st k => let ⟨⟨old, he⟩, hi, hne⟩ := st; ⟨⟨old, k e (by simp) _ he⟩, hi.at fun o q => k it (by simp) o q, hne⟩
  item := by
    intro X hP hw hK hc i pins s σ H E I hf st hg
    subst hP hw hK
    obtain ⟨⟨old, he⟩, hit, hne⟩ := st
    obtain ⟨xs, x, hq, hx⟩ := hg
    obtain ⟨its, rv, p, hz⟩ := I.tuple hq
    obtain ⟨u, hu, ru⟩ := rv.get hx
    have hel : e < s.heap.objs.size := Heap.lt_size he
    have hil : it < s.heap.objs.size := by obtain ⟨_, q, _⟩ := hit; exact Heap.lt_size q
    have pt : s.heap.IsTuple a its.toArray := p
    have D := Draws.tuple (prog := X.prog) (w := X.w) (A := X.A.in1) (I.ok.hd hc) it a hia its.toArray
    have hlt : i < its.toArray.size := by simpa using (List.getElem?_eq_some_iff.mp hu).1
    refine wpAny_pyNext_enum_itemD D he ⟨hit, pt⟩ hlt hne (by simp [hne, hea]) fun x' h' tk hP ho hit' hT hsz hk => ?_
    have ex : x' = u := by
      have h2 : its.toArray[i]? = some u := by simpa using hu
      rw [h2] at hP
      exact (Option.some.inj hP).symm
    subst ex
    refine ⟨_, rfl, wpAny_letOwnedTupleGo_enum (s := { s with heap := h', toks := tk + 1 }) ho fun h'' he' sb => ?_⟩
    have hT2 : h''.get? s.heap.objs.size = some { cls := .type "tuple", data := .seq #[.int i tk, x'] } := (sb.2 _ (Nat.ne_of_gt hel)).trans hT
    have new : ObjOk X.prog X.w (upd H s.heap.objs.size (.tup [.int (i : Nat), x])) h'' s.heap.objs.size (.tup [.int (i : Nat), x]) :=
      ⟨by show 2 ≤ sizeLine; decide, [.int i tk, x'], .cons ⟨_, rfl⟩ (.cons ru .nil), ⟨_, hT2, rfl, _, rfl⟩⟩
    have I1 : L2.Inv X pins σ (upd H s.heap.objs.size (.tup [.int (i : Nat), x])) { s with heap := h'', toks := tk + 1 } :=
      I.turnedNew (ch := [e, it]) (fun b ob hb q => (sb.2 b (fun z => hb (by simp [z]))).trans (hk b ob (fun z => hb (by simp [z])) (fun z => hb (by simp [z])) q)) hf (Nat.le_refl _) new
    refine ⟨.ref s.heap.objs.size, _, I1, rfl, ⟨_, x, rfl, I.hok.fresh (Nat.le_refl _), rfl, fun ys hy => by rw [I.tuple_inj hy hq]; exact hx⟩, ⟨⟨x', ?_⟩, hit'.1.at fun o q => (sb.2 it (Ne.symm hne)).trans q, hne⟩, fun b hb => ?_⟩
    · have e1 : ((i + 1 : Nat) : Int) = (i : Int) + 1 := by omega
      rw [e1]; exact he'
    · have hb' : b < s.heap.objs.size := by
        have e' : b = e ∨ b = it := by simpa using hb
        rcases e' with z | z
        · rw [z]; exact hel
        · rw [z]; exact hil
      rw [upd_ne (Nat.ne_of_lt hb')]
      exact (hf b hb).1
  done := by
    intro X hP hw hK hc i pins s σ H E I hf st hg
    subst hP hw hK
    obtain ⟨⟨old, he⟩, hit, hne⟩ := st
    obtain ⟨xs, hq, hx⟩ := hg
    obtain ⟨its, rv, p, hz⟩ := I.tuple hq
    obtain ⟨f0, f1, f2, f3, f4, f5⟩ := hf it (by simp)
    have hl := rv.length
    have pt : s.heap.IsTuple a its.toArray := p
    exact enum_end_tup (I.ok.hd hc) he hit pt (by simp; omega) fun h' eb => ⟨rfl, I.turned (t' := s.toks) (fun b o hb q => eb b o hb q) f0 f1 f3 f4 f5⟩
  self := fun A i s Q E st h => let ⟨⟨_, he⟩, _⟩ := st; wpAny_pyIter_enum he h
def iEnumT (K : PySem.W.Frag) (ta : TA) : TI := fun σ H R => ta σ H fun vs H1 => ∃ a xs, vs = [.ref a] ∧ SqT K H1 a xs ∧ R (Itet K a) H1
theorem pi_enumT {X : Cx} {e : Expr} {ta : TA} {p pos tpos : Pos} {elts : List Expr} {kk : Nat} (hg : Gl X "enumerate") (hm : X.mg "enumerate" = none) (ha : PA X [e] ta) (hs : starEach [e] X.env = [(false, eval e X.env)] := by rfl) :
    PI X (.Tuple elts kk tpos) (.Call (.Name "enumerate" p) [e] [] pos) (iEnumT X.K ta) := by
  refine ⟨fun pins s σ H R I h => ?_⟩
  refine Call_ (ld_blt I hg hm boot_enumerate (PyProof.Rows.callWith_type1 (thn (ha.run pos pins s σ H _ I h) fun us s1 ⟨vs, H1, I1, r1, q1⟩ => ?_) hs rfl))
  obtain ⟨a, xs, ex, hq, q⟩ := q1
  subst ex
  cases r1 with
  | cons r rr =>
    cases rr
    cases r
    obtain ⟨its, rv, p', hz⟩ := I1.tuple hq
    have pt : s1.heap.IsTuple a its.toArray := p'
    have hal : a < s1.heap.objs.size := by obtain ⟨_, z, _⟩ := pt; exact Heap.lt_size z
    refine enum_tup pt fun h' he hit hsz hk => wpAny_pyIter_enum he ?_
    have I2 : L2.Inv X pins σ H1 { s1 with heap := h' } := I1.kept (t' := s1.toks) hk
    refine ⟨s1.heap.objs.size + 1, [s1.heap.objs.size + 1, s1.heap.objs.size], _, _, H1, rfl, I2, turn_enumT a (s1.heap.objs.size + 1) s1.heap.objs.size (Nat.ne_of_gt (Nat.lt_succ_of_lt hal)) (Nat.ne_of_lt hal), ⟨⟨.none, he⟩, hit, Nat.succ_ne_self _⟩, fun b hb => ?_, q⟩
    have e' : b = s1.heap.objs.size + 1 ∨ b = s1.heap.objs.size := by simpa using hb
    have hle : s1.heap.objs.size ≤ b := by
      rcases e' with z | z
      · rw [z]; exact Nat.le_add_right _ _
      · rw [z]; exact Nat.le_refl _
    exact I1.fpOk hle (I1.hok.fresh hle)
/-- a call that is never reached -/
def eNever : Ev D := fun _ _ => .bad
section
variable [TBs] {X : Cx} {E : XK}
theorem me_never {e : Expr} : ME X E e eNever := ⟨fun _ _ _ => False, ⟨fun _ _ _ _ _ _ h => h.elim⟩, fun ρ env st σ H Q s e h => h.elim⟩
def gStr : List D → Store → Res D := fun ds st => match ds with
  | [.int i] => if i.natAbs.log2 < 1920 then .ok (.str (toString i)) st else .bad
  | _ => .bad
theorem real_str {K : PySem.W.Frag} {mg : Str → Option Value} : RealC K mg E (fun xs H Q => ∃ i, xs = [.int i] ∧ i.natAbs.log2 < 1920 ∧ Q (.str (toString i)) H) gStr := by
  intro ρ st H xs as Q s rs h
  cases rs with
  | nil => exact h.elim
  | cons r t =>
    cases t with
    | cons _ _ => cases r <;> exact h.elim
    | nil =>
      cases r with
      | int i =>
        unfold gStr at h
        simp only at h
        by_cases hi : i.natAbs.log2 < 1920
        · rw [if_pos hi] at h
          exact ⟨i, rfl, hi, h.done s (.str _)⟩
        · rw [if_neg hi] at h
          exact h.elim
      | _ => exact h.elim
/-- the items of a tuple with their numbers -/
def enD : Nat → List D → List D
  | _, [] => []
  | i, d :: ds => .tup [.int (i : Nat), d] :: enD (i + 1) ds
theorem enD_len : ∀ (i : Nat) (ds : List D), (enD i ds).length = ds.length
  | _, [] => rfl
  | i, _ :: ds => by
    unfold enD
    rw [List.length_cons, List.length_cons, enD_len (i + 1) ds]
theorem enD_get : ∀ (i : Nat) (ds : List D) (j : Nat) (d : D), (enD i ds)[j]? = some d → ∃ x, ds[j]? = some x ∧ d = .tup [.int ((i + j : Nat) : Int), x]
  | _, [], j, d, h => by
    unfold enD at h
    cases h
  | i, x :: ds, 0, d, h => by
    unfold enD at h
    cases h
    exact ⟨x, rfl, rfl⟩
  | i, x :: ds, j + 1, d, h => by
    unfold enD at h
    rw [List.getElem?_cons_succ] at h
    obtain ⟨y, h1, h2⟩ := enD_get (i + 1) ds j d h
    refine ⟨y, by rw [List.getElem?_cons_succ]; exact h1, ?_⟩
    rw [h2, show i + 1 + j = i + (j + 1) by omega]
def fEnum (f : Ev (List D)) : Ev Src := fun env st => bindR (f env st) fun ds st1 => match ds with
  | [.tup xs] => .ok { items := enD 0 xs } st1
  | _ => .bad
theorem mi_enumT {p pos tpos : Pos} {elts : List Expr} {kk : Nat} {a : Expr} {f : Ev (List D)} (hm : X.mg "enumerate" = none) (ha : MA X E [a] f) (hg : Gl X "enumerate" := by rfl) (hs : starEach [a] X.env = [(false, eval a X.env)] := by rfl) :
    MI X E (.Tuple elts kk tpos) (.Call (.Name "enumerate" p) [a] [] pos) (fEnum f) := by
  obtain ⟨t, pa, ra⟩ := ha
  refine ⟨_, pi_enumT hg hm pa hs, fun ρ env st σ H Q s e h => ?_⟩
  refine ra ρ env st σ H _ s e (h.split fun ds st1 ρ1 H1 vs g1 rd h1 => ?_)
  match ds, vs, rd with
  | [], _, .nil => exact h1.elim
  | [a], _, .cons r .nil =>
    cases r with
    | @tup l xs ds hs rs =>
      simp only at h1
      refine ⟨l, xs, rfl, hs, h1.done (R := RIt X.K X.mg) g1.sim fun ρ' st' H' g' ok => ?_⟩
      have hs' := g'.ext.tup _ _ hs
      have rs' := rs.mono g'.pre g'.ext
      refine ⟨fun i d hd => ?_, fun i hi => ⟨xs, hs', ?_⟩⟩
      · obtain ⟨x, h1, rfl⟩ := enD_get 0 ds i d hd
        obtain ⟨v, v1, v2⟩ := rs'.get h1
        refine ⟨⟨xs, v, hs', v1⟩, fun y H2 hy => ?_⟩
        obtain ⟨T, w, rfl, hT, rfl, hw⟩ := hy
        have ew := hw xs hs'
        rw [v1] at ew
        cases ew
        have g := Go.fresh (K := X.K) (mg := X.mg) (u := .tup [.int (i : Nat), v]) g'.sim hT
        refine ⟨g, ?_⟩
        rw [Nat.zero_add]
        exact .tup (.inl (.inl upd_same)) (.cons (.int _) (.cons (v2.mono g.pre g.ext) .nil))
      · rw [← rs.length]
        have := enD_len 0 ds
        simp only at hi
        omega
    | _ => exact h1.elim
  | _ :: _ :: _, _, .cons r (.cons r2 _) => cases r <;> exact h1.elim
end
/-! a list comprehension of two clauses -/
section
variable [TBs]
theorem MI.canon {X : Cx} {E : XK} {tg e : Expr} {f : Ev Src} (h : MI X E tg e f) : PI X tg e (tOf X.K X.mg (RIt X.K X.mg) E f) := by
  obtain ⟨t, p, r⟩ := h
  exact ⟨fun pins s σ H R I q => p.run pins s σ H R I (tOf_imp r σ H R q)⟩
open Classical in
noncomputable def lcM2 (s : Src) (g : Tg) (c : Ev Bool) (fi1 : Ev Src) (vs1 : List Nat) (g1 : Tg) (c1 : Ev Bool) (f : Ev D) (id : Nat) (env : Env) : List D → Store → Res Unit
  | [], st => if s.Ok st then .ok () st else .bad
  | d :: ds, st => if s.Ok st then bindX (g d env st) fun env1 st1 => bindX (c env1 st1) fun b st2 => if b = true then bindX (fi1 env1 st2) fun s1 st3 => bindX (lcM s1 g1 c1 f id (wipeD env1 vs1) s1.items st3) fun _ st4 => lcM2 s g c fi1 vs1 g1 c1 f id env ds st4 else lcM2 s g c fi1 vs1 g1 c1 f id env ds st2 else .bad
noncomputable def eLc2 (fi : Ev Src) (vs : List Nat) (g : Tg) (c : Ev Bool) (fi1 : Ev Src) (vs1 : List Nat) (g1 : Tg) (c1 : Ev Bool) (f : Ev D) : Ev D := fun env st => bindR (fi env st) fun s st1 => bindX (lcM2 s g c fi1 vs1 g1 c1 f st1.length (wipeD env vs) s.items (st1 ++ [.lst []])) fun _ st2 => .ok (.ref st1.length) st2
theorem assX {α β γ : Type} (r : Res α) (k1 : α → Store → Res β) (k2 : β → Store → Res γ) : bindX (bindX r k1) k2 = bindX r fun a s => bindX (k1 a s) k2 := by cases r <;> rfl
theorem real_lc2 {K : PySem.W.Frag} {mg : Str → Option Value} {E : XK} {wi wi1 : TI} {tg tg1 : TG} {tt tt1 : TT} {te : TE} {vs vs1 : List Nat} {fi fi1 : Ev Src} {g g1 : Tg} {c c1 : Ev Bool} {f : Ev D} (ri : Real K mg (RIt K mg) E wi fi) (rg : RealGW K mg E0 vs tg g) (rc : Real K mg (REq Bool) E0 tt c)
    (ri1 : Real K mg (RIt K mg) E0 wi1 fi1) (rg1 : RealGW K mg E0 vs1 tg1 g1) (rc1 : Real K mg (REq Bool) E0 tt1 c1) (rf : Real K mg (Rep K mg) E0 te f) :
    Real K mg (Rep K mg) E (tLc2 wi tg tt wi1 tg1 tt1 te vs vs1) (eLc2 fi vs g c fi1 vs1 g1 c1 f) := by
  intro ρ env st σ H Q s e h
  refine ri ρ env st σ H _ s e (h.split fun src st1 ρ1 H1 J ga qJ h1 => ?_)
  intro D hD
  have gn := Go.new (o := .lst []) (u := .lst []) ga.sim hD (.lst .nil)
  refine ⟨fun i m H' => i ≤ src.items.length ∧ m = src.items.length - i ∧ ∃ ρ' st', Go K mg (ρ1 ++ [D]) (upd H1 D (.lst [])) ρ' st' H' ∧ Post K mg (Rep K mg) E ρ' H' Q (bindX (lcM2 src g c fi1 vs1 g1 c1 f st1.length (wipeD env vs) (src.items.drop i) st') fun _ st2 => .ok (.ref st1.length) st2),
    ⟨_, Nat.zero_le _, rfl, _, _, .refl gn.sim, Post.from gn h1⟩, fun i m H' hW => ?_⟩
  obtain ⟨hi, rfl, ρ2, st2, g2, h2⟩ := hW
  have gg := gn.trans g2
  have eW : EnvR K mg ρ2 H' (wipeD env vs) (wipe σ vs) := ((wipe_R e vs).mono ga.pre ga.ext).mono gg.pre gg.ext
  have rD : ∀ {ρ' st' H'}, Go K mg (ρ1 ++ [D]) (upd H1 D (.lst [])) ρ' st' H' → Rep K mg ρ' H' (.ref st1.length) (.ref D) := fun g' => Rep.mono g'.pre g'.ext (.ref (by rw [← ga.sim.len]; simp))
  by_cases hok : src.Ok st2
  · obtain ⟨q1, q2⟩ := qJ ρ2 st2 H' gg hok
    by_cases hlt : i < src.items.length
    · rw [List.drop_eq_getElem_cons hlt] at h2
      obtain ⟨go, yld⟩ := q1 i _ (List.getElem?_eq_getElem hlt)
      refine .inr ⟨go, fun H3 => i + 1 ≤ src.items.length ∧ ∃ ρ' st', Go K mg (ρ1 ++ [D]) (upd H1 D (.lst [])) ρ' st' H3 ∧ Post K mg (Rep K mg) E ρ' H3 Q (bindX (lcM2 src g c fi1 vs1 g1 c1 f st1.length (wipeD env vs) (src.items.drop (i + 1)) st') fun _ st2 => .ok (.ref st1.length) st2), fun H3 hN => ?_, fun x H3 hy => ?_⟩
      · exact ⟨src.items.length - (i + 1), by omega, hN.1, rfl, hN.2⟩
      · obtain ⟨g3, rx⟩ := yld x H3 hy
        simp only [lcM2, if_pos hok] at h2
        have h3 := Post.from g3 h2
        refine rg ρ2 _ st2 _ H3 x _ _ g3.sim (eW.mono g3.pre g3.ext) rx ?_
        rw [assX] at h3
        refine h3.splitX fun env4 st4 ρ4 H4 σ4 g4 q4 h4 => ⟨by rw [q4.2]; exact real_lc.wipe_wipe _ _, ?_⟩
        rw [assX] at h4
        refine rc ρ4 env4 st4 σ4 H4 _ g4.sim q4.1 (h4.splitX fun b st5 ρ5 H5 b' g5 q5 h5 => ?_)
        cases q5
        have g35 := g2.trans (g3.trans (g4.trans g5))
        cases b with
        | false => exact ⟨hlt, ρ5, st5, g35, h5⟩
        | true =>
          rw [if_pos rfl] at h5 ⊢
          rw [assX] at h5
          have e5 := q4.1.mono g5.pre g5.ext
          refine ri1 ρ5 env4 st5 σ4 H5 _ g5.sim e5 (h5.splitX fun src1 st6 ρ6 H6 J1 g6 qJ1 h6 => ?_)
          have g36 := g35.trans g6
          rw [assX] at h6
          have e6 := e5.mono g6.pre g6.ext
          refine ⟨fun j k H' => j ≤ src1.items.length ∧ k = src1.items.length - j ∧ ∃ ρ' st', Go K mg ρ6 H6 ρ' st' H' ∧ Post K mg (Rep K mg) E ρ' H' Q (bindX (lcM src1 g1 c1 f st1.length (wipeD env4 vs1) (src1.items.drop j) st') fun _ st4 => bindX (lcM2 src g c fi1 vs1 g1 c1 f st1.length (wipeD env vs) (src.items.drop (i + 1)) st4) fun _ st2 => .ok (.ref st1.length) st2),
            ⟨_, Nat.zero_le _, rfl, _, _, .refl g6.sim, h6⟩, fun j k H' hW1 => ?_⟩
          obtain ⟨hj, rfl, ρ7, st7, g7, h7⟩ := hW1
          have e7 : EnvR K mg ρ7 H' (wipeD env4 vs1) (wipe σ4 vs1) := (wipe_R e6 vs1).mono g7.pre g7.ext
          have g37 := g36.trans g7
          by_cases hok1 : src1.Ok st7
          · obtain ⟨q3, q4'⟩ := qJ1 ρ7 st7 H' g7 hok1
            by_cases hlt1 : j < src1.items.length
            · rw [List.drop_eq_getElem_cons hlt1] at h7
              obtain ⟨go1, yld1⟩ := q3 j _ (List.getElem?_eq_getElem hlt1)
              refine .inr ⟨go1, fun H3 => j + 1 ≤ src1.items.length ∧ ∃ ρ' st', Go K mg ρ6 H6 ρ' st' H3 ∧ Post K mg (Rep K mg) E ρ' H3 Q (bindX (lcM src1 g1 c1 f st1.length (wipeD env4 vs1) (src1.items.drop (j + 1)) st') fun _ st4 => bindX (lcM2 src g c fi1 vs1 g1 c1 f st1.length (wipeD env vs) (src.items.drop (i + 1)) st4) fun _ st2 => .ok (.ref st1.length) st2), fun H3 hN => ?_, fun x H8 hy1 => ?_⟩
              · exact ⟨src1.items.length - (j + 1), by omega, hN.1, rfl, hN.2⟩
              · obtain ⟨g8, rx1⟩ := yld1 x H8 hy1
                simp only [lcM, if_pos hok1] at h7
                have h8 := Post.from g8 h7
                refine rg1 ρ7 _ st7 _ H8 x _ _ g8.sim (e7.mono g8.pre g8.ext) rx1 ?_
                rw [assX] at h8
                refine h8.splitX fun env9 st9 ρ9 H9 σ9 g9 q9 h9 => ⟨by rw [q9.2]; exact real_lc.wipe_wipe _ _, ?_⟩
                rw [assX] at h9
                refine rc1 ρ9 env9 st9 σ9 H9 _ g9.sim q9.1 (h9.splitX fun b1 stA ρA HA b1' gA qA hA => ?_)
                cases qA
                have g6A := g7.trans (g8.trans (g9.trans gA))
                cases b1 with
                | false => exact ⟨hlt1, ρA, stA, g6A, hA⟩
                | true =>
                  rw [if_pos rfl] at hA ⊢
                  rw [assX] at hA
                  refine rf ρA env9 stA σ9 HA _ gA.sim (q9.1.mono gA.pre gA.ext) (hA.splitX fun y stB ρB HB yv gB qB hB => ?_)
                  have g6B := g6A.trans gB
                  have g3B := g36.trans g6B
                  unfold grow at hB
                  cases eB : stB[st1.length]? with
                  | none => simp only [eB] at hB; exact hB.elim
                  | some o =>
                    obtain ⟨a, ho, z, w, u, rr⟩ := gB.sim.get eB (rD g3B)
                    cases z
                    cases rr with
                    | @lst acc xs rs =>
                      simp only [eB] at hB
                      by_cases hz : acc.length < sizeLine
                      · rw [if_pos hz] at hB
                        have gC := Go.set (o' := .lst (acc ++ [y])) (u' := .lst (xs ++ [yv])) gB.sim eB w u (.lst rs) (.lst (rs.append (.cons qB .nil)))
                        exact ⟨xs, u, by rw [← rs.length]; exact hz, hlt1, ρB, _, g6B.trans gC, Post.from gC hB⟩
                      · rw [if_neg hz] at hB
                        exact hB.elim
                    | _ => simp only [eB] at hB; exact hB.elim
            · have ei : src1.items.drop j = [] := List.drop_eq_nil_of_le (Nat.le_of_not_lt hlt1)
              rw [ei] at h7
              simp only [lcM, if_pos hok1] at h7
              exact .inl ⟨q4' j (Nat.le_of_not_lt hlt1), hlt, ρ7, st7, g37, h7⟩
          · exfalso
            cases hd : src1.items.drop j with
            | nil => rw [hd] at h7; simp only [lcM, if_neg hok1] at h7; exact h7
            | cons d ds => rw [hd] at h7; simp only [lcM, if_neg hok1] at h7; exact h7
    · have ei : src.items.drop i = [] := List.drop_eq_nil_of_le (Nat.le_of_not_lt hlt)
      rw [ei] at h2
      simp only [lcM2, if_pos hok] at h2
      exact .inl ⟨q2 i (Nat.le_of_not_lt hlt), h2 ρ2 H' (.ref D) (.refl g2.sim) (rD g2)⟩
  · exfalso
    cases hd : src.items.drop i with
    | nil => rw [hd] at h2; simp only [lcM2, if_neg hok] at h2; exact h2
    | cons d ds => rw [hd] at h2; simp only [lcM2, if_neg hok] at h2; exact h2
theorem me_lc2 {X : Cx} {E : XK} {pos : Pos} {elt tg iter tg1 iter1 : Expr} {ifs ifs1 : List Expr} {scope : Scope} (own : List (Str × Nat)) (vs1 : List Nat) {fi fi1 : Ev Src} {g g1 : Tg} {c c1 : Ev Bool} {f : Ev D} (hc : X.calm = true) (hN : X.N.Nodup) (hi : MI X E tg iter fi) (ok : BlkOk X.N X.env.scope scope own) (hv : ∀ i ∈ vs1, i ∈ own.map (·.2))
    (hg : ∀ (s : Shared) (H : Hp) (C : Addr) (cl : List (Str × Addr)) (fp : List Addr), MGW (X.blk s H scope (compEnvC scope cl C X.env) fp) E0 (own.map (·.2)) tg g) (ht : ∀ (s : Shared) (H : Hp) (C : Addr) (cl : List (Str × Addr)) (fp : List Addr), MTs (X.blk s H scope (compEnvC scope cl C X.env) fp) E0 ifs c)
    (hi1 : ∀ (s : Shared) (H : Hp) (C : Addr) (cl : List (Str × Addr)) (fp : List Addr), MI (X.blk s H scope (compEnvC scope cl C X.env) fp) E0 tg1 iter1 fi1)
    (hg1 : ∀ (s : Shared) (H : Hp) (C : Addr) (cl : List (Str × Addr)) (fp : List Addr), MGW (X.blk s H scope (compEnvC scope cl C X.env) fp) E0 vs1 tg1 g1) (ht1 : ∀ (s : Shared) (H : Hp) (C : Addr) (cl : List (Str × Addr)) (fp : List Addr), MTs (X.blk s H scope (compEnvC scope cl C X.env) fp) E0 ifs1 c1)
    (he : ∀ (s : Shared) (H : Hp) (C : Addr) (cl : List (Str × Addr)) (fp : List Addr), ME (X.blk s H scope (compEnvC scope cl C X.env) fp) E0 elt f) (hs : ∀ x, foldedSetIterable iter X.env x = pure x := by intro _; rfl) (hs1 : ∀ env x, foldedSetIterable iter1 env x = pure x := by intro _ _; rfl) :
    ME X E (.ListComp elt [⟨tg, iter, ifs, 0⟩, ⟨tg1, iter1, ifs1, 0⟩] scope pos) (eLc2 fi (own.map (·.2)) g c fi1 vs1 g1 c1 f) := by
  obtain ⟨ti, pi, ri⟩ := hi
  exact ⟨_, pe_lc2 (g := tOfG X.K X.mg E0 (own.map (·.2)) g) (tt := tOf X.K X.mg (REq Bool) E0 c) (wi1 := tOf X.K X.mg (RIt X.K X.mg) E0 fi1) (g1 := tOfG X.K X.mg E0 vs1 g1) (tt1 := tOf X.K X.mg (REq Bool) E0 c1) (te := tOf X.K X.mg (Rep X.K X.mg) E0 f) hc hN pi ok hv (fun s H C cl fp => (hg s H C cl fp).canon) (fun s H C cl fp => (ht s H C cl fp).canon)
      (fun s H C cl fp => (hi1 s H C cl fp).canon) (fun s H C cl fp => (hg1 s H C cl fp).canon) (fun s H C cl fp => (ht1 s H C cl fp).canon) (fun s H C cl fp => (he s H C cl fp).canon) hs hs1,
    real_lc2 ri (fun ρ env st σ H v d Q s e r h => ⟨ρ, env, st, d, s, e, r, h⟩) real_tOf real_tOf (fun ρ env st σ H v d Q s e r h => ⟨ρ, env, st, d, s, e, r, h⟩) real_tOf real_tOf⟩
theorem ms_setLc2 {X : Cx} {E : XK} (i : Nat) {y : Str} {py pos spos : Pos} {elt tg iter tg1 iter1 : Expr} {ifs ifs1 : List Expr} {scope : Scope} (own : List (Str × Nat)) (vs1 : List Nat) {fi fi1 : Ev Src} {g g1 : Tg} {c c1 : Ev Bool} {f : Ev D} (hc : X.calm = true) (hN : X.N.Nodup)
    (hsw : swapsWith (.ListComp elt [⟨tg, iter, ifs, 0⟩, ⟨tg1, iter1, ifs1, 0⟩] scope pos) (some (.Name y py)) spos.line X.env = pure true) (hi : MI X E tg iter fi) (ok : BlkOk X.N X.env.scope scope own) (hv : ∀ i ∈ vs1, i ∈ own.map (·.2))
    (hg : ∀ (s : Shared) (H : Hp) (C : Addr) (cl : List (Str × Addr)) (fp : List Addr), MGW (X.blk s H scope (compEnvC scope cl C X.env) fp) E0 (own.map (·.2)) tg g) (ht : ∀ (s : Shared) (H : Hp) (C : Addr) (cl : List (Str × Addr)) (fp : List Addr), MTs (X.blk s H scope (compEnvC scope cl C X.env) fp) E0 ifs c)
    (hi1 : ∀ (s : Shared) (H : Hp) (C : Addr) (cl : List (Str × Addr)) (fp : List Addr), MI (X.blk s H scope (compEnvC scope cl C X.env) fp) E0 tg1 iter1 fi1)
    (hg1 : ∀ (s : Shared) (H : Hp) (C : Addr) (cl : List (Str × Addr)) (fp : List Addr), MGW (X.blk s H scope (compEnvC scope cl C X.env) fp) E0 vs1 tg1 g1) (ht1 : ∀ (s : Shared) (H : Hp) (C : Addr) (cl : List (Str × Addr)) (fp : List Addr), MTs (X.blk s H scope (compEnvC scope cl C X.env) fp) E0 ifs1 c1)
    (he : ∀ (s : Shared) (H : Hp) (C : Addr) (cl : List (Str × Addr)) (fp : List Addr), ME (X.blk s H scope (compEnvC scope cl C X.env) fp) E0 elt f) (hy : X.N[i]? = some y := by rfl) (hyl : X.env.scope.names.lookup y = some .local := by rfl) (hs : ∀ x, foldedSetIterable iter X.env x = pure x := by intro _; rfl) (hs1 : ∀ env x, foldedSetIterable iter1 env x = pure x := by intro _ _; rfl) :
    MS X E (.Assign [.Name y py] (.ListComp elt [⟨tg, iter, ifs, 0⟩, ⟨tg1, iter1, ifs1, 0⟩] scope pos) spos) (sAsg (eLc2 fi (own.map (·.2)) g c fi1 vs1 g1 c1 f) (gN i)) := by
  obtain ⟨ti, pi, ri⟩ := hi
  exact ⟨_, ps_setLc2 (g := tOfG X.K X.mg E0 (own.map (·.2)) g) (tt := tOf X.K X.mg (REq Bool) E0 c) (wi1 := tOf X.K X.mg (RIt X.K X.mg) E0 fi1) (g1 := tOfG X.K X.mg E0 vs1 g1) (tt1 := tOf X.K X.mg (REq Bool) E0 c1) (te := tOf X.K X.mg (Rep X.K X.mg) E0 f) hc hN hy hyl hsw pi ok hv (fun s H C cl fp => (hg s H C cl fp).canon) (fun s H C cl fp => (ht s H C cl fp).canon)
      (fun s H C cl fp => (hi1 s H C cl fp).canon) (fun s H C cl fp => (hg1 s H C cl fp).canon) (fun s H C cl fp => (ht1 s H C cl fp).canon) (fun s H C cl fp => (he s H C cl fp).canon) hs hs1,
    real_asg (real_lc2 ri (fun ρ env st σ H v d Q s e r h => ⟨ρ, env, st, d, s, e, r, h⟩) real_tOf real_tOf (fun ρ env st σ H v d Q s e r h => ⟨ρ, env, st, d, s, e, r, h⟩) real_tOf real_tOf) fun ρ env st σ H v d Q s e r h => h.done s (envR_set e r i)⟩
/-! a, b = x, y -/
def sPar (i j : Nat) (f : Ev (List D)) : Env → Store → SR := fun env st => bindS env (f env st) fun ds st1 => match ds with
  | [x, y] => .next ((env.set i (some x)).set j (some y)) st1
  | _ => .bad
theorem ms_par {X : Cx} {E : XK} {pos : Pos} {i j : Nat} {x y : Str} {a b : Expr} {f : Ev (List D)} {px py pt : Pos} {kt k2 pt2} (hc : X.calm = true) (hN : X.N.Nodup) (hij : i ≠ j) (ha : MA X E [a, b] f) (hi : X.N[i]? = some x := by rfl) (hj : X.N[j]? = some y := by rfl)
    (hx : X.env.scope.names.lookup x = some .local := by rfl) (hy : X.env.scope.names.lookup y = some .local := by rfl)
    (hw : swappedStores [.Tuple [.Name x px, .Name y py] kt pt] (.Tuple [a, b] k2 pt2) X.env = pure (some [x, y]) := by rfl) (hs : swapsWithSole [.Tuple [.Name x px, .Name y py] kt pt] (.Tuple [a, b] k2 pt2) pos.line X.env = pure false := by rfl) : MS X E (.Assign [.Tuple [.Name x px, .Name y py] kt pt] (.Tuple [a, b] k2 pt2) pos) (sPar i j f) := by
  obtain ⟨t, p, r⟩ := ha
  refine ⟨_, ps_par hc hN hi hj hij hx hy p hw hs, fun ρ env st σ H Dn s e h => ?_⟩
  refine r ρ env st σ H _ s e (h.split fun ds st1 ρ1 H1 vs g1 rd h1 => ?_)
  match ds, vs, rd with
  | [], _, .nil => exact h1.elim
  | [_], _, .cons _ .nil => exact h1.elim
  | [d1, d2], _, .cons r1 (.cons r2 .nil) =>
    exact ⟨_, _, rfl, h1 ρ1 _ H1 (.refl g1.sim) (envR_set (envR_set (e.mono g1.pre g1.ext) r1 i) r2 j)⟩
  | _ :: _ :: _ :: _, _, .cons _ (.cons _ (.cons _ _)) => exact h1.elim
theorem par_def (i j : Nat) (f : Ev (List D)) (env : Env) (st : Store) : sPar i j f env st = bindS env (f env st) fun ds st1 => match ds with
  | [x, y] => .next ((env.set i (some x)).set j (some y)) st1
  | _ => .bad := rfl
/-! the walk's rows -/
theorem lc2_def (fi : Ev Src) (vs : List Nat) (g : Tg) (c : Ev Bool) (fi1 : Ev Src) (vs1 : List Nat) (g1 : Tg) (c1 : Ev Bool) (f : Ev D) (env : Env) (st : Store) : eLc2 fi vs g c fi1 vs1 g1 c1 f env st = bindR (fi env st) fun s st1 => bindX (lcM2 s g c fi1 vs1 g1 c1 f st1.length (wipeD env vs) s.items (st1 ++ [.lst []])) fun _ st2 => .ok (.ref st1.length) st2 := rfl
theorem enum_def (f : Ev (List D)) (env : Env) (st : Store) : fEnum f env st = bindR (f env st) fun ds st1 => match ds with
  | [.tup xs] => .ok { items := enD 0 xs } st1
  | _ => .bad := rfl
end
end MP

/-! instances: a field read, a field stored, a method called, an instance made; dicts with numbers or texts as keys -/
namespace MP
open PySem PySem.Spec PyProof.Rows L2
/-- the value at a name -/
def getA : List (Str × D) → Str → Option D
  | [], _ => none
  | (g, x) :: r, f => if f = g then some x else getA r f
def putA (f : Str) (d : D) : List (Str × D) → List (Str × D)
  | [] => [(f, d)]
  | (g, x) :: r => if g = f then (g, d) :: r else (g, x) :: putA f d r
def kyD : D → Option Key
  | .int i => some (.inl i)
  | .str x => some (.inr x)
  | _ => none
def valA (kvs : List (Key × D)) (k : Key) : Option D := (kvs.find? fun kv => decide (kv.1 = k)).map (·.2)
def putKD (kvs : List (Key × D)) (k : Key) (d : D) : List (Key × D) :=
  if (kvs.any fun kv => decide (kv.1 = k)) = true then kvs.map (fun kv => if kv.1 = k then (kv.1, d) else kv) else kvs ++ [(k, d)]
section
variable {K : PySem.W.Frag} {mg : Str → Option Value} {ρ : List Addr} {H : Hp}
abbrev PF (K : PySem.W.Frag) (mg : Str → Option Value) (ρ : List Addr) (H : Hp) (α : Type) := fun (p : α × D) (q : α × V) => p.1 = q.1 ∧ Rep K mg ρ H p.2 q.2
theorem paired_look {f : Str} : ∀ {fs : List (Str × D)} {ws : List (Str × V)}, Paired (PF K mg ρ H Str) fs ws →
    (∀ d, getA fs f = some d → ∃ v, ws.lookup f = some v ∧ Rep K mg ρ H d v) ∧ (getA fs f = none → ws.lookup f = none)
  | _, _, .nil => ⟨(fun d h => by cases h), fun _ => rfl⟩
  | (g, x) :: fs, (g', y) :: ws, .cons r t => by
    obtain ⟨e, r⟩ := r
    simp only at e r
    subst e
    obtain ⟨i1, i2⟩ := paired_look (f := f) t
    by_cases h : f = g
    · refine ⟨fun d q => ?_, fun q => ?_⟩
      · simp only [getA, if_pos h] at q
        cases q
        exact ⟨y, by rw [List.lookup_cons, beq_iff_eq.mpr h], r⟩
      · simp only [getA, if_pos h] at q
        cases q
    · have hb : (f == g) = false := beq_eq_false_iff_ne.mpr h
      refine ⟨fun d q => ?_, fun q => ?_⟩
      · simp only [getA, if_neg h] at q
        obtain ⟨v, e, r⟩ := i1 d q
        exact ⟨v, by rw [List.lookup_cons, hb]; exact e, r⟩
      · simp only [getA, if_neg h] at q
        rw [List.lookup_cons, hb]
        exact i2 q
theorem paired_put {f : Str} {d : D} {v : V} (r : Rep K mg ρ H d v) : ∀ {fs : List (Str × D)} {ws : List (Str × V)}, Paired (PF K mg ρ H Str) fs ws → Paired (PF K mg ρ H Str) (putA f d fs) (putF f v ws)
  | _, _, .nil => .cons ⟨rfl, r⟩ .nil
  | (g, x) :: fs, (g', y) :: ws, .cons q t => by
    have e : g = g' := q.1
    subst e
    unfold putA putF
    by_cases h : g = f
    · rw [if_pos h, if_pos h]
      exact .cons ⟨rfl, r⟩ t
    · rw [if_neg h, if_neg h]
      exact .cons q (paired_put r t)
end
/-- o.f, o an instance of the class -/
def eFld (cn f : Str) (fo : Ev D) : Ev D := fun env st => bindR (fo env st) fun o st1 => match o with
  | .ref n => match st1[n]? with
    | some (.ins c fs) => if c = cn then match getA fs f with
        | some d => .ok d st1
        | none => .bad
      else .bad
    | _ => .bad
  | _ => .bad
/-- o.f = e -/
def sFldPut (cn f : Str) (fo fv : Ev D) : Env → Store → SR := fun env st => bindS env (fv env st) fun d st1 => bindS env (fo env st1) fun o st2 => match o with
  | .ref n => match st2[n]? with
    | some (.ins c fs) => if c = cn ∧ fs.length < 1000 then .next env (st2.set n (.ins c (putA f d fs))) else .bad
    | _ => .bad
  | _ => .bad
/-- what the walk asks of a class: its name, its fields -/
structure ClsK (K : PySem.W.Frag) (mg : Str → Option Value) (cn f : Str) : Prop where
  ex : ∃ C, mg cn = some (.ref C) ∧ Cls K C ∧ NoAttr K C f
section
variable [TBs] {X : Cx} {E : XK} {pos pos' : Pos} {o value : Expr} {fo fv : Ev D} {cn f : Str}
theorem me_fld (T : ClsK X.K X.mg cn f) (ho : ME X E o fo) (hb : attributeBase o f X.env (eval o X.env) = eval o X.env := by rfl) : ME X E (.Attribute o f pos) (eFld cn f fo) := by
  obtain ⟨C, mC, cl, na⟩ := T
  obtain ⟨t1, p1, r1⟩ := ho
  refine ⟨_, pe_fld p1 hb, fun ρ env st σ H Q s e h => ?_⟩
  refine r1 ρ env st σ H _ s e (h.split fun x st1 ρ1 H1 v g1 q1 h1 => ?_)
  cases x with
  | ref n =>
    simp only at h1
    cases e1 : st1[n]? with
    | none => simp only [e1] at h1; exact h1.elim
    | some ob =>
      obtain ⟨a, ho, z, w, u, q⟩ := g1.sim.get e1 q1
      subst z
      cases q with
      | @ins c C' dx fs ws m pr =>
        simp only [e1] at h1
        by_cases hc : c = cn
        · rw [if_pos hc] at h1
          subst hc
          rw [mC] at m
          cases m
          cases e2 : getA fs f with
          | none => simp only [e2] at h1; exact h1.elim
          | some d =>
            simp only [e2] at h1
            obtain ⟨y, ey, ry⟩ := (paired_look pr).1 d e2
            exact ⟨a, _, dx, ws, y, rfl, u, cl, na, ey, h1.done g1.sim ry⟩
        · rw [if_neg hc] at h1
          exact h1.elim
      | _ => simp only [e1] at h1; exact h1.elim
  | _ => exact h1.elim
theorem ms_fldput (T : ClsK X.K X.mg cn f) (ho : ME X E o fo) (hv : ME X E value fv) (hs : swapsWith value (some (.Attribute o f pos')) pos.line X.env = pure false := by rfl) : MS X E (.Assign [.Attribute o f pos'] value pos) (sFldPut cn f fo fv) := by
  obtain ⟨C, mC, cl, na⟩ := T
  obtain ⟨t1, p1, r1⟩ := ho
  obtain ⟨t2, p2, r2⟩ := hv
  refine ⟨_, ps_fld p1 p2 hs, fun ρ env st σ H Dn s e h => ?_⟩
  refine r2 ρ env st σ H _ s e (h.split fun d st1 ρ1 H1 y g1 q1 h1 => r1 ρ1 env st1 σ H1 _ g1.sim (e.mono g1.pre g1.ext) (h1.split fun x st2 ρ2 H2 v g2 q2 h2 => ?_))
  have qd := q1.mono g2.pre g2.ext
  have g := g1.trans g2
  cases x with
  | ref n =>
    simp only at h2
    cases e1 : st2[n]? with
    | none => simp only [e1] at h2; exact h2.elim
    | some ob =>
      obtain ⟨a, ho, z, w, u, q⟩ := g2.sim.get e1 q2
      subst z
      cases q with
      | @ins c C' dx fs ws m pr =>
        simp only [e1] at h2
        by_cases hc : c = cn ∧ fs.length < 1000
        · rw [if_pos hc] at h2
          obtain ⟨hc, hl⟩ := hc
          subst hc
          have m0 := m
          rw [mC] at m
          cases m
          have g3 := Go.set (o' := .ins c (putA f d fs)) (u' := .ins C dx (putF f y ws)) g2.sim e1 w u (.ins m0 pr) (.ins m0 (paired_put qd pr))
          exact ⟨a, _, dx, ws, rfl, u, cl, na, by rw [← paired_len pr]; exact hl, h2 _ _ _ g3 ((e.mono g.pre g.ext).mono g3.pre g3.ext)⟩
        · rw [if_neg hc] at h2
          exact h2.elim
      | _ => simp only [e1] at h2; exact h2.elim
  | _ => exact h2.elim
end
/-! ### methods -/
/-- what a caller knows of a method: n counts its parameters, self among them -/
structure MtK (P : Program) (w : World) (K : PySem.W.Frag) (mg : Str → Option Value) (base : Heap) [TBs] (k : Nat) (cn m : Str) (n : Nat) (g : List D → Store → Res D) : Prop where
  ex : ∃ (C f : Addr) (fd : FuncData) (ps : List Str), mg cn = some (.ref C) ∧ Cls K C ∧ Meth K C m f ∧ FnOk P w K mg base CX0 k f fd ps (spM K mg n g) ∧ Binds K fd ps []
/-- o.m(..), o an instance of the class -/
def eMeth (cn m : Str) (n : Nat) (g : List D → Store → Res D) (fo : Ev D) (fa : Ev (List D)) : Ev D := fun env st => bindR (fo env st) fun o st1 => match o with
  | .ref i => match st1[i]? with
    | some (.ins c fs) => if c = cn ∧ getA fs m = none then bindR (fa env st1) fun ds st2 => if ds.length + 1 = n then g (.ref i :: ds) st2 else .bad else .bad
    | _ => .bad
  | _ => .bad
/-- an instance is made: its __init__ gives nothing back -/
def eMake (cn : Str) (n : Nat) (g : List D → Store → Res D) (fa : Ev (List D)) : Ev D := fun env st => bindR (fa env st) fun ds st1 => if ds.length + 1 = n then bindR (g (.ref st1.length :: ds) (st1 ++ [.ins cn []])) fun d st2 => match d with
  | .non => .ok (.ref st1.length) st2
  | _ => .bad else .bad
structure MkK (P : Program) (w : World) (K : PySem.W.Frag) (mg : Str → Option Value) (base : Heap) [TBs] (k : Nat) (cn : Str) (n : Nat) (g : List D → Store → Res D) : Prop where
  ex : ∃ (C f : Addr) (fd : FuncData) (ps : List Str), mg cn = some (.ref C) ∧ Mk K C f ∧ FnOk P w K mg base CX0 k f fd ps (spM K mg n g) ∧ Binds K fd ps []
section
variable [TBs] {X : Cx} {E : XK} {pos p apos : Pos} {o e : Expr} {es : List Expr} {fo : Ev D} {fa : Ev (List D)} {cn m : Str} {k j n : Nat} {g : List D → Store → Res D}
theorem real_meth {C : Addr} {ta : TE} {t : TA} (mC : X.mg cn = some (.ref C)) (r1 : Real X.K X.mg (Rep X.K X.mg) E ta fo) (r2 : Real X.K X.mg (Reps X.K X.mg) E t fa) :
    Real X.K X.mg (Rep X.K X.mg) E (tMeth C m (spM X.K X.mg n g) [] E ta t) (eMeth cn m n g fo fa) := by
  intro ρ env st σ H Q s e h
  refine r1 ρ env st σ H _ s e (h.split fun x st1 ρ1 H1 v g1 q1 h1 => ?_)
  cases x with
  | ref i =>
    simp only at h1
    cases e1 : st1[i]? with
    | none => simp only [e1] at h1; exact h1.elim
    | some ob =>
      obtain ⟨a, ho, z, w, u, q⟩ := g1.sim.get e1 q1
      subst z
      cases q with
      | @ins c C' dx fs ws mm pr =>
        simp only [e1] at h1
        by_cases hc : c = cn ∧ getA fs m = none
        · rw [if_pos hc] at h1
          obtain ⟨hc, hn⟩ := hc
          subst hc
          rw [mC] at mm
          cases mm
          refine ⟨a, dx, ws, rfl, u, (paired_look pr).2 hn, ?_⟩
          refine r2 ρ1 env st1 σ H1 _ g1.sim (e.mono g1.pre g1.ext) (h1.split fun ds st2 ρ2 H2 vs g2 rd h2 => ?_)
          by_cases hl : ds.length + 1 = n
          · rw [if_pos hl] at h2
            show spM X.K X.mg n g (.ref a :: (vs ++ [])) H2 Q E
            rw [List.append_nil]
            exact ⟨by rw [List.length_cons, ← rd.length]; exact hl, ρ2, st2, .ref i :: ds, g2.sim, .cons (q1.mono g2.pre g2.ext) rd, h2⟩
          · rw [if_neg hl] at h2
            exact h2.elim
        · rw [if_neg hc] at h1
          exact h1.elim
      | _ => simp only [e1] at h1; exact h1.elim
  | _ => exact h1.elim
theorem me_meth {pl : Sem Bool} (T : MtK X.prog X.w X.K X.mg X.base k cn m n g) (hr : Room j X.A) (ho : ME X E o fo) (ha : MA X E (e :: es) fa) (hk : k ≤ j := by decide) (hx : Passes CX0 X E := by exact pass0)
    (hst : starEach (e :: es) X.env = (false, eval e X.env) :: starEach es X.env := by rfl) (hpl : (backTo pos (starEach es X.env)).any (·.1) = false := by rfl)
    (ht : eval (.Call (.Attribute o m apos) (e :: es) [] pos) X.env = (do
      let ov ← eval o X.env
      standAt apos.atName
      let (f, first) ← holding [ov] (getMethod ov m pl)
      callWith pos f first (backTo pos (starEach (e :: es) X.env)) (backToKw pos (keywordEach [] X.env))) := by rfl) : ME X E (.Call (.Attribute o m apos) (e :: es) [] pos) (eMeth cn m n g fo fa) := by
  obtain ⟨C, f, fd, ps, mC, cl, hm, F, hb⟩ := T
  obtain ⟨t1, p1, r1⟩ := ho
  obtain ⟨t2, p2, r2⟩ := ha
  exact ⟨_, pe_meth (pl := pl) p1 cl hm F (hr.mono hk) hb .nil hx p2 hst hpl ht, real_meth mC r1 r2⟩
theorem me_meth0 {pl : Sem Bool} (T : MtK X.prog X.w X.K X.mg X.base k cn m n g) (hr : Room j X.A) (ho : ME X E o fo) (hk : k ≤ j := by decide) (hx : Passes CX0 X E := by exact pass0)
    (ht : eval (.Call (.Attribute o m apos) [] [] pos) X.env = (do
      let ov ← eval o X.env
      standAt apos.atName
      let (f, first) ← holding [ov] (getMethod ov m pl)
      callWith pos f first (backTo pos (starEach [] X.env)) (backToKw pos (keywordEach [] X.env))) := by rfl) : ME X E (.Call (.Attribute o m apos) [] [] pos) (eMeth cn m n g fo aNil) := by
  obtain ⟨C, f, fd, ps, mC, cl, hm, F, hb⟩ := T
  obtain ⟨t1, p1, r1⟩ := ho
  exact ⟨_, pe_meth0 (pl := pl) p1 cl hm F (hr.mono hk) hb .nil hx ht, real_meth mC r1 (fun ρ env st σ H Q s e h => h.done s .nil)⟩
theorem real_make {C : Addr} {t : TA} (mC : X.mg cn = some (.ref C)) (r2 : Real X.K X.mg (Reps X.K X.mg) E t fa) :
    Real X.K X.mg (Rep X.K X.mg) E (tMake C (spM X.K X.mg n g) [] E t) (eMake cn n g fa) := by
  intro ρ env st σ H Q s e h
  refine r2 ρ env st σ H _ s e (h.split fun ds st1 ρ1 H1 vs g1 rd h1 => ?_)
  intro x dx nx ndx nex
  by_cases hl : ds.length + 1 = n
  · rw [if_pos hl] at h1
    have s1 : Sim X.K X.mg ρ1 st1 (upd H1 dx (.own x)) := g1.sim.fresh ndx
    have g2 : Go X.K X.mg ρ1 H1 ρ1 st1 (upd H1 dx (.own x)) := Go.fresh g1.sim ndx
    have nx2 : (upd H1 dx (.own x)) x = none := by rw [upd_ne nex.symm]; exact nx
    have g3 := Go.new (o := .ins cn []) (u := .ins C dx []) s1 nx2 (.ins mC .nil)
    have g23 := g2.trans g3
    have rx : Rep X.K X.mg (ρ1 ++ [x]) (upd (upd H1 dx (.own x)) x (.ins C dx [])) (.ref st1.length) (.ref x) := .ref (by rw [← g1.sim.len]; simp)
    show spM X.K X.mg n g (.ref x :: (vs ++ [])) _ _ E
    rw [List.append_nil]
    refine ⟨by rw [List.length_cons, ← rd.length]; exact hl, _, _, .ref st1.length :: ds, g23.sim, .cons rx (rd.mono g23.pre g23.ext), ?_⟩
    have h2 := Post.from g23 h1
    refine h2.split fun d st2 ρ2 H2 v g4 q4 h4 => ?_
    cases d with
    | non =>
      cases q4
      exact ⟨rfl, h4.done g4.sim (rx.mono g4.pre g4.ext)⟩
    | _ => exact h4.elim
  · rw [if_neg hl] at h1
    exact h1.elim
theorem me_make {x : Str} (T : MkK X.prog X.w X.K X.mg X.base k x n g) (hr : Room j X.A) (ha : MA X E (e :: es) fa) (hk : k + 1 ≤ j := by decide) (hg : Gl X x := by rfl) (hx : Passes CX0 X E := by exact pass0)
    (hdb : (x == ("__debug__" : Str)) = false := by decide) (he : starEach (e :: es) X.env = (false, eval e X.env) :: starEach es X.env := by rfl) (hpl : (backTo pos (starEach es X.env)).any (·.1) = false := by rfl) : ME X E (.Call (.Name x p) (e :: es) [] pos) (eMake x n g fa) := by
  obtain ⟨C, f, fd, ps, mC, M, F, hb⟩ := T
  obtain ⟨t2, p2, r2⟩ := ha
  exact ⟨_, pe_make M F (hr.mono hk) hg mC hb .nil hx p2 hdb he hpl, real_make mC r2⟩
end
/-! ### dicts with numbers and texts as keys -/
section
variable {K : PySem.W.Frag} {mg : Str → Option Value} {ρ : List Addr} {H : Hp}
theorem paired_val {k : Key} : ∀ {fs : List (Key × D)} {ws : List (Key × V)}, Paired (PF K mg ρ H Key) fs ws →
    (∀ d, valA fs k = some d → ∃ v, valV ws k = some v ∧ Rep K mg ρ H d v) ∧ (valA fs k = none → valV ws k = none)
  | _, _, .nil => ⟨(fun d h => by cases h), fun _ => rfl⟩
  | (g, x) :: fs, (g', y) :: ws, .cons r t => by
    obtain ⟨e, r⟩ := r
    simp only at e r
    subst e
    obtain ⟨i1, i2⟩ := paired_val (k := k) t
    unfold valA valV at *
    by_cases h : g = k
    · rw [List.find?_cons_of_pos (by simp [h]), List.find?_cons_of_pos (by simp [h])]
      exact ⟨fun d q => by cases q; exact ⟨y, rfl, r⟩, fun q => by cases q⟩
    · rw [List.find?_cons_of_neg (by simp [h]), List.find?_cons_of_neg (by simp [h])]
      exact ⟨i1, i2⟩
theorem paired_any {k : Key} : ∀ {fs : List (Key × D)} {ws : List (Key × V)}, Paired (PF K mg ρ H Key) fs ws → (fs.any fun kv => decide (kv.1 = k)) = ws.any fun kv => decide (kv.1 = k)
  | _, _, .nil => rfl
  | (g, x) :: fs, (g', y) :: ws, .cons r t => by
    have e : g = g' := r.1
    subst e
    rw [List.any_cons, List.any_cons, paired_any t]
theorem paired_mapk {k : Key} {d : D} {v : V} (rv : Rep K mg ρ H d v) : ∀ {fs : List (Key × D)} {ws : List (Key × V)}, Paired (PF K mg ρ H Key) fs ws →
    Paired (PF K mg ρ H Key) (fs.map fun kv => if kv.1 = k then (kv.1, d) else kv) (ws.map fun kv => if kv.1 = k then (kv.1, v) else kv)
  | _, _, .nil => .nil
  | (g, x) :: fs, (g', y) :: ws, .cons r t => by
    have e : g = g' := r.1
    subst e
    rw [List.map_cons, List.map_cons]
    refine .cons ?_ (paired_mapk rv t)
    by_cases h : g = k
    · simp only [if_pos h]
      exact ⟨rfl, rv⟩
    · simp only [if_neg h]
      exact r
theorem paired_snoc {α β : Type} {P : α → β → Prop} {x : α} {y : β} (r : P x y) : ∀ {xs : List α} {ys : List β}, Paired P xs ys → Paired P (xs ++ [x]) (ys ++ [y])
  | _, _, .nil => .cons r .nil
  | _, _, .cons q t => .cons q (paired_snoc r t)
theorem paired_putk {k : Key} {d : D} {v : V} (rv : Rep K mg ρ H d v) {fs : List (Key × D)} {ws : List (Key × V)} (h : Paired (PF K mg ρ H Key) fs ws) : Paired (PF K mg ρ H Key) (putKD fs k d) (putK ws k v) := by
  unfold putKD putK
  rw [paired_any h]
  split
  · exact paired_mapk rv h
  · exact paired_snoc ⟨rfl, rv⟩ h
theorem ky_rep {d : D} {v : V} {k : Key} (r : Rep K mg ρ H d v) (h : kyD d = some k) : v = kV k := by
  cases r <;> cases h <;> rfl
end
def eDNew : Ev D := fun _ st => .ok (.ref st.length) (st ++ [.dct []])
/-- what a dict of the store holds -/
def dctAt (o : Option O) : Option (List (Key × D)) := match o with
  | some (.dct kvs) => some kvs
  | _ => none
/-- .. locked or not -/
def dctR (o : Option O) : Option (List (Key × D)) := match o with
  | some (.dct kvs) => some kvs
  | some (.dctL kvs) => some kvs
  | _ => none
def gDGet : G2 := fun o i st => match o, kyD i with
  | .ref n, some k => match dctR st[n]? with
    | some kvs => match valA kvs k with
      | some d => .ok d st
      | none => .bad
    | none => .bad
  | _, _ => .bad
def gDIn (neg : Bool) : G2 := fun i o st => match o, kyD i with
  | .ref n, some k => match dctR st[n]? with
    | some kvs => .ok (.bl ((valA kvs k).isSome ^^ neg)) st
    | none => .bad
  | _, _ => .bad
def sDPutM (fo fi fv : Ev D) : Env → Store → SR := fun env st => bindS env (fv env st) fun d st1 => bindS env (fo env st1) fun o st2 => bindS env (fi env st2) fun i st3 => match o, kyD i with
  | .ref n, some k => match dctAt st3[n]? with
    | some kvs => if kvs.length < sizeLine then .next env (st3.set n (.dct (putKD kvs k d))) else .bad
    | none => .bad
  | _, _ => .bad
theorem dctAt_some {o : Option O} {kvs : List (Key × D)} (h : dctAt o = some kvs) : o = some (.dct kvs) := by
  unfold dctAt at h
  split at h <;> first | (cases h; rfl) | cases h
section
variable [TBs] {X : Cx} {E : XK} {pos pos' : Pos} {o i value : Expr} {fo fi fv : Ev D}
theorem me_dnew : ME X E (.Dict [] [] pos) eDNew := by
  refine ⟨_, pe_dnewK, fun ρ env st σ H Q s e h => ?_⟩
  intro p hp
  have g := Go.new (o := .dct []) (u := .dK []) s hp (.dct .nil)
  exact h _ _ _ g (.ref (by rw [← s.len]; simp))
theorem get_dct {ρ : List Addr} {st : Store} {H : Hp} (s : Sim X.K X.mg ρ st H) {n : Nat} {kvs : List (Key × D)} {v : V} (h : dctAt st[n]? = some kvs) (r : Rep X.K X.mg ρ H (.ref n) v) :
    ∃ a ws, v = .ref a ∧ ρ[n]? = some a ∧ H a = some (.dK ws) ∧ Paired (PF X.K X.mg ρ H Key) kvs ws := by
  obtain ⟨a, ho, z, w, u, q⟩ := s.get (dctAt_some h) r
  cases q with
  | dct pr => exact ⟨a, _, z, w, u, pr⟩
theorem read_dct {ρ : List Addr} {st : Store} {H : Hp} (s : Sim X.K X.mg ρ st H) {n : Nat} {kvs : List (Key × D)} {v : V} (h : dctR st[n]? = some kvs) (r : Rep X.K X.mg ρ H (.ref n) v) :
    ∃ a ws, v = .ref a ∧ ρ[n]? = some a ∧ Rd H a (.dK ws) ∧ Paired (PF X.K X.mg ρ H Key) kvs ws := by
  cases e : st[n]? with
  | none => rw [e] at h; cases h
  | some o =>
    rw [e] at h
    obtain ⟨a, ho, z, w, u, q⟩ := s.get e r
    cases q with
    | dct pr => cases h; exact ⟨a, _, z, w, .inl u, pr⟩
    | dctL pr => cases h; exact ⟨a, _, z, w, .inr ⟨_, u⟩, pr⟩
    | _ => cases h
theorem me_dget (hu : X.A.units + 1 < cLine) (ho : ME X E o fo) (hi : ME X E i fi) (hs : NoSl i) : ME X E (.Subscript o i pos) (eBin gDGet fo fi) := by
  obtain ⟨t1, p1, r1⟩ := ho
  obtain ⟨t2, p2, r2⟩ := hi
  refine ⟨_, pe_dget hu p1 p2 hs, fun ρ env st σ H Q s e h => ?_⟩
  refine r1 ρ env st σ H _ s e (h.split fun x st1 ρ1 H1 v g1 q1 h1 => r2 ρ1 env st1 σ H1 _ g1.sim (e.mono g1.pre g1.ext) (h1.split fun y st2 ρ2 H2 yv g2 q2 h2 => ?_))
  have q1 := q1.mono g2.pre g2.ext
  unfold gDGet at h2
  cases hk : kyD y with
  | none => simp only [hk] at h2; cases x <;> exact h2.elim
  | some k =>
    simp only [hk] at h2
    cases x with
    | ref n =>
      simp only at h2
      cases e1 : dctR st2[n]? with
      | none => simp only [e1] at h2; exact h2.elim
      | some kvs =>
        simp only [e1] at h2
        obtain ⟨a, ws, z, w, u, pr⟩ := read_dct g2.sim e1 q1
        cases e2 : valA kvs k with
        | none => simp only [e2] at h2; exact h2.elim
        | some d =>
          simp only [e2] at h2
          obtain ⟨v', ev, rv⟩ := (paired_val pr).1 d e2
          rw [ky_rep q2 hk, z]
          exact ⟨a, v', rfl, by rw [← ev]; exact .inl ⟨_, _, u, rfl, rfl⟩, h2.done g2.sim rv⟩
    | _ => exact h2.elim
theorem real_din {neg : Bool} {ti to_ : TE} (r2 : Real X.K X.mg (Rep X.K X.mg) E ti fi) (r1 : Real X.K X.mg (Rep X.K X.mg) E to_ fo) :
    Real X.K X.mg (Rep X.K X.mg) E (fun σ H Q => ti σ H fun y H1 => to_ σ H1 fun x H2 => ∃ a o, x = .ref a ∧ DGet H2 a y o ∧ Q (.bl (o.isSome ^^ neg)) H2) (eBin (gDIn neg) fi fo) := by
  intro ρ env st σ H Q s e h
  refine r2 ρ env st σ H _ s e (h.split fun y st1 ρ1 H1 yv g1 q2 h1 => r1 ρ1 env st1 σ H1 _ g1.sim (e.mono g1.pre g1.ext) (h1.split fun x st2 ρ2 H2 v g2 q1 h2 => ?_))
  have q2 := q2.mono g2.pre g2.ext
  unfold gDIn at h2
  cases hk : kyD y with
  | none => simp only [hk] at h2; cases x <;> exact h2.elim
  | some k =>
    simp only [hk] at h2
    cases x with
    | ref n =>
      simp only at h2
      cases e1 : dctR st2[n]? with
      | none => simp only [e1] at h2; exact h2.elim
      | some kvs =>
        simp only [e1] at h2
        obtain ⟨a, ws, z, w, u, pr⟩ := read_dct g2.sim e1 q1
        have ex : (valA kvs k).isSome = (valV ws k).isSome := by
          cases e2 : valA kvs k with
          | none => rw [(paired_val pr).2 e2]; rfl
          | some d => obtain ⟨v', ev, _⟩ := (paired_val pr).1 d e2; rw [ev]; rfl
        rw [ky_rep q2 hk, z]
        refine ⟨a, _, rfl, (.inl ⟨_, _, u, rfl, rfl⟩), ?_⟩
        rw [← ex]
        exact h2.done g2.sim (.bl _)
    | _ => exact h2.elim
theorem me_din (hu : X.A.units + 1 < cLine) (hi : ME X E i fi) (ho : ME X E o fo) (h1 : behindInMarks .In o = false := by rfl) : ME X E (.Compare i [.In] [o] pos) (eBin (gDIn false) fi fo) := by
  obtain ⟨t1, p1, r1⟩ := ho
  obtain ⟨t2, p2, r2⟩ := hi
  refine ⟨_, pe_cmp (pc_din hu p2 p1) h1, fun ρ env st σ H Q s e h => ?_⟩
  have := real_din (neg := false) r2 r1 ρ env st σ H Q s e h
  simp only [Bool.xor_false] at this
  exact this
theorem me_dnotin (hu : X.A.units + 1 < cLine) (hi : ME X E i fi) (ho : ME X E o fo) (h1 : behindInMarks .NotIn o = false := by rfl) : ME X E (.Compare i [.NotIn] [o] pos) (eBin (gDIn true) fi fo) := by
  obtain ⟨t1, p1, r1⟩ := ho
  obtain ⟨t2, p2, r2⟩ := hi
  refine ⟨_, pe_cmp (pc_dnotin hu p2 p1) h1, fun ρ env st σ H Q s e h => ?_⟩
  have := real_din (neg := true) r2 r1 ρ env st σ H Q s e h
  simp only [Bool.xor_true] at this
  exact this
theorem ms_dput (hu : X.A.units + 1 < cLine) (ho : ME X E o fo) (hi : ME X E i fi) (hv : ME X E value fv) (hs : swapsWith value (some (.Subscript o i pos')) pos.line X.env = pure false := by rfl) : MS X E (.Assign [.Subscript o i pos'] value pos) (sDPutM fo fi fv) := by
  obtain ⟨t1, p1, r1⟩ := ho
  obtain ⟨t2, p2, r2⟩ := hi
  obtain ⟨t3, p3, r3⟩ := hv
  refine ⟨_, ps_dput hu p1 p2 p3 hs, fun ρ env st σ H Dn s e h => ?_⟩
  refine r3 ρ env st σ H _ s e (h.split fun d st1 ρ1 H1 v g1 q1 h1 => r1 ρ1 env st1 σ H1 _ g1.sim (e.mono g1.pre g1.ext) (h1.split fun x st2 ρ2 H2 xv g2 q2 h2 => r2 ρ2 env st2 σ H2 _ g2.sim ((e.mono g1.pre g1.ext).mono g2.pre g2.ext) (h2.split fun y st3 ρ3 H3 yv g3 q3 h3 => ?_)))
  have g := (g1.trans g2).trans g3
  have qx := q2.mono g3.pre g3.ext
  have qd := (q1.mono g2.pre g2.ext).mono g3.pre g3.ext
  cases hk : kyD y with
  | none => simp only [hk] at h3; cases x <;> exact h3.elim
  | some k =>
    simp only [hk] at h3
    cases x with
    | ref n =>
      simp only at h3
      cases e1 : dctAt st3[n]? with
      | none => simp only [e1] at h3; exact h3.elim
      | some kvs =>
        simp only [e1] at h3
        obtain ⟨a, ws, z, w, u, pr⟩ := get_dct g3.sim e1 qx
        by_cases hl : kvs.length < sizeLine
        · rw [if_pos hl] at h3
          have g4 := Go.set (o' := .dct (putKD kvs k d)) (u' := .dK (putK ws k v)) g3.sim (dctAt_some e1) w u (.dct pr) (.dct (paired_putk qd pr))
          rw [ky_rep q3 hk, z]
          exact ⟨a, _, rfl, DPut.k u (by rw [← paired_len pr]; exact hl), h3 _ _ _ g4 ((e.mono g.pre g.ext).mono g4.pre g4.ext)⟩
        · rw [if_neg hl] at h3
          exact h3.elim
    | _ => exact h3.elim
end
end MP

/-! chains of three comparisons; texts: their order, a sign, a walk -/
namespace MP
open PySem PySem.Spec PyProof.Rows L2
/-! ### a op1 b op2 c op3 d -/
def tChn3 (r r' r'' : R2) (ta tb tc td : TE) : TE := fun σ H Q => ta σ H fun x H1 => tb σ H1 fun y H2 => r x y H2 fun z H3 => ∃ k, z = .bl k ∧
  (if k = true then tc σ H3 fun w H4 => r' y w H4 fun z2 H5 => ∃ k2, z2 = .bl k2 ∧ (if k2 = true then td σ H5 fun u H6 => r'' w u H6 Q else Q (.bl false) H5) else Q (.bl false) H3)
def eChn3 (g1 g2 g3 : G2) (fa fb fc fd : Ev D) : Ev D := fun env st => bindR (fa env st) fun x st1 => bindR (fb env st1) fun y st2 => bindR (g1 x y st2) fun z st3 => match z with
  | .bl k => if k = true then bindR (fc env st3) fun w st4 => bindR (g2 y w st4) fun z2 st5 => (match z2 with
      | .bl k2 => if k2 = true then bindR (fd env st5) fun u st6 => g3 w u st6 else .ok (.bl false) st5
      | _ => .bad) else .ok (.bl false) st3
  | _ => .bad
section
variable {X : Cx} {a b c d : Expr} {ta tb tc td : TE} {pos : Pos} {op op' op'' : CmpOp} {r r' r'' : R2}
theorem pe_chn3 (ho : OpR X (compareOp op) r) (ho' : OpR X (compareOp op') r') (ho'' : OpR X (compareOp op'') r'') (ha : PE X a ta) (hb : PE X b tb) (hc : PE X c tc) (hd : PE X d td)
    (hm : lastMarks [op, op', op''] [b, c, d] = false) : PE X (.Compare a [op, op', op''] [b, c, d] pos) (tChn3 r r' r'' ta tb tc td) := by
  refine ⟨fun pins s σ H Q I h => ?_⟩
  refine Compare_chain (thn (ha.run pins s σ H _ I h) fun v s1 ⟨x, H1, I1, r1, q1⟩ => chain_link (thn (hb.run pins s1 σ H1 _ I1 q1) fun u s2 ⟨y, H2, I2, r2, q2⟩ =>
    thn (ho pins s2 σ H2 x y v u _ I2 r1 r2 q2) fun e s3 ⟨z, H3, I3, r3, k, ez, q3⟩ => ?_)) hm
  subst ez
  cases r3
  refine wpAny_truthy_bool ?_
  cases k with
  | false => exact ite_ff ⟨.bl false, H3, I3, rfl, q3⟩
  | true =>
    refine ite_tt (chain_link (thn (hc.run pins s3 σ H3 _ I3 q3) fun w' s4 ⟨z', H4, I4, r4, q4⟩ => thn (ho' pins s4 σ H4 y z' u w' _ I4 r2 r4 q4) fun e2 s5 ⟨z2, H5, I5, r5, k2, ez2, q5⟩ => ?_))
    subst ez2
    cases r5
    refine wpAny_truthy_bool ?_
    cases k2 with
    | false => exact ite_ff ⟨.bl false, H5, I5, rfl, q5⟩
    | true => exact ite_tt (chain_last (thn (hd.run pins s5 σ H5 _ I5 q5) fun w2 s6 ⟨z3, H6, I6, r6, q6⟩ => ho'' pins s6 σ H6 z' z3 w' w2 Q I6 r4 r6 q6))
end
section
variable [TBs] {X : Cx} {E : XK} {pos : Pos} {a b c d : Expr} {fa fb fc fd : Ev D} {g1 g2 g3 : G2}
theorem real_chn3 {K : PySem.W.Frag} {mg : Str → Option Value} {r1 r2 r3 : R2} {ta tb tc td : TE} (ra : Real K mg (Rep K mg) E ta fa) (rb : Real K mg (Rep K mg) E tb fb) (rc : Real K mg (Rep K mg) E tc fc) (rd : Real K mg (Rep K mg) E td fd) (h1 : Real2 K mg E r1 g1) (h2 : Real2 K mg E r2 g2) (h3 : Real2 K mg E r3 g3) :
    Real K mg (Rep K mg) E (tChn3 r1 r2 r3 ta tb tc td) (eChn3 g1 g2 g3 fa fb fc fd) := fun ρ env st σ H Q s e h =>
  ra ρ env st σ H _ s e (h.split fun x st1 ρ1 H1 xv q1 rx k1 => rb ρ1 env st1 σ H1 _ q1.sim (e.mono q1.pre q1.ext) (k1.split fun y st2 ρ2 H2 yv q2 ry k2 =>
    h1 ρ2 st2 H2 _ _ _ _ _ q2.sim (rx.mono q2.pre q2.ext) ry (k2.split fun z st3 ρ3 H3 zv q3 rz k3 => by
      cases z with
      | bl t =>
        cases rz
        refine ⟨t, rfl, ?_⟩
        have g := (q1.trans q2).trans q3
        cases t with
        | true =>
          rw [if_pos rfl]
          refine rc ρ3 env st3 σ H3 _ q3.sim (e.mono g.pre g.ext) (k3.split fun u st4 ρ4 H4 uv q4 ru k4 => h2 ρ4 st4 H4 _ _ _ _ _ q4.sim ((ry.mono q3.pre q3.ext).mono q4.pre q4.ext) ru (k4.split fun z2 st5 ρ5 H5 zv2 q5 rz2 k5 => ?_))
          cases z2 with
          | bl t2 =>
            cases rz2
            refine ⟨t2, rfl, ?_⟩
            have g' := (g.trans q4).trans q5
            cases t2 with
            | true =>
              rw [if_pos rfl]
              exact rd ρ5 env st5 σ H5 _ q5.sim (e.mono g'.pre g'.ext) (k5.split fun u2 st6 ρ6 H6 uv2 q6 ru2 k6 => h3 ρ6 st6 H6 _ _ _ _ _ q6.sim ((ru.mono q5.pre q5.ext).mono q6.pre q6.ext) ru2 k6)
            | false =>
              rw [if_neg Bool.false_ne_true]
              exact k5.done q5.sim (.bl false)
          | _ => exact k5.elim
        | false =>
          rw [if_neg Bool.false_ne_true]
          exact k3.done q3.sim (.bl false)
      | _ => exact k3.elim)))
theorem me_chn3 {op op' op'' : CmpOp} {r1 r2 r3 : R2} (ho : OpR X (compareOp op) r1) (h1 : Real2 X.K X.mg E r1 g1) (ho' : OpR X (compareOp op') r2) (h2 : Real2 X.K X.mg E r2 g2) (ho'' : OpR X (compareOp op'') r3) (h3 : Real2 X.K X.mg E r3 g3)
    (ha : ME X E a fa) (hb : ME X E b fb) (hc : ME X E c fc) (hd : ME X E d fd) (hm : lastMarks [op, op', op''] [b, c, d] = false := by with_unfolding_all rfl) : ME X E (.Compare a [op, op', op''] [b, c, d] pos) (eChn3 g1 g2 g3 fa fb fc fd) := by
  obtain ⟨ta, pa, ra⟩ := ha
  obtain ⟨tb, pb, rb⟩ := hb
  obtain ⟨tc, pc, rc⟩ := hc
  obtain ⟨td, pd, rd⟩ := hd
  exact ⟨_, pe_chn3 ho ho' ho'' pa pb pc pd hm, real_chn3 ra rb rc rd h1 h2 h3⟩
/-! ### the order of texts, of whole numbers too -/
def leS (i j : Str) : Bool := !decide (j.cps.toList < i.cps.toList)
def gLeS : G2 := fun x y st => match x, y with
  | .str i, .str j => .ok (.bl (leS i j)) st
  | _, _ => .bad
theorem real_leS {K : PySem.W.Frag} {mg : Str → Option Value} : Real2 K mg E (fun x y H Q => ∃ i j, x = .str i ∧ y = .str j ∧ Q (.bl (!decide (j.cps.toList < i.cps.toList))) H) gLeS := by
  intro ρ st H x y a b Q s r1 r2 h
  cases r1 <;> cases r2 <;> first | exact h.elim | exact ⟨_, _, rfl, rfl, h.done s (.bl _)⟩
/-! ### a sign of a text -/
def gIxS : G2 := fun x y st => match x, y with
  | .str z, .int i => if 0 ≤ i ∧ i < 2 ^ 63 ∧ i < z.length then (match z.cps[i.toNat]? with
      | some c => .ok (.str ⟨#[c]⟩) st
      | none => .bad) else .bad
  | _, _ => .bad
theorem real_ixS {K : PySem.W.Frag} {mg : Str → Option Value} : Real2 K mg E (fun x y H Q => ∃ z i c, x = .str z ∧ y = .int i ∧ 0 ≤ i ∧ i < 2 ^ 63 ∧ i < z.length ∧ z.cps[i.toNat]? = some c ∧ Q (.str ⟨#[c]⟩) H) gIxS := by
  intro ρ st H x y a b Q s r1 r2 h
  cases r1 with
  | str z =>
    cases r2 with
    | int i =>
      unfold gIxS at h
      by_cases hc : 0 ≤ i ∧ i < 2 ^ 63 ∧ i < z.length
      · simp only [if_pos hc] at h
        cases e : z.cps[i.toNat]? with
        | none => simp only [e] at h; exact h.elim
        | some c =>
          simp only [e] at h
          exact ⟨z, i, c, rfl, rfl, hc.1, hc.2.1, hc.2.2, e, h.done s (.str _)⟩
      · simp only [if_neg hc] at h
        exact h.elim
    | _ => exact h.elim
  | _ => cases r2 <;> exact h.elim
theorem me_ixS (ha : ME X E a fa) (hb : ME X E b fb) (hs : PlainIxT b := by intro _ _; rfl) : ME X E (.Subscript a b pos) (eBin gIxS fa fb) := by
  obtain ⟨t1, p1, r1⟩ := ha
  obtain ⟨t2, p2, r2⟩ := hb
  exact ⟨_, pe_item_str p1 p2 hs, r1.op r2 real_ixS⟩
/-! ### a walk over a text's signs -/
def sgnD (x : Str) : List D := x.cps.toList.map fun c => .str ⟨#[c]⟩
def fStr (f : Ev D) : Ev Src := fun env st => bindR (f env st) fun d st1 => match d with
  | .str x => .ok { items := sgnD x } st1
  | _ => .bad
theorem mi_str {tg l : Expr} {f : Ev D} (hl : ME X E l f) : MI X E tg l (fStr f) := by
  obtain ⟨t, p, r⟩ := hl
  refine ⟨_, pi_str p, fun ρ env st σ H Q s e h => ?_⟩
  refine r ρ env st σ H _ s e (h.split fun d st1 ρ1 H1 v g1 rd h1 => ?_)
  cases rd with
  | str x =>
    refine ⟨x, rfl, h1.done (R := RIt X.K X.mg) g1.sim fun ρ' st' H' g' ok => ⟨fun i d hd => ?_, fun i hi => ?_⟩⟩
    · simp only [sgnD, List.getElem?_map] at hd
      cases ec : x.cps.toList[i]? with
      | none => rw [ec] at hd; cases hd
      | some c =>
        rw [ec] at hd
        cases hd
        have ec' : x.cps[i]? = some c := by rw [← Array.getElem?_toList]; exact ec
        refine ⟨(Array.getElem?_eq_some_iff.mp ec').1, fun y H2 hy => ?_⟩
        obtain ⟨rfl, c', e2, rfl⟩ := hy
        rw [ec'] at e2
        cases e2
        exact ⟨.refl g'.sim, .str _⟩
    · show x.cps.size ≤ i
      simpa [sgnD] using hi
  | _ => exact h1.elim
end
section
variable [TBs] {X : Cx} {E : XK} {pos : Pos} {o i : Expr} {fo fi : Ev D}
theorem mt_din (hu : X.A.units + 1 < cLine) (hi : ME X E i fi) (ho : ME X E o fo) (h1 : behindInMarks .In o = false := by rfl) : MT X E (.Compare i [.In] [o] pos) (asB (eBin (gDIn false) fi fo)) := by
  obtain ⟨t1, p1, r1⟩ := ho
  obtain ⟨t2, p2, r2⟩ := hi
  have r : Real X.K X.mg (Rep X.K X.mg) E (tDIn t2 t1) (eBin (gDIn false) fi fo) := fun ρ env st σ H Q s e h => by
    have := real_din (neg := false) r2 r1 ρ env st σ H Q s e h
    simp only [Bool.xor_false] at this
    exact this
  exact ⟨_, pt_cmp (pc_din hu p2 p1) h1, r.test⟩
theorem mt_dnotin (hu : X.A.units + 1 < cLine) (hi : ME X E i fi) (ho : ME X E o fo) (h1 : behindInMarks .NotIn o = false := by rfl) : MT X E (.Compare i [.NotIn] [o] pos) (asB (eBin (gDIn true) fi fo)) := by
  obtain ⟨t1, p1, r1⟩ := ho
  obtain ⟨t2, p2, r2⟩ := hi
  have r : Real X.K X.mg (Rep X.K X.mg) E (tDNotIn t2 t1) (eBin (gDIn true) fi fo) := fun ρ env st σ H Q s e h => by
    have := real_din (neg := true) r2 r1 ρ env st σ H Q s e h
    simp only [Bool.xor_true] at this
    exact this
  exact ⟨_, pt_cmp (pc_dnotin hu p2 p1) h1, r.test⟩
end
end MP

/-! simp lemmas for classes, dicts, texts -/
namespace MP
open PySem PySem.Spec PyProof.Rows L2
def getR (o : Option D) (st : Store) : Res D := match o with
  | some d => .ok d st
  | none => .bad
theorem getR_some (d : D) (st : Store) : getR (some d) st = .ok d st := rfl
def fldO (cn f : Str) (o : Option O) (st : Store) : Res D := match o with
  | some (.ins c fs) => if c = cn then getR (getA fs f) st else .bad
  | _ => .bad
theorem fldO_ins (cn f c : Str) (fs : List (Str × D)) (st : Store) : fldO cn f (some (.ins c fs)) st = if c = cn then getR (getA fs f) st else .bad := rfl
def fldK (cn f : Str) (o : D) (st : Store) : Res D := match o with
  | .ref n => fldO cn f st[n]? st
  | _ => .bad
theorem fldK_ref (cn f : Str) (n : Nat) (st : Store) : fldK cn f (.ref n) st = fldO cn f st[n]? st := rfl
theorem fld_def (cn f : Str) (fo : Ev D) (env : Env) (st : Store) : eFld cn f fo env st = bindR (fo env st) (fldK cn f) := by
  unfold eFld
  cases fo env st with
  | ok o st1 =>
    cases o with
    | ref n =>
      show (match st1[n]? with | some (.ins c fs) => if c = cn then match getA fs f with | some d => Res.ok d st1 | none => .bad else .bad | _ => .bad) = fldO cn f st1[n]? st1
      unfold fldO
      split
      · unfold getR; rfl
      · rename_i h; cases e : st1[n]? with
        | none => rfl
        | some o => cases o <;> first | rfl | exact absurd e (h _ _)
    | _ => rfl
  | _ => rfl
theorem getA_cons (g : Str) (x : D) (r : List (Str × D)) (f : Str) : getA ((g, x) :: r) f = if f = g then some x else getA r f := rfl
theorem getA_nil (f : Str) : getA [] f = none := rfl
theorem putA_cons (f : Str) (d : D) (g : Str) (x : D) (r : List (Str × D)) : putA f d ((g, x) :: r) = if g = f then (g, d) :: r else (g, x) :: putA f d r := rfl
theorem putA_nil (f : Str) (d : D) : putA f d [] = [(f, d)] := rfl
def putO (cn f : Str) (o : Option O) (n : Nat) (d : D) (env : Env) (st : Store) : SR := match o with
  | some (.ins c fs) => if c = cn ∧ fs.length < 1000 then .next env (st.set n (.ins c (putA f d fs))) else .bad
  | _ => .bad
theorem putO_ins (cn f c : Str) (fs : List (Str × D)) (n : Nat) (d : D) (env : Env) (st : Store) : putO cn f (some (.ins c fs)) n d env st = if c = cn ∧ fs.length < 1000 then .next env (st.set n (.ins c (putA f d fs))) else .bad := rfl
def putKO (cn f : Str) (o d : D) (env : Env) (st : Store) : SR := match o with
  | .ref n => putO cn f st[n]? n d env st
  | _ => .bad
theorem putKO_ref (cn f : Str) (n : Nat) (d : D) (env : Env) (st : Store) : putKO cn f (.ref n) d env st = putO cn f st[n]? n d env st := rfl
theorem fldput_def (cn f : Str) (fo fv : Ev D) (env : Env) (st : Store) : sFldPut cn f fo fv env st = bindS env (fv env st) fun d st1 => bindS env (fo env st1) fun o st2 => putKO cn f o d env st2 := by
  unfold sFldPut
  cases fv env st with
  | ok d st1 =>
    show bindS env (fo env st1) _ = bindS env (fo env st1) _
    cases fo env st1 with
    | ok o st2 =>
      cases o with
      | ref n => rfl
      | _ => rfl
    | _ => rfl
  | _ => rfl
theorem seq_fldput (cn f : Str) (fo fv : Ev D) (g : Env → Store → SR) (env : Env) (st : Store) : sSeq (sFldPut cn f fo fv) g env st = bindS env (fv env st) fun d st1 => bindS env (fo env st1) fun o st2 => contS (putKO cn f o d env st2) g := by
  rw [seq_def, fldput_def]
  cases fv env st with
  | ok d st1 =>
    show contS (bindS env (fo env st1) _) g = bindS env (fo env st1) _
    cases fo env st1 <;> rfl
  | _ => rfl
def methO (cn m : Str) (n : Nat) (g : List D → Store → Res D) (i : Nat) (o : Option O) (r : Res (List D)) : Res D := match o with
  | some (.ins c fs) => if c = cn ∧ getA fs m = none then bindR r fun ds st2 => if ds.length + 1 = n then g (.ref i :: ds) st2 else .bad else .bad
  | _ => .bad
theorem methO_ins (cn m : Str) (n : Nat) (g : List D → Store → Res D) (i : Nat) (c : Str) (fs : List (Str × D)) (r : Res (List D)) : methO cn m n g i (some (.ins c fs)) r = if c = cn ∧ getA fs m = none then bindR r fun ds st2 => if ds.length + 1 = n then g (.ref i :: ds) st2 else .bad else .bad := rfl
def methK (cn m : Str) (n : Nat) (g : List D → Store → Res D) (fa : Ev (List D)) (env : Env) (o : D) (st : Store) : Res D := match o with
  | .ref i => methO cn m n g i st[i]? (fa env st)
  | _ => .bad
theorem methK_ref (cn m : Str) (n : Nat) (g : List D → Store → Res D) (fa : Ev (List D)) (env : Env) (i : Nat) (st : Store) : methK cn m n g fa env (.ref i) st = methO cn m n g i st[i]? (fa env st) := rfl
theorem meth_def (cn m : Str) (n : Nat) (g : List D → Store → Res D) (fo : Ev D) (fa : Ev (List D)) (env : Env) (st : Store) : eMeth cn m n g fo fa env st = bindR (fo env st) (methK cn m n g fa env) := by
  unfold eMeth
  cases fo env st with
  | ok o st1 => cases o <;> rfl
  | _ => rfl
def madeK (n : Nat) (d : D) (st : Store) : Res D := match d with
  | .non => .ok (.ref n) st
  | _ => .bad
theorem madeK_non (n : Nat) (st : Store) : madeK n .non st = .ok (.ref n) st := rfl
theorem make_def (cn : Str) (n : Nat) (g : List D → Store → Res D) (fa : Ev (List D)) (env : Env) (st : Store) : eMake cn n g fa env st = bindR (fa env st) fun ds st1 => if ds.length + 1 = n then bindR (g (.ref st1.length :: ds) (st1 ++ [.ins cn []])) (madeK st1.length) else .bad := by
  unfold eMake
  cases fa env st with
  | ok ds st1 =>
    show (if ds.length + 1 = n then _ else _) = (if ds.length + 1 = n then _ else _)
    split
    · cases g (.ref st1.length :: ds) (st1 ++ [.ins cn []]) with
      | ok d st2 => cases d <;> rfl
      | _ => rfl
    · rfl
  | _ => rfl
theorem dnew_def (env : Env) (st : Store) : eDNew env st = .ok (.ref st.length) (st ++ [.dct []]) := rfl
theorem dctAt_dct (kvs : List (Key × D)) : dctAt (some (.dct kvs)) = some kvs := rfl
theorem dctR_dct (kvs : List (Key × D)) : dctR (some (.dct kvs)) = some kvs := rfl
theorem dctR_dctL (kvs : List (Key × D)) : dctR (some (.dctL kvs)) = some kvs := rfl
theorem kyD_int (i : Int) : kyD (.int i) = some (.inl i) := rfl
theorem kyD_str (x : Str) : kyD (.str x) = some (.inr x) := rfl
def dgetK (o : Option (List (Key × D))) (k : Key) (st : Store) : Res D := match o with
  | some kvs => getR (valA kvs k) st
  | none => .bad
theorem dgetK_some (kvs : List (Key × D)) (k : Key) (st : Store) : dgetK (some kvs) k st = getR (valA kvs k) st := rfl
theorem dget_str (n : Nat) (x : Str) (st : Store) : gDGet (.ref n) (.str x) st = dgetK (dctR st[n]?) (.inr x) st := by
  show (match dctR st[n]? with | some kvs => (match valA kvs (.inr x) with | some d => Res.ok d st | none => .bad) | none => .bad) = _
  cases dctR st[n]? with
  | none => rfl
  | some kvs => rfl
def dinK (neg : Bool) (o : Option (List (Key × D))) (k : Key) (st : Store) : Res D := match o with
  | some kvs => .ok (.bl ((valA kvs k).isSome ^^ neg)) st
  | none => .bad
theorem dinK_some (neg : Bool) (kvs : List (Key × D)) (k : Key) (st : Store) : dinK neg (some kvs) k st = .ok (.bl ((valA kvs k).isSome ^^ neg)) st := rfl
theorem din_str (neg : Bool) (n : Nat) (x : Str) (st : Store) : gDIn neg (.str x) (.ref n) st = dinK neg (dctR st[n]?) (.inr x) st := by
  show (match dctR st[n]? with | some kvs => Res.ok (D.bl ((valA kvs (.inr x)).isSome ^^ neg)) st | none => .bad) = _
  cases dctR st[n]? with
  | none => rfl
  | some kvs => rfl
theorem leS_ss (i j : Str) (st : Store) : gLeS (.str i) (.str j) st = .ok (.bl (leS i j)) st := rfl
def strK (d : D) (st : Store) : Res Src := match d with
  | .str x => .ok { items := sgnD x } st
  | _ => .bad
theorem strK_str (x : Str) (st : Store) : strK (.str x) st = .ok { items := sgnD x } st := rfl
theorem fstr_def (f : Ev D) (env : Env) (st : Store) : fStr f env st = bindR (f env st) strK := by
  unfold fStr
  cases f env st with
  | ok d st1 => cases d <;> rfl
  | _ => rfl
def dputO (o : Option (List (Key × D))) (n : Nat) (k : Key) (d : D) (env : Env) (st : Store) : SR := match o with
  | some kvs => if kvs.length < sizeLine then .next env (st.set n (.dct (putKD kvs k d))) else .bad
  | none => .bad
theorem dputO_some (kvs : List (Key × D)) (n : Nat) (k : Key) (d : D) (env : Env) (st : Store) : dputO (some kvs) n k d env st = if kvs.length < sizeLine then .next env (st.set n (.dct (putKD kvs k d))) else .bad := rfl
def dputK (o i d : D) (env : Env) (st : Store) : SR := match o, kyD i with
  | .ref n, some k => dputO (dctAt st[n]?) n k d env st
  | _, _ => .bad
theorem dputK_str (n : Nat) (x : Str) (d : D) (env : Env) (st : Store) : dputK (.ref n) (.str x) d env st = dputO (dctAt st[n]?) n (.inr x) d env st := rfl
theorem dput_def (fo fi fv : Ev D) (env : Env) (st : Store) : sDPutM fo fi fv env st = bindS env (fv env st) fun d st1 => bindS env (fo env st1) fun o st2 => bindS env (fi env st2) fun i st3 => dputK o i d env st3 := by
  unfold sDPutM
  cases fv env st with
  | ok d st1 =>
    show bindS env (fo env st1) _ = bindS env (fo env st1) _
    cases fo env st1 with
    | ok o st2 =>
      show bindS env (fi env st2) _ = bindS env (fi env st2) _
      cases fi env st2 with
      | ok i st3 =>
        show (match o, kyD i with | .ref n, some k => (match dctAt st3[n]? with | some kvs => if kvs.length < sizeLine then SR.next env (st3.set n (.dct (putKD kvs k d))) else .bad | none => .bad) | _, _ => .bad) = dputK o i d env st3
        unfold dputK
        cases o <;> first | rfl | (cases kyD i <;> first | rfl | (simp only; unfold dputO; cases dctAt st3[_]? <;> rfl))
      | _ => rfl
    | _ => rfl
  | _ => rfl
theorem seq_dput (fo fi fv : Ev D) (g : Env → Store → SR) (env : Env) (st : Store) : sSeq (sDPutM fo fi fv) g env st = bindS env (fv env st) fun d st1 => bindS env (fo env st1) fun o st2 => bindS env (fi env st2) fun i st3 => contS (dputK o i d env st3) g := by
  rw [seq_def, dput_def]
  cases fv env st with
  | ok d st1 =>
    show contS (bindS env (fo env st1) _) g = bindS env (fo env st1) _
    cases fo env st1 with
    | ok o st2 =>
      show contS (bindS env (fi env st2) _) g = bindS env (fi env st2) _
      cases fi env st2 <;> rfl
    | _ => rfl
  | _ => rfl
end MP

namespace MP
open PySem PySem.Spec PyProof.Rows L2
/-! ### the tables of methods -/
def prm0 : Params := { strHash := fun _ => 0, shareClass := fun _ => 0, mergeTok := fun t => t, idOf := fun _ => 0, idOfShared := fun _ _ => 0, followText := fun _ => false, idOfImm := fun _ => 0 }
/-- the tables of the code objects with these names -/
def tabsNamed (K : PySem.W.Frag) (qs : List Str) : List Addr := K.filterMap fun p => match p.2.data with
  | .fields vs => (match (vs[11]? : Option Value), (vs[1]? : Option Value) with
    | some (.ref P), some (.str q _) => if qs.contains q then some P else none
    | _, _ => none)
  | _ => none
theorem walk_tabsM {l : PySem.W.OpenLaw} {k : Nat} {q : Program} {loose : List Str} {XP : (Str → Option Value) → Heap → Prop} {YP : World → Heap → Prop} {d : DefRec} {K : Params → PySem.W.Frag} {x : Str} {xs : List Str} {ts : List Addr}
    (hn : l.most = some 63) (hdf : d.params.defaults = []) (hr : Room k callerA) (hrec : (xs.all fun x => (recsOf q).any fun e => e.name == x) = true) (hY : ∀ (w : World) (h : Heap), YP w h → (K w.params).In h) (hZ : ∀ (w : World) (h : Heap), YP w h → ∀ P ∈ ts, h.get? P = some { cls := .none, data := .fields #[] })
    (F : ∀ (w : World) (mg : Str → Option Value) (fa : Addr) (h : Heap), (K w.params).In h → h.Ns mainGlobals mg → mg d.name = some (.ref fa) → (∀ (x : Str) (f : Addr), x ∈ xs → mg x = some (.ref f) → LamX.OwnTab (K w.params) f h) → (∀ P ∈ ts, h.get? P = some { cls := .none, data := .fields #[] }) → TabLaw l w (K w.params) k x mg fa h) :
    PySem.W.WalkO q loose XP YP l.row.toRowW d [] (fun f vs => PySem.call f vs) := by
  refine Att.attach_callB hn hdf fun w s₀ s₁ mg mb fa o pm cd doc a vs ns G Y ho hd hcd hmg hobj hints hlen hbits hg => ?_
  have KX := hY w _ Y
  obtain ⟨fd, cs, hT, nT, C, nd, hb, hF⟩ := F w mg fa _ KX G.T.g hmg (fun x f hx hf c P o1 fd1 e dd vs1 sl k1 k2 k3 k4 k5 => by
    obtain ⟨r, hm, hr1⟩ := List.any_eq_true.mp (List.all_eq_true.mp hrec x hx)
    have er : r.name = x := beq_iff_eq.mp hr1
    obtain ⟨a', o', fd', c', P', h1, h2, h3, h4, _, h6⟩ := G.T.tab r hm
    rw [er, hf] at h1
    cases h1
    have g1 := KX _ _ k1
    rw [g1] at h2
    cases h2
    rw [k2] at h3
    cases h3
    rw [k3] at h4
    cases h4
    obtain ⟨⟨oc, vc, e1, _, e3, e4⟩, hP⟩ := h6
    have g2 := KX _ _ k4
    rw [g2] at e1
    cases e1
    cases e3
    rw [k5] at e4
    cases e4
    exact hP) (hZ w _ Y)
  refine LamX.law_callTs (CX := CX0) KX G.T.g G.T.b G.T.builtins G.T.nolimit hg hT nT C G.T.bmain hobj hints (Nat.le_trans hlen (by decide)) hr (fun base z1 z2 z3 => hF base z1 z2 fun p hp => ⟨(z3 p hp).1, (z3 p hp).2, (z3 p hp).3⟩) hb (fun H hH hS => ?_) fun H e s' z => z
  exact ⟨a, ns, rfl, hlen, hS, nd, fun b hb => (by obtain ⟨p, hp, e⟩ := List.mem_map.mp hb; rw [← e]; exact hH p hp), fun v hv _ => hv⟩
end MP

namespace MP
open PySem PySem.Spec PyProof.Rows L2
open PySem.Sem (wp)
/-! ### zip of two or of three, each a list or a tuple -/
theorem ne_n {a b : Nat} (h : a ≠ b) : @Ne Addr a b := h
def ItK (b : Bool) (h : Heap) (i l : Addr) (k : Nat) : Prop := if b = true then h.IsListIter i l k else h.IsTupleIter i l k
def SqK (b : Bool) (h : Heap) (l : Addr) (xs : Array Value) : Prop := if b = true then h.IsList l xs else h.IsTuple l xs
def SqB (K : PySem.W.Frag) (b : Bool) (H : Hp) (l : Addr) (xs : List V) : Prop := if b = true then SqL K H l xs else SqT K H l xs
def itObj (b : Bool) (l : Addr) : Obj := { cls := .type (if b = true then "list_iterator" else "tuple_iterator"), data := .fields #[.ref l, .int 0 0] }
theorem itObj_free (b : Bool) (l : Addr) : (itObj b l).isFreed = false := rfl
theorem itK_of {b : Bool} {h : Heap} {i l : Addr} (e : h.get? i = some (itObj b l)) : ItK b h i l 0 := by
  cases b
  · exact ⟨_, e, rfl, rfl⟩
  · exact ⟨_, e, rfl, rfl⟩
theorem ItK.at {b : Bool} {h h' : Heap} {i l : Addr} {k : Nat} (x : ItK b h i l k) (e : ∀ o, h.get? i = some o → h'.get? i = some o) : ItK b h' i l k := by
  cases b
  · exact Heap.IsTupleIter.at (show h.IsTupleIter i l k from x) e
  · exact Heap.IsListIter.at (show h.IsListIter i l k from x) e
theorem ItK.extBut {b : Bool} {h h' : Heap} {i l c : Addr} {k : Nat} (x : ItK b h i l k) (hs : Heap.ExtBut c h h') (hne : i ≠ c) : ItK b h' i l k := x.at fun o e => hs _ _ hne e
theorem ItK.nocell {b : Bool} {h : Heap} {i l : Addr} {k : Nat} (x : ItK b h i l k) : ∃ o, h.get? i = some o ∧ ∀ v, o.data ≠ .cell v := by
  cases b
  · obtain ⟨o, e, _, d⟩ := (show h.IsTupleIter i l k from x)
    exact ⟨o, e, fun v q => by rw [d] at q; cases q⟩
  · obtain ⟨o, e, _, d⟩ := (show h.IsListIter i l k from x)
    exact ⟨o, e, fun v q => by rw [d] at q; cases q⟩
theorem SqK.extBut {b : Bool} {h h' : Heap} {l c : Addr} {xs : Array Value} (x : SqK b h l xs) (hs : Heap.ExtBut c h h') (hne : l ≠ c) : SqK b h' l xs := by
  cases b
  · exact Heap.IsTuple.extBut (show h.IsTuple l xs from x) hs hne
  · exact Heap.IsList.extBut (show h.IsList l xs from x) hs hne
theorem SqK.push {b : Bool} {h : Heap} {l : Addr} {xs : Array Value} (x : SqK b h l xs) (o : Obj) : SqK b (h.push o) l xs := by
  cases b
  · exact Heap.IsTuple.push (show h.IsTuple l xs from x) o
  · exact Heap.IsList.push (show h.IsList l xs from x) o
theorem SqK.lt {b : Bool} {h : Heap} {l : Addr} {xs : Array Value} (x : SqK b h l xs) : l < h.objs.size := by
  cases b
  · obtain ⟨o, e, _⟩ := (show h.IsTuple l xs from x)
    exact Heap.lt_size e
  · obtain ⟨o, e, _⟩ := (show h.IsList l xs from x)
    exact Heap.lt_size e
section
variable {X : Cx} {pins : List (Addr × Obj)} {σ : L2.St} {H : Hp} {s : Shared}
theorem seqB_inv (I : Inv X pins σ H s) {b : Bool} {l : Addr} {xs : List V} (h : SqB X.K b H l xs) : ∃ its : List Value, Vals xs its ∧ SqK b s.heap l its.toArray := by
  cases b
  · obtain ⟨its, rv, p, _⟩ := I.tuple (show SqT X.K H l xs from h)
    exact ⟨its, rv, p⟩
  · obtain ⟨its, rv, p, _⟩ := I.list (show SqL X.K H l xs from h)
    exact ⟨its, rv, p.isList⟩
theorem seqB_inj (I : Inv X pins σ H s) {b : Bool} {l : Addr} {xs ys : List V} (h : SqB X.K b H l xs) (h' : SqB X.K b H l ys) : xs = ys := by
  cases b
  · exact I.tuple_inj (show SqT X.K H l xs from h) h'
  · exact I.list_inj (show SqL X.K H l xs from h) h'
theorem refs2 {l1 l2 : Addr} {us : List Value} (r : Vals [.ref l1, .ref l2] us) : us = [.ref l1, .ref l2] := by
  cases r with
  | cons r rr => cases rr with
    | cons r' rr => cases rr; cases r; cases r'; rfl
theorem refs3 {l1 l2 l3 : Addr} {us : List Value} (r : Vals [.ref l1, .ref l2, .ref l3] us) : us = [.ref l1, .ref l2, .ref l3] := by
  cases r with
  | cons r rr => cases rr with
    | cons r' rr => cases rr with
      | cons r'' rr => cases rr; cases r; cases r'; cases r''; rfl
end
section
variable {prog : Program} {w : World} {A : Around} {E : Value → Shared → Prop} {s : Shared}
theorem nextK_item {b : Bool} {i l : Addr} {k : Nat} {xs : Array Value} {x : Value} {Q : Value → Shared → Prop} (h : ItK b s.heap i l k) (q : SqK b s.heap l xs) (e : xs[k]? = some x)
    (hQ : ∀ h', ItK b h' i l (k + 1) → Heap.SameBut i s.heap h' → Q x { s with heap := h' }) : wpAny (model prog w) A (Builtin.SmallTypes.nextOf (.ref i)) Q E s := by
  cases b
  · exact RZ.nextOf_tuple_item (show s.heap.IsTupleIter i l k from h) (show s.heap.IsTuple l xs from q) e hQ
  · exact wpAny_nextOf_list_item (show s.heap.IsListIter i l k from h) (show s.heap.IsList l xs from q) e hQ
theorem nextK_end {b : Bool} {i l : Addr} {k : Nat} {xs : Array Value} {Q : Value → Shared → Prop} (hh : A.handled = none) (h : ItK b s.heap i l k) (q : SqK b s.heap l xs) (e : xs[k]? = none)
    (hE : ∀ h' e, Heap.ExtBut i s.heap h' → (∃ o, h'.get? e = some o ∧ o.cls = .type "StopIteration") → E (.ref e) { s with heap := h' }) : wpAny (model prog w) A (Builtin.SmallTypes.nextOf (.ref i)) Q E s := by
  cases b
  · exact RZ.nextOf_tuple_end hh (show s.heap.IsTupleIter i l k from h) (show s.heap.IsTuple l xs from q) e hE
  · exact wpAny_nextOf_list_end hh (show s.heap.IsListIter i l k from h) (show s.heap.IsList l xs from q) e hE
theorem iterK {b : Bool} {l : Addr} {xs : Array Value} {Q : Value → Shared → Prop} (q : SqK b s.heap l xs) (hQ : Q (.ref s.heap.objs.size) { s with heap := s.heap.push (itObj b l) }) : wpAny (model prog w) A (pyIter (.ref l)) Q E s := by
  cases b
  · exact wpAny_pyIter_tuple (show s.heap.IsTuple l xs from q) hQ
  · exact wpAny_pyIter_list (show s.heap.IsList l xs from q) hQ
end
theorem tcz2 (a b : Value) : checkTypeCall "zip" ⟨[a, b], []⟩ = pure () := PySem.F.typeCall_zip_2 a b
theorem ncz2 (a b : Value) : checkBuiltinCall "zip.__new__" ⟨[.type "zip", a, b], []⟩ = pure () := PySem.F.newCall_zip_2 a b
theorem aoi2 (o a b : Value) : argsOk "object.__init__" ⟨[o, a, b], []⟩ := PySem.F.args_object_init_3 o a b
theorem tcz3 (a b c : Value) : checkTypeCall "zip" ⟨[a, b, c], []⟩ = pure () := by kernel_rfl
theorem ncz3 (a b c : Value) : checkBuiltinCall "zip.__new__" ⟨[.type "zip", a, b, c], []⟩ = pure () := by kernel_rfl
theorem aoi3 (o a b c : Value) : argsOk "object.__init__" ⟨[o, a, b, c], []⟩ := by
  unfold argsOk; rw [signature?_of (id := "object.__init__") (n := ['_', '_', 't', 'i', 'n', 'i', '_', '_']) (o := ['t', 'c', 'e', 'j', 'b', 'o']) (by kernel_rfl) PySem.F.owner_object]; kernel_rfl
section
variable {prog : Program} {w : World} {A : Around} {E : Value → Shared → Prop} {s : Shared}
abbrev IsT2 (h : Heap) (T : Addr) (a1 a2 : Value) : Prop := h.get? T = some { cls := .type "tuple", data := .seq #[a1, a2] }
theorem upd_2 {T : Addr} {a1 a2 x : Value} {k : Nat} {Q : Unit → Shared → Prop} (hT : IsT2 s.heap T a1 a2)
    (h : ∀ h', h'.get? T = some { cls := .type "tuple", data := .seq ((#[a1, a2] : Array Value).setIfInBounds k x) } → Heap.SameBut T s.heap h' → Q () { s with heap := h' }) :
    wpAny (model prog w) A (updateSeq T (·.setIfInBounds k x)) Q E s := by
  refine wpAny_updateSeq hT rfl (h _ ?_ (Heap.SameBut.update ..))
  rw [Heap.get?_update_self _ hT rfl]
  simp [Obj.mapSeq]
theorem Z2_next_item {m k : Nat} {l1 l2 : Nat} {b1 b2 : Bool} {xs1 xs2 : Array Value} {a1 a2 : Value} {x1 x2 : Value} {Q : Value → Shared → Prop} (d1 : (l1 : Nat) < m) (d2 : (l2 : Nat) < m) (hz : IsZip s.heap (m + 4) (m + 2) (m + 3) .none) (hTI : IsT2 s.heap (m + 2) (.ref m) (.ref (m + 1))) (hTO : IsT2 s.heap (m + 3) a1 a2)
    (h1 : ItK b1 s.heap m l1 k) (h2 : ItK b2 s.heap (m + 1) l2 k) (q1 : SqK b1 s.heap l1 xs1) (q2 : SqK b2 s.heap l2 xs2) (e1 : xs1[k]? = some x1) (e2 : xs2[k]? = some x2)
    (hQ : ∀ h', IsZip h' (m + 4) (m + 2) (m + 3) (rawInt s.heap.objs.size) → IsT2 h' (m + 3) x1 x2 → ItK b1 h' m l1 (k + 1) → ItK b2 h' (m + 1) l2 (k + 1) → IsT2 h' s.heap.objs.size x1 x2 → h'.objs.size = s.heap.objs.size + 1 → (∀ c o, c ≠ (m + 4) → c ≠ (m + 3) → c ≠ m → c ≠ (m + 1) → s.heap.get? c = some o → h'.get? c = some o) → Q (.ref s.heap.objs.size) { s with heap := h' }) :
    wpAny (model prog w) A (Builtin.«zip.__next__» ⟨[.ref (m + 4)], []⟩) (fun fin s' => ∃ v, fin = .done (.ret v) ∧ Q v s') E s := by
  show wpAny _ _ (field (.ref (m + 4)) 2 >>= _) _ _ _
  refine wpAny_bind (wpAny_field hz rfl (x := .bool false) rfl ?_)
  show wpAny _ _ (field (.ref (m + 4)) 3 >>= _) _ _ _
  refine wpAny_bind (wpAny_field hz rfl (x := .ref (m + 2)) rfl ?_)
  refine wpAny_bind (wpAny_seqItems hTI rfl ?_)
  show wpAny _ _ (Builtin.SmallTypes.ownedTupleIsFree (.ref (m + 4)) >>= _) _ _ _
  refine wpAny_bind ?_
  unfold Builtin.SmallTypes.ownedTupleIsFree
  refine wpAny_bind (wpAny_field hz rfl (x := .none) rfl (wpAny_pure ?_))
  simp only [if_true]
  refine wpAny_bind (wpAny_rule ?_)
  refine wpAny_bind (wpAny_field hz rfl (x := .ref (m + 3)) rfl ?_)
  refine wpAny_bind (wpAny_setField_rec hz (by simp) fun g0 hz0 s0 => ?_)
  replace hz0 : IsZip g0 (m + 4) (m + 2) (m + 3) .ellipsis := hz0
  refine wpAny_bind ?_
  simp only [List.zipIdx_cons, List.zipIdx_nil, List.forIn_cons, List.forIn_nil]
  have t0 : IsT2 g0 (m + 3) a1 a2 := s0.extBut _ _ (ne_n (by omega)) hTO
  have h1_0 := h1.extBut s0.extBut (ne_n (by omega))
  have q1_0 := q1.extBut s0.extBut (ne_n (by omega))
  have h2_0 := h2.extBut s0.extBut (ne_n (by omega))
  have q2_0 := q2.extBut s0.extBut (ne_n (by omega))
  refine wpAny_bind (wpAny_bind (wpAny_onRaise ?_))
  show wpAny _ _ (Builtin.SmallTypes.nextOf (.ref m) >>= _) _ _ _
  refine wpAny_bind (nextK_item h1_0 q1_0 e1 fun f1 n1 r1 => wpAny_pure ?_)
  have u1 : IsT2 f1 (m + 3) a1 a2 := r1.extBut _ _ (ne_n (by omega)) t0
  refine wpAny_bind (wpAny_seqItems u1 rfl ?_)
  refine wpAny_bind (upd_2 u1 fun g1 t1 s1 => ?_)
  replace t1 : IsT2 g1 (m + 3) x1 a2 := t1
  have n1_1 := n1.extBut s1.extBut (ne_n (by omega))
  have h2_1 := (h2_0.extBut r1.extBut (ne_n (by omega))).extBut s1.extBut (ne_n (by omega))
  have q2_1 := (q2_0.extBut r1.extBut (ne_n (by omega))).extBut s1.extBut (ne_n (by omega))
  refine wpAny_bind (wpAny_letGo (wpAny_pure ?_))
  refine wpAny_bind (wpAny_bind (wpAny_onRaise ?_))
  show wpAny _ _ (Builtin.SmallTypes.nextOf (.ref (m + 1)) >>= _) _ _ _
  refine wpAny_bind (nextK_item h2_1 q2_1 e2 fun f2 n2 r2 => wpAny_pure ?_)
  have u2 : IsT2 f2 (m + 3) x1 a2 := r2.extBut _ _ (ne_n (by omega)) t1
  refine wpAny_bind (wpAny_seqItems u2 rfl ?_)
  refine wpAny_bind (upd_2 u2 fun g2 t2 s2 => ?_)
  replace t2 : IsT2 g2 (m + 3) x1 x2 := t2
  have n1_2 := (n1_1.extBut r2.extBut (ne_n (by omega))).extBut s2.extBut (ne_n (by omega))
  have n2_2 := n2.extBut s2.extBut (ne_n (by omega))
  refine wpAny_bind (wpAny_letGo (wpAny_pure (wpAny_pure ?_)))
  refine wpAny_bind (wpAny_seqItems t2 rfl ?_)
  refine wpAny_bind (wpAny_newTuple ?_)
  have hsz : g2.objs.size = s.heap.objs.size := by rw [s2.1, r2.1, s1.1, r1.1, s0.1]
  have hzn : IsZip g2 (m + 4) (m + 2) (m + 3) .ellipsis := s2.extBut _ _ (ne_n (by omega)) (r2.extBut _ _ (ne_n (by omega)) (s1.extBut _ _ (ne_n (by omega)) (r1.extBut _ _ (ne_n (by omega)) (hz0))))
  have hkn : ∀ c o, c ≠ (m + 4) → c ≠ (m + 3) → c ≠ m → c ≠ (m + 1) → s.heap.get? c = some o → g2.get? c = some o := fun c o c1 c2 y1 y2 e => s2.extBut _ _ c2 (r2.extBut _ _ y2 (s1.extBut _ _ c2 (r1.extBut _ _ y1 (s0.extBut _ _ c1 e))))
  have hzlt := Heap.lt_size hzn
  show wpAny _ _ (Builtin.SmallTypes.ownedTupleHandOut (.ref (m + 4)) (.ref g2.objs.size) >>= _) _ _ _
  refine wpAny_bind ?_
  unfold Builtin.SmallTypes.ownedTupleHandOut
  have hz6 : IsZip (g2.push { cls := .type "tuple", data := .seq #[x1, x2] }) (m + 4) (m + 2) (m + 3) .ellipsis := Heap.get?_push_of_some _ hzn
  refine wpAny_bind (wpAny_setField_rec hz6 (by simp) fun h7 hz7 hs7 => ?_)
  replace hz7 : IsZip h7 (m + 4) (m + 2) (m + 3) (rawInt g2.objs.size) := hz7
  refine wpAny_setField_rec hz7 (by simp) fun h8 hz8 hs8 => ?_
  replace hz8 : IsZip h8 (m + 4) (m + 2) (m + 3) (rawInt g2.objs.size) := hz8
  have up : ∀ c o, c ≠ (m + 4) → g2.get? c = some o → h8.get? c = some o := fun c o c1 e => hs8.extBut _ _ c1 (hs7.extBut _ _ c1 (Heap.get?_push_of_some _ e))
  have hT8 : IsT2 h8 g2.objs.size x1 x2 := hs8.extBut _ _ (Nat.ne_of_gt hzlt) (hs7.extBut _ _ (Nat.ne_of_gt hzlt) (Heap.get?_push_size _ rfl))
  have hz9 : h8.objs.size = g2.objs.size + 1 := by rw [hs8.1, hs7.1, Heap.size_push]
  rw [hsz] at hz8 hT8 hz9
  refine wpAny_pure ⟨_, rfl, ?_⟩
  show Q (.ref g2.objs.size) _
  rw [hsz]
  exact hQ h8 hz8 (up _ _ (ne_n (by omega)) t2) (n1_2.at fun o e => up _ o (ne_n (by omega)) e) (n2_2.at fun o e => up _ o (ne_n (by omega)) e) hT8 hz9 fun c o c1 c2 y1 y2 e => up c o c1 (hkn c o c1 c2 y1 y2 e)
theorem Z2_next_end {m k : Nat} {l1 l2 : Nat} {b1 b2 : Bool} {xs1 xs2 : Array Value} {a1 a2 : Value} {Q : Fin → Shared → Prop} (hh : A.handled = none) (d1 : (l1 : Nat) < m) (d2 : (l2 : Nat) < m) (hz : IsZip s.heap (m + 4) (m + 2) (m + 3) .none) (hTI : IsT2 s.heap (m + 2) (.ref m) (.ref (m + 1))) (hTO : IsT2 s.heap (m + 3) a1 a2)
    (h1 : ItK b1 s.heap m l1 k) (h2 : ItK b2 s.heap (m + 1) l2 k) (q1 : SqK b1 s.heap l1 xs1) (q2 : SqK b2 s.heap l2 xs2) (hend : xs1[k]? = none ∨ xs2[k]? = none)
    (hE : ∀ h' e, (∀ c o, c ≠ (m + 4) → c ≠ (m + 3) → c ≠ m → c ≠ (m + 1) → s.heap.get? c = some o → h'.get? c = some o) → (∃ o, h'.get? e = some o ∧ o.cls = .type "StopIteration") → E (.ref e) { s with heap := h' }) :
    wpAny (model prog w) A (Builtin.«zip.__next__» ⟨[.ref (m + 4)], []⟩) Q E s := by
  show wpAny _ _ (field (.ref (m + 4)) 2 >>= _) _ _ _
  refine wpAny_bind (wpAny_field hz rfl (x := .bool false) rfl ?_)
  show wpAny _ _ (field (.ref (m + 4)) 3 >>= _) _ _ _
  refine wpAny_bind (wpAny_field hz rfl (x := .ref (m + 2)) rfl ?_)
  refine wpAny_bind (wpAny_seqItems hTI rfl ?_)
  show wpAny _ _ (Builtin.SmallTypes.ownedTupleIsFree (.ref (m + 4)) >>= _) _ _ _
  refine wpAny_bind ?_
  unfold Builtin.SmallTypes.ownedTupleIsFree
  refine wpAny_bind (wpAny_field hz rfl (x := .none) rfl (wpAny_pure ?_))
  simp only [if_true]
  refine wpAny_bind (wpAny_rule ?_)
  refine wpAny_bind (wpAny_field hz rfl (x := .ref (m + 3)) rfl ?_)
  refine wpAny_bind (wpAny_setField_rec hz (by simp) fun g0 hz0 s0 => ?_)
  replace hz0 : IsZip g0 (m + 4) (m + 2) (m + 3) .ellipsis := hz0
  refine wpAny_bind ?_
  simp only [List.zipIdx_cons, List.zipIdx_nil, List.forIn_cons, List.forIn_nil]
  have t0 : IsT2 g0 (m + 3) a1 a2 := s0.extBut _ _ (ne_n (by omega)) hTO
  have h1_0 := h1.extBut s0.extBut (ne_n (by omega))
  have q1_0 := q1.extBut s0.extBut (ne_n (by omega))
  have h2_0 := h2.extBut s0.extBut (ne_n (by omega))
  have q2_0 := q2.extBut s0.extBut (ne_n (by omega))
  have kz0 : IsZip g0 (m + 4) (m + 2) (m + 3) .ellipsis := hz0
  refine wpAny_bind (wpAny_bind (wpAny_onRaise ?_))
  show wpAny _ _ (Builtin.SmallTypes.nextOf (.ref m) >>= _) _ _ _
  cases e1 : xs1[k]? with
  | none =>
    refine wpAny_bind (nextK_end hh h1_0 q1_0 e1 fun f e r he => ?_)
    obtain ⟨oe, hoe, hce⟩ := he
    have hzf : IsZip f (m + 4) (m + 2) (m + 3) .ellipsis := r _ _ (ne_n (by omega)) kz0
    have hez : e ≠ (m + 4) := fun x => by subst x; rw [hzf] at hoe; cases hoe; simp at hce
    exact wpAny_setField_rec hzf (by simp) fun ff _ rr => hE ff e (fun c o c1 c2 y1 y2 x => rr.extBut _ _ c1 (r _ _ y1 (s0.extBut _ _ c1 x))) ⟨oe, rr.extBut _ _ hez hoe, hce⟩
  | some x1 =>
    refine wpAny_bind (nextK_item h1_0 q1_0 e1 fun f1 n1 r1 => wpAny_pure ?_)
    have u1 : IsT2 f1 (m + 3) a1 a2 := r1.extBut _ _ (ne_n (by omega)) t0
    refine wpAny_bind (wpAny_seqItems u1 rfl ?_)
    refine wpAny_bind (upd_2 u1 fun g1 t1 s1 => ?_)
    replace t1 : IsT2 g1 (m + 3) x1 a2 := t1
    have h2_1 := (h2_0.extBut r1.extBut (ne_n (by omega))).extBut s1.extBut (ne_n (by omega))
    have q2_1 := (q2_0.extBut r1.extBut (ne_n (by omega))).extBut s1.extBut (ne_n (by omega))
    have kz1 : IsZip g1 (m + 4) (m + 2) (m + 3) .ellipsis := s1.extBut _ _ (ne_n (by omega)) (r1.extBut _ _ (ne_n (by omega)) kz0)
    refine wpAny_bind (wpAny_letGo (wpAny_pure ?_))
    refine wpAny_bind (wpAny_bind (wpAny_onRaise ?_))
    show wpAny _ _ (Builtin.SmallTypes.nextOf (.ref (m + 1)) >>= _) _ _ _
    have e2 : xs2[k]? = none := by
      rcases hend with h | h
      · rw [e1] at h; cases h
      · exact h
    refine wpAny_bind (nextK_end hh h2_1 q2_1 e2 fun f e r he => ?_)
    obtain ⟨oe, hoe, hce⟩ := he
    have hzf : IsZip f (m + 4) (m + 2) (m + 3) .ellipsis := r _ _ (ne_n (by omega)) kz1
    have hez : e ≠ (m + 4) := fun x => by subst x; rw [hzf] at hoe; cases hoe; simp at hce
    exact wpAny_setField_rec hzf (by simp) fun ff _ rr => hE ff e (fun c o c1 c2 y1 y2 x => rr.extBut _ _ c1 (r _ _ y2 (s1.extBut _ _ c2 (r1.extBut _ _ y1 (s0.extBut _ _ c1 x))))) ⟨oe, rr.extBut _ _ hez hoe, hce⟩
theorem pyNext_Z2_item {m k : Nat} {l1 l2 : Nat} {b1 b2 : Bool} {xs1 xs2 : Array Value} {a1 a2 : Value} {x1 x2 : Value} {Q : Option Value → Shared → Prop} (d1 : (l1 : Nat) < m) (d2 : (l2 : Nat) < m) (hz : IsZip s.heap (m + 4) (m + 2) (m + 3) .none) (hTI : IsT2 s.heap (m + 2) (.ref m) (.ref (m + 1))) (hTO : IsT2 s.heap (m + 3) a1 a2)
    (h1 : ItK b1 s.heap m l1 k) (h2 : ItK b2 s.heap (m + 1) l2 k) (q1 : SqK b1 s.heap l1 xs1) (q2 : SqK b2 s.heap l2 xs2) (e1 : xs1[k]? = some x1) (e2 : xs2[k]? = some x2)
    (hQ : ∀ h', IsZip h' (m + 4) (m + 2) (m + 3) (rawInt s.heap.objs.size) → IsT2 h' (m + 3) x1 x2 → ItK b1 h' m l1 (k + 1) → ItK b2 h' (m + 1) l2 (k + 1) → IsT2 h' s.heap.objs.size x1 x2 → h'.objs.size = s.heap.objs.size + 1 → (∀ c o, c ≠ (m + 4) → c ≠ (m + 3) → c ≠ m → c ≠ (m + 1) → s.heap.get? c = some o → h'.get? c = some o) → Q (some (.ref s.heap.objs.size)) { s with heap := h' }) :
    wpAny (model prog w) A (pyNext (.ref (m + 4))) Q E s := by
  have hT : s.TypeIs (.ref (m + 4)) "zip" := ⟨_, hz, rfl⟩
  unfold pyNext
  exact wpAny_bind (wpAny_attempt (wpAny_callSpecial?_slot (name := Str.ofString "__next__") hT F.slot_zip_next
    (wpAny_call_entry F.slot_zip_next hT F.entry_zip_next
      (Z2_next_item d1 d2 hz hTI hTO h1 h2 q1 q2 e1 e2 fun h' c1 c2 v1 v2 c5 c6 c7 => wpAny_pure (hQ h' c1 c2 v1 v2 c5 c6 c7)) (F.args_zip_next_1 _))))
theorem pyNext_Z2_end {m k : Nat} {l1 l2 : Nat} {b1 b2 : Bool} {xs1 xs2 : Array Value} {a1 a2 : Value} {Q : Option Value → Shared → Prop} (hh : A.handled = none) (d1 : (l1 : Nat) < m) (d2 : (l2 : Nat) < m) (hz : IsZip s.heap (m + 4) (m + 2) (m + 3) .none) (hTI : IsT2 s.heap (m + 2) (.ref m) (.ref (m + 1))) (hTO : IsT2 s.heap (m + 3) a1 a2)
    (h1 : ItK b1 s.heap m l1 k) (h2 : ItK b2 s.heap (m + 1) l2 k) (q1 : SqK b1 s.heap l1 xs1) (q2 : SqK b2 s.heap l2 xs2) (hend : xs1[k]? = none ∨ xs2[k]? = none)
    (hQ : ∀ h', (∀ c o, c ≠ (m + 4) → c ≠ (m + 3) → c ≠ m → c ≠ (m + 1) → s.heap.get? c = some o → h'.get? c = some o) → Q none { s with heap := h' }) : wpAny (model prog w) A (pyNext (.ref (m + 4))) Q E s := by
  have hT : s.TypeIs (.ref (m + 4)) "zip" := ⟨_, hz, rfl⟩
  unfold pyNext
  refine wpAny_bind (wpAny_attempt (wpAny_callSpecial?_slot (name := Str.ofString "__next__") hT F.slot_zip_next
    (wpAny_call_entry F.slot_zip_next hT F.entry_zip_next (Z2_next_end hh d1 d2 hz hTI hTO h1 h2 q1 q2 hend fun h' e hk he => ?_) (F.args_zip_next_1 _))))
  obtain ⟨o, ho, hc⟩ := he
  refine wpAny_bind (wpAny_isInstance (T := "StopIteration") (b := true) ⟨o, ho, hc⟩ isSubtype_stop ?_)
  exact wpAny_pure (hQ _ hk)
end
abbrev Z2H1 (h : Heap) (b1 : Bool) (l1 : Addr) : Heap := h.push (itObj b1 l1)
abbrev Z2H2 (h : Heap) (b1 : Bool) (l1 : Addr) (b2 : Bool) (l2 : Addr) : Heap := (Z2H1 h b1 l1).push (itObj b2 l2)
abbrev Z2H3 (h : Heap) (b1 : Bool) (l1 : Addr) (b2 : Bool) (l2 : Addr) : Heap := (Z2H2 h b1 l1 b2 l2).push { cls := .type "tuple", data := .seq #[.ref h.objs.size, .ref (Z2H1 h b1 l1).objs.size] }
abbrev Z2H4 (h : Heap) (b1 : Bool) (l1 : Addr) (b2 : Bool) (l2 : Addr) : Heap := (Z2H3 h b1 l1 b2 l2).push { cls := .type "tuple", data := .seq #[.none, .none] }
abbrev Z2H5 (h : Heap) (b1 : Bool) (l1 : Addr) (b2 : Bool) (l2 : Addr) : Heap := (Z2H4 h b1 l1 b2 l2).push { cls := .type "zip", data := .fields #[.none, .bool false, .bool false, .ref (Z2H2 h b1 l1 b2 l2).objs.size, .ref (Z2H3 h b1 l1 b2 l2).objs.size] }
theorem meets_Z2_new (b1 : Bool) (l1 : Addr) (b2 : Bool) (l2 : Addr) (xs1 : Array Value) (xs2 : Array Value) :
    Meets (Builtin.«zip.__new__» ⟨[.type "zip", .ref l1, .ref l2], []⟩) (fun _ R s => SqK b1 s.heap l1 xs1 ∧ SqK b2 s.heap l2 xs2 ∧
      R (.ok (.ret (.ref (Z2H4 s.heap b1 l1 b2 l2).objs.size))) { s with heap := Z2H5 s.heap b1 l1 b2 l2 }) :=
  .of_wp fun prog w A R s h => by
    obtain ⟨hp, g, d, tk, os⟩ := s; obtain ⟨q1, q2, h⟩ := h
    have hsub := sub_zip
    have L1 : SqK b1 (Shared.heap ⟨hp, g, d, tk, os⟩) l1 xs1 := q1
    have L2 : SqK b2 (Shared.heap ⟨Z2H1 hp b1 l1, g, d, tk, os⟩) l2 xs2 := (q2).push _
    wp_walk using iterK L1, iterK L2
    exact ⟨_, rfl, h⟩
section
variable {prog : Program} {w : World} {A : Around} {E : Value → Shared → Prop} {s : Shared}
theorem call_Z2 {l1 l2 : Addr} {b1 b2 : Bool} {xs1 xs2 : Array Value} {Q : Value → Shared → Prop} (q1 : SqK b1 s.heap l1 xs1) (q2 : SqK b2 s.heap l2 xs2)
    (h : ∀ h', IsZip h' (s.heap.objs.size + 4) (s.heap.objs.size + 2) (s.heap.objs.size + 3) .none → IsT2 h' (s.heap.objs.size + 2) (.ref s.heap.objs.size) (.ref (s.heap.objs.size + 1)) → IsT2 h' (s.heap.objs.size + 3) .none .none → ItK b1 h' s.heap.objs.size l1 0 → ItK b2 h' (s.heap.objs.size + 1) l2 0 → h'.objs.size = s.heap.objs.size + 5 →
      (∀ c o, s.heap.get? c = some o → h'.get? c = some o) → Q (.ref (s.heap.objs.size + 4)) { s with heap := h' }) :
    wpAny (model prog w) A (call (.type "zip") [.ref l1, .ref l2]) Q E s := by
  refine callType_new F.called_zip (by decide) (tcz2 _ _) (ncz2 _ _) (fun obj => aoi2 obj _ _) F.entry_zip_new (meets_Z2_new b1 l1 b2 l2 xs1 xs2) ⟨q1, q2, ?_⟩
  have z1 : (Z2H1 s.heap b1 l1).objs.size = s.heap.objs.size + 1 := Heap.size_push ..
  have z2 : (Z2H2 s.heap b1 l1 b2 l2).objs.size = s.heap.objs.size + 2 := by rw [Heap.size_push, z1]
  have z3 : (Z2H3 s.heap b1 l1 b2 l2).objs.size = s.heap.objs.size + 3 := by rw [Heap.size_push, z2]
  have z4 : (Z2H4 s.heap b1 l1 b2 l2).objs.size = s.heap.objs.size + 4 := by rw [Heap.size_push, z3]
  have z5 : (Z2H5 s.heap b1 l1 b2 l2).objs.size = s.heap.objs.size + 5 := by rw [Heap.size_push, z4]
  have g1 : (Z2H5 s.heap b1 l1 b2 l2).get? (s.heap.objs.size) = some _ := Heap.get?_push_of_some _ (Heap.get?_push_of_some _ (Heap.get?_push_of_some _ (Heap.get?_push_of_some _ (Heap.get?_push_size _ (by first | rfl | exact itObj_free _ _)))))
  have g2 : (Z2H5 s.heap b1 l1 b2 l2).get? ((Z2H1 s.heap b1 l1).objs.size) = some _ := Heap.get?_push_of_some _ (Heap.get?_push_of_some _ (Heap.get?_push_of_some _ (Heap.get?_push_size _ (by first | rfl | exact itObj_free _ _))))
  have g3 : (Z2H5 s.heap b1 l1 b2 l2).get? ((Z2H2 s.heap b1 l1 b2 l2).objs.size) = some _ := Heap.get?_push_of_some _ (Heap.get?_push_of_some _ (Heap.get?_push_size _ (by first | rfl | exact itObj_free _ _)))
  have g4 : (Z2H5 s.heap b1 l1 b2 l2).get? ((Z2H3 s.heap b1 l1 b2 l2).objs.size) = some _ := Heap.get?_push_of_some _ (Heap.get?_push_size _ (by first | rfl | exact itObj_free _ _))
  have g5 : (Z2H5 s.heap b1 l1 b2 l2).get? ((Z2H4 s.heap b1 l1 b2 l2).objs.size) = some _ := Heap.get?_push_size _ (by first | rfl | exact itObj_free _ _)
  show _ ∧ _
  rw [z1] at g2
  rw [z2] at g3
  rw [z3] at g4
  rw [z4] at g5
  rw [z1] at g3
  rw [z2, z3] at g5
  rw [z4]
  exact ⟨⟨_, g5, rfl⟩, h _ g5 g3 g4 (itK_of g1) (itK_of g2) z5 fun c o x => Heap.get?_push_of_some _ (Heap.get?_push_of_some _ (Heap.get?_push_of_some _ (Heap.get?_push_of_some _ (Heap.get?_push_of_some _ (x)))))⟩
/-- the sequences as they stand at each turn, the items in new tuples -/
def ItZ2 (K : PySem.W.Frag) (b1 b2 : Bool) (l1 l2 : Addr) : It :=
  ⟨fun i H => ∃ (xs1 xs2 : List V) (u1 u2 : V), SqB K b1 H l1 xs1 ∧ SqB K b2 H l2 xs2 ∧ xs1[i]? = some u1 ∧ xs2[i]? = some u2,
    fun i H v H' => ∃ (T : Addr) (u1 u2 : V), v = .ref T ∧ H T = none ∧ H' = upd H T (.tup [u1, u2]) ∧ (∀ xs, SqB K b1 H l1 xs → xs[i]? = some u1) ∧ (∀ xs, SqB K b2 H l2 xs → xs[i]? = some u2),
    fun i H => ∃ (xs1 xs2 : List V), SqB K b1 H l1 xs1 ∧ SqB K b2 H l2 xs2 ∧ (xs1.length ≤ i ∨ xs2.length ≤ i)⟩
theorem turn_Z2 {P : Program} {w : World} {K : PySem.W.Frag} {elts : List Expr} {kk : Nat} {tpos : Pos} {m : Nat} {l1 l2 : Nat} {b1 b2 : Bool} (d1 : (l1 : Nat) < m) (d2 : (l2 : Nat) < m) :
    Turn P w K (.Tuple elts kk tpos) (ItZ2 K b1 b2 l1 l2) [(m + 4), (m + 2), (m + 3), m, (m + 1)] (m + 4) (fun i h => IsZip h (m + 4) (m + 2) (m + 3) .none ∧ IsT2 h (m + 2) (.ref m) (.ref (m + 1)) ∧ (∃ a1 a2, IsT2 h (m + 3) a1 a2) ∧ ItK b1 h m l1 i ∧ ItK b2 h (m + 1) l2 i) where
  mem := by simp
  obj := fun i h st c hc => by
    obtain ⟨hz, hTI, ⟨a1, a2, hTO⟩, h1, h2⟩ := st
    have e' : c = (m + 4) ∨ c = (m + 2) ∨ c = (m + 3) ∨ c = m ∨ c = (m + 1) := by simpa using hc
    rcases e' with q | q | q | q | q
    · rw [q]; exact ⟨_, hz, fun v q => nomatch q⟩
    · rw [q]; exact ⟨_, hTI, fun v q => nomatch q⟩
    · rw [q]; exact ⟨_, hTO, fun v q => nomatch q⟩
    · rw [q]; exact h1.nocell
    · rw [q]; exact h2.nocell
  keep := fun i h h' st kp => by
    obtain ⟨hz, hTI, ⟨a1, a2, hTO⟩, h1, h2⟩ := st
    exact ⟨kp _ (by simp) _ hz, kp _ (by simp) _ hTI, ⟨a1, a2, kp _ (by simp) _ hTO⟩, h1.at fun o q => kp _ (by simp) o q, h2.at fun o q => kp _ (by simp) o q⟩
  item := by
    intro X hP hw hK hc i pins s σ H E I hf st hg
    subst hP hw hK
    obtain ⟨hz, hTI, ⟨a1, a2, hTO⟩, h1, h2⟩ := st
    obtain ⟨xs1, xs2, u1, u2, y1, y2, w1, w2⟩ := hg
    obtain ⟨its1, rv1, p1⟩ := seqB_inv I y1
    obtain ⟨t1, ht1, rt1⟩ := rv1.get w1
    obtain ⟨its2, rv2, p2⟩ := seqB_inv I y2
    obtain ⟨t2, ht2, rt2⟩ := rv2.get w2
    have hzl : (m + 4) < s.heap.objs.size := Heap.lt_size hz
    refine pyNext_Z2_item d1 d2 hz hTI hTO h1 h2 p1 p2 (x1 := t1) (x2 := t2) (by simpa using ht1) (by simpa using ht2) fun h' c1 c2 v1 v2 hT hsz hk => ?_
    refine ⟨_, rfl, wpAny_letOwnedTupleGo_zip (s := { s with heap := h' }) c1 fun h'' z'' sb => ?_⟩
    have hT2 : h''.get? s.heap.objs.size = some { cls := .type "tuple", data := .seq #[t1, t2] } := (sb.2 _ (Nat.ne_of_gt hzl)).trans hT
    have new : ObjOk X.prog X.w (upd H s.heap.objs.size (.tup [u1, u2])) h'' s.heap.objs.size (.tup [u1, u2]) :=
      ⟨by show 2 ≤ sizeLine; decide, [t1, t2], .cons rt1 (.cons rt2 (.nil)), ⟨_, hT2, rfl, _, rfl⟩⟩
    have I1 : Inv X pins σ (upd H s.heap.objs.size (.tup [u1, u2])) { s with heap := h'' } :=
      I.turnedNew (t' := s.toks) (ch := [(m + 4), (m + 2), (m + 3), m, (m + 1)]) (fun c o hb q => (sb.2 c (fun q' => hb (by simp [q']))).trans (hk c o (fun q' => hb (by simp [q'])) (fun q' => hb (by simp [q'])) (fun q' => hb (by simp [q'])) (fun q' => hb (by simp [q'])) q)) hf (Nat.le_refl _) new
    refine ⟨.ref s.heap.objs.size, _, I1, rfl, ⟨_, u1, u2, rfl, I.hok.fresh (Nat.le_refl _), rfl, fun l hl => by rw [seqB_inj I hl y1]; exact w1, fun l hl => by rw [seqB_inj I hl y2]; exact w2⟩, ⟨z'', ?_, ⟨t1, t2, ?_⟩, ?_, ?_⟩, fun c hcm => ?_⟩
    · exact (sb.2 _ (ne_n (by omega))).trans (hk _ _ (ne_n (by omega)) (ne_n (by omega)) (ne_n (by omega)) (ne_n (by omega)) hTI)
    · exact (sb.2 _ (ne_n (by omega))).trans c2
    · exact v1.at fun o q => (sb.2 _ (ne_n (by omega))).trans q
    · exact v2.at fun o q => (sb.2 _ (ne_n (by omega))).trans q
    · have hlt : c < s.heap.objs.size := by
        have e' : c = (m + 4) ∨ c = (m + 2) ∨ c = (m + 3) ∨ c = m ∨ c = (m + 1) := by simpa using hcm
        have e2 : @Eq Nat c ((m + 4)) ∨ @Eq Nat c ((m + 2)) ∨ @Eq Nat c ((m + 3)) ∨ @Eq Nat c (m) ∨ @Eq Nat c ((m + 1)) := e'
        have e3 : @LT.lt Nat _ ((m + 4)) s.heap.objs.size := hzl
        show @LT.lt Nat _ c _
        omega
      rw [upd_ne (Nat.ne_of_lt hlt)]
      exact (hf c hcm).1
  done := by
    intro X hP hw hK hc i pins s σ H E I hf st hg
    subst hP hw hK
    obtain ⟨hz, hTI, ⟨a1, a2, hTO⟩, h1, h2⟩ := st
    obtain ⟨xs1, xs2, y1, y2, hend⟩ := hg
    obtain ⟨its1, rv1, p1⟩ := seqB_inv I y1
    have j1 := rv1.length
    obtain ⟨its2, rv2, p2⟩ := seqB_inv I y2
    have j2 := rv2.length
    have he : its1.toArray[i]? = none ∨ its2.toArray[i]? = none := by
      rcases hend with q | q
      · exact .inl (by simp; omega)
      · exact .inr ((by simp; omega))
    exact pyNext_Z2_end (I.ok.hd hc) d1 d2 hz hTI hTO h1 h2 p1 p2 he fun h' hk => ⟨rfl, I.turnedL (t' := s.toks) (ch := [(m + 4), (m + 2), (m + 3), m, (m + 1)]) (fun c o hb q => hk c o (fun q' => hb (by simp [q'])) (fun q' => hb (by simp [q'])) (fun q' => hb (by simp [q'])) (fun q' => hb (by simp [q'])) q) hf⟩
  self := fun A i s Q E st h => wpAny_pyIter_zip st.1 h
def iZ2 (K : PySem.W.Frag) (ta : TA) : TI := fun σ H R => ta σ H fun vs H1 => ∃ (l1 l2 : Addr) (b1 b2 : Bool) (xs1 xs2 : List V), vs = [.ref l1, .ref l2] ∧ SqB K b1 H1 l1 xs1 ∧ SqB K b2 H1 l2 xs2 ∧ R (ItZ2 K b1 b2 l1 l2) H1
theorem pi_Z2 {X : Cx} {e1 e2 : Expr} {ta : TA} {p pos tpos : Pos} {elts : List Expr} {kk : Nat} (hg : Gl X "zip") (hm : X.mg "zip" = none) (ha : PA X [e1, e2] ta)
    (hs : starEach [e1, e2] X.env = (false, eval e1 X.env) :: starEach [e2] X.env := by rfl) (hpl : (backTo pos (starEach [e2] X.env)).any (·.1) = false := by rfl) :
    PI X (.Tuple elts kk tpos) (.Call (.Name "zip" p) [e1, e2] [] pos) (iZ2 X.K ta) := by
  refine ⟨fun pins s σ H R I h => ?_⟩
  refine Call_ (ld_blt I hg hm PyProof.Rows.boot_zip (PyProof.Rows.callWith_type1 (thn (ha.run pos pins s σ H _ I h) fun us s1 ⟨vs, H1, I1, r1, q1⟩ => ?_) hs hpl))
  obtain ⟨l1, l2, b1, b2, xs1, xs2, ex, y1, y2, q⟩ := q1
  subst ex
  obtain ⟨rfl⟩ := refs2 r1
  obtain ⟨its1, rv1, p1⟩ := seqB_inv I1 y1
  obtain ⟨its2, rv2, p2⟩ := seqB_inv I1 y2
  refine call_Z2 p1 p2 fun h' hz hTI hTO h1 h2 hsz hk => wpAny_pyIter_zip hz ?_
  have I2 : Inv X pins σ H1 { s1 with heap := h' } := I1.kept (t' := s1.toks) hk
  refine ⟨s1.heap.objs.size + 4, [s1.heap.objs.size + 4, s1.heap.objs.size + 2, s1.heap.objs.size + 3, s1.heap.objs.size, s1.heap.objs.size + 1], _, _, H1, rfl, I2, turn_Z2 (m := s1.heap.objs.size) p1.lt p2.lt, ⟨hz, hTI, ⟨_, _, hTO⟩, h1, h2⟩, fun c hcm => ?_, q⟩
  have e' : c = s1.heap.objs.size + 4 ∨ c = s1.heap.objs.size + 2 ∨ c = s1.heap.objs.size + 3 ∨ c = s1.heap.objs.size ∨ c = s1.heap.objs.size + 1 := by simpa using hcm
  have e2 : @Eq Nat c (s1.heap.objs.size + 4) ∨ @Eq Nat c (s1.heap.objs.size + 2) ∨ @Eq Nat c (s1.heap.objs.size + 3) ∨ @Eq Nat c (s1.heap.objs.size) ∨ @Eq Nat c (s1.heap.objs.size + 1) := e'
  have hle : s1.heap.objs.size ≤ c := by show @LE.le Nat _ _ c; omega
  exact I1.fpOk hle (I1.hok.fresh hle)
end
section
variable {prog : Program} {w : World} {A : Around} {E : Value → Shared → Prop} {s : Shared}
abbrev IsT3 (h : Heap) (T : Addr) (a1 a2 a3 : Value) : Prop := h.get? T = some { cls := .type "tuple", data := .seq #[a1, a2, a3] }
theorem upd_3 {T : Addr} {a1 a2 a3 x : Value} {k : Nat} {Q : Unit → Shared → Prop} (hT : IsT3 s.heap T a1 a2 a3)
    (h : ∀ h', h'.get? T = some { cls := .type "tuple", data := .seq ((#[a1, a2, a3] : Array Value).setIfInBounds k x) } → Heap.SameBut T s.heap h' → Q () { s with heap := h' }) :
    wpAny (model prog w) A (updateSeq T (·.setIfInBounds k x)) Q E s := by
  refine wpAny_updateSeq hT rfl (h _ ?_ (Heap.SameBut.update ..))
  rw [Heap.get?_update_self _ hT rfl]
  simp [Obj.mapSeq]
theorem Z3_next_item {m k : Nat} {l1 l2 l3 : Nat} {b1 b2 b3 : Bool} {xs1 xs2 xs3 : Array Value} {a1 a2 a3 : Value} {x1 x2 x3 : Value} {Q : Value → Shared → Prop} (d1 : (l1 : Nat) < m) (d2 : (l2 : Nat) < m) (d3 : (l3 : Nat) < m) (hz : IsZip s.heap (m + 5) (m + 3) (m + 4) .none) (hTI : IsT3 s.heap (m + 3) (.ref m) (.ref (m + 1)) (.ref (m + 2))) (hTO : IsT3 s.heap (m + 4) a1 a2 a3)
    (h1 : ItK b1 s.heap m l1 k) (h2 : ItK b2 s.heap (m + 1) l2 k) (h3 : ItK b3 s.heap (m + 2) l3 k) (q1 : SqK b1 s.heap l1 xs1) (q2 : SqK b2 s.heap l2 xs2) (q3 : SqK b3 s.heap l3 xs3) (e1 : xs1[k]? = some x1) (e2 : xs2[k]? = some x2) (e3 : xs3[k]? = some x3)
    (hQ : ∀ h', IsZip h' (m + 5) (m + 3) (m + 4) (rawInt s.heap.objs.size) → IsT3 h' (m + 4) x1 x2 x3 → ItK b1 h' m l1 (k + 1) → ItK b2 h' (m + 1) l2 (k + 1) → ItK b3 h' (m + 2) l3 (k + 1) → IsT3 h' s.heap.objs.size x1 x2 x3 → h'.objs.size = s.heap.objs.size + 1 → (∀ c o, c ≠ (m + 5) → c ≠ (m + 4) → c ≠ m → c ≠ (m + 1) → c ≠ (m + 2) → s.heap.get? c = some o → h'.get? c = some o) → Q (.ref s.heap.objs.size) { s with heap := h' }) :
    wpAny (model prog w) A (Builtin.«zip.__next__» ⟨[.ref (m + 5)], []⟩) (fun fin s' => ∃ v, fin = .done (.ret v) ∧ Q v s') E s := by
  show wpAny _ _ (field (.ref (m + 5)) 2 >>= _) _ _ _
  refine wpAny_bind (wpAny_field hz rfl (x := .bool false) rfl ?_)
  show wpAny _ _ (field (.ref (m + 5)) 3 >>= _) _ _ _
  refine wpAny_bind (wpAny_field hz rfl (x := .ref (m + 3)) rfl ?_)
  refine wpAny_bind (wpAny_seqItems hTI rfl ?_)
  show wpAny _ _ (Builtin.SmallTypes.ownedTupleIsFree (.ref (m + 5)) >>= _) _ _ _
  refine wpAny_bind ?_
  unfold Builtin.SmallTypes.ownedTupleIsFree
  refine wpAny_bind (wpAny_field hz rfl (x := .none) rfl (wpAny_pure ?_))
  simp only [if_true]
  refine wpAny_bind (wpAny_rule ?_)
  refine wpAny_bind (wpAny_field hz rfl (x := .ref (m + 4)) rfl ?_)
  refine wpAny_bind (wpAny_setField_rec hz (by simp) fun g0 hz0 s0 => ?_)
  replace hz0 : IsZip g0 (m + 5) (m + 3) (m + 4) .ellipsis := hz0
  refine wpAny_bind ?_
  simp only [List.zipIdx_cons, List.zipIdx_nil, List.forIn_cons, List.forIn_nil]
  have t0 : IsT3 g0 (m + 4) a1 a2 a3 := s0.extBut _ _ (ne_n (by omega)) hTO
  have h1_0 := h1.extBut s0.extBut (ne_n (by omega))
  have q1_0 := q1.extBut s0.extBut (ne_n (by omega))
  have h2_0 := h2.extBut s0.extBut (ne_n (by omega))
  have q2_0 := q2.extBut s0.extBut (ne_n (by omega))
  have h3_0 := h3.extBut s0.extBut (ne_n (by omega))
  have q3_0 := q3.extBut s0.extBut (ne_n (by omega))
  refine wpAny_bind (wpAny_bind (wpAny_onRaise ?_))
  show wpAny _ _ (Builtin.SmallTypes.nextOf (.ref m) >>= _) _ _ _
  refine wpAny_bind (nextK_item h1_0 q1_0 e1 fun f1 n1 r1 => wpAny_pure ?_)
  have u1 : IsT3 f1 (m + 4) a1 a2 a3 := r1.extBut _ _ (ne_n (by omega)) t0
  refine wpAny_bind (wpAny_seqItems u1 rfl ?_)
  refine wpAny_bind (upd_3 u1 fun g1 t1 s1 => ?_)
  replace t1 : IsT3 g1 (m + 4) x1 a2 a3 := t1
  have n1_1 := n1.extBut s1.extBut (ne_n (by omega))
  have h2_1 := (h2_0.extBut r1.extBut (ne_n (by omega))).extBut s1.extBut (ne_n (by omega))
  have q2_1 := (q2_0.extBut r1.extBut (ne_n (by omega))).extBut s1.extBut (ne_n (by omega))
  have h3_1 := (h3_0.extBut r1.extBut (ne_n (by omega))).extBut s1.extBut (ne_n (by omega))
  have q3_1 := (q3_0.extBut r1.extBut (ne_n (by omega))).extBut s1.extBut (ne_n (by omega))
  refine wpAny_bind (wpAny_letGo (wpAny_pure ?_))
  refine wpAny_bind (wpAny_bind (wpAny_onRaise ?_))
  show wpAny _ _ (Builtin.SmallTypes.nextOf (.ref (m + 1)) >>= _) _ _ _
  refine wpAny_bind (nextK_item h2_1 q2_1 e2 fun f2 n2 r2 => wpAny_pure ?_)
  have u2 : IsT3 f2 (m + 4) x1 a2 a3 := r2.extBut _ _ (ne_n (by omega)) t1
  refine wpAny_bind (wpAny_seqItems u2 rfl ?_)
  refine wpAny_bind (upd_3 u2 fun g2 t2 s2 => ?_)
  replace t2 : IsT3 g2 (m + 4) x1 x2 a3 := t2
  have n1_2 := (n1_1.extBut r2.extBut (ne_n (by omega))).extBut s2.extBut (ne_n (by omega))
  have n2_2 := n2.extBut s2.extBut (ne_n (by omega))
  have h3_2 := (h3_1.extBut r2.extBut (ne_n (by omega))).extBut s2.extBut (ne_n (by omega))
  have q3_2 := (q3_1.extBut r2.extBut (ne_n (by omega))).extBut s2.extBut (ne_n (by omega))
  refine wpAny_bind (wpAny_letGo (wpAny_pure ?_))
  refine wpAny_bind (wpAny_bind (wpAny_onRaise ?_))
  show wpAny _ _ (Builtin.SmallTypes.nextOf (.ref (m + 2)) >>= _) _ _ _
  refine wpAny_bind (nextK_item h3_2 q3_2 e3 fun f3 n3 r3 => wpAny_pure ?_)
  have u3 : IsT3 f3 (m + 4) x1 x2 a3 := r3.extBut _ _ (ne_n (by omega)) t2
  refine wpAny_bind (wpAny_seqItems u3 rfl ?_)
  refine wpAny_bind (upd_3 u3 fun g3 t3 s3 => ?_)
  replace t3 : IsT3 g3 (m + 4) x1 x2 x3 := t3
  have n1_3 := (n1_2.extBut r3.extBut (ne_n (by omega))).extBut s3.extBut (ne_n (by omega))
  have n2_3 := (n2_2.extBut r3.extBut (ne_n (by omega))).extBut s3.extBut (ne_n (by omega))
  have n3_3 := n3.extBut s3.extBut (ne_n (by omega))
  refine wpAny_bind (wpAny_letGo (wpAny_pure (wpAny_pure ?_)))
  refine wpAny_bind (wpAny_seqItems t3 rfl ?_)
  refine wpAny_bind (wpAny_newTuple ?_)
  have hsz : g3.objs.size = s.heap.objs.size := by rw [s3.1, r3.1, s2.1, r2.1, s1.1, r1.1, s0.1]
  have hzn : IsZip g3 (m + 5) (m + 3) (m + 4) .ellipsis := s3.extBut _ _ (ne_n (by omega)) (r3.extBut _ _ (ne_n (by omega)) (s2.extBut _ _ (ne_n (by omega)) (r2.extBut _ _ (ne_n (by omega)) (s1.extBut _ _ (ne_n (by omega)) (r1.extBut _ _ (ne_n (by omega)) (hz0))))))
  have hkn : ∀ c o, c ≠ (m + 5) → c ≠ (m + 4) → c ≠ m → c ≠ (m + 1) → c ≠ (m + 2) → s.heap.get? c = some o → g3.get? c = some o := fun c o c1 c2 y1 y2 y3 e => s3.extBut _ _ c2 (r3.extBut _ _ y3 (s2.extBut _ _ c2 (r2.extBut _ _ y2 (s1.extBut _ _ c2 (r1.extBut _ _ y1 (s0.extBut _ _ c1 e))))))
  have hzlt := Heap.lt_size hzn
  show wpAny _ _ (Builtin.SmallTypes.ownedTupleHandOut (.ref (m + 5)) (.ref g3.objs.size) >>= _) _ _ _
  refine wpAny_bind ?_
  unfold Builtin.SmallTypes.ownedTupleHandOut
  have hz6 : IsZip (g3.push { cls := .type "tuple", data := .seq #[x1, x2, x3] }) (m + 5) (m + 3) (m + 4) .ellipsis := Heap.get?_push_of_some _ hzn
  refine wpAny_bind (wpAny_setField_rec hz6 (by simp) fun h7 hz7 hs7 => ?_)
  replace hz7 : IsZip h7 (m + 5) (m + 3) (m + 4) (rawInt g3.objs.size) := hz7
  refine wpAny_setField_rec hz7 (by simp) fun h8 hz8 hs8 => ?_
  replace hz8 : IsZip h8 (m + 5) (m + 3) (m + 4) (rawInt g3.objs.size) := hz8
  have up : ∀ c o, c ≠ (m + 5) → g3.get? c = some o → h8.get? c = some o := fun c o c1 e => hs8.extBut _ _ c1 (hs7.extBut _ _ c1 (Heap.get?_push_of_some _ e))
  have hT8 : IsT3 h8 g3.objs.size x1 x2 x3 := hs8.extBut _ _ (Nat.ne_of_gt hzlt) (hs7.extBut _ _ (Nat.ne_of_gt hzlt) (Heap.get?_push_size _ rfl))
  have hz9 : h8.objs.size = g3.objs.size + 1 := by rw [hs8.1, hs7.1, Heap.size_push]
  rw [hsz] at hz8 hT8 hz9
  refine wpAny_pure ⟨_, rfl, ?_⟩
  show Q (.ref g3.objs.size) _
  rw [hsz]
  exact hQ h8 hz8 (up _ _ (ne_n (by omega)) t3) (n1_3.at fun o e => up _ o (ne_n (by omega)) e) (n2_3.at fun o e => up _ o (ne_n (by omega)) e) (n3_3.at fun o e => up _ o (ne_n (by omega)) e) hT8 hz9 fun c o c1 c2 y1 y2 y3 e => up c o c1 (hkn c o c1 c2 y1 y2 y3 e)
theorem Z3_next_end {m k : Nat} {l1 l2 l3 : Nat} {b1 b2 b3 : Bool} {xs1 xs2 xs3 : Array Value} {a1 a2 a3 : Value} {Q : Fin → Shared → Prop} (hh : A.handled = none) (d1 : (l1 : Nat) < m) (d2 : (l2 : Nat) < m) (d3 : (l3 : Nat) < m) (hz : IsZip s.heap (m + 5) (m + 3) (m + 4) .none) (hTI : IsT3 s.heap (m + 3) (.ref m) (.ref (m + 1)) (.ref (m + 2))) (hTO : IsT3 s.heap (m + 4) a1 a2 a3)
    (h1 : ItK b1 s.heap m l1 k) (h2 : ItK b2 s.heap (m + 1) l2 k) (h3 : ItK b3 s.heap (m + 2) l3 k) (q1 : SqK b1 s.heap l1 xs1) (q2 : SqK b2 s.heap l2 xs2) (q3 : SqK b3 s.heap l3 xs3) (hend : xs1[k]? = none ∨ xs2[k]? = none ∨ xs3[k]? = none)
    (hE : ∀ h' e, (∀ c o, c ≠ (m + 5) → c ≠ (m + 4) → c ≠ m → c ≠ (m + 1) → c ≠ (m + 2) → s.heap.get? c = some o → h'.get? c = some o) → (∃ o, h'.get? e = some o ∧ o.cls = .type "StopIteration") → E (.ref e) { s with heap := h' }) :
    wpAny (model prog w) A (Builtin.«zip.__next__» ⟨[.ref (m + 5)], []⟩) Q E s := by
  show wpAny _ _ (field (.ref (m + 5)) 2 >>= _) _ _ _
  refine wpAny_bind (wpAny_field hz rfl (x := .bool false) rfl ?_)
  show wpAny _ _ (field (.ref (m + 5)) 3 >>= _) _ _ _
  refine wpAny_bind (wpAny_field hz rfl (x := .ref (m + 3)) rfl ?_)
  refine wpAny_bind (wpAny_seqItems hTI rfl ?_)
  show wpAny _ _ (Builtin.SmallTypes.ownedTupleIsFree (.ref (m + 5)) >>= _) _ _ _
  refine wpAny_bind ?_
  unfold Builtin.SmallTypes.ownedTupleIsFree
  refine wpAny_bind (wpAny_field hz rfl (x := .none) rfl (wpAny_pure ?_))
  simp only [if_true]
  refine wpAny_bind (wpAny_rule ?_)
  refine wpAny_bind (wpAny_field hz rfl (x := .ref (m + 4)) rfl ?_)
  refine wpAny_bind (wpAny_setField_rec hz (by simp) fun g0 hz0 s0 => ?_)
  replace hz0 : IsZip g0 (m + 5) (m + 3) (m + 4) .ellipsis := hz0
  refine wpAny_bind ?_
  simp only [List.zipIdx_cons, List.zipIdx_nil, List.forIn_cons, List.forIn_nil]
  have t0 : IsT3 g0 (m + 4) a1 a2 a3 := s0.extBut _ _ (ne_n (by omega)) hTO
  have h1_0 := h1.extBut s0.extBut (ne_n (by omega))
  have q1_0 := q1.extBut s0.extBut (ne_n (by omega))
  have h2_0 := h2.extBut s0.extBut (ne_n (by omega))
  have q2_0 := q2.extBut s0.extBut (ne_n (by omega))
  have h3_0 := h3.extBut s0.extBut (ne_n (by omega))
  have q3_0 := q3.extBut s0.extBut (ne_n (by omega))
  have kz0 : IsZip g0 (m + 5) (m + 3) (m + 4) .ellipsis := hz0
  refine wpAny_bind (wpAny_bind (wpAny_onRaise ?_))
  show wpAny _ _ (Builtin.SmallTypes.nextOf (.ref m) >>= _) _ _ _
  cases e1 : xs1[k]? with
  | none =>
    refine wpAny_bind (nextK_end hh h1_0 q1_0 e1 fun f e r he => ?_)
    obtain ⟨oe, hoe, hce⟩ := he
    have hzf : IsZip f (m + 5) (m + 3) (m + 4) .ellipsis := r _ _ (ne_n (by omega)) kz0
    have hez : e ≠ (m + 5) := fun x => by subst x; rw [hzf] at hoe; cases hoe; simp at hce
    exact wpAny_setField_rec hzf (by simp) fun ff _ rr => hE ff e (fun c o c1 c2 y1 y2 y3 x => rr.extBut _ _ c1 (r _ _ y1 (s0.extBut _ _ c1 x))) ⟨oe, rr.extBut _ _ hez hoe, hce⟩
  | some x1 =>
    refine wpAny_bind (nextK_item h1_0 q1_0 e1 fun f1 n1 r1 => wpAny_pure ?_)
    have u1 : IsT3 f1 (m + 4) a1 a2 a3 := r1.extBut _ _ (ne_n (by omega)) t0
    refine wpAny_bind (wpAny_seqItems u1 rfl ?_)
    refine wpAny_bind (upd_3 u1 fun g1 t1 s1 => ?_)
    replace t1 : IsT3 g1 (m + 4) x1 a2 a3 := t1
    have h2_1 := (h2_0.extBut r1.extBut (ne_n (by omega))).extBut s1.extBut (ne_n (by omega))
    have q2_1 := (q2_0.extBut r1.extBut (ne_n (by omega))).extBut s1.extBut (ne_n (by omega))
    have h3_1 := (h3_0.extBut r1.extBut (ne_n (by omega))).extBut s1.extBut (ne_n (by omega))
    have q3_1 := (q3_0.extBut r1.extBut (ne_n (by omega))).extBut s1.extBut (ne_n (by omega))
    have kz1 : IsZip g1 (m + 5) (m + 3) (m + 4) .ellipsis := s1.extBut _ _ (ne_n (by omega)) (r1.extBut _ _ (ne_n (by omega)) kz0)
    refine wpAny_bind (wpAny_letGo (wpAny_pure ?_))
    refine wpAny_bind (wpAny_bind (wpAny_onRaise ?_))
    show wpAny _ _ (Builtin.SmallTypes.nextOf (.ref (m + 1)) >>= _) _ _ _
    cases e2 : xs2[k]? with
    | none =>
      refine wpAny_bind (nextK_end hh h2_1 q2_1 e2 fun f e r he => ?_)
      obtain ⟨oe, hoe, hce⟩ := he
      have hzf : IsZip f (m + 5) (m + 3) (m + 4) .ellipsis := r _ _ (ne_n (by omega)) kz1
      have hez : e ≠ (m + 5) := fun x => by subst x; rw [hzf] at hoe; cases hoe; simp at hce
      exact wpAny_setField_rec hzf (by simp) fun ff _ rr => hE ff e (fun c o c1 c2 y1 y2 y3 x => rr.extBut _ _ c1 (r _ _ y2 (s1.extBut _ _ c2 (r1.extBut _ _ y1 (s0.extBut _ _ c1 x))))) ⟨oe, rr.extBut _ _ hez hoe, hce⟩
    | some x2 =>
      refine wpAny_bind (nextK_item h2_1 q2_1 e2 fun f2 n2 r2 => wpAny_pure ?_)
      have u2 : IsT3 f2 (m + 4) x1 a2 a3 := r2.extBut _ _ (ne_n (by omega)) t1
      refine wpAny_bind (wpAny_seqItems u2 rfl ?_)
      refine wpAny_bind (upd_3 u2 fun g2 t2 s2 => ?_)
      replace t2 : IsT3 g2 (m + 4) x1 x2 a3 := t2
      have h3_2 := (h3_1.extBut r2.extBut (ne_n (by omega))).extBut s2.extBut (ne_n (by omega))
      have q3_2 := (q3_1.extBut r2.extBut (ne_n (by omega))).extBut s2.extBut (ne_n (by omega))
      have kz2 : IsZip g2 (m + 5) (m + 3) (m + 4) .ellipsis := s2.extBut _ _ (ne_n (by omega)) (r2.extBut _ _ (ne_n (by omega)) kz1)
      refine wpAny_bind (wpAny_letGo (wpAny_pure ?_))
      refine wpAny_bind (wpAny_bind (wpAny_onRaise ?_))
      show wpAny _ _ (Builtin.SmallTypes.nextOf (.ref (m + 2)) >>= _) _ _ _
      have e3 : xs3[k]? = none := by
        rcases hend with h | h | h
        · rw [e1] at h; cases h
        · rw [e2] at h; cases h
        · exact h
      refine wpAny_bind (nextK_end hh h3_2 q3_2 e3 fun f e r he => ?_)
      obtain ⟨oe, hoe, hce⟩ := he
      have hzf : IsZip f (m + 5) (m + 3) (m + 4) .ellipsis := r _ _ (ne_n (by omega)) kz2
      have hez : e ≠ (m + 5) := fun x => by subst x; rw [hzf] at hoe; cases hoe; simp at hce
      exact wpAny_setField_rec hzf (by simp) fun ff _ rr => hE ff e (fun c o c1 c2 y1 y2 y3 x => rr.extBut _ _ c1 (r _ _ y3 (s2.extBut _ _ c2 (r2.extBut _ _ y2 (s1.extBut _ _ c2 (r1.extBut _ _ y1 (s0.extBut _ _ c1 x))))))) ⟨oe, rr.extBut _ _ hez hoe, hce⟩
theorem pyNext_Z3_item {m k : Nat} {l1 l2 l3 : Nat} {b1 b2 b3 : Bool} {xs1 xs2 xs3 : Array Value} {a1 a2 a3 : Value} {x1 x2 x3 : Value} {Q : Option Value → Shared → Prop} (d1 : (l1 : Nat) < m) (d2 : (l2 : Nat) < m) (d3 : (l3 : Nat) < m) (hz : IsZip s.heap (m + 5) (m + 3) (m + 4) .none) (hTI : IsT3 s.heap (m + 3) (.ref m) (.ref (m + 1)) (.ref (m + 2))) (hTO : IsT3 s.heap (m + 4) a1 a2 a3)
    (h1 : ItK b1 s.heap m l1 k) (h2 : ItK b2 s.heap (m + 1) l2 k) (h3 : ItK b3 s.heap (m + 2) l3 k) (q1 : SqK b1 s.heap l1 xs1) (q2 : SqK b2 s.heap l2 xs2) (q3 : SqK b3 s.heap l3 xs3) (e1 : xs1[k]? = some x1) (e2 : xs2[k]? = some x2) (e3 : xs3[k]? = some x3)
    (hQ : ∀ h', IsZip h' (m + 5) (m + 3) (m + 4) (rawInt s.heap.objs.size) → IsT3 h' (m + 4) x1 x2 x3 → ItK b1 h' m l1 (k + 1) → ItK b2 h' (m + 1) l2 (k + 1) → ItK b3 h' (m + 2) l3 (k + 1) → IsT3 h' s.heap.objs.size x1 x2 x3 → h'.objs.size = s.heap.objs.size + 1 → (∀ c o, c ≠ (m + 5) → c ≠ (m + 4) → c ≠ m → c ≠ (m + 1) → c ≠ (m + 2) → s.heap.get? c = some o → h'.get? c = some o) → Q (some (.ref s.heap.objs.size)) { s with heap := h' }) :
    wpAny (model prog w) A (pyNext (.ref (m + 5))) Q E s := by
  have hT : s.TypeIs (.ref (m + 5)) "zip" := ⟨_, hz, rfl⟩
  unfold pyNext
  exact wpAny_bind (wpAny_attempt (wpAny_callSpecial?_slot (name := Str.ofString "__next__") hT F.slot_zip_next
    (wpAny_call_entry F.slot_zip_next hT F.entry_zip_next
      (Z3_next_item d1 d2 d3 hz hTI hTO h1 h2 h3 q1 q2 q3 e1 e2 e3 fun h' c1 c2 v1 v2 v3 c5 c6 c7 => wpAny_pure (hQ h' c1 c2 v1 v2 v3 c5 c6 c7)) (F.args_zip_next_1 _))))
theorem pyNext_Z3_end {m k : Nat} {l1 l2 l3 : Nat} {b1 b2 b3 : Bool} {xs1 xs2 xs3 : Array Value} {a1 a2 a3 : Value} {Q : Option Value → Shared → Prop} (hh : A.handled = none) (d1 : (l1 : Nat) < m) (d2 : (l2 : Nat) < m) (d3 : (l3 : Nat) < m) (hz : IsZip s.heap (m + 5) (m + 3) (m + 4) .none) (hTI : IsT3 s.heap (m + 3) (.ref m) (.ref (m + 1)) (.ref (m + 2))) (hTO : IsT3 s.heap (m + 4) a1 a2 a3)
    (h1 : ItK b1 s.heap m l1 k) (h2 : ItK b2 s.heap (m + 1) l2 k) (h3 : ItK b3 s.heap (m + 2) l3 k) (q1 : SqK b1 s.heap l1 xs1) (q2 : SqK b2 s.heap l2 xs2) (q3 : SqK b3 s.heap l3 xs3) (hend : xs1[k]? = none ∨ xs2[k]? = none ∨ xs3[k]? = none)
    (hQ : ∀ h', (∀ c o, c ≠ (m + 5) → c ≠ (m + 4) → c ≠ m → c ≠ (m + 1) → c ≠ (m + 2) → s.heap.get? c = some o → h'.get? c = some o) → Q none { s with heap := h' }) : wpAny (model prog w) A (pyNext (.ref (m + 5))) Q E s := by
  have hT : s.TypeIs (.ref (m + 5)) "zip" := ⟨_, hz, rfl⟩
  unfold pyNext
  refine wpAny_bind (wpAny_attempt (wpAny_callSpecial?_slot (name := Str.ofString "__next__") hT F.slot_zip_next
    (wpAny_call_entry F.slot_zip_next hT F.entry_zip_next (Z3_next_end hh d1 d2 d3 hz hTI hTO h1 h2 h3 q1 q2 q3 hend fun h' e hk he => ?_) (F.args_zip_next_1 _))))
  obtain ⟨o, ho, hc⟩ := he
  refine wpAny_bind (wpAny_isInstance (T := "StopIteration") (b := true) ⟨o, ho, hc⟩ isSubtype_stop ?_)
  exact wpAny_pure (hQ _ hk)
end
abbrev Z3H1 (h : Heap) (b1 : Bool) (l1 : Addr) : Heap := h.push (itObj b1 l1)
abbrev Z3H2 (h : Heap) (b1 : Bool) (l1 : Addr) (b2 : Bool) (l2 : Addr) : Heap := (Z3H1 h b1 l1).push (itObj b2 l2)
abbrev Z3H3 (h : Heap) (b1 : Bool) (l1 : Addr) (b2 : Bool) (l2 : Addr) (b3 : Bool) (l3 : Addr) : Heap := (Z3H2 h b1 l1 b2 l2).push (itObj b3 l3)
abbrev Z3H4 (h : Heap) (b1 : Bool) (l1 : Addr) (b2 : Bool) (l2 : Addr) (b3 : Bool) (l3 : Addr) : Heap := (Z3H3 h b1 l1 b2 l2 b3 l3).push { cls := .type "tuple", data := .seq #[.ref h.objs.size, .ref (Z3H1 h b1 l1).objs.size, .ref (Z3H2 h b1 l1 b2 l2).objs.size] }
abbrev Z3H5 (h : Heap) (b1 : Bool) (l1 : Addr) (b2 : Bool) (l2 : Addr) (b3 : Bool) (l3 : Addr) : Heap := (Z3H4 h b1 l1 b2 l2 b3 l3).push { cls := .type "tuple", data := .seq #[.none, .none, .none] }
abbrev Z3H6 (h : Heap) (b1 : Bool) (l1 : Addr) (b2 : Bool) (l2 : Addr) (b3 : Bool) (l3 : Addr) : Heap := (Z3H5 h b1 l1 b2 l2 b3 l3).push { cls := .type "zip", data := .fields #[.none, .bool false, .bool false, .ref (Z3H3 h b1 l1 b2 l2 b3 l3).objs.size, .ref (Z3H4 h b1 l1 b2 l2 b3 l3).objs.size] }
theorem meets_Z3_new (b1 : Bool) (l1 : Addr) (b2 : Bool) (l2 : Addr) (b3 : Bool) (l3 : Addr) (xs1 : Array Value) (xs2 : Array Value) (xs3 : Array Value) :
    Meets (Builtin.«zip.__new__» ⟨[.type "zip", .ref l1, .ref l2, .ref l3], []⟩) (fun _ R s => SqK b1 s.heap l1 xs1 ∧ SqK b2 s.heap l2 xs2 ∧ SqK b3 s.heap l3 xs3 ∧
      R (.ok (.ret (.ref (Z3H5 s.heap b1 l1 b2 l2 b3 l3).objs.size))) { s with heap := Z3H6 s.heap b1 l1 b2 l2 b3 l3 }) :=
  .of_wp fun prog w A R s h => by
    obtain ⟨hp, g, d, tk, os⟩ := s; obtain ⟨q1, q2, q3, h⟩ := h
    have hsub := sub_zip
    have L1 : SqK b1 (Shared.heap ⟨hp, g, d, tk, os⟩) l1 xs1 := q1
    have L2 : SqK b2 (Shared.heap ⟨Z3H1 hp b1 l1, g, d, tk, os⟩) l2 xs2 := (q2).push _
    have L3 : SqK b3 (Shared.heap ⟨Z3H2 hp b1 l1 b2 l2, g, d, tk, os⟩) l3 xs3 := ((q3).push _).push _
    wp_walk using iterK L1, iterK L2, iterK L3
    exact ⟨_, rfl, h⟩
section
variable {prog : Program} {w : World} {A : Around} {E : Value → Shared → Prop} {s : Shared}
theorem call_Z3 {l1 l2 l3 : Addr} {b1 b2 b3 : Bool} {xs1 xs2 xs3 : Array Value} {Q : Value → Shared → Prop} (q1 : SqK b1 s.heap l1 xs1) (q2 : SqK b2 s.heap l2 xs2) (q3 : SqK b3 s.heap l3 xs3)
    (h : ∀ h', IsZip h' (s.heap.objs.size + 5) (s.heap.objs.size + 3) (s.heap.objs.size + 4) .none → IsT3 h' (s.heap.objs.size + 3) (.ref s.heap.objs.size) (.ref (s.heap.objs.size + 1)) (.ref (s.heap.objs.size + 2)) → IsT3 h' (s.heap.objs.size + 4) .none .none .none → ItK b1 h' s.heap.objs.size l1 0 → ItK b2 h' (s.heap.objs.size + 1) l2 0 → ItK b3 h' (s.heap.objs.size + 2) l3 0 → h'.objs.size = s.heap.objs.size + 6 →
      (∀ c o, s.heap.get? c = some o → h'.get? c = some o) → Q (.ref (s.heap.objs.size + 5)) { s with heap := h' }) :
    wpAny (model prog w) A (call (.type "zip") [.ref l1, .ref l2, .ref l3]) Q E s := by
  refine callType_new F.called_zip (by decide) (tcz3 _ _ _) (ncz3 _ _ _) (fun obj => aoi3 obj _ _ _) F.entry_zip_new (meets_Z3_new b1 l1 b2 l2 b3 l3 xs1 xs2 xs3) ⟨q1, q2, q3, ?_⟩
  have z1 : (Z3H1 s.heap b1 l1).objs.size = s.heap.objs.size + 1 := Heap.size_push ..
  have z2 : (Z3H2 s.heap b1 l1 b2 l2).objs.size = s.heap.objs.size + 2 := by rw [Heap.size_push, z1]
  have z3 : (Z3H3 s.heap b1 l1 b2 l2 b3 l3).objs.size = s.heap.objs.size + 3 := by rw [Heap.size_push, z2]
  have z4 : (Z3H4 s.heap b1 l1 b2 l2 b3 l3).objs.size = s.heap.objs.size + 4 := by rw [Heap.size_push, z3]
  have z5 : (Z3H5 s.heap b1 l1 b2 l2 b3 l3).objs.size = s.heap.objs.size + 5 := by rw [Heap.size_push, z4]
  have z6 : (Z3H6 s.heap b1 l1 b2 l2 b3 l3).objs.size = s.heap.objs.size + 6 := by rw [Heap.size_push, z5]
  have g1 : (Z3H6 s.heap b1 l1 b2 l2 b3 l3).get? (s.heap.objs.size) = some _ := Heap.get?_push_of_some _ (Heap.get?_push_of_some _ (Heap.get?_push_of_some _ (Heap.get?_push_of_some _ (Heap.get?_push_of_some _ (Heap.get?_push_size _ (by first | rfl | exact itObj_free _ _))))))
  have g2 : (Z3H6 s.heap b1 l1 b2 l2 b3 l3).get? ((Z3H1 s.heap b1 l1).objs.size) = some _ := Heap.get?_push_of_some _ (Heap.get?_push_of_some _ (Heap.get?_push_of_some _ (Heap.get?_push_of_some _ (Heap.get?_push_size _ (by first | rfl | exact itObj_free _ _)))))
  have g3 : (Z3H6 s.heap b1 l1 b2 l2 b3 l3).get? ((Z3H2 s.heap b1 l1 b2 l2).objs.size) = some _ := Heap.get?_push_of_some _ (Heap.get?_push_of_some _ (Heap.get?_push_of_some _ (Heap.get?_push_size _ (by first | rfl | exact itObj_free _ _))))
  have g4 : (Z3H6 s.heap b1 l1 b2 l2 b3 l3).get? ((Z3H3 s.heap b1 l1 b2 l2 b3 l3).objs.size) = some _ := Heap.get?_push_of_some _ (Heap.get?_push_of_some _ (Heap.get?_push_size _ (by first | rfl | exact itObj_free _ _)))
  have g5 : (Z3H6 s.heap b1 l1 b2 l2 b3 l3).get? ((Z3H4 s.heap b1 l1 b2 l2 b3 l3).objs.size) = some _ := Heap.get?_push_of_some _ (Heap.get?_push_size _ (by first | rfl | exact itObj_free _ _))
  have g6 : (Z3H6 s.heap b1 l1 b2 l2 b3 l3).get? ((Z3H5 s.heap b1 l1 b2 l2 b3 l3).objs.size) = some _ := Heap.get?_push_size _ (by first | rfl | exact itObj_free _ _)
  show _ ∧ _
  rw [z1] at g2
  rw [z2] at g3
  rw [z3] at g4
  rw [z4] at g5
  rw [z5] at g6
  rw [z1, z2] at g4
  rw [z3, z4] at g6
  rw [z5]
  exact ⟨⟨_, g6, rfl⟩, h _ g6 g4 g5 (itK_of g1) (itK_of g2) (itK_of g3) z6 fun c o x => Heap.get?_push_of_some _ (Heap.get?_push_of_some _ (Heap.get?_push_of_some _ (Heap.get?_push_of_some _ (Heap.get?_push_of_some _ (Heap.get?_push_of_some _ (x))))))⟩
/-- the sequences as they stand at each turn, the items in new tuples -/
def ItZ3 (K : PySem.W.Frag) (b1 b2 b3 : Bool) (l1 l2 l3 : Addr) : It :=
  ⟨fun i H => ∃ (xs1 xs2 xs3 : List V) (u1 u2 u3 : V), SqB K b1 H l1 xs1 ∧ SqB K b2 H l2 xs2 ∧ SqB K b3 H l3 xs3 ∧ xs1[i]? = some u1 ∧ xs2[i]? = some u2 ∧ xs3[i]? = some u3,
    fun i H v H' => ∃ (T : Addr) (u1 u2 u3 : V), v = .ref T ∧ H T = none ∧ H' = upd H T (.tup [u1, u2, u3]) ∧ (∀ xs, SqB K b1 H l1 xs → xs[i]? = some u1) ∧ (∀ xs, SqB K b2 H l2 xs → xs[i]? = some u2) ∧ (∀ xs, SqB K b3 H l3 xs → xs[i]? = some u3),
    fun i H => ∃ (xs1 xs2 xs3 : List V), SqB K b1 H l1 xs1 ∧ SqB K b2 H l2 xs2 ∧ SqB K b3 H l3 xs3 ∧ (xs1.length ≤ i ∨ xs2.length ≤ i ∨ xs3.length ≤ i)⟩
theorem turn_Z3 {P : Program} {w : World} {K : PySem.W.Frag} {elts : List Expr} {kk : Nat} {tpos : Pos} {m : Nat} {l1 l2 l3 : Nat} {b1 b2 b3 : Bool} (d1 : (l1 : Nat) < m) (d2 : (l2 : Nat) < m) (d3 : (l3 : Nat) < m) :
    Turn P w K (.Tuple elts kk tpos) (ItZ3 K b1 b2 b3 l1 l2 l3) [(m + 5), (m + 3), (m + 4), m, (m + 1), (m + 2)] (m + 5) (fun i h => IsZip h (m + 5) (m + 3) (m + 4) .none ∧ IsT3 h (m + 3) (.ref m) (.ref (m + 1)) (.ref (m + 2)) ∧ (∃ a1 a2 a3, IsT3 h (m + 4) a1 a2 a3) ∧ ItK b1 h m l1 i ∧ ItK b2 h (m + 1) l2 i ∧ ItK b3 h (m + 2) l3 i) where
  mem := by simp
  obj := fun i h st c hc => by
    obtain ⟨hz, hTI, ⟨a1, a2, a3, hTO⟩, h1, h2, h3⟩ := st
    have e' : c = (m + 5) ∨ c = (m + 3) ∨ c = (m + 4) ∨ c = m ∨ c = (m + 1) ∨ c = (m + 2) := by simpa using hc
    rcases e' with q | q | q | q | q | q
    · rw [q]; exact ⟨_, hz, fun v q => nomatch q⟩
    · rw [q]; exact ⟨_, hTI, fun v q => nomatch q⟩
    · rw [q]; exact ⟨_, hTO, fun v q => nomatch q⟩
    · rw [q]; exact h1.nocell
    · rw [q]; exact h2.nocell
    · rw [q]; exact h3.nocell
  keep := fun i h h' st kp => by
    obtain ⟨hz, hTI, ⟨a1, a2, a3, hTO⟩, h1, h2, h3⟩ := st
    exact ⟨kp _ (by simp) _ hz, kp _ (by simp) _ hTI, ⟨a1, a2, a3, kp _ (by simp) _ hTO⟩, h1.at fun o q => kp _ (by simp) o q, h2.at fun o q => kp _ (by simp) o q, h3.at fun o q => kp _ (by simp) o q⟩
  item := by
    intro X hP hw hK hc i pins s σ H E I hf st hg
    subst hP hw hK
    obtain ⟨hz, hTI, ⟨a1, a2, a3, hTO⟩, h1, h2, h3⟩ := st
    obtain ⟨xs1, xs2, xs3, u1, u2, u3, y1, y2, y3, w1, w2, w3⟩ := hg
    obtain ⟨its1, rv1, p1⟩ := seqB_inv I y1
    obtain ⟨t1, ht1, rt1⟩ := rv1.get w1
    obtain ⟨its2, rv2, p2⟩ := seqB_inv I y2
    obtain ⟨t2, ht2, rt2⟩ := rv2.get w2
    obtain ⟨its3, rv3, p3⟩ := seqB_inv I y3
    obtain ⟨t3, ht3, rt3⟩ := rv3.get w3
    have hzl : (m + 5) < s.heap.objs.size := Heap.lt_size hz
    refine pyNext_Z3_item d1 d2 d3 hz hTI hTO h1 h2 h3 p1 p2 p3 (x1 := t1) (x2 := t2) (x3 := t3) (by simpa using ht1) (by simpa using ht2) (by simpa using ht3) fun h' c1 c2 v1 v2 v3 hT hsz hk => ?_
    refine ⟨_, rfl, wpAny_letOwnedTupleGo_zip (s := { s with heap := h' }) c1 fun h'' z'' sb => ?_⟩
    have hT2 : h''.get? s.heap.objs.size = some { cls := .type "tuple", data := .seq #[t1, t2, t3] } := (sb.2 _ (Nat.ne_of_gt hzl)).trans hT
    have new : ObjOk X.prog X.w (upd H s.heap.objs.size (.tup [u1, u2, u3])) h'' s.heap.objs.size (.tup [u1, u2, u3]) :=
      ⟨by show 3 ≤ sizeLine; decide, [t1, t2, t3], .cons rt1 (.cons rt2 (.cons rt3 (.nil))), ⟨_, hT2, rfl, _, rfl⟩⟩
    have I1 : Inv X pins σ (upd H s.heap.objs.size (.tup [u1, u2, u3])) { s with heap := h'' } :=
      I.turnedNew (t' := s.toks) (ch := [(m + 5), (m + 3), (m + 4), m, (m + 1), (m + 2)]) (fun c o hb q => (sb.2 c (fun q' => hb (by simp [q']))).trans (hk c o (fun q' => hb (by simp [q'])) (fun q' => hb (by simp [q'])) (fun q' => hb (by simp [q'])) (fun q' => hb (by simp [q'])) (fun q' => hb (by simp [q'])) q)) hf (Nat.le_refl _) new
    refine ⟨.ref s.heap.objs.size, _, I1, rfl, ⟨_, u1, u2, u3, rfl, I.hok.fresh (Nat.le_refl _), rfl, fun l hl => by rw [seqB_inj I hl y1]; exact w1, fun l hl => by rw [seqB_inj I hl y2]; exact w2, fun l hl => by rw [seqB_inj I hl y3]; exact w3⟩, ⟨z'', ?_, ⟨t1, t2, t3, ?_⟩, ?_, ?_, ?_⟩, fun c hcm => ?_⟩
    · exact (sb.2 _ (ne_n (by omega))).trans (hk _ _ (ne_n (by omega)) (ne_n (by omega)) (ne_n (by omega)) (ne_n (by omega)) (ne_n (by omega)) hTI)
    · exact (sb.2 _ (ne_n (by omega))).trans c2
    · exact v1.at fun o q => (sb.2 _ (ne_n (by omega))).trans q
    · exact v2.at fun o q => (sb.2 _ (ne_n (by omega))).trans q
    · exact v3.at fun o q => (sb.2 _ (ne_n (by omega))).trans q
    · have hlt : c < s.heap.objs.size := by
        have e' : c = (m + 5) ∨ c = (m + 3) ∨ c = (m + 4) ∨ c = m ∨ c = (m + 1) ∨ c = (m + 2) := by simpa using hcm
        have e2 : @Eq Nat c ((m + 5)) ∨ @Eq Nat c ((m + 3)) ∨ @Eq Nat c ((m + 4)) ∨ @Eq Nat c (m) ∨ @Eq Nat c ((m + 1)) ∨ @Eq Nat c ((m + 2)) := e'
        have e3 : @LT.lt Nat _ ((m + 5)) s.heap.objs.size := hzl
        show @LT.lt Nat _ c _
        omega
      rw [upd_ne (Nat.ne_of_lt hlt)]
      exact (hf c hcm).1
  done := by
    intro X hP hw hK hc i pins s σ H E I hf st hg
    subst hP hw hK
    obtain ⟨hz, hTI, ⟨a1, a2, a3, hTO⟩, h1, h2, h3⟩ := st
    obtain ⟨xs1, xs2, xs3, y1, y2, y3, hend⟩ := hg
    obtain ⟨its1, rv1, p1⟩ := seqB_inv I y1
    have j1 := rv1.length
    obtain ⟨its2, rv2, p2⟩ := seqB_inv I y2
    have j2 := rv2.length
    obtain ⟨its3, rv3, p3⟩ := seqB_inv I y3
    have j3 := rv3.length
    have he : its1.toArray[i]? = none ∨ its2.toArray[i]? = none ∨ its3.toArray[i]? = none := by
      rcases hend with q | q | q
      · exact .inl (by simp; omega)
      · exact .inr (.inl (by simp; omega))
      · exact .inr (.inr ((by simp; omega)))
    exact pyNext_Z3_end (I.ok.hd hc) d1 d2 d3 hz hTI hTO h1 h2 h3 p1 p2 p3 he fun h' hk => ⟨rfl, I.turnedL (t' := s.toks) (ch := [(m + 5), (m + 3), (m + 4), m, (m + 1), (m + 2)]) (fun c o hb q => hk c o (fun q' => hb (by simp [q'])) (fun q' => hb (by simp [q'])) (fun q' => hb (by simp [q'])) (fun q' => hb (by simp [q'])) (fun q' => hb (by simp [q'])) q) hf⟩
  self := fun A i s Q E st h => wpAny_pyIter_zip st.1 h
def iZ3 (K : PySem.W.Frag) (ta : TA) : TI := fun σ H R => ta σ H fun vs H1 => ∃ (l1 l2 l3 : Addr) (b1 b2 b3 : Bool) (xs1 xs2 xs3 : List V), vs = [.ref l1, .ref l2, .ref l3] ∧ SqB K b1 H1 l1 xs1 ∧ SqB K b2 H1 l2 xs2 ∧ SqB K b3 H1 l3 xs3 ∧ R (ItZ3 K b1 b2 b3 l1 l2 l3) H1
theorem pi_Z3 {X : Cx} {e1 e2 e3 : Expr} {ta : TA} {p pos tpos : Pos} {elts : List Expr} {kk : Nat} (hg : Gl X "zip") (hm : X.mg "zip" = none) (ha : PA X [e1, e2, e3] ta)
    (hs : starEach [e1, e2, e3] X.env = (false, eval e1 X.env) :: starEach [e2, e3] X.env := by rfl) (hpl : (backTo pos (starEach [e2, e3] X.env)).any (·.1) = false := by rfl) :
    PI X (.Tuple elts kk tpos) (.Call (.Name "zip" p) [e1, e2, e3] [] pos) (iZ3 X.K ta) := by
  refine ⟨fun pins s σ H R I h => ?_⟩
  refine Call_ (ld_blt I hg hm PyProof.Rows.boot_zip (PyProof.Rows.callWith_type1 (thn (ha.run pos pins s σ H _ I h) fun us s1 ⟨vs, H1, I1, r1, q1⟩ => ?_) hs hpl))
  obtain ⟨l1, l2, l3, b1, b2, b3, xs1, xs2, xs3, ex, y1, y2, y3, q⟩ := q1
  subst ex
  obtain ⟨rfl⟩ := refs3 r1
  obtain ⟨its1, rv1, p1⟩ := seqB_inv I1 y1
  obtain ⟨its2, rv2, p2⟩ := seqB_inv I1 y2
  obtain ⟨its3, rv3, p3⟩ := seqB_inv I1 y3
  refine call_Z3 p1 p2 p3 fun h' hz hTI hTO h1 h2 h3 hsz hk => wpAny_pyIter_zip hz ?_
  have I2 : Inv X pins σ H1 { s1 with heap := h' } := I1.kept (t' := s1.toks) hk
  refine ⟨s1.heap.objs.size + 5, [s1.heap.objs.size + 5, s1.heap.objs.size + 3, s1.heap.objs.size + 4, s1.heap.objs.size, s1.heap.objs.size + 1, s1.heap.objs.size + 2], _, _, H1, rfl, I2, turn_Z3 (m := s1.heap.objs.size) p1.lt p2.lt p3.lt, ⟨hz, hTI, ⟨_, _, _, hTO⟩, h1, h2, h3⟩, fun c hcm => ?_, q⟩
  have e' : c = s1.heap.objs.size + 5 ∨ c = s1.heap.objs.size + 3 ∨ c = s1.heap.objs.size + 4 ∨ c = s1.heap.objs.size ∨ c = s1.heap.objs.size + 1 ∨ c = s1.heap.objs.size + 2 := by simpa using hcm
  have e2 : @Eq Nat c (s1.heap.objs.size + 5) ∨ @Eq Nat c (s1.heap.objs.size + 3) ∨ @Eq Nat c (s1.heap.objs.size + 4) ∨ @Eq Nat c (s1.heap.objs.size) ∨ @Eq Nat c (s1.heap.objs.size + 1) ∨ @Eq Nat c (s1.heap.objs.size + 2) := e'
  have hle : s1.heap.objs.size ≤ c := by show @LE.le Nat _ _ c; omega
  exact I1.fpOk hle (I1.hok.fresh hle)
end
end MP

namespace MP
open PySem PySem.Spec PyProof.Rows L2
/-! ### walks over zip, over a dict -/
def watch (s : Src) : List (Nat × List D) := match s.obj with
  | some n => [(n, s.items)]
  | none => []
theorem ok_objs {s : Src} {st : Store} (h : s.Ok st) : ∀ p ∈ s.objs, st[p.1]? = some (.lst p.2) := by
  unfold Src.Ok at h
  intro p m
  cases e : s.objs with
  | nil => rw [e] at m; cases m
  | cons a l =>
    rw [e] at h m
    exact h p m
theorem ok_of {items : List D} {objs : List (Nat × List D)} {st : Store} (h : ∀ p ∈ objs, st[p.1]? = some (.lst p.2)) : Src.Ok { items := items, objs := objs } st := by
  cases objs with
  | nil => trivial
  | cons a l => exact h
section
variable [TBs]
theorem src_seqB {K : PySem.W.Frag} {mg : Str → Option Value} {ρ : List Addr} {st : Store} {H : Hp} {a : D} {v : V} {s : Src} (sm : Sim K mg ρ st H) (r : Rep K mg ρ H a v) (e : srcOf st a = some s) :
    ∃ l b xs, v = .ref l ∧ SqB K b H l xs ∧ ∀ ρ' st' H', Go K mg ρ H ρ' st' H' → (∀ p ∈ watch s, st'[p.1]? = some (.lst p.2)) → ∃ xs', SqB K b H' l xs' ∧ Reps K mg ρ' H' s.items xs' := by
  cases r with
  | @tup l xs ds hs rs =>
    cases e
    exact ⟨l, false, xs, rfl, hs, fun ρ' st' H' g' _ => ⟨xs, g'.ext.tup _ _ hs, rs.mono g'.pre g'.ext⟩⟩
  | @scr l ns hs =>
    cases e
    exact ⟨l, true, _, rfl, hs.seq, fun ρ' st' H' g' _ => ⟨_, (g'.ext.scr _ _ hs).seq, reps_ints ns⟩⟩
  | @ref l n hn =>
    unfold srcOf at e
    cases q : st[n]? with
    | none => simp only [q] at e; cases e
    | some o =>
      obtain ⟨_, ho, z, w, u, rr⟩ := sm.get q (.ref hn)
      cases z
      cases rr with
      | @lst ds xs rs =>
        simp only [q] at e
        cases e
        refine ⟨l, true, xs, rfl, .inl (.inl u), fun ρ' st' H' g' ok => ?_⟩
        have hk : st'[n]? = some (.lst ds) := ok (n, ds) (List.mem_singleton.mpr rfl)
        obtain ⟨_, ho, z, w, u, rr⟩ := g'.sim.get hk (Rep.mono g'.pre g'.ext (.ref hn))
        cases z
        cases rr with
        | lst rs => exact ⟨_, .inl (.inl u), rs⟩
      | _ => simp only [q] at e; cases e
  | _ => cases e
variable {X : Cx} {E : XK}
def zD2 : List D → List D → List D
  | d1 :: r1, d2 :: r2 => .tup [d1, d2] :: zD2 r1 r2
  | _, _ => []
theorem zD2_get : ∀ (l1 l2 : List D) (i : Nat) (d : D), (zD2 l1 l2)[i]? = some d → ∃ d1 d2, l1[i]? = some d1 ∧ l2[i]? = some d2 ∧ d = .tup [d1, d2]
  | d1 :: r1, d2 :: r2, 0, d, h => by
    unfold zD2 at h
    cases h
    exact ⟨d1, d2, rfl, rfl, rfl⟩
  | d1 :: r1, d2 :: r2, i + 1, d, h => by
    unfold zD2 at h
    rw [List.getElem?_cons_succ] at h
    obtain ⟨x1, x2, h1, h2, e⟩ := zD2_get r1 r2 i d h
    exact ⟨x1, x2, by rw [List.getElem?_cons_succ]; exact h1, by rw [List.getElem?_cons_succ]; exact h2, e⟩
  | [], _, i, d, h => by unfold zD2 at h; cases h
  | _ :: _, [], i, d, h => by unfold zD2 at h; cases h
theorem zD2_end : ∀ (l1 l2 : List D) (i : Nat), (zD2 l1 l2).length ≤ i → l1.length ≤ i ∨ l2.length ≤ i
  | d1 :: r1, d2 :: r2, 0, h => by unfold zD2 at h; cases h
  | d1 :: r1, d2 :: r2, i + 1, h => by
    unfold zD2 at h
    have := zD2_end r1 r2 i (Nat.le_of_succ_le_succ h)
    simp only [List.length_cons]
    omega
  | [], _, i, _ => .inl (Nat.zero_le _)
  | _ :: _, [], i, _ => .inr (Nat.zero_le _)
def zipK2 (s1 s2 : Option Src) (st : Store) : Res Src := match s1, s2 with
  | some s1, some s2 => .ok { items := zD2 s1.items s2.items, objs := watch s1 ++ watch s2 } st
  | _, _ => .bad
def zipS2 (ds : List D) (st : Store) : Res Src := match ds with
  | [a1, a2] => zipK2 (srcOf st a1) (srcOf st a2) st
  | _ => .bad
def fZip2 (f : Ev (List D)) : Ev Src := fun env st => bindR (f env st) zipS2
theorem mi_zip2 {p pos tpos : Pos} {elts : List Expr} {kk : Nat} {e1 e2 : Expr} {f : Ev (List D)} (hm : X.mg "zip" = none) (ha : MA X E [e1, e2] f) (hg : Gl X "zip" := by rfl)
    (hs : starEach [e1, e2] X.env = (false, eval e1 X.env) :: starEach [e2] X.env := by rfl) (hpl : (backTo pos (starEach [e2] X.env)).any (·.1) = false := by rfl) :
    MI X E (.Tuple elts kk tpos) (.Call (.Name "zip" p) [e1, e2] [] pos) (fZip2 f) := by
  obtain ⟨t, pa, ra⟩ := ha
  refine ⟨_, pi_Z2 hg hm pa hs hpl, fun ρ env st σ H Q s e h => ?_⟩
  refine ra ρ env st σ H _ s e (h.split fun ds st1 ρ1 H1 vs g1 rd h1 => ?_)
  match ds, vs, rd with
  | [], _, .nil => exact h1.elim
  | [_], _, .cons _ (.nil) => exact h1.elim
  | _ :: _ :: _ :: _, _, .cons _ (.cons _ (.cons _ _)) => exact h1.elim
  | [a1, a2], _, .cons q1 (.cons q2 (.nil)) =>
    unfold zipS2 zipK2 at h1
    simp only at h1
    cases z1 : srcOf st1 a1 with
    | none => simp only [z1] at h1; exact h1.elim
    | some s1 =>
      cases z2 : srcOf st1 a2 with
      | none => simp only [z1, z2] at h1; exact h1.elim
      | some s2 =>
        simp only [z1, z2] at h1
        obtain ⟨l1, b1, xs1, rfl, y1, w1⟩ := src_seqB g1.sim q1 z1
        obtain ⟨l2, b2, xs2, rfl, y2, w2⟩ := src_seqB g1.sim q2 z2
        refine ⟨l1, l2, b1, b2, xs1, xs2, rfl, y1, y2, h1.done (R := RIt X.K X.mg) g1.sim fun ρ' st' H' g' ok => ?_⟩
        have okk := ok_objs ok
        simp only at okk
        obtain ⟨us1, v1, r1⟩ := w1 ρ' st' H' g' fun p mm => okk p (List.mem_append_left _ mm)
        obtain ⟨us2, v2, r2⟩ := w2 ρ' st' H' g' fun p mm => okk p (List.mem_append_right _ mm)
        refine ⟨fun i d hd => ?_, fun i hi => ?_⟩
        · obtain ⟨d1, d2, g1, g2, rfl⟩ := zD2_get _ _ i d hd
          obtain ⟨x1, j1, rr1⟩ := r1.get g1
          obtain ⟨x2, j2, rr2⟩ := r2.get g2
          refine ⟨⟨us1, us2, x1, x2, v1, v2, j1, j2⟩, fun y H2 hy => ?_⟩
          obtain ⟨T, o1, o2, rfl, hT, rfl, f1, f2⟩ := hy
          have c1 := f1 us1 v1
          rw [j1] at c1
          cases c1
          have c2 := f2 us2 v2
          rw [j2] at c2
          cases c2
          have g := Go.fresh (K := X.K) (mg := X.mg) (u := .tup [x1, x2]) g'.sim hT
          exact ⟨g, .tup (.inl (.inl upd_same)) (.cons (rr1.mono g.pre g.ext) (.cons (rr2.mono g.pre g.ext) (.nil)))⟩
        · refine ⟨us1, us2, v1, v2, ?_⟩
          rw [← r1.length]
          rw [← r2.length]
          exact zD2_end _ _ i hi
def zD3 : List D → List D → List D → List D
  | d1 :: r1, d2 :: r2, d3 :: r3 => .tup [d1, d2, d3] :: zD3 r1 r2 r3
  | _, _, _ => []
theorem zD3_get : ∀ (l1 l2 l3 : List D) (i : Nat) (d : D), (zD3 l1 l2 l3)[i]? = some d → ∃ d1 d2 d3, l1[i]? = some d1 ∧ l2[i]? = some d2 ∧ l3[i]? = some d3 ∧ d = .tup [d1, d2, d3]
  | d1 :: r1, d2 :: r2, d3 :: r3, 0, d, h => by
    unfold zD3 at h
    cases h
    exact ⟨d1, d2, d3, rfl, rfl, rfl, rfl⟩
  | d1 :: r1, d2 :: r2, d3 :: r3, i + 1, d, h => by
    unfold zD3 at h
    rw [List.getElem?_cons_succ] at h
    obtain ⟨x1, x2, x3, h1, h2, h3, e⟩ := zD3_get r1 r2 r3 i d h
    exact ⟨x1, x2, x3, by rw [List.getElem?_cons_succ]; exact h1, by rw [List.getElem?_cons_succ]; exact h2, by rw [List.getElem?_cons_succ]; exact h3, e⟩
  | [], _, _, i, d, h => by unfold zD3 at h; cases h
  | _ :: _, [], _, i, d, h => by unfold zD3 at h; cases h
  | _ :: _, _ :: _, [], i, d, h => by unfold zD3 at h; cases h
theorem zD3_end : ∀ (l1 l2 l3 : List D) (i : Nat), (zD3 l1 l2 l3).length ≤ i → l1.length ≤ i ∨ l2.length ≤ i ∨ l3.length ≤ i
  | d1 :: r1, d2 :: r2, d3 :: r3, 0, h => by unfold zD3 at h; cases h
  | d1 :: r1, d2 :: r2, d3 :: r3, i + 1, h => by
    unfold zD3 at h
    have := zD3_end r1 r2 r3 i (Nat.le_of_succ_le_succ h)
    simp only [List.length_cons]
    omega
  | [], _, _, i, _ => .inl (Nat.zero_le _)
  | _ :: _, [], _, i, _ => .inr (.inl (Nat.zero_le _))
  | _ :: _, _ :: _, [], i, _ => .inr (.inr (Nat.zero_le _))
def zipK3 (s1 s2 s3 : Option Src) (st : Store) : Res Src := match s1, s2, s3 with
  | some s1, some s2, some s3 => .ok { items := zD3 s1.items s2.items s3.items, objs := watch s1 ++ watch s2 ++ watch s3 } st
  | _, _, _ => .bad
def zipS3 (ds : List D) (st : Store) : Res Src := match ds with
  | [a1, a2, a3] => zipK3 (srcOf st a1) (srcOf st a2) (srcOf st a3) st
  | _ => .bad
def fZip3 (f : Ev (List D)) : Ev Src := fun env st => bindR (f env st) zipS3
theorem mi_zip3 {p pos tpos : Pos} {elts : List Expr} {kk : Nat} {e1 e2 e3 : Expr} {f : Ev (List D)} (hm : X.mg "zip" = none) (ha : MA X E [e1, e2, e3] f) (hg : Gl X "zip" := by rfl)
    (hs : starEach [e1, e2, e3] X.env = (false, eval e1 X.env) :: starEach [e2, e3] X.env := by rfl) (hpl : (backTo pos (starEach [e2, e3] X.env)).any (·.1) = false := by rfl) :
    MI X E (.Tuple elts kk tpos) (.Call (.Name "zip" p) [e1, e2, e3] [] pos) (fZip3 f) := by
  obtain ⟨t, pa, ra⟩ := ha
  refine ⟨_, pi_Z3 hg hm pa hs hpl, fun ρ env st σ H Q s e h => ?_⟩
  refine ra ρ env st σ H _ s e (h.split fun ds st1 ρ1 H1 vs g1 rd h1 => ?_)
  match ds, vs, rd with
  | [], _, .nil => exact h1.elim
  | [_], _, .cons _ (.nil) => exact h1.elim
  | [_, _], _, .cons _ (.cons _ (.nil)) => exact h1.elim
  | _ :: _ :: _ :: _ :: _, _, .cons _ (.cons _ (.cons _ (.cons _ _))) => exact h1.elim
  | [a1, a2, a3], _, .cons q1 (.cons q2 (.cons q3 (.nil))) =>
    unfold zipS3 zipK3 at h1
    simp only at h1
    cases z1 : srcOf st1 a1 with
    | none => simp only [z1] at h1; exact h1.elim
    | some s1 =>
      cases z2 : srcOf st1 a2 with
      | none => simp only [z1, z2] at h1; exact h1.elim
      | some s2 =>
        cases z3 : srcOf st1 a3 with
        | none => simp only [z1, z2, z3] at h1; exact h1.elim
        | some s3 =>
          simp only [z1, z2, z3] at h1
          obtain ⟨l1, b1, xs1, rfl, y1, w1⟩ := src_seqB g1.sim q1 z1
          obtain ⟨l2, b2, xs2, rfl, y2, w2⟩ := src_seqB g1.sim q2 z2
          obtain ⟨l3, b3, xs3, rfl, y3, w3⟩ := src_seqB g1.sim q3 z3
          refine ⟨l1, l2, l3, b1, b2, b3, xs1, xs2, xs3, rfl, y1, y2, y3, h1.done (R := RIt X.K X.mg) g1.sim fun ρ' st' H' g' ok => ?_⟩
          have okk := ok_objs ok
          simp only at okk
          obtain ⟨us1, v1, r1⟩ := w1 ρ' st' H' g' fun p mm => okk p (List.mem_append_left _ (List.mem_append_left _ mm))
          obtain ⟨us2, v2, r2⟩ := w2 ρ' st' H' g' fun p mm => okk p (List.mem_append_left _ (List.mem_append_right _ mm))
          obtain ⟨us3, v3, r3⟩ := w3 ρ' st' H' g' fun p mm => okk p (List.mem_append_right _ mm)
          refine ⟨fun i d hd => ?_, fun i hi => ?_⟩
          · obtain ⟨d1, d2, d3, g1, g2, g3, rfl⟩ := zD3_get _ _ _ i d hd
            obtain ⟨x1, j1, rr1⟩ := r1.get g1
            obtain ⟨x2, j2, rr2⟩ := r2.get g2
            obtain ⟨x3, j3, rr3⟩ := r3.get g3
            refine ⟨⟨us1, us2, us3, x1, x2, x3, v1, v2, v3, j1, j2, j3⟩, fun y H2 hy => ?_⟩
            obtain ⟨T, o1, o2, o3, rfl, hT, rfl, f1, f2, f3⟩ := hy
            have c1 := f1 us1 v1
            rw [j1] at c1
            cases c1
            have c2 := f2 us2 v2
            rw [j2] at c2
            cases c2
            have c3 := f3 us3 v3
            rw [j3] at c3
            cases c3
            have g := Go.fresh (K := X.K) (mg := X.mg) (u := .tup [x1, x2, x3]) g'.sim hT
            exact ⟨g, .tup (.inl (.inl upd_same)) (.cons (rr1.mono g.pre g.ext) (.cons (rr2.mono g.pre g.ext) (.cons (rr3.mono g.pre g.ext) (.nil))))⟩
          · refine ⟨us1, us2, us3, v1, v2, v3, ?_⟩
            rw [← r1.length]
            rw [← r2.length]
            rw [← r3.length]
            exact zD3_end _ _ _ i hi

/-! ### a dict that is walked -/
def kyBack : Key → D
  | .inl i => .int i
  | .inr x => .str x
theorem kyBack_rep {K : PySem.W.Frag} {mg : Str → Option Value} {ρ : List Addr} {H : Hp} (k : Key) : Rep K mg ρ H (kyBack k) (kV k) := by
  cases k with
  | inl i => exact .int i
  | inr x => exact .str x
def keyO (o : Option O) (st : Store) : Res Src := match o with
  | some (.dctL kvs) => .ok { items := kvs.map fun p => kyBack p.1 } st
  | _ => .bad
def keyS (d : D) (st : Store) : Res Src := match d with
  | .ref n => keyO st[n]? st
  | _ => .bad
def fKeys (f : Ev D) : Ev Src := fun env st => bindR (f env st) keyS
theorem mi_keys {tg e : Expr} {f : Ev D} (he : ME X E e f) : MI X E tg e (fKeys f) := by
  obtain ⟨t, p, r⟩ := he
  refine ⟨_, pi_keys p, fun ρ env st σ H Q s e h => ?_⟩
  refine r ρ env st σ H _ s e (h.split fun d st1 ρ1 H1 v g1 rd h1 => ?_)
  cases d with
  | ref n =>
    unfold keyS keyO at h1
    simp only at h1
    cases q : st1[n]? with
    | none => simp only [q] at h1; exact h1.elim
    | some o =>
      obtain ⟨a, ho, z, w, u, rr⟩ := g1.sim.get q rd
      cases rr with
      | @dctL kvs ws o pr =>
        simp only [q] at h1
        refine ⟨a, o, z, .inl ⟨ws, u, h1.done (R := RIt X.K X.mg) g1.sim fun ρ' st' H' g' ok => ?_⟩⟩
        have u' := g'.ext.frz _ _ _ u
        have hl := paired_len pr
        refine ⟨fun i d hd => ?_, fun i hi => ⟨u', by simpa [hl] using hi⟩⟩
        rw [List.getElem?_map] at hd
        cases e1 : kvs[i]? with
        | none => rw [e1] at hd; cases hd
        | some p =>
          rw [e1] at hd
          cases hd
          obtain ⟨y, e2, e3, _⟩ := paired_get pr e1
          refine ⟨⟨u', (List.getElem?_eq_some_iff.mp e2).1⟩, fun x H2 hy => ?_⟩
          obtain ⟨rfl, k, v', e4, rfl⟩ := hy
          rw [e2] at e4
          cases e4
          refine ⟨.refl g'.sim, ?_⟩
          show Rep _ _ _ _ (kyBack p.1) _
          rw [e3]
          exact kyBack_rep k
      | _ => simp only [q] at h1; exact h1.elim
  | _ => exact h1.elim
/-- the dict at n is locked -/
theorem Go.lock {K : PySem.W.Frag} {mg : Str → Option Value} {ρ : List Addr} {st : Store} {H : Hp} (s : Sim K mg ρ st H) {n : Nat} {a : Addr} {kvs : List (Key × D)} {ws : List (Key × V)} (o : Obj) (hn : st[n]? = some (.dct kvs)) (ha : ρ[n]? = some a) (hu : H a = some (.dK ws)) (pr : Paired (PF K mg ρ H Key) kvs ws) :
    Go K mg ρ H ρ (st.set n (.dctL kvs)) (upd H a (.frz o (.dK ws))) := Go.set s hn ha hu (.dct pr) (.dctL pr)
theorem Go.unlock {K : PySem.W.Frag} {mg : Str → Option Value} {ρ ρ' : List Addr} {st1 st2 : Store} {H H' : Hp} {n : Nat} {a : Addr} {kvs : List (Key × D)} {ws : List (Key × V)} {o : Obj} (hu : H a = some (.dK ws)) (ha : ρ[n]? = some a)
    (g : Go K mg ρ (upd H a (.frz o (.dK ws))) ρ' st2 H') (hn : st2[n]? = some (.dctL kvs)) : H' a = some (.frz o (.dK ws)) ∧ Go K mg ρ H ρ' (st2.set n (.dct kvs)) (upd H' a (.dK ws)) ∧ Ext0 K H' (upd H' a (.dK ws)) := by
  have fz := g.ext.frz a o _ upd_same
  have e0 : Ext0 K H' (upd H' a (.dK ws)) := by
    refine ⟨fun b xs hs => ?_, fun b xs hs => ?_⟩
    · rcases hs with (hs | ⟨ob, hs⟩) | hs
      · exact .inl (.inl (by rw [upd_ne (fun e => by rw [e, fz] at hs; cases hs)]; exact hs))
      · exact .inl (.inr ⟨ob, by rw [upd_ne (fun e => by rw [e, fz] at hs; cases hs)]; exact hs⟩)
      · exact .inr hs
    · rcases hs with ⟨ob, hs⟩ | hs
      · exact .inl ⟨ob, by rw [upd_ne (fun e => by rw [e, fz] at hs; cases hs)]; exact hs⟩
      · exact .inr hs
  have ha' : ρ'[n]? = some a := by
    obtain ⟨t, rfl⟩ := g.pre
    rw [List.getElem?_append_left (List.getElem?_eq_some_iff.mp ha).1]
    exact ha
  obtain ⟨a2, ho, e1, e2, r⟩ := g.sim.at_ n _ hn
  rw [ha'] at e1
  cases e1
  rw [fz] at e2
  cases e2
  have hlt := (List.getElem?_eq_some_iff.mp hn).1
  cases r with
  | dctL pr =>
    refine ⟨fz, ⟨g.pre, ⟨by rw [List.length_set]; exact g.sim.len, g.sim.nd, g.sim.tb, fun m x e => ?_⟩, ⟨fun b xs hs => ?_, fun b xs hs => ?_, fun b φ hs => ?_, fun b o' u hs => ?_⟩⟩, e0⟩
    · by_cases hm : n = m
      · subst hm
        rw [List.getElem?_set_self hlt] at e
        cases e
        exact ⟨a, _, ha', upd_same, RepO.mono0 (List.prefix_refl _) e0 (.dct pr)⟩
      · rw [List.getElem?_set_ne hm] at e
        obtain ⟨p, ho, e1, e2, q⟩ := g.sim.at_ m x e
        have : p ≠ a := fun z => by
          subst z
          exact hm ((List.getElem?_inj (List.getElem?_eq_some_iff.mp ha').1 g.sim.nd).mp (ha'.trans e1.symm))
        exact ⟨p, ho, e1, by rw [upd_ne this]; exact e2, q.mono0 (List.prefix_refl _) e0⟩
    · refine e0.tup b xs (g.ext.tup b xs ?_)
      rcases hs with (hs | ⟨ob, hs⟩) | hs
      · exact .inl (.inl (by rw [upd_ne (fun e => by rw [e, hu] at hs; cases hs)]; exact hs))
      · exact .inl (.inr ⟨ob, by rw [upd_ne (fun e => by rw [e, hu] at hs; cases hs)]; exact hs⟩)
      · exact .inr hs
    · refine e0.scr b xs (g.ext.scr b xs ?_)
      rcases hs with ⟨ob, hs⟩ | hs
      · exact .inl ⟨ob, by rw [upd_ne (fun e => by rw [e, hu] at hs; cases hs)]; exact hs⟩
      · exact .inr hs
    · have nb : b ≠ a := fun e => by rw [e, hu] at hs; cases hs
      rw [upd_ne nb]
      exact g.ext.oth b φ (by rw [upd_ne nb]; exact hs)
    · have nb : b ≠ a := fun e => by rw [e, hu] at hs; cases hs
      rw [upd_ne nb]
      exact g.ext.frz b o' u (by rw [upd_ne nb]; exact hs)
/-- the dict that f gives -/
def findN (f : Ev D) (env : Env) (st : Store) : Option Nat := match f env st with
  | .ok (.ref n) _ => some n
  | _ => none
def freeO (o : Option O) (n : Nat) (d : D) (st : Store) : Res D := match o with
  | some (.dctL kvs) => .ok d (st.set n (.dct kvs))
  | _ => .bad
def freeR (n : Nat) (r : Res D) : Res D := match r with
  | .ok d st => freeO st[n]? n d st
  | _ => .bad
def lockO (o : Option O) (n : Nat) (f : Ev D) (env : Env) (st : Store) : Res D := match o with
  | some (.dct kvs) => freeR n (f env (st.set n (.dctL kvs)))
  | _ => .bad
def lockN (q : Option Nat) (f : Ev D) (env : Env) (st : Store) : Res D := match q with
  | some n => lockO st[n]? n f env st
  | none => .bad
def eLock (fd f : Ev D) : Ev D := fun env st => lockN (findN fd env st) f env st
theorem me_lock {e : Expr} {fd f : Ev D} (he : ME X E e f) : ME X E e (eLock fd f) := by
  obtain ⟨t, p, r⟩ := he
  refine ⟨_, pe_lock p, fun ρ env st σ H Q s e h => ?_⟩
  unfold eLock at h
  cases q : findN fd env st with
  | none => rw [q] at h; exact h.elim
  | some n =>
    rw [q] at h
    unfold lockN lockO at h
    simp only at h
    cases q1 : st[n]? with
    | none => simp only [q1] at h; exact h.elim
    | some o =>
      obtain ⟨a, ho, ha, hu, rr⟩ := s.at_ n o q1
      cases rr with
      | @dct kvs ws pr =>
        simp only [q1] at h
        refine ⟨a, _, hu, trivial, fun od => ?_⟩
        have g := Go.lock s od q1 ha hu pr
        refine r ρ env _ σ _ _ g.sim (e.mono g.pre g.ext) ?_
        unfold freeR at h
        cases q2 : f env (st.set n (.dctL kvs)) with
        | ok d st2 =>
          rw [q2] at h
          simp only at h
          intro ρ' H' v g' rv
          cases q3 : st2[n]? with
          | none => unfold freeO at h; simp only [q3] at h; exact h.elim
          | some o3 =>
            cases o3 with
            | dctL kvs3 =>
              unfold freeO at h
              simp only [q3] at h
              obtain ⟨f1, f2, f3⟩ := Go.unlock (st1 := st) hu ha g' q3
              exact ⟨f1, h _ _ _ f2 (rv.mono0 (List.prefix_refl _) f3)⟩
            | _ => unfold freeO at h; simp only [q3] at h; exact h.elim
        | exc c d st2 => rw [q2] at h; exact h.elim
        | bad => rw [q2] at h; exact h.elim
      | _ => simp only [q1] at h; exact h.elim
end
end MP

namespace MP
open PySem PySem.Spec PyProof.Rows L2
/-! ### list(range(a, b)), t < u -/
/-- the ints of plain items -/
def intsD : List D → Option (List Int)
  | [] => some []
  | .int i :: r => match intsD r with
    | some l => some (i :: l)
    | none => none
  | _ :: _ => none
def lr2 (x y : D) (st : Store) : Res D := match x, y with
  | .int i, .int j => if -(2 ^ 62) ≤ i ∧ i < 2 ^ 62 ∧ -(2 ^ 62) ≤ j ∧ j < 2 ^ 62 ∧ (j - i).toNat ≤ 2 ^ 24 then .ok (.ref st.length) (st ++ [.lst (rgD i (j - i).toNat)]) else .bad
  | _, _ => .bad
def eLstRg2 (f g : Ev D) : Ev D := fun env st => bindR (f env st) fun x st1 => bindR (g env st1) fun y st2 => lr2 x y st2
/-- t < u of tuples of ints -/
def ltTT (a b : Option (List Int)) (st : Store) : Res D := match a, b with
  | some ns, some ms => .ok (.bl (HT.lexLt ns ms)) st
  | _, _ => .bad
def gLtT : G2 := fun x y st => match x, y with
  | .tup ds, .tup es => ltTT (intsD ds) (intsD es) st
  | _, _ => .bad
theorem intsD_map : ∀ ns : List Int, intsD (ns.map D.int) = some ns
  | [] => rfl
  | n :: ns => by
    show (match intsD (ns.map D.int) with | some l => some (n :: l) | none => none) = _
    rw [intsD_map ns]
section
variable [TBs]
theorem intsD_reps {K : PySem.W.Frag} {mg : Str → Option Value} {ρ : List Addr} {H : Hp} : ∀ {ds : List D} {xs : List V} {ns : List Int}, Reps K mg ρ H ds xs → intsD ds = some ns → xs = ns.map V.int
  | [], _, _, .nil, h => by cases h; rfl
  | .int i :: ds, _, ns, .cons r t, h => by
    unfold intsD at h
    cases e : intsD ds with
    | none => rw [e] at h; cases h
    | some l =>
      rw [e] at h
      cases h
      cases r
      rw [intsD_reps t e]
      rfl
  | .non :: _, _, _, .cons _ _, h => by cases h
  | .bl _ :: _, _, _, .cons _ _, h => by cases h
  | .str _ :: _, _, _, .cons _ _, h => by cases h
  | .tup _ :: _, _, _, .cons _ _, h => by cases h
  | .ref _ :: _, _, _, .cons _ _, h => by cases h
  | .fn _ :: _, _, _, .cons _ _, h => by cases h
  | .ty _ :: _, _, _, .cons _ _, h => by cases h
  | .scr _ :: _, _, _, .cons _ _, h => by cases h
theorem real_ltT {K : PySem.W.Frag} {mg : Str → Option Value} {E : XK} : Real2 K mg E (rLtT K) gLtT := by
  intro ρ st H x y a b Q s ra rb h
  cases ra with
  | @tup p xs ds hp rp =>
    cases rb with
    | @tup q ys es hq rq =>
      unfold gLtT ltTT at h
      simp only at h
      cases e1 : intsD ds with
      | none => simp only [e1] at h; exact h.elim
      | some ns =>
        cases e2 : intsD es with
        | none => simp only [e1, e2] at h; exact h.elim
        | some ms =>
          simp only [e1, e2] at h
          have z1 := intsD_reps rp e1
          have z2 := intsD_reps rq e2
          subst z1 z2
          exact ⟨p, q, ns, ms, rfl, rfl, hp, hq, h.done s (.bl _)⟩
    | _ => exact h.elim
  | _ => exact h.elim
variable {X : Cx} {E : XK} {a b : Expr} {fa fb : Ev D} {p p2 pos : Pos}
theorem rgV_reps2 {K : PySem.W.Frag} {mg : Str → Option Value} {ρ : List Addr} {H : Hp} (i j : Int) : Reps K mg ρ H (rgD i (j - i).toNat) (rgV i j) := by
  have e1 : rgD i (j - i).toNat = ((List.range (j - i).toNat).map fun k : Nat => i + (k : Int)).map D.int := by
    unfold rgD
    rw [List.map_map] <;> rfl
  have e2 : rgV i j = ((List.range (j - i).toNat).map fun k : Nat => i + (k : Int)).map V.int := by
    unfold rgV
    rw [List.map_map] <;> rfl
  rw [e1, e2]
  exact reps_ints _
theorem me_listRg2 {rp : Pos} (hc : X.calm = true) (hm : X.mg "list" = none) (hm2 : X.mg "range" = none) (ha : ME X E a fa) (hb : ME X E b fb) (hg : Gl X "list" := by rfl) (hg2 : Gl X "range" := by rfl)
    (na : starEach [a, b] X.env = (false, eval a X.env) :: starEach [b] X.env := by rfl) (nb : starEach [b] X.env = (false, eval b X.env) :: starEach [] X.env := by rfl) (hp : (backTo rp (starEach [b] X.env)).any (·.1) = false := by rfl) : ME X E (.Call (.Name "list" p) [.Call (.Name "range" p2) [a, b] [] rp] [] pos) (eLstRg2 fa fb) := by
  obtain ⟨t, pa, ra⟩ := ha
  obtain ⟨t2, pb, rb⟩ := hb
  refine ⟨_, pe_listRg hc hg hm (prg_2 hg2 hm2 pa pb na nb hp), fun ρ env st σ H Q s e h => ?_⟩
  refine ra ρ env st σ H _ s e (h.split fun x st1 ρ1 H1 v g1 rx h1 => ?_)
  refine rb ρ1 env st1 σ H1 _ g1.sim (e.mono g1.pre g1.ext) (h1.split fun y st2 ρ2 H2 v2 g2 ry h2 => ?_)
  cases x with
  | int i =>
    cases y with
    | int j =>
      cases rx
      cases ry
      unfold lr2 at h2
      simp only at h2
      by_cases hj : -(2 ^ 62) ≤ i ∧ i < 2 ^ 62 ∧ -(2 ^ 62) ≤ j ∧ j < 2 ^ 62 ∧ (j - i).toNat ≤ 2 ^ 24
      · rw [if_pos hj] at h2
        refine ⟨i, j, rfl, rfl, hj, fun pp hp => ?_⟩
        obtain ⟨g, r⟩ := Go.lst g2.sim (rgV_reps2 (K := X.K) (mg := X.mg) (ρ := ρ2) (H := H2) i j) hp
        exact h2 _ _ _ g r
      · rw [if_neg hj] at h2
        exact h2.elim
    | _ => unfold lr2 at h2; exact h2.elim
  | _ => unfold lr2 at h2; exact h2.elim
end
end MP

namespace MP
open PySem PySem.Spec PyProof.Rows L2
/-! ### min, max of two -/
def gMax : List D → Store → Res D := fun ds st => match ds with
  | [.int i, .int j] => .ok (.int (if j > i then j else i)) st
  | _ => .bad
def gMin : List D → Store → Res D := fun ds st => match ds with
  | [.int i, .int j] => .ok (.int (if j < i then j else i)) st
  | _ => .bad
section
variable [TBs] {E : XK}
theorem real_max {K : PySem.W.Frag} {mg : Str → Option Value} : RealC K mg E (fun xs H Q => ∃ i j, xs = [.int i, .int j] ∧ Q (.int (if j > i then j else i)) H) gMax := by
  intro ρ st H xs as Q s rs h
  match as, xs, rs with
  | [], _, .nil => exact h.elim
  | [d], _, .cons r .nil => cases d <;> exact h.elim
  | [d, e], _, .cons r (.cons r2 .nil) =>
    cases r with
    | int i => cases r2 with
      | int j => exact ⟨i, j, rfl, h.done s (.int _)⟩
      | _ => exact h.elim
    | _ => cases r2 <;> exact h.elim
  | d :: e :: f :: l, _, .cons r (.cons r2 (.cons _ _)) => cases d <;> cases e <;> exact h.elim
theorem real_min {K : PySem.W.Frag} {mg : Str → Option Value} : RealC K mg E (fun xs H Q => ∃ i j, xs = [.int i, .int j] ∧ Q (.int (if j < i then j else i)) H) gMin := by
  intro ρ st H xs as Q s rs h
  match as, xs, rs with
  | [], _, .nil => exact h.elim
  | [d], _, .cons r .nil => cases d <;> exact h.elim
  | [d, e], _, .cons r (.cons r2 .nil) =>
    cases r with
    | int i => cases r2 with
      | int j => exact ⟨i, j, rfl, h.done s (.int _)⟩
      | _ => exact h.elim
    | _ => cases r2 <;> exact h.elim
  | d :: e :: f :: l, _, .cons r (.cons r2 (.cons _ _)) => cases d <;> cases e <;> exact h.elim
end
end MP

namespace MP
open PySem PySem.Spec PyProof.Rows L2
/-! ### divmod, a list many times -/
def gDvm : List D → Store → Res D := fun ds st => match ds with
  | [.int i, .int j] => if CDiv i j then .ok (.tup [.int (i / j), .int (i % j)]) st else .bad
  | _ => .bad
def gRep : G2 := fun x y st => match x, y with
  | .ref n, .int k => match st[n]? with
    | some (.lst ds) => if -(2 ^ 63) ≤ k ∧ k < 2 ^ 63 ∧ ds.length * k.toNat ≤ sizeLine then .ok (.ref st.length) (st ++ [.lst (List.replicate k.toNat ds).flatten]) else .bad
    | _ => .bad
  | _, _ => .bad
section
variable [TBs] {E : XK} {K : PySem.W.Frag} {mg : Str → Option Value}
theorem real_dvm : RealC K mg E (fun xs H Q => ∃ i j, xs = [.int i, .int j] ∧ CDiv i j ∧ ∀ p, H p = none → Q (.ref p) (upd H p (.tup [.int (i / j), .int (i % j)]))) gDvm := by
  intro ρ st H xs as Q s rs h
  match as, xs, rs with
  | [], _, .nil => exact h.elim
  | [d], _, .cons r .nil => cases d <;> exact h.elim
  | [d, e], _, .cons r (.cons r2 .nil) =>
    cases r with
    | int i => cases r2 with
      | int j =>
        by_cases hz : CDiv i j
        · simp only [gDvm, if_pos hz] at h
          refine ⟨i, j, rfl, hz, fun p hp => ?_⟩
          have g := Go.fresh (u := .tup [.int (i / j), .int (i % j)]) s hp
          exact h _ _ _ g (.tup (.inl (.inl upd_same)) (.cons (.int _) (.cons (.int _) .nil)))
        · simp only [gDvm, if_neg hz] at h
          exact h.elim
      | _ => exact h.elim
    | _ => cases r2 <;> exact h.elim
  | d :: e :: f :: l, _, .cons r (.cons r2 (.cons _ _)) => cases d <;> cases e <;> exact h.elim
theorem Reps.rep {ρ : List Addr} {H : Hp} {ds : List D} {xs : List V} (r : Reps K mg ρ H ds xs) : ∀ k : Nat, Reps K mg ρ H (List.replicate k ds).flatten (List.replicate k xs).flatten
  | 0 => .nil
  | k + 1 => by
    rw [List.replicate_succ, List.replicate_succ, List.flatten_cons, List.flatten_cons]
    exact r.append (Reps.rep r k)
theorem real_rep : Real2 K mg E rRep gRep := by
  intro ρ st H x y a b Q s ra rb h
  cases ra with
  | @ref p n hn =>
    cases rb with
    | int k =>
      cases e1 : st[n]? with
      | none => simp only [gRep, e1] at h; exact h.elim
      | some o1 =>
        obtain ⟨_, ho1, z1, w1, u1, q1⟩ := s.get e1 (.ref hn)
        cases z1
        cases q1 with
        | @lst ds xs r1 =>
          by_cases hz : -(2 ^ 63) ≤ k ∧ k < 2 ^ 63 ∧ ds.length * k.toNat ≤ sizeLine
          · simp only [gRep, e1, if_pos hz] at h
            refine ⟨p, k, xs, rfl, rfl, u1, hz.1, hz.2.1, by rw [← r1.length]; exact hz.2.2, fun c hc => ?_⟩
            obtain ⟨g, r⟩ := Go.lst s (Reps.rep r1 k.toNat) hc
            exact h _ _ _ g r
          · simp only [gRep, e1, if_neg hz] at h
            exact h.elim
        | _ => simp only [gRep, e1] at h; exact h.elim
    | _ => exact h.elim
  | _ => cases rb <;> exact h.elim
end
end MP

namespace T
open PySem PySem.Spec PyProof.Rows L2 MP
def topS (i : Nat) : Stmt := PySem.Challenge.pw_commonground_k41_new_tableau.main.body.getD i (.Pass ⟨0, 0, 0, 0⟩)
abbrev s_inequality_of : Stmt := topS 3
theorem sc_inequality_of : FnScope ["lows", "highs", "rows", "q", "j", "side"] ["lows", "highs", "rows", "q"] (defScope s_inequality_of) := ⟨rfl, rfl, rfl, by decide +kernel, rfl, by decide +kernel, by decide +kernel⟩
abbrev s_ratio : Stmt := topS 5
theorem sc_ratio : FnScope ["top", "bottom", "divisor"] ["top", "bottom"] (defScope s_ratio) := ⟨rfl, rfl, rfl, by decide +kernel, rfl, by decide +kernel, by decide +kernel⟩
abbrev s_lowest : Stmt := topS 7
theorem sc_lowest : FnScope ["scale", "constant", "coefs", "divisor", "c"] ["scale", "constant", "coefs"] (defScope s_lowest) := ⟨rfl, rfl, rfl, by decide +kernel, rfl, by decide +kernel, by decide +kernel⟩
abbrev s_Tableau_begin : Stmt := inClass (topS 8) 1
theorem sc_Tableau_begin : FnScope ["self", "j", "at_low", "coefs"] ["self", "j", "at_low"] (defScope s_Tableau_begin) := ⟨rfl, rfl, rfl, by decide +kernel, rfl, by decide +kernel, by decide +kernel⟩
abbrev s_Tableau_free : Stmt := inClass (topS 8) 2
theorem sc_Tableau_free : FnScope ["self"] ["self"] (defScope s_Tableau_free) := ⟨rfl, rfl, rfl, by decide +kernel, rfl, by decide +kernel, by decide +kernel⟩
abbrev s_Tableau_summed : Stmt := inClass (topS 8) 3
theorem sc_Tableau_summed : FnScope ["self", "terms", "constant", "coefs", "j", "c", "a", "b"] ["self", "terms"] (defScope s_Tableau_summed) := ⟨rfl, rfl, rfl, by decide +kernel, rfl, by decide +kernel, by decide +kernel⟩
abbrev s_Tableau_slack : Stmt := inClass (topS 8) 4
theorem sc_Tableau_slack : FnScope ["self", "q", "terms", "rhs", "constant", "coefs", "c"] ["self", "q"] (defScope s_Tableau_slack) := ⟨rfl, rfl, rfl, by decide +kernel, rfl, by decide +kernel, by decide +kernel⟩
abbrev s_Tableau_aim_equation : Stmt := inClass (topS 8) 5
theorem sc_Tableau_aim_equation : FnScope ["self", "constant", "coefs"] ["self"] (defScope s_Tableau_aim_equation) := ⟨rfl, rfl, rfl, by decide +kernel, rfl, by decide +kernel, by decide +kernel⟩
abbrev s_Tableau_column_equation : Stmt := inClass (topS 8) 6
theorem sc_Tableau_column_equation : FnScope ["self", "j"] ["self", "j"] (defScope s_Tableau_column_equation) := ⟨rfl, rfl, rfl, by decide +kernel, rfl, by decide +kernel, by decide +kernel⟩
abbrev s_Tableau_slack_equation : Stmt := inClass (topS 8) 7
theorem sc_Tableau_slack_equation : FnScope ["self", "q", "constant", "coefs"] ["self", "q"] (defScope s_Tableau_slack_equation) := ⟨rfl, rfl, rfl, by decide +kernel, rfl, by decide +kernel, by decide +kernel⟩
abbrev s_Tableau_corner : Stmt := inClass (topS 8) 8
theorem sc_Tableau_corner : FnScope ["self", "constant"] ["self"] (defScope s_Tableau_corner) := ⟨rfl, rfl, rfl, by decide +kernel, rfl, by decide +kernel, by decide +kernel⟩
abbrev s__law_draw : Stmt := topS 10
theorem sc__law_draw : FnScope ["tape", "many", "cells", "k", "cell", "digit"] ["tape", "many"] (defScope s__law_draw) := ⟨rfl, rfl, rfl, by decide +kernel, rfl, by decide +kernel, by decide +kernel⟩
abbrev s__law_tape : Stmt := topS 11
theorem sc__law_tape : FnScope ["script"] ["script"] (defScope s__law_tape) := ⟨rfl, rfl, rfl, by decide +kernel, rfl, by decide +kernel, by decide +kernel⟩
abbrev s__law_whole : Stmt := topS 12
theorem sc__law_whole : FnScope ["x"] ["x"] (defScope s__law_whole) := ⟨rfl, rfl, rfl, by decide +kernel, rfl, by decide +kernel, by decide +kernel⟩
abbrev s__law_common : Stmt := topS 13
theorem sc__law_common : FnScope ["a", "b", "k", "rest"] ["a", "b"] (defScope s__law_common) := ⟨rfl, rfl, rfl, by decide +kernel, rfl, by decide +kernel, by decide +kernel⟩
abbrev s__law_terms : Stmt := topS 14
theorem sc__law_terms : FnScope ["tape", "many", "terms", "v", "c"] ["tape", "many"] (defScope s__law_terms) := ⟨rfl, rfl, rfl, by decide +kernel, rfl, by decide +kernel, by decide +kernel⟩
abbrev s__law_rhs : Stmt := topS 15
theorem sc__law_rhs : FnScope ["tape", "terms", "base", "large", "total", "v", "c"] ["tape", "terms", "base", "large"] (defScope s__law_rhs) := ⟨rfl, rfl, rfl, by decide +kernel, rfl, by decide +kernel, by decide +kernel⟩
abbrev s__law_program : Stmt := topS 16
theorem sc__law_program : FnScope ["tape", "most", "rows", "many", "large", "lows", "highs", "base", "j", "low", "found", "i", "terms", "v", "c"] ["tape", "most", "rows"] (defScope s__law_program) := ⟨rfl, rfl, rfl, by decide +kernel, rfl, by decide +kernel, by decide +kernel⟩
abbrev s__law_inequality : Stmt := topS 17
theorem sc__law_inequality : FnScope ["program", "q", "rows", "j"] ["program", "q"] (defScope s__law_inequality) := ⟨rfl, rfl, rfl, by decide +kernel, rfl, by decide +kernel, by decide +kernel⟩
abbrev s__law_count : Stmt := topS 18
theorem sc__law_count : FnScope ["program"] ["program"] (defScope s__law_count) := ⟨rfl, rfl, rfl, by decide +kernel, rfl, by decide +kernel, by decide +kernel⟩
abbrev s__law_sum : Stmt := topS 19
theorem sc__law_sum : FnScope ["terms", "point", "total", "v", "c"] ["terms", "point"] (defScope s__law_sum) := ⟨rfl, rfl, rfl, by decide +kernel, rfl, by decide +kernel, by decide +kernel⟩
abbrev s__law_slack : Stmt := topS 20
theorem sc__law_slack : FnScope ["program", "q", "point", "terms", "rhs"] ["program", "q", "point"] (defScope s__law_slack) := ⟨rfl, rfl, rfl, by decide +kernel, rfl, by decide +kernel, by decide +kernel⟩
abbrev s__law_equation : Stmt := topS 21
theorem sc__law_equation : FnScope ["told", "many", "numbers", "common", "n"] ["told", "many"] (defScope s__law_equation) := ⟨rfl, rfl, rfl, by decide +kernel, rfl, by decide +kernel, by decide +kernel⟩
abbrev s__law_says : Stmt := topS 22
theorem sc__law_says : FnScope ["told", "worth", "slacks", "total", "k"] ["told", "worth", "slacks"] (defScope s__law_says) := ⟨rfl, rfl, rfl, by decide +kernel, rfl, by decide +kernel, by decide +kernel⟩
abbrev s__law_agrees : Stmt := topS 23
theorem sc__law_agrees : FnScope ["tableau", "program", "places", "point", "many", "slacks", "q", "told", "j"] ["tableau", "program", "places", "point"] (defScope s__law_agrees) := ⟨rfl, rfl, rfl, by decide +kernel, rfl, by decide +kernel, by decide +kernel⟩
abbrev s__law_any_point : Stmt := topS 24
theorem sc__law_any_point : FnScope ["tape", "program", "point", "j"] ["tape", "program"] (defScope s__law_any_point) := ⟨rfl, rfl, rfl, by decide +kernel, rfl, by decide +kernel, by decide +kernel⟩
abbrev s_Tableau___init__ : Stmt := inClass (topS 8) 0
theorem sc_Tableau___init__ : FnScope ["self", "lows", "highs", "rows", "aim", "negative", "j", "c"] ["self", "lows", "highs", "rows", "aim"] (defScope s_Tableau___init__) := ⟨rfl, rfl, rfl, by decide +kernel, rfl, by decide +kernel, by decide +kernel⟩
abbrev s_law : Stmt := topS 25
theorem sc_law : FnScope ["script", "tape", "program", "many", "rows", "coefs", "x", "v", "c", "places", "corner", "j", "tableau", "other", "part", "k"] ["script"] (defScope s_law) := ⟨rfl, rfl, rfl, by decide +kernel, rfl, by decide +kernel, by decide +kernel⟩
noncomputable def m_inequality_of : List D → Store → Res D := ofBody 6 (
    sSeq (sIf (asB (eBin (gCmp fun i j => decide (i < j)) (eVar 3) (eCall gLen (aCons (eVar 2) (aNil))))) (sRet (eBin gIx (eVar 2) (eVar 3))) (sNil))
    (sSeq (sAsg (eCall gDvm (aCons (eBin gSub (eVar 3) (eCall gLen (aCons (eVar 2) (aNil)))) (aCons (eC (.int 2)) (aNil)))) (gT 2 (gsCons (gN 4) (gsCons (gN 5) (gsNil)))))
    (sSeq (sIf (asB (eBin (gEq false) (eVar 5) (eC (.int 0)))) (sRet (eTup (aCons (eTup (aCons (eTup (aCons (eVar 4) (aCons (eC (.int 1)) (aNil)))) (aNil))) (aCons (eBin gIx (eVar 1) (eVar 4)) (aNil))))) (sNil))
    (sRet (eTup (aCons (eTup (aCons (eTup (aCons (eVar 4) (aCons (eUn gNeg (eC (.int 1))) (aNil)))) (aNil))) (aCons (eUn gNeg (eBin gIx (eVar 0) (eVar 4))) (aNil))))))))
noncomputable def m_ratio : List D → Store → Res D := ofBody 3 (
    sSeq (sAsg (eCall gGcd (aCons (eVar 0) (aCons (eVar 1) (aNil)))) (gN 2))
    (sSeq (sIf (asB (eBin (gCmp fun i j => decide (i < j)) (eVar 1) (eC (.int 0)))) (sAsg (eUn gNeg (eVar 2)) (gN 2)) (sNil))
    (sRet (eTup (aCons (eBin gDivA (eVar 0) (eVar 2)) (aCons (eBin gDivA (eVar 1) (eVar 2)) (aNil)))))))
noncomputable def m_lowest : List D → Store → Res D := ofBody 5 (
    sSeq (sAsg (eCall gGcd (aCons (eVar 0) (aCons (eVar 1) (aNil)))) (gN 3))
    (sSeq (sFor (fSeq (eVar 2)) (gN 4) (sAsg (eCall gGcd (aCons (eVar 3) (aCons (eVar 4) (aNil)))) (gN 3)))
    (sRet (eTup (aCons (eBin gDivA (eVar 0) (eVar 3)) (aCons (eBin gDivA (eVar 1) (eVar 3)) (aCons (eGen 0 (stepT) (.tup) [] (fSeq (eVar 2)) [4] (gN 4) (tYesM) (eBin gDivA (eVar 4) (eVar 3))) (aNil))))))))
noncomputable def m_Tableau_begin : List D → Store → Res D := ofBody 4 (
    sSeq (sExpr (eApp (eFld "Tableau" "places" (eVar 0)) (eBin gAdd (eBin gAdd (eCall gLen (aCons (eFld "Tableau" "rows" (eVar 0)) (aNil))) (eBin gMulW (eC (.int 2)) (eVar 1))) (eIf (asT (eVar 2)) (eC (.int 1)) (eC (.int 0))))))
    (sSeq (sExpr (eApp (eFld "Tableau" "constants" (eVar 0)) (eIf (asT (eVar 2)) (eBin gIx (eFld "Tableau" "lows" (eVar 0)) (eVar 1)) (eBin gIx (eFld "Tableau" "highs" (eVar 0)) (eVar 1)))))
    (sSeq (sAsg (eBin gRep (eLst (aCons (eC (.int 0)) (aNil))) (eCall gLen (aCons (eFld "Tableau" "lows" (eVar 0)) (aNil)))) (gN 3))
    (sSeq (sAsg (eIf (asT (eVar 2)) (eC (.int 1)) (eUn gNeg (eC (.int 1)))) (gI (eVar 3) (eVar 1)))
    (sExpr (eApp (eFld "Tableau" "coefs" (eVar 0)) (eVar 3)))))))
noncomputable def m_Tableau_free : List D → Store → Res D := ofBody 1 (
    sRet (eCall gTuple (aCons (eFld "Tableau" "places" (eVar 0)) (aNil))))
noncomputable def m_Tableau_summed : List D → Store → Res D := ofBody 8 (
    sSeq (sAsg (eC (.int 0)) (gN 2))
    (sSeq (sAsg (eBin gRep (eLst (aCons (eC (.int 0)) (aNil))) (eCall gLen (aCons (eFld "Tableau" "places" (eVar 0)) (aNil)))) (gN 3))
    (sSeq (sFor (fSeq (eVar 1)) (gT 2 (gsCons (gN 4) (gsCons (gN 5) (gsNil)))) (sSeq (sAsg (eBin gAdd (eVar 2) (eBin gMulW (eVar 5) (eBin gIx (eFld "Tableau" "constants" (eVar 0)) (eVar 4)))) (gN 2))
    (sAsg (eLc (fZip2 (aCons (eVar 3) (aCons (eBin gIx (eFld "Tableau" "coefs" (eVar 0)) (eVar 4)) (aNil)))) [6, 7] (gT 2 (gsCons (gN 6) (gsCons (gN 7) (gsNil)))) (tYesM) (eBin gAdd (eVar 6) (eBin gMulW (eVar 5) (eVar 7)))) (gN 3))))
    (sRet (eTup (aCons (eVar 2) (aCons (eVar 3) (aNil))))))))
noncomputable def m_Tableau_slack : List D → Store → Res D := ofBody 7 (
    sSeq (sAsg (eDef 4 m_inequality_of (aCons (eFld "Tableau" "lows" (eVar 0)) (aCons (eFld "Tableau" "highs" (eVar 0)) (aCons (eFld "Tableau" "rows" (eVar 0)) (aCons (eVar 1) (aNil)))))) (gT 2 (gsCons (gN 2) (gsCons (gN 3) (gsNil)))))
    (sSeq (sAsg (eMeth "Tableau" "summed" 2 m_Tableau_summed (eVar 0) (aCons (eVar 2) (aNil))) (gT 2 (gsCons (gN 4) (gsCons (gN 5) (gsNil)))))
    (sRet (eTup (aCons (eBin gSub (eBin gMulW (eFld "Tableau" "scale" (eVar 0)) (eVar 3)) (eVar 4)) (aCons (eLc (fSeq (eVar 5)) [6] (gN 6) (tYesM) (eUn gNeg (eVar 6))) (aNil)))))))
noncomputable def m_Tableau_aim_equation : List D → Store → Res D := ofBody 3 (
    sSeq (sAsg (eMeth "Tableau" "summed" 2 m_Tableau_summed (eVar 0) (aCons (eFld "Tableau" "aim_terms" (eVar 0)) (aNil))) (gT 2 (gsCons (gN 1) (gsCons (gN 2) (gsNil)))))
    (sRet (eDef 3 m_lowest (aCons (eFld "Tableau" "scale" (eVar 0)) (aCons (eVar 1) (aCons (eVar 2) (aNil)))))))
noncomputable def m_Tableau_column_equation : List D → Store → Res D := ofBody 2 (
    sRet (eDef 3 m_lowest (aCons (eFld "Tableau" "scale" (eVar 0)) (aCons (eBin gIx (eFld "Tableau" "constants" (eVar 0)) (eVar 1)) (aCons (eBin gIx (eFld "Tableau" "coefs" (eVar 0)) (eVar 1)) (aNil))))))
noncomputable def m_Tableau_slack_equation : List D → Store → Res D := ofBody 4 (
    sSeq (sAsg (eMeth "Tableau" "slack" 2 m_Tableau_slack (eVar 0) (aCons (eVar 1) (aNil))) (gT 2 (gsCons (gN 2) (gsCons (gN 3) (gsNil)))))
    (sRet (eDef 3 m_lowest (aCons (eFld "Tableau" "scale" (eVar 0)) (aCons (eVar 2) (aCons (eVar 3) (aNil)))))))
noncomputable def m_Tableau_corner : List D → Store → Res D := ofBody 2 (
    sRet (eGen 1 (stepT) (.tup) [] (fSeq (eFld "Tableau" "constants" (eVar 0))) [1] (gN 1) (tYesM) (eDef 2 m_ratio (aCons (eVar 1) (aCons (eFld "Tableau" "scale" (eVar 0)) (aNil))))))
noncomputable def m__law_draw : List D → Store → Res D := ofBody 6 (
    sSeq (sIf (asB (eBin (gCmp fun i j => decide (i < j)) (eBin gIx (eVar 0) (eC (.int 2))) (eVar 1))) (sSeq (sAsg (eBin gIx (eVar 0) (eC (.int 0))) (gN 2))
    (sSeq (sAsg (eBin gIx (eVar 0) (eC (.int 1))) (gN 3))
    (sSeq (sAsg (eC (.int 0)) (gN 4))
    (sSeq (sIf (asB (eBin (gCmp fun i j => decide (i < j)) (eVar 3) (eCall gLen (aCons (eVar 2) (aNil))))) (sAsg (eBin gIx (eVar 2) (eVar 3)) (gN 4)) (sNil))
    (sSeq (sIf (asB (eBin (gCmp fun i j => decide (i < j)) (eVar 4) (eC (.int 0)))) (sAsg (eBin gSub (eBin gMul (eUn gNeg (eC (.int 2))) (eVar 4)) (eC (.int 1))) (gN 4)) (sNil))
    (sSeq (sIf (asB (eBin (gCmp fun i j => decide (i < j)) (eVar 4) (eBin gPow (eC (.int 10)) (eC (.int 9))))) (sSeq (sAsg (eBin gMod (eCall gInt (aCons (eBin gAdd (eBin gAdd (eBin gMul (eVar 4) (eC (.int 48271))) (eBin gMul (eVar 3) (eC (.int 69621)))) (eC (.int 12345))) (aNil))) (eC (.int 2147483647))) (gN 4))
    (sAsg (eBin gMod (eCall gInt (aCons (eBin gAdd (eBin gAdd (eBin gMul (eVar 4) (eC (.int 16807))) (eBin gMul (eVar 3) (eC (.int 39373)))) (eC (.int 6789))) (aNil))) (eC (.int 2147483629))) (gN 4))) (sNil))
    (sSeq (sAsg (eBin gAdd (eVar 3) (eC (.int 1))) (gI (eVar 0) (eC (.int 1))))
    (sAsg (eVar 4) (gI (eVar 0) (eC (.int 2))))))))))) (sNil))
    (sSeq (sAsg (eBin gMod (eCall gInt (aCons (eBin gIx (eVar 0) (eC (.int 2))) (aNil))) (eVar 1)) (gN 5))
    (sSeq (sAsg (eBin gDiv (eBin gIx (eVar 0) (eC (.int 2))) (eVar 1)) (gI (eVar 0) (eC (.int 2))))
    (sRet (eVar 5)))))
noncomputable def m__law_tape : List D → Store → Res D := ofBody 1 (
    sRet (eLst (aCons (eCall gList (aCons (eVar 0) (aNil))) (aCons (eC (.int 0)) (aCons (eC (.int 0)) (aNil))))))
noncomputable def m__law_whole : List D → Store → Res D := ofBody 1 (
    sRet (eAnd (eCall gIsi (aCons (eVar 0) (aCons (eC (.ty "int")) (aNil)))) (eNot (eCall gIsi (aCons (eVar 0) (aCons (eC (.ty "bool")) (aNil)))))))
noncomputable def m__law_common : List D → Store → Res D := ofBody 4 (
    sSeq (sAsg (eCall gAbs (aCons (eVar 0) (aNil))) (gN 0))
    (sSeq (sAsg (eCall gAbs (aCons (eVar 1) (aNil))) (gN 1))
    (sSeq (sFor (fRange1 (aCons (eC (.int 4000)) (aNil))) (gN 2) (sSeq (sIf (asB (eBin (gEq false) (eVar 1) (eC (.int 0)))) (sRet (eVar 0)) (sNil))
    (sSeq (sAsg (eBin gModN (eCall gInt (aCons (eVar 0) (aNil))) (eVar 1)) (gN 3))
    (sSeq (sAsg (eVar 1) (gN 0))
    (sAsg (eVar 3) (gN 1))))))
    (sRet (eVar 0)))))
noncomputable def m__law_terms : List D → Store → Res D := ofBody 5 (
    sSeq (sAsg (eLst (aNil)) (gN 2))
    (sSeq (sFor (fRange1 (aCons (eVar 1) (aNil))) (gN 3) (sSeq (sAsg (eBin gSub (eDef 2 m__law_draw (aCons (eVar 0) (aCons (eC (.int 7)) (aNil)))) (eC (.int 3))) (gN 4))
    (sIf (asB (eBin (gEq true) (eVar 4) (eC (.int 0)))) (sExpr (eApp (eVar 2) (eTup (aCons (eVar 3) (aCons (eVar 4) (aNil)))))) (sNil))))
    (sRet (eCall gTuple (aCons (eVar 2) (aNil))))))
noncomputable def m__law_rhs : List D → Store → Res D := ofBody 7 (
    sSeq (sIf (asB (eBin (gEq false) (eDef 2 m__law_draw (aCons (eVar 0) (aCons (eC (.int 5)) (aNil)))) (eC (.int 0)))) (sRet (eBin gSub (eBin gAdd (eBin gMulW (eBin gSub (eDef 2 m__law_draw (aCons (eVar 0) (aCons (eC (.int 16)) (aNil)))) (eC (.int 6))) (eVar 3)) (eDef 2 m__law_draw (aCons (eVar 0) (aCons (eC (.int 3)) (aNil))))) (eC (.int 1)))) (sNil))
    (sSeq (sAsg (eDef 2 m__law_draw (aCons (eVar 0) (aCons (eC (.int 4)) (aNil)))) (gN 4))
    (sSeq (sFor (fSeq (eVar 1)) (gT 2 (gsCons (gN 5) (gsCons (gN 6) (gsNil)))) (sAsg (eBin gAdd (eVar 4) (eBin gMulW (eVar 6) (eBin gIx (eVar 2) (eVar 5)))) (gN 4)))
    (sRet (eVar 4)))))
noncomputable def m__law_program : List D → Store → Res D := ofBody 15 (
    sSeq (sAsg (eBin gAdd (eC (.int 1)) (eDef 2 m__law_draw (aCons (eVar 0) (aCons (eVar 1) (aNil))))) (gN 3))
    (sSeq (sAsg (eC (.int 1)) (gN 4))
    (sSeq (sIf (asB (eBin (gEq false) (eDef 2 m__law_draw (aCons (eVar 0) (aCons (eC (.int 6)) (aNil)))) (eC (.int 0)))) (sAsg (eBin gAdd (eC (.int 1)) (eDef 2 m__law_draw (aCons (eVar 0) (aCons (eC (.int 1000000)) (aNil))))) (gN 4)) (sNil))
    (sSeq (sAsg (eLst (aNil)) (gN 5))
    (sSeq (sAsg (eLst (aNil)) (gN 6))
    (sSeq (sAsg (eLst (aNil)) (gN 7))
    (sSeq (sFor (fRange1 (aCons (eVar 3) (aNil))) (gN 8) (sSeq (sAsg (eBin gSub (eBin gMulW (eBin gSub (eDef 2 m__law_draw (aCons (eVar 0) (aCons (eC (.int 7)) (aNil)))) (eC (.int 3))) (eVar 4)) (eDef 2 m__law_draw (aCons (eVar 0) (aCons (eC (.int 2)) (aNil))))) (gN 9))
    (sSeq (sExpr (eApp (eVar 5) (eVar 9)))
    (sSeq (sExpr (eApp (eVar 6) (eBin gAdd (eVar 9) (eBin gMulW (eDef 2 m__law_draw (aCons (eVar 0) (aCons (eC (.int 5)) (aNil)))) (eVar 4)))))
    (sExpr (eApp (eVar 7) (eBin gAdd (eVar 9) (eDef 2 m__law_draw (aCons (eVar 0) (aCons (eBin gAdd (eBin gSub (eBin gIx (eVar 6) (eVar 8)) (eVar 9)) (eC (.int 1))) (aNil)))))))))))
    (sSeq (sAsg (eLst (aNil)) (gN 10))
    (sSeq (sFor (fRange1 (aCons (eDef 2 m__law_draw (aCons (eVar 0) (aCons (eBin gAdd (eVar 2) (eC (.int 1))) (aNil)))) (aNil))) (gN 11) (sSeq (sAsg (eDef 2 m__law_terms (aCons (eVar 0) (aCons (eVar 3) (aNil)))) (gN 12))
    (sSeq (sIf (asB (eBin (gEq false) (eDef 2 m__law_draw (aCons (eVar 0) (aCons (eC (.int 5)) (aNil)))) (eC (.int 0)))) (sAsg (eCall gTuple (aCons (eLc (fSeq (eVar 12)) [13, 14] (gT 2 (gsCons (gN 13) (gsCons (gN 14) (gsNil)))) (tYesM) (eTup (aCons (eVar 13) (aCons (eBin gMulW (eVar 14) (eVar 4)) (aNil))))) (aNil))) (gN 12)) (sNil))
    (sSeq (sExpr (eApp (eVar 10) (eTup (aCons (eVar 12) (aCons (eDef 4 m__law_rhs (aCons (eVar 0) (aCons (eVar 12) (aCons (eVar 7) (aCons (eVar 4) (aNil)))))) (aNil))))))
    (sIf (asB (eBin (gEq false) (eDef 2 m__law_draw (aCons (eVar 0) (aCons (eC (.int 6)) (aNil)))) (eC (.int 0)))) (sSeq (sAsg (eCall gTuple (aCons (eLc (fSeq (eVar 12)) [13, 14] (gT 2 (gsCons (gN 13) (gsCons (gN 14) (gsNil)))) (tYesM) (eTup (aCons (eVar 13) (aCons (eUn gNeg (eVar 14)) (aNil))))) (aNil))) (gN 12))
    (sExpr (eApp (eVar 10) (eTup (aCons (eVar 12) (aCons (eDef 4 m__law_rhs (aCons (eVar 0) (aCons (eVar 12) (aCons (eVar 7) (aCons (eVar 4) (aNil)))))) (aNil))))))) (sNil))))))
    (sRet (eLst (aCons (eCall gTuple (aCons (eVar 5) (aNil))) (aCons (eCall gTuple (aCons (eVar 6) (aNil))) (aCons (eCall gTuple (aCons (eVar 10) (aNil))) (aCons (eDef 2 m__law_terms (aCons (eVar 0) (aCons (eVar 3) (aNil)))) (aNil))))))))))))))))
noncomputable def m__law_inequality : List D → Store → Res D := ofBody 4 (
    sSeq (sAsg (eBin gIx (eVar 0) (eC (.int 2))) (gN 2))
    (sSeq (sIf (asB (eBin (gCmp fun i j => decide (i < j)) (eVar 1) (eCall gLen (aCons (eVar 2) (aNil))))) (sRet (eBin gIx (eVar 2) (eVar 1))) (sNil))
    (sSeq (sAsg (eBin gDivA (eBin gSub (eVar 1) (eCall gLen (aCons (eVar 2) (aNil)))) (eC (.int 2))) (gN 3))
    (sSeq (sIf (asB (eBin (gEq false) (eBin gModN (eCall gInt (aCons (eBin gSub (eVar 1) (eCall gLen (aCons (eVar 2) (aNil)))) (aNil))) (eC (.int 2))) (eC (.int 0)))) (sRet (eTup (aCons (eTup (aCons (eTup (aCons (eVar 3) (aCons (eC (.int 1)) (aNil)))) (aNil))) (aCons (eBin gIx (eBin gIx (eVar 0) (eC (.int 1))) (eVar 3)) (aNil))))) (sNil))
    (sRet (eTup (aCons (eTup (aCons (eTup (aCons (eVar 3) (aCons (eUn gNeg (eC (.int 1))) (aNil)))) (aNil))) (aCons (eUn gNeg (eBin gIx (eBin gIx (eVar 0) (eC (.int 0))) (eVar 3))) (aNil)))))))))
noncomputable def m__law_count : List D → Store → Res D := ofBody 1 (
    sRet (eBin gAdd (eCall gLen (aCons (eBin gIx (eVar 0) (eC (.int 2))) (aNil))) (eBin gMulW (eC (.int 2)) (eCall gLen (aCons (eBin gIx (eVar 0) (eC (.int 0))) (aNil))))))
noncomputable def m__law_sum : List D → Store → Res D := ofBody 5 (
    sSeq (sAsg (eC (.int 0)) (gN 2))
    (sSeq (sFor (fSeq (eVar 0)) (gT 2 (gsCons (gN 3) (gsCons (gN 4) (gsNil)))) (sAsg (eBin gAdd (eVar 2) (eBin gMulW (eVar 4) (eBin gIx (eVar 1) (eVar 3)))) (gN 2)))
    (sRet (eVar 2))))
noncomputable def m__law_slack : List D → Store → Res D := ofBody 5 (
    sSeq (sAsg (eDef 2 m__law_inequality (aCons (eVar 0) (aCons (eVar 1) (aNil)))) (gT 2 (gsCons (gN 3) (gsCons (gN 4) (gsNil)))))
    (sRet (eBin gSub (eVar 4) (eDef 2 m__law_sum (aCons (eVar 3) (aCons (eVar 2) (aNil)))))))
noncomputable def m__law_equation : List D → Store → Res D := ofBody 5 (
    sSeq (sIf (tOrM (tNotM (asT (eCall gIsi (aCons (eVar 0) (aCons (eC (.ty "tuple")) (aNil)))))) (tOrM (asB (eBin (gEq true) (eCall gLen (aCons (eVar 0) (aNil))) (eC (.int 3)))) (tOrM (tNotM (asT (eCall gIsi (aCons (eBin gIx (eVar 0) (eC (.int 2))) (aCons (eC (.ty "tuple")) (aNil)))))) (asB (eBin (gEq true) (eCall gLen (aCons (eBin gIx (eVar 0) (eC (.int 2))) (aNil))) (eVar 1)))))) (sRet (eC (.bl false))) (sNil))
    (sSeq (sAsg (eBin gAdd (eLst (aCons (eBin gIx (eVar 0) (eC (.int 0))) (aCons (eBin gIx (eVar 0) (eC (.int 1))) (aNil)))) (eCall gList (aCons (eBin gIx (eVar 0) (eC (.int 2))) (aNil)))) (gN 2))
    (sSeq (sAsg (eC (.int 0)) (gN 3))
    (sSeq (sFor (fSeq (eVar 2)) (gN 4) (sSeq (sIf (tNotM (asT (eDef 1 m__law_whole (aCons (eVar 4) (aNil))))) (sRet (eC (.bl false))) (sNil))
    (sAsg (eDef 2 m__law_common (aCons (eVar 3) (aCons (eVar 4) (aNil)))) (gN 3))))
    (sRet (eAnd (eBin (gCmp fun i j => decide (j ≤ i)) (eBin gIx (eVar 0) (eC (.int 0))) (eC (.int 1))) (eBin (gEq false) (eVar 3) (eC (.int 1)))))))))
noncomputable def m__law_says : List D → Store → Res D := ofBody 5 (
    sSeq (sAsg (eBin gIx (eVar 0) (eC (.int 1))) (gN 3))
    (sSeq (sFor (fRange1 (aCons (eCall gLen (aCons (eVar 2) (aNil))) (aNil))) (gN 4) (sAsg (eBin gAdd (eVar 3) (eBin gMulW (eBin gIx (eBin gIx (eVar 0) (eC (.int 2))) (eVar 4)) (eBin gIx (eVar 2) (eVar 4)))) (gN 3)))
    (sRet (eBin (gEq false) (eBin gMulW (eBin gIx (eVar 0) (eC (.int 0))) (eVar 1)) (eVar 3)))))
noncomputable def m__law_agrees : List D → Store → Res D := ofBody 9 (
    sSeq (sAsg (eCall gLen (aCons (eBin gIx (eVar 1) (eC (.int 0))) (aNil))) (gN 4))
    (sSeq (sIf (asB (eBin (gEq true) (eMeth "Tableau" "free" 1 m_Tableau_free (eVar 0) (aNil)) (eCall gTuple (aCons (eVar 2) (aNil))))) (sRet (eC (.bl false))) (sNil))
    (sSeq (sAsg (eLc (fSeq (eVar 2)) [6] (gN 6) (tYesM) (eDef 3 m__law_slack (aCons (eVar 1) (aCons (eVar 6) (aCons (eVar 3) (aNil)))))) (gN 5))
    (sSeq (sAsg (eMeth "Tableau" "aim_equation" 1 m_Tableau_aim_equation (eVar 0) (aNil)) (gN 7))
    (sSeq (sIf (tOrM (tNotM (asT (eDef 2 m__law_equation (aCons (eVar 7) (aCons (eVar 4) (aNil)))))) (tNotM (asT (eDef 3 m__law_says (aCons (eVar 7) (aCons (eDef 2 m__law_sum (aCons (eBin gIx (eVar 1) (eC (.int 3))) (aCons (eVar 3) (aNil)))) (aCons (eVar 5) (aNil)))))))) (sRet (eC (.bl false))) (sNil))
    (sSeq (sFor (fRange1 (aCons (eVar 4) (aNil))) (gN 8) (sSeq (sAsg (eMeth "Tableau" "column_equation" 2 m_Tableau_column_equation (eVar 0) (aCons (eVar 8) (aNil))) (gN 7))
    (sIf (tOrM (tNotM (asT (eDef 2 m__law_equation (aCons (eVar 7) (aCons (eVar 4) (aNil)))))) (tNotM (asT (eDef 3 m__law_says (aCons (eVar 7) (aCons (eBin gIx (eVar 3) (eVar 8)) (aCons (eVar 5) (aNil)))))))) (sRet (eC (.bl false))) (sNil))))
    (sSeq (sFor (fRange1 (aCons (eDef 1 m__law_count (aCons (eVar 1) (aNil))) (aNil))) (gN 6) (sSeq (sAsg (eMeth "Tableau" "slack_equation" 2 m_Tableau_slack_equation (eVar 0) (aCons (eVar 6) (aNil))) (gN 7))
    (sIf (tOrM (tNotM (asT (eDef 2 m__law_equation (aCons (eVar 7) (aCons (eVar 4) (aNil)))))) (tNotM (asT (eDef 3 m__law_says (aCons (eVar 7) (aCons (eDef 3 m__law_slack (aCons (eVar 1) (aCons (eVar 6) (aCons (eVar 3) (aNil))))) (aCons (eVar 5) (aNil)))))))) (sRet (eC (.bl false))) (sNil))))
    (sRet (eC (.bl true))))))))))
noncomputable def m__law_any_point : List D → Store → Res D := ofBody 4 (
    sSeq (sAsg (eLst (aNil)) (gN 2))
    (sSeq (sFor (fRange1 (aCons (eCall gLen (aCons (eBin gIx (eVar 1) (eC (.int 0))) (aNil))) (aNil))) (gN 3) (sIf (asB (eBin (gEq false) (eDef 2 m__law_draw (aCons (eVar 0) (aCons (eC (.int 3)) (aNil)))) (eC (.int 0)))) (sExpr (eApp (eVar 2) (eBin gSub (eDef 2 m__law_draw (aCons (eVar 0) (aCons (eC (.int 2000001)) (aNil)))) (eC (.int 1000000))))) (sExpr (eApp (eVar 2) (eBin gAdd (eBin gIx (eBin gIx (eVar 1) (eC (.int 0))) (eVar 3)) (eDef 2 m__law_draw (aCons (eVar 0) (aCons (eBin gAdd (eBin gSub (eBin gIx (eBin gIx (eVar 1) (eC (.int 1))) (eVar 3)) (eBin gIx (eBin gIx (eVar 1) (eC (.int 0))) (eVar 3))) (eC (.int 1))) (aNil)))))))))
    (sRet (eCall gTuple (aCons (eVar 2) (aNil))))))
noncomputable def m_Tableau___init__ : List D → Store → Res D := ofBody 8 (
    sSeq (sFldPut "Tableau" "lows" (eVar 0) (eVar 1))
    (sSeq (sFldPut "Tableau" "highs" (eVar 0) (eVar 2))
    (sSeq (sFldPut "Tableau" "rows" (eVar 0) (eVar 3))
    (sSeq (sFldPut "Tableau" "aim_terms" (eVar 0) (eVar 4))
    (sSeq (sFldPut "Tableau" "places" (eVar 0) (eLst (aNil)))
    (sSeq (sFldPut "Tableau" "scale" (eVar 0) (eC (.int 1)))
    (sSeq (sFldPut "Tableau" "constants" (eVar 0) (eLst (aNil)))
    (sSeq (sFldPut "Tableau" "coefs" (eVar 0) (eLst (aNil)))
    (sSeq (sAsg (eLc (fSeq (eVar 4)) [6, 7] (gT 2 (gsCons (gN 6) (gsCons (gN 7) (gsNil)))) (asB (eBin (gCmp fun i j => decide (i < j)) (eVar 7) (eC (.int 0)))) (eVar 6)) (gN 5))
    (sFor (fRange1 (aCons (eCall gLen (aCons (eVar 1) (aNil))) (aNil))) (gN 6) (sExpr (eMeth "Tableau" "begin" 3 m_Tableau_begin (eVar 0) (aCons (eVar 6) (aCons (eBin (gIn false) (eVar 6) (eVar 5)) (aNil)))))))))))))))
noncomputable def m_law : List D → Store → Res D := ofBody 16 (
    sSeq (sAsg (eDef 1 m__law_tape (aCons (eVar 0) (aNil))) (gN 1))
    (sSeq (sAsg (eDef 3 m__law_program (aCons (eVar 1) (aCons (eC (.int 4)) (aCons (eC (.int 5)) (aNil))))) (gN 2))
    (sSeq (sAsg (eCall gLen (aCons (eBin gIx (eVar 2) (eC (.int 0))) (aNil))) (gN 3))
    (sSeq (sAsg (eCall gLen (aCons (eBin gIx (eVar 2) (eC (.int 2))) (aNil))) (gN 4))
    (sSeq (sAsg (eLc (fSeq (eBin gIx (eVar 2) (eC (.int 0)))) [6] (gN 6) (tYesM) (eC (.int 0))) (gN 5))
    (sSeq (sFor (fSeq (eBin gIx (eVar 2) (eC (.int 3)))) (gT 2 (gsCons (gN 7) (gsCons (gN 8) (gsNil)))) (sAsg (eVar 8) (gI (eVar 5) (eVar 7))))
    (sSeq (sAsg (eLst (aNil)) (gN 9))
    (sSeq (sAsg (eLst (aNil)) (gN 10))
    (sSeq (sFor (fRange1 (aCons (eVar 3) (aNil))) (gN 11) (sIf (asB (eBin (gCmp fun i j => decide (i < j)) (eBin gIx (eVar 5) (eVar 11)) (eC (.int 0)))) (sSeq (sExpr (eApp (eVar 9) (eBin gAdd (eBin gAdd (eVar 4) (eBin gMulW (eC (.int 2)) (eVar 11))) (eC (.int 1)))))
    (sExpr (eApp (eVar 10) (eTup (aCons (eBin gIx (eBin gIx (eVar 2) (eC (.int 0))) (eVar 11)) (aCons (eC (.int 1)) (aNil))))))) (sSeq (sExpr (eApp (eVar 9) (eBin gAdd (eVar 4) (eBin gMulW (eC (.int 2)) (eVar 11)))))
    (sExpr (eApp (eVar 10) (eTup (aCons (eBin gIx (eBin gIx (eVar 2) (eC (.int 1))) (eVar 11)) (aCons (eC (.int 1)) (aNil)))))))))
    (sSeq (sAsg (eMake "Tableau" 5 m_Tableau___init__ (aCons (eBin gIx (eVar 2) (eC (.int 0))) (aCons (eBin gIx (eVar 2) (eC (.int 1))) (aCons (eBin gIx (eVar 2) (eC (.int 2))) (aCons (eBin gIx (eVar 2) (eC (.int 3))) (aNil)))))) (gN 12))
    (sSeq (sAsg (eMake "Tableau" 5 m_Tableau___init__ (aCons (eBin gIx (eVar 2) (eC (.int 1))) (aCons (eBin gIx (eVar 2) (eC (.int 1))) (aCons (eTup (aNil)) (aCons (eTup (aCons (eTup (aCons (eC (.int 0)) (aCons (eC (.int 5)) (aNil)))) (aNil))) (aNil)))))) (gN 13))
    (sSeq (sIf (tOrM (asB (eBin (gEq true) (eMeth "Tableau" "free" 1 m_Tableau_free (eVar 12) (aNil)) (eCall gTuple (aCons (eVar 9) (aNil))))) (asB (eBin (gEq true) (eMeth "Tableau" "corner" 1 m_Tableau_corner (eVar 12) (aNil)) (eCall gTuple (aCons (eVar 10) (aNil)))))) (sRet (eC (.bl false))) (sNil))
    (sSeq (sFor (fSeq (eMeth "Tableau" "corner" 1 m_Tableau_corner (eVar 12) (aNil))) (gN 14) (sIf (tOrM (tNotM (asT (eDef 1 m__law_whole (aCons (eBin gIx (eVar 14) (eC (.int 0))) (aNil))))) (tNotM (asT (eDef 1 m__law_whole (aCons (eBin gIx (eVar 14) (eC (.int 1))) (aNil)))))) (sRet (eC (.bl false))) (sNil)))
    (sSeq (sFor (fRange1 (aCons (eC (.int 3)) (aNil))) (gN 15) (sIf (tNotM (asT (eDef 4 m__law_agrees (aCons (eVar 12) (aCons (eVar 2) (aCons (eVar 9) (aCons (eDef 2 m__law_any_point (aCons (eVar 1) (aCons (eVar 2) (aNil)))) (aNil)))))))) (sRet (eC (.bl false))) (sNil)))
    (sRet (eBin (gEq false) (eCall gLen (aCons (eMeth "Tableau" "free" 1 m_Tableau_free (eVar 13) (aNil)) (aNil))) (eVar 3)))))))))))))))))
section
variable [TBs] {P : Program} {w : World} {K : PySem.W.Frag} {mg : Str → Option Value} {base : Heap}
theorem ok_inequality_of {f : Addr} {fd : FuncData} (F : Fun K "inequality_of" "inequality_of" s_inequality_of f fd)  (z_divmod : mg "divmod" = none) (z_len : mg "len" = none) : FnOk P w K mg base CX0 1 f fd ["lows", "highs", "rows", "q"] (spM K mg 4 m_inequality_of) := by
  unfold m_inequality_of
  exact fn_ok (k := 0) F sc_inequality_of fun cdv A outer s H E hr => 
    mss_cons (ms_if (mt_cmp op_lt real_cmp (me_var 3) (me_callB call_lenA real_len z_len (by decide +kernel) (ma_cons (me_var 2) (ma_nil))) (nomark _)) (mss_one (ms_ret (me_ix (me_var 2) (me_var 3)))) (mss_nil))
    (mss_cons (ms_asg (me_callB call_divmod real_dvm z_divmod (by decide +kernel) (ma_cons (me_op op_sub real_sub (me_var 3) (me_callB call_lenA real_len z_len (by decide +kernel) (ma_cons (me_var 2) (ma_nil)))) (ma_cons (me_int) (ma_nil)))) (mg_tup 2 rfl (mgs_cons (mg_name 4 sc_inequality_of.nd) (mgs_cons (mg_name 5 sc_inequality_of.nd) (mgs_nil)))))
    (mss_cons (ms_if (mt_cmp (op_eqA hr.units) real_eq (me_var 5) (me_int) (nomark _)) (mss_one (ms_ret (me_tup (ma_cons (me_tup (ma_cons (me_tup (ma_cons (me_var 4) (ma_cons (me_int) (ma_nil)))) (ma_nil))) (ma_cons (me_ix (me_var 1) (me_var 4)) (ma_nil)))))) (mss_nil))
    (mss_one (ms_ret (me_tup (ma_cons (me_tup (ma_cons (me_tup (ma_cons (me_var 4) (ma_cons (me_un un_neg real_neg (me_int)) (ma_nil)))) (ma_nil))) (ma_cons (me_un un_neg real_neg (me_ix (me_var 0) (me_var 4))) (ma_nil))))))))
theorem ok_ratio {f : Addr} {fd : FuncData} (F : Fun K "ratio" "ratio" s_ratio f fd)  (b_gcd : mg "gcd" = some (.builtin "math.gcd")) : FnOk P w K mg base CX0 1 f fd ["top", "bottom"] (spM K mg 2 m_ratio) := by
  unfold m_ratio
  exact fn_ok (k := 0) F sc_ratio fun cdv A outer s H E hr => 
    mss_cons (ms_set 2 sc_ratio.nd (me_callF cr_gcd real_gcd b_gcd (ma_cons (me_var 0) (ma_cons (me_var 1) (ma_nil)))))
    (mss_cons (ms_if (mt_cmp op_lt real_cmp (me_var 1) (me_int) (nomark _)) (mss_one (ms_set 2 sc_ratio.nd (me_un un_neg real_neg (me_var 2)))) (mss_nil))
    (mss_one (ms_ret (me_tup (ma_cons (me_op op_fdivA real_divA (me_var 0) (me_var 2)) (ma_cons (me_op op_fdivA real_divA (me_var 1) (me_var 2)) (ma_nil)))))))
theorem ok_lowest {f ci Pi : Addr} {fd : FuncData} (F : FunT K "lowest" "lowest" s_lowest f fd ci) (tb : TbAt mg base 0 ci Pi)  (z_tuple : mg "tuple" = none) (b_gcd : mg "gcd" = some (.builtin "math.gcd")) : FnOk P w K mg base CX0 2 f fd ["scale", "constant", "coefs"] (spM K mg 3 m_lowest) := by
  unfold m_lowest
  exact fn_okT (k := 1) F sc_lowest fun A outer s H E hr => 
    mss_cons (ms_set 3 sc_lowest.nd (me_callF cr_gcd real_gcd b_gcd (ma_cons (me_var 0) (ma_cons (me_var 1) (ma_nil)))))
    (mss_cons (ms_for rfl (mi_seq (me_var 2)) (mg_name 4 sc_lowest.nd) (mss_one (ms_set 3 sc_lowest.nd (me_callF cr_gcd real_gcd b_gcd (ma_cons (me_var 3) (ma_cons (me_var 4) (ma_nil)))))))
    (mss_one (ms_ret (me_tup (ma_cons (me_op op_fdivA real_divA (me_var 0) (me_var 3)) (ma_cons (me_op op_fdivA real_divA (me_var 1) (me_var 3)) (ma_cons (me_genTup 0 [("c", 4)] tb rfl hr sc_lowest.nd z_tuple (gscp_by (N := ["scale", "constant", "coefs", "divisor", "c"]) (sc := defScope s_lowest) (own := [("c", 4)]) (by decide +kernel) (by decide +kernel)) (mi_seq (me_var 2)) ⟨fun _ _ _ _ _ _ _ _ _ hr => mgw_name 4 (by decide) sc_lowest.nd, fun _ _ _ _ _ _ _ _ _ hr => mts_nil, fun _ _ _ _ _ _ _ _ _ hr => me_op op_fdivA real_divA (me_var 4) (me_var 3)⟩) (ma_nil))))))))
theorem ok_Tableau_begin {f : Addr} {fd : FuncData} (F : Fun K "begin" "Tableau.begin" s_Tableau_begin f fd) (k_Tableau_coefs : ClsK K mg "Tableau" "coefs") (k_Tableau_constants : ClsK K mg "Tableau" "constants") (k_Tableau_highs : ClsK K mg "Tableau" "highs") (k_Tableau_lows : ClsK K mg "Tableau" "lows") (k_Tableau_places : ClsK K mg "Tableau" "places") (k_Tableau_rows : ClsK K mg "Tableau" "rows") (z_len : mg "len" = none) : FnOk P w K mg base CX0 1 f fd ["self", "j", "at_low"] (spM K mg 3 m_Tableau_begin) := by
  unfold m_Tableau_begin
  exact fn_ok (k := 0) F sc_Tableau_begin fun cdv A outer s H E hr => 
    mss_cons (ms_expr (me_append (me_fld k_Tableau_places (me_var 0)) (me_op op_addA real_add (me_op op_addA real_add (me_callB call_lenA real_len z_len (by decide +kernel) (ma_cons (me_fld k_Tableau_rows (me_var 0)) (ma_nil))) (me_op op_mulW real_mulW (me_int) (me_var 1))) (me_ifExp (mt_truth (me_var 2)) (me_int) (me_int)))))
    (mss_cons (ms_expr (me_append (me_fld k_Tableau_constants (me_var 0)) (me_ifExp (mt_truth (me_var 2)) (me_ix (me_fld k_Tableau_lows (me_var 0)) (me_var 1)) (me_ix (me_fld k_Tableau_highs (me_var 0)) (me_var 1)))))
    (mss_cons (ms_set 3 sc_Tableau_begin.nd (me_op op_rep real_rep (me_lst (ma_cons (me_int) (ma_nil))) (me_callB call_lenA real_len z_len (by decide +kernel) (ma_cons (me_fld k_Tableau_lows (me_var 0)) (ma_nil)))))
    (mss_cons (ms_asg (me_ifExp (mt_truth (me_var 2)) (me_int) (me_un un_neg real_neg (me_int))) (mg_sub (me_var 3) (me_var 1)))
    (mss_one (ms_expr (me_append (me_fld k_Tableau_coefs (me_var 0)) (me_var 3)))))))
theorem ok_Tableau_free {f : Addr} {fd : FuncData} (F : Fun K "free" "Tableau.free" s_Tableau_free f fd) (k_Tableau_places : ClsK K mg "Tableau" "places") (z_tuple : mg "tuple" = none) : FnOk P w K mg base CX0 1 f fd ["self"] (spM K mg 1 m_Tableau_free) := by
  unfold m_Tableau_free
  exact fn_ok (k := 0) F sc_Tableau_free fun cdv A outer s H E hr => 
    mss_one (ms_ret (me_callTy call_tuple_of real_tuple z_tuple (by decide +kernel) (ma_cons (me_fld k_Tableau_places (me_var 0)) (ma_nil))))
theorem ok_Tableau_summed {f : Addr} {fd : FuncData} (F : Fun K "summed" "Tableau.summed" s_Tableau_summed f fd) (k_Tableau_coefs : ClsK K mg "Tableau" "coefs") (k_Tableau_constants : ClsK K mg "Tableau" "constants") (k_Tableau_places : ClsK K mg "Tableau" "places") (z_len : mg "len" = none) (z_zip : mg "zip" = none) : FnOk P w K mg base CX0 1 f fd ["self", "terms"] (spM K mg 2 m_Tableau_summed) := by
  unfold m_Tableau_summed
  exact fn_ok (k := 0) F sc_Tableau_summed fun cdv A outer s H E hr => 
    mss_cons (ms_set 2 sc_Tableau_summed.nd (me_int))
    (mss_cons (ms_set 3 sc_Tableau_summed.nd (me_op op_rep real_rep (me_lst (ma_cons (me_int) (ma_nil))) (me_callB call_lenA real_len z_len (by decide +kernel) (ma_cons (me_fld k_Tableau_places (me_var 0)) (ma_nil)))))
    (mss_cons (ms_for rfl (mi_seq (me_var 1)) (mg_tup 2 rfl (mgs_cons (mg_name 4 sc_Tableau_summed.nd) (mgs_cons (mg_name 5 sc_Tableau_summed.nd) (mgs_nil)))) (mss_cons (ms_set 2 sc_Tableau_summed.nd (me_op op_addA real_add (me_var 2) (me_op op_mulW real_mulW (me_var 5) (me_ix (me_fld k_Tableau_constants (me_var 0)) (me_var 4)))))
    (mss_one (ms_setLc 3 [("a", 6), ("b", 7)] rfl sc_Tableau_summed.nd (sw_true rfl rfl rfl rfl) (mi_zip2 z_zip (ma_cons (me_var 3) (ma_cons (me_ix (me_fld k_Tableau_coefs (me_var 0)) (me_var 4)) (ma_nil)))) (blkOk_by (N := ["self", "terms", "constant", "coefs", "j", "c", "a", "b"]) (sc := defScope s_Tableau_summed) (own := [("a", 6), ("b", 7)]) (by decide +kernel)) (fun _ _ _ _ _ => mgw_tup 2 rfl (mgsw_cons (mgw_name 6 (by decide) sc_Tableau_summed.nd) (mgsw_cons (mgw_name 7 (by decide) sc_Tableau_summed.nd) (mgsw_nil)))) (fun _ _ _ _ _ => mts_nil) (fun _ _ _ _ _ => me_op op_addA real_add (me_var 6) (me_op op_mulW real_mulW (me_var 5) (me_var 7)))))))
    (mss_one (ms_ret (me_tup (ma_cons (me_var 2) (ma_cons (me_var 3) (ma_nil))))))))
theorem ok_Tableau_slack {f : Addr} {fd : FuncData} (F : Fun K "slack" "Tableau.slack" s_Tableau_slack f fd) (c_Tableau_summed : MtK P w K mg base 1 "Tableau" "summed" 2 m_Tableau_summed) (c_inequality_of : Fn P w K mg base 1 "inequality_of" 4 m_inequality_of) (k_Tableau_highs : ClsK K mg "Tableau" "highs") (k_Tableau_lows : ClsK K mg "Tableau" "lows") (k_Tableau_rows : ClsK K mg "Tableau" "rows") (k_Tableau_scale : ClsK K mg "Tableau" "scale")  : FnOk P w K mg base CX0 2 f fd ["self", "q"] (spM K mg 2 m_Tableau_slack) := by
  unfold m_Tableau_slack
  exact fn_ok (k := 1) F sc_Tableau_slack fun cdv A outer s H E hr => 
    mss_cons (ms_asg (me_call c_inequality_of hr (ma_cons (me_fld k_Tableau_lows (me_var 0)) (ma_cons (me_fld k_Tableau_highs (me_var 0)) (ma_cons (me_fld k_Tableau_rows (me_var 0)) (ma_cons (me_var 1) (ma_nil)))))) (mg_tup 2 rfl (mgs_cons (mg_name 2 sc_Tableau_slack.nd) (mgs_cons (mg_name 3 sc_Tableau_slack.nd) (mgs_nil)))))
    (mss_cons (ms_asg (me_meth c_Tableau_summed hr (me_var 0) (ma_cons (me_var 2) (ma_nil))) (mg_tup 2 rfl (mgs_cons (mg_name 4 sc_Tableau_slack.nd) (mgs_cons (mg_name 5 sc_Tableau_slack.nd) (mgs_nil)))))
    (mss_one (ms_ret (me_tup (ma_cons (me_op op_sub real_sub (me_op op_mulW real_mulW (me_fld k_Tableau_scale (me_var 0)) (me_var 3)) (me_var 4)) (ma_cons (me_lc [("c", 6)] rfl sc_Tableau_slack.nd (mi_seq (me_var 5)) (blkOk_by (N := ["self", "q", "terms", "rhs", "constant", "coefs", "c"]) (sc := defScope s_Tableau_slack) (own := [("c", 6)]) (by decide +kernel)) (fun _ _ _ _ _ => mgw_name 6 (by decide) sc_Tableau_slack.nd) (fun _ _ _ _ _ => mts_nil) (fun _ _ _ _ _ => me_un un_neg real_neg (me_var 6))) (ma_nil)))))))
theorem ok_Tableau_aim_equation {f : Addr} {fd : FuncData} (F : Fun K "aim_equation" "Tableau.aim_equation" s_Tableau_aim_equation f fd) (c_Tableau_summed : MtK P w K mg base 1 "Tableau" "summed" 2 m_Tableau_summed) (c_lowest : Fn P w K mg base 2 "lowest" 3 m_lowest) (k_Tableau_aim_terms : ClsK K mg "Tableau" "aim_terms") (k_Tableau_scale : ClsK K mg "Tableau" "scale")  : FnOk P w K mg base CX0 3 f fd ["self"] (spM K mg 1 m_Tableau_aim_equation) := by
  unfold m_Tableau_aim_equation
  exact fn_ok (k := 2) F sc_Tableau_aim_equation fun cdv A outer s H E hr => 
    mss_cons (ms_asg (me_meth c_Tableau_summed hr (me_var 0) (ma_cons (me_fld k_Tableau_aim_terms (me_var 0)) (ma_nil))) (mg_tup 2 rfl (mgs_cons (mg_name 1 sc_Tableau_aim_equation.nd) (mgs_cons (mg_name 2 sc_Tableau_aim_equation.nd) (mgs_nil)))))
    (mss_one (ms_ret (me_call c_lowest hr (ma_cons (me_fld k_Tableau_scale (me_var 0)) (ma_cons (me_var 1) (ma_cons (me_var 2) (ma_nil)))))))
theorem ok_Tableau_column_equation {f : Addr} {fd : FuncData} (F : Fun K "column_equation" "Tableau.column_equation" s_Tableau_column_equation f fd) (c_lowest : Fn P w K mg base 2 "lowest" 3 m_lowest) (k_Tableau_coefs : ClsK K mg "Tableau" "coefs") (k_Tableau_constants : ClsK K mg "Tableau" "constants") (k_Tableau_scale : ClsK K mg "Tableau" "scale")  : FnOk P w K mg base CX0 3 f fd ["self", "j"] (spM K mg 2 m_Tableau_column_equation) := by
  unfold m_Tableau_column_equation
  exact fn_ok (k := 2) F sc_Tableau_column_equation fun cdv A outer s H E hr => 
    mss_one (ms_ret (me_call c_lowest hr (ma_cons (me_fld k_Tableau_scale (me_var 0)) (ma_cons (me_ix (me_fld k_Tableau_constants (me_var 0)) (me_var 1)) (ma_cons (me_ix (me_fld k_Tableau_coefs (me_var 0)) (me_var 1)) (ma_nil))))))
theorem ok_Tableau_slack_equation {f : Addr} {fd : FuncData} (F : Fun K "slack_equation" "Tableau.slack_equation" s_Tableau_slack_equation f fd) (c_Tableau_slack : MtK P w K mg base 2 "Tableau" "slack" 2 m_Tableau_slack) (c_lowest : Fn P w K mg base 2 "lowest" 3 m_lowest) (k_Tableau_scale : ClsK K mg "Tableau" "scale")  : FnOk P w K mg base CX0 3 f fd ["self", "q"] (spM K mg 2 m_Tableau_slack_equation) := by
  unfold m_Tableau_slack_equation
  exact fn_ok (k := 2) F sc_Tableau_slack_equation fun cdv A outer s H E hr => 
    mss_cons (ms_asg (me_meth c_Tableau_slack hr (me_var 0) (ma_cons (me_var 1) (ma_nil))) (mg_tup 2 rfl (mgs_cons (mg_name 2 sc_Tableau_slack_equation.nd) (mgs_cons (mg_name 3 sc_Tableau_slack_equation.nd) (mgs_nil)))))
    (mss_one (ms_ret (me_call c_lowest hr (ma_cons (me_fld k_Tableau_scale (me_var 0)) (ma_cons (me_var 2) (ma_cons (me_var 3) (ma_nil)))))))
theorem ok_Tableau_corner {f ci Pi : Addr} {fd : FuncData} (F : FunT K "corner" "Tableau.corner" s_Tableau_corner f fd ci) (tb : TbAt mg base 1 ci Pi) (c_ratio : Fn P w K mg base 1 "ratio" 2 m_ratio) (k_Tableau_constants : ClsK K mg "Tableau" "constants") (k_Tableau_scale : ClsK K mg "Tableau" "scale") (z_tuple : mg "tuple" = none) : FnOk P w K mg base CX0 3 f fd ["self"] (spM K mg 1 m_Tableau_corner) := by
  unfold m_Tableau_corner
  exact fn_okT (k := 2) F sc_Tableau_corner fun A outer s H E hr => 
    mss_one (ms_ret (me_genTup 1 [("constant", 1)] tb rfl hr sc_Tableau_corner.nd z_tuple (gscp_by (N := ["self", "constant"]) (sc := defScope s_Tableau_corner) (own := [("constant", 1)]) (by decide +kernel) (by decide +kernel)) (mi_seq (me_fld k_Tableau_constants (me_var 0))) ⟨fun _ _ _ _ _ _ _ _ _ hr => mgw_name 1 (by decide) sc_Tableau_corner.nd, fun _ _ _ _ _ _ _ _ _ hr => mts_nil, fun _ _ _ _ _ _ _ _ _ hr => me_call c_ratio hr (ma_cons (me_var 1) (ma_cons (me_fld k_Tableau_scale (me_var 0)) (ma_nil)))⟩))
theorem ok__law_draw {f : Addr} {fd : FuncData} (F : Fun K "_law_draw" "_law_draw" s__law_draw f fd)  (z_int : mg "int" = none) (z_len : mg "len" = none) : FnOk P w K mg base CX0 1 f fd ["tape", "many"] (spM K mg 2 m__law_draw) := by
  unfold m__law_draw
  exact fn_ok (k := 0) F sc__law_draw fun cdv A outer s H E hr => 
    mss_cons (ms_if (mt_cmp op_lt real_cmp (me_ix (me_var 0) (me_int)) (me_var 1) (nomark _)) (mss_cons (ms_set 2 sc__law_draw.nd (me_ix (me_var 0) (me_int)))
    (mss_cons (ms_set 3 sc__law_draw.nd (me_ix (me_var 0) (me_int)))
    (mss_cons (ms_set 4 sc__law_draw.nd (me_int))
    (mss_cons (ms_if (mt_cmp op_lt real_cmp (me_var 3) (me_callB call_lenA real_len z_len (by decide +kernel) (ma_cons (me_var 2) (ma_nil))) (nomark _)) (mss_one (ms_set 4 sc__law_draw.nd (me_ix (me_var 2) (me_var 3)))) (mss_nil))
    (mss_cons (ms_if (mt_cmp op_lt real_cmp (me_var 4) (me_int) (nomark _)) (mss_one (ms_set 4 sc__law_draw.nd (me_op op_sub real_sub (me_op op_mul real_mul (me_un un_neg real_neg (me_int)) (me_var 4)) (me_int)))) (mss_nil))
    (mss_cons (ms_if (mt_cmp op_lt real_cmp (me_var 4) (me_op op_pow real_pow (me_int) (me_int)) (nomark _)) (mss_cons (ms_set 4 sc__law_draw.nd (me_op op_mod real_mod (me_callTy call_int1 real_int z_int (by decide +kernel) (ma_cons (me_op op_addA real_add (me_op op_addA real_add (me_op op_mul real_mul (me_var 4) (me_int)) (me_op op_mul real_mul (me_var 3) (me_int))) (me_int)) (ma_nil))) (me_int)))
    (mss_one (ms_set 4 sc__law_draw.nd (me_op op_mod real_mod (me_callTy call_int1 real_int z_int (by decide +kernel) (ma_cons (me_op op_addA real_add (me_op op_addA real_add (me_op op_mul real_mul (me_var 4) (me_int)) (me_op op_mul real_mul (me_var 3) (me_int))) (me_int)) (ma_nil))) (me_int))))) (mss_nil))
    (mss_cons (ms_asg (me_op op_addA real_add (me_var 3) (me_int)) (mg_sub (me_var 0) (me_int)))
    (mss_one (ms_asg (me_var 4) (mg_sub (me_var 0) (me_int))))))))))) (mss_nil))
    (mss_cons (ms_set 5 sc__law_draw.nd (me_op op_mod real_mod (me_callTy call_int1 real_int z_int (by decide +kernel) (ma_cons (me_ix (me_var 0) (me_int)) (ma_nil))) (me_var 1)))
    (mss_cons (ms_asg (me_op op_fdiv real_div (me_ix (me_var 0) (me_int)) (me_var 1)) (mg_sub (me_var 0) (me_int)))
    (mss_one (ms_ret (me_var 5)))))
theorem ok__law_tape {f : Addr} {fd : FuncData} (F : Fun K "_law_tape" "_law_tape" s__law_tape f fd)  (z_list : mg "list" = none) : FnOk P w K mg base CX0 1 f fd ["script"] (spM K mg 1 m__law_tape) := by
  unfold m__law_tape
  exact fn_ok (k := 0) F sc__law_tape fun cdv A outer s H E hr => 
    mss_one (ms_ret (me_lst (ma_cons (me_callTy call_list_of real_list z_list (by decide +kernel) (ma_cons (me_var 0) (ma_nil))) (ma_cons (me_int) (ma_cons (me_int) (ma_nil))))))
theorem ok__law_whole {f : Addr} {fd : FuncData} (F : Fun K "_law_whole" "_law_whole" s__law_whole f fd)  (z_bool : mg "bool" = none) (z_int : mg "int" = none) (z_isinstance : mg "isinstance" = none) : FnOk P w K mg base CX0 1 f fd ["x"] (spM K mg 1 m__law_whole) := by
  unfold m__law_whole
  exact fn_ok (k := 0) F sc__law_whole fun cdv A outer s H E hr => 
    mss_one (ms_ret (me_and (me_callB call_isi real_isi z_isinstance (by decide +kernel) (ma_cons (me_var 0) (ma_cons (me_ty (by rfl) z_int (by decide +kernel)) (ma_nil)))) (me_bone (me_not (me_callB call_isi real_isi z_isinstance (by decide +kernel) (ma_cons (me_var 0) (ma_cons (me_ty (by rfl) z_bool (by decide +kernel)) (ma_nil))))))))
theorem ok__law_common {f : Addr} {fd : FuncData} (F : Fun K "_law_common" "_law_common" s__law_common f fd)  (z_abs : mg "abs" = none) (z_int : mg "int" = none) (z_range : mg "range" = none) : FnOk P w K mg base CX0 1 f fd ["a", "b"] (spM K mg 2 m__law_common) := by
  unfold m__law_common
  exact fn_ok (k := 0) F sc__law_common fun cdv A outer s H E hr => 
    mss_cons (ms_set 0 sc__law_common.nd (me_callB call_abs real_abs z_abs (by decide +kernel) (ma_cons (me_var 0) (ma_nil))))
    (mss_cons (ms_set 1 sc__law_common.nd (me_callB call_abs real_abs z_abs (by decide +kernel) (ma_cons (me_var 1) (ma_nil))))
    (mss_cons (ms_for rfl (mi_range1 z_range (ma_cons (me_int) (ma_nil))) (mg_name 2 sc__law_common.nd) (mss_cons (ms_if (mt_cmp (op_eqA hr.units) real_eq (me_var 1) (me_int) (nomark _)) (mss_one (ms_ret (me_var 0))) (mss_nil))
    (mss_cons (ms_set 3 sc__law_common.nd (me_op op_modN real_modN (me_callTy call_int1 real_int z_int (by decide +kernel) (ma_cons (me_var 0) (ma_nil))) (me_var 1)))
    (mss_cons (ms_set 0 sc__law_common.nd (me_var 1))
    (mss_one (ms_set 1 sc__law_common.nd (me_var 3)))))))
    (mss_one (ms_ret (me_var 0)))))
theorem ok__law_terms {f : Addr} {fd : FuncData} (F : Fun K "_law_terms" "_law_terms" s__law_terms f fd) (c__law_draw : Fn P w K mg base 1 "_law_draw" 2 m__law_draw) (z_range : mg "range" = none) (z_tuple : mg "tuple" = none) : FnOk P w K mg base CX0 2 f fd ["tape", "many"] (spM K mg 2 m__law_terms) := by
  unfold m__law_terms
  exact fn_ok (k := 1) F sc__law_terms fun cdv A outer s H E hr => 
    mss_cons (ms_set 2 sc__law_terms.nd (me_lst (ma_nil)))
    (mss_cons (ms_for rfl (mi_range1 z_range (ma_cons (me_var 1) (ma_nil))) (mg_name 3 sc__law_terms.nd) (mss_cons (ms_set 4 sc__law_terms.nd (me_op op_sub real_sub (me_call c__law_draw hr (ma_cons (me_var 0) (ma_cons (me_int) (ma_nil)))) (me_int)))
    (mss_one (ms_if (mt_cmp (op_neA hr.units) real_ne (me_var 4) (me_int) (nomark _)) (mss_one (ms_expr (me_append (me_var 2) (me_tup (ma_cons (me_var 3) (ma_cons (me_var 4) (ma_nil))))))) (mss_nil)))))
    (mss_one (ms_ret (me_callTy call_tuple_of real_tuple z_tuple (by decide +kernel) (ma_cons (me_var 2) (ma_nil))))))
theorem ok__law_rhs {f : Addr} {fd : FuncData} (F : Fun K "_law_rhs" "_law_rhs" s__law_rhs f fd) (c__law_draw : Fn P w K mg base 1 "_law_draw" 2 m__law_draw)  : FnOk P w K mg base CX0 2 f fd ["tape", "terms", "base", "large"] (spM K mg 4 m__law_rhs) := by
  unfold m__law_rhs
  exact fn_ok (k := 1) F sc__law_rhs fun cdv A outer s H E hr => 
    mss_cons (ms_if (mt_cmp (op_eqA hr.units) real_eq (me_call c__law_draw hr (ma_cons (me_var 0) (ma_cons (me_int) (ma_nil)))) (me_int) (nomark _)) (mss_one (ms_ret (me_op op_sub real_sub (me_op op_addA real_add (me_op op_mulW real_mulW (me_op op_sub real_sub (me_call c__law_draw hr (ma_cons (me_var 0) (ma_cons (me_int) (ma_nil)))) (me_int)) (me_var 3)) (me_call c__law_draw hr (ma_cons (me_var 0) (ma_cons (me_int) (ma_nil))))) (me_int)))) (mss_nil))
    (mss_cons (ms_set 4 sc__law_rhs.nd (me_call c__law_draw hr (ma_cons (me_var 0) (ma_cons (me_int) (ma_nil)))))
    (mss_cons (ms_for rfl (mi_seq (me_var 1)) (mg_tup 2 rfl (mgs_cons (mg_name 5 sc__law_rhs.nd) (mgs_cons (mg_name 6 sc__law_rhs.nd) (mgs_nil)))) (mss_one (ms_set 4 sc__law_rhs.nd (me_op op_addA real_add (me_var 4) (me_op op_mulW real_mulW (me_var 6) (me_ix (me_var 2) (me_var 5)))))))
    (mss_one (ms_ret (me_var 4)))))
theorem ok__law_program {f : Addr} {fd : FuncData} (F : Fun K "_law_program" "_law_program" s__law_program f fd) (c__law_draw : Fn P w K mg base 1 "_law_draw" 2 m__law_draw) (c__law_rhs : Fn P w K mg base 2 "_law_rhs" 4 m__law_rhs) (c__law_terms : Fn P w K mg base 2 "_law_terms" 2 m__law_terms) (z_range : mg "range" = none) (z_tuple : mg "tuple" = none) : FnOk P w K mg base CX0 3 f fd ["tape", "most", "rows"] (spM K mg 3 m__law_program) := by
  unfold m__law_program
  exact fn_ok (k := 2) F sc__law_program fun cdv A outer s H E hr => 
    mss_cons (ms_set 3 sc__law_program.nd (me_op op_addA real_add (me_int) (me_call c__law_draw hr (ma_cons (me_var 0) (ma_cons (me_var 1) (ma_nil))))))
    (mss_cons (ms_set 4 sc__law_program.nd (me_int))
    (mss_cons (ms_if (mt_cmp (op_eqA hr.units) real_eq (me_call c__law_draw hr (ma_cons (me_var 0) (ma_cons (me_int) (ma_nil)))) (me_int) (nomark _)) (mss_one (ms_set 4 sc__law_program.nd (me_op op_addA real_add (me_int) (me_call c__law_draw hr (ma_cons (me_var 0) (ma_cons (me_int) (ma_nil))))))) (mss_nil))
    (mss_cons (ms_set 5 sc__law_program.nd (me_lst (ma_nil)))
    (mss_cons (ms_set 6 sc__law_program.nd (me_lst (ma_nil)))
    (mss_cons (ms_set 7 sc__law_program.nd (me_lst (ma_nil)))
    (mss_cons (ms_for rfl (mi_range1 z_range (ma_cons (me_var 3) (ma_nil))) (mg_name 8 sc__law_program.nd) (mss_cons (ms_set 9 sc__law_program.nd (me_op op_sub real_sub (me_op op_mulW real_mulW (me_op op_sub real_sub (me_call c__law_draw hr (ma_cons (me_var 0) (ma_cons (me_int) (ma_nil)))) (me_int)) (me_var 4)) (me_call c__law_draw hr (ma_cons (me_var 0) (ma_cons (me_int) (ma_nil))))))
    (mss_cons (ms_expr (me_append (me_var 5) (me_var 9)))
    (mss_cons (ms_expr (me_append (me_var 6) (me_op op_addA real_add (me_var 9) (me_op op_mulW real_mulW (me_call c__law_draw hr (ma_cons (me_var 0) (ma_cons (me_int) (ma_nil)))) (me_var 4)))))
    (mss_one (ms_expr (me_append (me_var 7) (me_op op_addA real_add (me_var 9) (me_call c__law_draw hr (ma_cons (me_var 0) (ma_cons (me_op op_addA real_add (me_op op_sub real_sub (me_ix (me_var 6) (me_var 8)) (me_var 9)) (me_int)) (ma_nil))))))))))))
    (mss_cons (ms_set 10 sc__law_program.nd (me_lst (ma_nil)))
    (mss_cons (ms_for rfl (mi_range1 z_range (ma_cons (me_call c__law_draw hr (ma_cons (me_var 0) (ma_cons (me_op op_addA real_add (me_var 2) (me_int)) (ma_nil)))) (ma_nil))) (mg_name 11 sc__law_program.nd) (mss_cons (ms_set 12 sc__law_program.nd (me_call c__law_terms hr (ma_cons (me_var 0) (ma_cons (me_var 3) (ma_nil)))))
    (mss_cons (ms_if (mt_cmp (op_eqA hr.units) real_eq (me_call c__law_draw hr (ma_cons (me_var 0) (ma_cons (me_int) (ma_nil)))) (me_int) (nomark _)) (mss_one (ms_set 12 sc__law_program.nd (me_callTy call_tuple_of real_tuple z_tuple (by decide +kernel) (ma_cons (me_lc [("v", 13), ("c", 14)] rfl sc__law_program.nd (mi_seq (me_var 12)) (blkOk_by (N := ["tape", "most", "rows", "many", "large", "lows", "highs", "base", "j", "low", "found", "i", "terms", "v", "c"]) (sc := defScope s__law_program) (own := [("v", 13), ("c", 14)]) (by decide +kernel)) (fun _ _ _ _ _ => mgw_tup 2 rfl (mgsw_cons (mgw_name 13 (by decide) sc__law_program.nd) (mgsw_cons (mgw_name 14 (by decide) sc__law_program.nd) (mgsw_nil)))) (fun _ _ _ _ _ => mts_nil) (fun _ _ _ _ _ => me_tup (ma_cons (me_var 13) (ma_cons (me_op op_mulW real_mulW (me_var 14) (me_var 4)) (ma_nil))))) (ma_nil))))) (mss_nil))
    (mss_cons (ms_expr (me_append (me_var 10) (me_tup (ma_cons (me_var 12) (ma_cons (me_call c__law_rhs hr (ma_cons (me_var 0) (ma_cons (me_var 12) (ma_cons (me_var 7) (ma_cons (me_var 4) (ma_nil)))))) (ma_nil))))))
    (mss_one (ms_if (mt_cmp (op_eqA hr.units) real_eq (me_call c__law_draw hr (ma_cons (me_var 0) (ma_cons (me_int) (ma_nil)))) (me_int) (nomark _)) (mss_cons (ms_set 12 sc__law_program.nd (me_callTy call_tuple_of real_tuple z_tuple (by decide +kernel) (ma_cons (me_lc [("v", 13), ("c", 14)] rfl sc__law_program.nd (mi_seq (me_var 12)) (blkOk_by (N := ["tape", "most", "rows", "many", "large", "lows", "highs", "base", "j", "low", "found", "i", "terms", "v", "c"]) (sc := defScope s__law_program) (own := [("v", 13), ("c", 14)]) (by decide +kernel)) (fun _ _ _ _ _ => mgw_tup 2 rfl (mgsw_cons (mgw_name 13 (by decide) sc__law_program.nd) (mgsw_cons (mgw_name 14 (by decide) sc__law_program.nd) (mgsw_nil)))) (fun _ _ _ _ _ => mts_nil) (fun _ _ _ _ _ => me_tup (ma_cons (me_var 13) (ma_cons (me_un un_neg real_neg (me_var 14)) (ma_nil))))) (ma_nil))))
    (mss_one (ms_expr (me_append (me_var 10) (me_tup (ma_cons (me_var 12) (ma_cons (me_call c__law_rhs hr (ma_cons (me_var 0) (ma_cons (me_var 12) (ma_cons (me_var 7) (ma_cons (me_var 4) (ma_nil)))))) (ma_nil)))))))) (mss_nil)))))))
    (mss_one (ms_ret (me_lst (ma_cons (me_callTy call_tuple_of real_tuple z_tuple (by decide +kernel) (ma_cons (me_var 5) (ma_nil))) (ma_cons (me_callTy call_tuple_of real_tuple z_tuple (by decide +kernel) (ma_cons (me_var 6) (ma_nil))) (ma_cons (me_callTy call_tuple_of real_tuple z_tuple (by decide +kernel) (ma_cons (me_var 10) (ma_nil))) (ma_cons (me_call c__law_terms hr (ma_cons (me_var 0) (ma_cons (me_var 3) (ma_nil)))) (ma_nil))))))))))))))))
theorem ok__law_inequality {f : Addr} {fd : FuncData} (F : Fun K "_law_inequality" "_law_inequality" s__law_inequality f fd)  (z_int : mg "int" = none) (z_len : mg "len" = none) : FnOk P w K mg base CX0 1 f fd ["program", "q"] (spM K mg 2 m__law_inequality) := by
  unfold m__law_inequality
  exact fn_ok (k := 0) F sc__law_inequality fun cdv A outer s H E hr => 
    mss_cons (ms_set 2 sc__law_inequality.nd (me_ix (me_var 0) (me_int)))
    (mss_cons (ms_if (mt_cmp op_lt real_cmp (me_var 1) (me_callB call_lenA real_len z_len (by decide +kernel) (ma_cons (me_var 2) (ma_nil))) (nomark _)) (mss_one (ms_ret (me_ix (me_var 2) (me_var 1)))) (mss_nil))
    (mss_cons (ms_set 3 sc__law_inequality.nd (me_op op_fdivA real_divA (me_op op_sub real_sub (me_var 1) (me_callB call_lenA real_len z_len (by decide +kernel) (ma_cons (me_var 2) (ma_nil)))) (me_int)))
    (mss_cons (ms_if (mt_cmp (op_eqA hr.units) real_eq (me_op op_modN real_modN (me_callTy call_int1 real_int z_int (by decide +kernel) (ma_cons (me_op op_sub real_sub (me_var 1) (me_callB call_lenA real_len z_len (by decide +kernel) (ma_cons (me_var 2) (ma_nil)))) (ma_nil))) (me_int)) (me_int) (nomark _)) (mss_one (ms_ret (me_tup (ma_cons (me_tup (ma_cons (me_tup (ma_cons (me_var 3) (ma_cons (me_int) (ma_nil)))) (ma_nil))) (ma_cons (me_ix (me_ix (me_var 0) (me_int)) (me_var 3)) (ma_nil)))))) (mss_nil))
    (mss_one (ms_ret (me_tup (ma_cons (me_tup (ma_cons (me_tup (ma_cons (me_var 3) (ma_cons (me_un un_neg real_neg (me_int)) (ma_nil)))) (ma_nil))) (ma_cons (me_un un_neg real_neg (me_ix (me_ix (me_var 0) (me_int)) (me_var 3))) (ma_nil)))))))))
theorem ok__law_count {f : Addr} {fd : FuncData} (F : Fun K "_law_count" "_law_count" s__law_count f fd)  (z_len : mg "len" = none) : FnOk P w K mg base CX0 1 f fd ["program"] (spM K mg 1 m__law_count) := by
  unfold m__law_count
  exact fn_ok (k := 0) F sc__law_count fun cdv A outer s H E hr => 
    mss_one (ms_ret (me_op op_addA real_add (me_callB call_lenA real_len z_len (by decide +kernel) (ma_cons (me_ix (me_var 0) (me_int)) (ma_nil))) (me_op op_mulW real_mulW (me_int) (me_callB call_lenA real_len z_len (by decide +kernel) (ma_cons (me_ix (me_var 0) (me_int)) (ma_nil))))))
theorem ok__law_sum {f : Addr} {fd : FuncData} (F : Fun K "_law_sum" "_law_sum" s__law_sum f fd)   : FnOk P w K mg base CX0 1 f fd ["terms", "point"] (spM K mg 2 m__law_sum) := by
  unfold m__law_sum
  exact fn_ok (k := 0) F sc__law_sum fun cdv A outer s H E hr => 
    mss_cons (ms_set 2 sc__law_sum.nd (me_int))
    (mss_cons (ms_for rfl (mi_seq (me_var 0)) (mg_tup 2 rfl (mgs_cons (mg_name 3 sc__law_sum.nd) (mgs_cons (mg_name 4 sc__law_sum.nd) (mgs_nil)))) (mss_one (ms_set 2 sc__law_sum.nd (me_op op_addA real_add (me_var 2) (me_op op_mulW real_mulW (me_var 4) (me_ix (me_var 1) (me_var 3)))))))
    (mss_one (ms_ret (me_var 2))))
theorem ok__law_slack {f : Addr} {fd : FuncData} (F : Fun K "_law_slack" "_law_slack" s__law_slack f fd) (c__law_inequality : Fn P w K mg base 1 "_law_inequality" 2 m__law_inequality) (c__law_sum : Fn P w K mg base 1 "_law_sum" 2 m__law_sum)  : FnOk P w K mg base CX0 2 f fd ["program", "q", "point"] (spM K mg 3 m__law_slack) := by
  unfold m__law_slack
  exact fn_ok (k := 1) F sc__law_slack fun cdv A outer s H E hr => 
    mss_cons (ms_asg (me_call c__law_inequality hr (ma_cons (me_var 0) (ma_cons (me_var 1) (ma_nil)))) (mg_tup 2 rfl (mgs_cons (mg_name 3 sc__law_slack.nd) (mgs_cons (mg_name 4 sc__law_slack.nd) (mgs_nil)))))
    (mss_one (ms_ret (me_op op_sub real_sub (me_var 4) (me_call c__law_sum hr (ma_cons (me_var 3) (ma_cons (me_var 2) (ma_nil)))))))
theorem ok__law_equation {f : Addr} {fd : FuncData} (F : Fun K "_law_equation" "_law_equation" s__law_equation f fd) (c__law_common : Fn P w K mg base 1 "_law_common" 2 m__law_common) (c__law_whole : Fn P w K mg base 1 "_law_whole" 1 m__law_whole) (z_isinstance : mg "isinstance" = none) (z_len : mg "len" = none) (z_list : mg "list" = none) (z_tuple : mg "tuple" = none) : FnOk P w K mg base CX0 2 f fd ["told", "many"] (spM K mg 2 m__law_equation) := by
  unfold m__law_equation
  exact fn_ok (k := 1) F sc__law_equation fun cdv A outer s H E hr => 
    mss_cons (ms_if (MW.mt (mw_or (mt_not (mt_truth (me_callB call_isi real_isi z_isinstance (by decide +kernel) (ma_cons (me_var 0) (ma_cons (me_ty (by rfl) z_tuple (by decide +kernel)) (ma_nil)))))) (mw_or (mt_cmp (op_neA hr.units) real_ne (me_callB call_lenA real_len z_len (by decide +kernel) (ma_cons (me_var 0) (ma_nil))) (me_int) (nomark _)) (mw_or (mt_not (mt_truth (me_callB call_isi real_isi z_isinstance (by decide +kernel) (ma_cons (me_ix (me_var 0) (me_int)) (ma_cons (me_ty (by rfl) z_tuple (by decide +kernel)) (ma_nil)))))) (mw_one_or (mt_cmp (op_neA hr.units) real_ne (me_callB call_lenA real_len z_len (by decide +kernel) (ma_cons (me_ix (me_var 0) (me_int)) (ma_nil))) (me_var 1) (nomark _))))))) (mss_one (ms_ret (me_bl))) (mss_nil))
    (mss_cons (ms_set 2 sc__law_equation.nd (me_op op_addA real_add (me_lst (ma_cons (me_ix (me_var 0) (me_int)) (ma_cons (me_ix (me_var 0) (me_int)) (ma_nil)))) (me_callTy call_list_of real_list z_list (by decide +kernel) (ma_cons (me_ix (me_var 0) (me_int)) (ma_nil)))))
    (mss_cons (ms_set 3 sc__law_equation.nd (me_int))
    (mss_cons (ms_for rfl (mi_seq (me_var 2)) (mg_name 4 sc__law_equation.nd) (mss_cons (ms_if (mt_not (mt_truth (me_call c__law_whole hr (ma_cons (me_var 4) (ma_nil))))) (mss_one (ms_ret (me_bl))) (mss_nil))
    (mss_one (ms_set 3 sc__law_equation.nd (me_call c__law_common hr (ma_cons (me_var 3) (ma_cons (me_var 4) (ma_nil))))))))
    (mss_one (ms_ret (me_and (me_cmp op_ge real_cmp (me_ix (me_var 0) (me_int)) (me_int) (nomark _)) (me_bone (me_cmp (op_eqA hr.units) real_eq (me_var 3) (me_int) (nomark _)))))))))
theorem ok__law_says {f : Addr} {fd : FuncData} (F : Fun K "_law_says" "_law_says" s__law_says f fd)  (z_len : mg "len" = none) (z_range : mg "range" = none) : FnOk P w K mg base CX0 1 f fd ["told", "worth", "slacks"] (spM K mg 3 m__law_says) := by
  unfold m__law_says
  exact fn_ok (k := 0) F sc__law_says fun cdv A outer s H E hr => 
    mss_cons (ms_set 3 sc__law_says.nd (me_ix (me_var 0) (me_int)))
    (mss_cons (ms_for rfl (mi_range1 z_range (ma_cons (me_callB call_lenA real_len z_len (by decide +kernel) (ma_cons (me_var 2) (ma_nil))) (ma_nil))) (mg_name 4 sc__law_says.nd) (mss_one (ms_set 3 sc__law_says.nd (me_op op_addA real_add (me_var 3) (me_op op_mulW real_mulW (me_ix (me_ix (me_var 0) (me_int)) (me_var 4)) (me_ix (me_var 2) (me_var 4)))))))
    (mss_one (ms_ret (me_cmp (op_eqA hr.units) real_eq (me_op op_mulW real_mulW (me_ix (me_var 0) (me_int)) (me_var 1)) (me_var 3) (nomark _)))))
theorem ok__law_agrees {f : Addr} {fd : FuncData} (F : Fun K "_law_agrees" "_law_agrees" s__law_agrees f fd) (c_Tableau_aim_equation : MtK P w K mg base 3 "Tableau" "aim_equation" 1 m_Tableau_aim_equation) (c_Tableau_column_equation : MtK P w K mg base 3 "Tableau" "column_equation" 2 m_Tableau_column_equation) (c_Tableau_free : MtK P w K mg base 1 "Tableau" "free" 1 m_Tableau_free) (c_Tableau_slack_equation : MtK P w K mg base 3 "Tableau" "slack_equation" 2 m_Tableau_slack_equation) (c__law_count : Fn P w K mg base 1 "_law_count" 1 m__law_count) (c__law_equation : Fn P w K mg base 2 "_law_equation" 2 m__law_equation) (c__law_says : Fn P w K mg base 1 "_law_says" 3 m__law_says) (c__law_slack : Fn P w K mg base 2 "_law_slack" 3 m__law_slack) (c__law_sum : Fn P w K mg base 1 "_law_sum" 2 m__law_sum) (z_len : mg "len" = none) (z_range : mg "range" = none) (z_tuple : mg "tuple" = none) : FnOk P w K mg base CX0 4 f fd ["tableau", "program", "places", "point"] (spM K mg 4 m__law_agrees) := by
  unfold m__law_agrees
  exact fn_ok (k := 3) F sc__law_agrees fun cdv A outer s H E hr => 
    mss_cons (ms_set 4 sc__law_agrees.nd (me_callB call_lenA real_len z_len (by decide +kernel) (ma_cons (me_ix (me_var 1) (me_int)) (ma_nil))))
    (mss_cons (ms_if (mt_cmp (op_neA hr.units) real_ne (me_meth0 c_Tableau_free hr (me_var 0)) (me_callTy call_tuple_of real_tuple z_tuple (by decide +kernel) (ma_cons (me_var 2) (ma_nil))) (nomark _)) (mss_one (ms_ret (me_bl))) (mss_nil))
    (mss_cons (ms_setLc 5 [("q", 6)] rfl sc__law_agrees.nd (sw_true rfl rfl rfl rfl) (mi_seq (me_var 2)) (blkOk_by (N := ["tableau", "program", "places", "point", "many", "slacks", "q", "told", "j"]) (sc := defScope s__law_agrees) (own := [("q", 6)]) (by decide +kernel)) (fun _ _ _ _ _ => mgw_name 6 (by decide) sc__law_agrees.nd) (fun _ _ _ _ _ => mts_nil) (fun _ _ _ _ _ => me_call c__law_slack hr (ma_cons (me_var 1) (ma_cons (me_var 6) (ma_cons (me_var 3) (ma_nil))))))
    (mss_cons (ms_set 7 sc__law_agrees.nd (me_meth0 c_Tableau_aim_equation hr (me_var 0)))
    (mss_cons (ms_if (MW.mt (mw_or (mt_not (mt_truth (me_call c__law_equation hr (ma_cons (me_var 7) (ma_cons (me_var 4) (ma_nil)))))) (mw_one_or (mt_not (mt_truth (me_call c__law_says hr (ma_cons (me_var 7) (ma_cons (me_call c__law_sum hr (ma_cons (me_ix (me_var 1) (me_int)) (ma_cons (me_var 3) (ma_nil)))) (ma_cons (me_var 5) (ma_nil)))))))))) (mss_one (ms_ret (me_bl))) (mss_nil))
    (mss_cons (ms_for rfl (mi_range1 z_range (ma_cons (me_var 4) (ma_nil))) (mg_name 8 sc__law_agrees.nd) (mss_cons (ms_set 7 sc__law_agrees.nd (me_meth c_Tableau_column_equation hr (me_var 0) (ma_cons (me_var 8) (ma_nil))))
    (mss_one (ms_if (MW.mt (mw_or (mt_not (mt_truth (me_call c__law_equation hr (ma_cons (me_var 7) (ma_cons (me_var 4) (ma_nil)))))) (mw_one_or (mt_not (mt_truth (me_call c__law_says hr (ma_cons (me_var 7) (ma_cons (me_ix (me_var 3) (me_var 8)) (ma_cons (me_var 5) (ma_nil)))))))))) (mss_one (ms_ret (me_bl))) (mss_nil)))))
    (mss_cons (ms_for rfl (mi_range1 z_range (ma_cons (me_call c__law_count hr (ma_cons (me_var 1) (ma_nil))) (ma_nil))) (mg_name 6 sc__law_agrees.nd) (mss_cons (ms_set 7 sc__law_agrees.nd (me_meth c_Tableau_slack_equation hr (me_var 0) (ma_cons (me_var 6) (ma_nil))))
    (mss_one (ms_if (MW.mt (mw_or (mt_not (mt_truth (me_call c__law_equation hr (ma_cons (me_var 7) (ma_cons (me_var 4) (ma_nil)))))) (mw_one_or (mt_not (mt_truth (me_call c__law_says hr (ma_cons (me_var 7) (ma_cons (me_call c__law_slack hr (ma_cons (me_var 1) (ma_cons (me_var 6) (ma_cons (me_var 3) (ma_nil))))) (ma_cons (me_var 5) (ma_nil)))))))))) (mss_one (ms_ret (me_bl))) (mss_nil)))))
    (mss_one (ms_ret (me_bl)))))))))
theorem ok__law_any_point {f : Addr} {fd : FuncData} (F : Fun K "_law_any_point" "_law_any_point" s__law_any_point f fd) (c__law_draw : Fn P w K mg base 1 "_law_draw" 2 m__law_draw) (z_len : mg "len" = none) (z_range : mg "range" = none) (z_tuple : mg "tuple" = none) : FnOk P w K mg base CX0 2 f fd ["tape", "program"] (spM K mg 2 m__law_any_point) := by
  unfold m__law_any_point
  exact fn_ok (k := 1) F sc__law_any_point fun cdv A outer s H E hr => 
    mss_cons (ms_set 2 sc__law_any_point.nd (me_lst (ma_nil)))
    (mss_cons (ms_for rfl (mi_range1 z_range (ma_cons (me_callB call_lenA real_len z_len (by decide +kernel) (ma_cons (me_ix (me_var 1) (me_int)) (ma_nil))) (ma_nil))) (mg_name 3 sc__law_any_point.nd) (mss_one (ms_if (mt_cmp (op_eqA hr.units) real_eq (me_call c__law_draw hr (ma_cons (me_var 0) (ma_cons (me_int) (ma_nil)))) (me_int) (nomark _)) (mss_one (ms_expr (me_append (me_var 2) (me_op op_sub real_sub (me_call c__law_draw hr (ma_cons (me_var 0) (ma_cons (me_int) (ma_nil)))) (me_int))))) (mss_one (ms_expr (me_append (me_var 2) (me_op op_addA real_add (me_ix (me_ix (me_var 1) (me_int)) (me_var 3)) (me_call c__law_draw hr (ma_cons (me_var 0) (ma_cons (me_op op_addA real_add (me_op op_sub real_sub (me_ix (me_ix (me_var 1) (me_int)) (me_var 3)) (me_ix (me_ix (me_var 1) (me_int)) (me_var 3))) (me_int)) (ma_nil)))))))))))
    (mss_one (ms_ret (me_callTy call_tuple_of real_tuple z_tuple (by decide +kernel) (ma_cons (me_var 2) (ma_nil))))))
theorem ok_Tableau___init__ {f : Addr} {fd : FuncData} (F : Fun K "__init__" "Tableau.__init__" s_Tableau___init__ f fd) (c_Tableau_begin : MtK P w K mg base 1 "Tableau" "begin" 3 m_Tableau_begin) (k_Tableau_aim_terms : ClsK K mg "Tableau" "aim_terms") (k_Tableau_coefs : ClsK K mg "Tableau" "coefs") (k_Tableau_constants : ClsK K mg "Tableau" "constants") (k_Tableau_highs : ClsK K mg "Tableau" "highs") (k_Tableau_lows : ClsK K mg "Tableau" "lows") (k_Tableau_places : ClsK K mg "Tableau" "places") (k_Tableau_rows : ClsK K mg "Tableau" "rows") (k_Tableau_scale : ClsK K mg "Tableau" "scale") (z_len : mg "len" = none) (z_range : mg "range" = none) : FnOk P w K mg base CX0 2 f fd ["self", "lows", "highs", "rows", "aim"] (spM K mg 5 m_Tableau___init__) := by
  unfold m_Tableau___init__
  exact fn_ok (k := 1) F sc_Tableau___init__ fun cdv A outer s H E hr => 
    mss_cons (ms_fldput k_Tableau_lows (me_var 0) (me_var 1))
    (mss_cons (ms_fldput k_Tableau_highs (me_var 0) (me_var 2))
    (mss_cons (ms_fldput k_Tableau_rows (me_var 0) (me_var 3))
    (mss_cons (ms_fldput k_Tableau_aim_terms (me_var 0) (me_var 4))
    (mss_cons (ms_fldput k_Tableau_places (me_var 0) (me_lst (ma_nil)))
    (mss_cons (ms_fldput k_Tableau_scale (me_var 0) (me_int))
    (mss_cons (ms_fldput k_Tableau_constants (me_var 0) (me_lst (ma_nil)))
    (mss_cons (ms_fldput k_Tableau_coefs (me_var 0) (me_lst (ma_nil)))
    (mss_cons (ms_setLc 5 [("j", 6), ("c", 7)] rfl sc_Tableau___init__.nd (sw_true rfl rfl rfl rfl) (mi_seq (me_var 4)) (blkOk_by (N := ["self", "lows", "highs", "rows", "aim", "negative", "j", "c"]) (sc := defScope s_Tableau___init__) (own := [("j", 6), ("c", 7)]) (by decide +kernel)) (fun _ _ _ _ _ => mgw_tup 2 rfl (mgsw_cons (mgw_name 6 (by decide) sc_Tableau___init__.nd) (mgsw_cons (mgw_name 7 (by decide) sc_Tableau___init__.nd) (mgsw_nil)))) (fun _ _ _ _ _ => mts_one (mt_cmp op_lt real_cmp (me_var 7) (me_int) (nomark _))) (fun _ _ _ _ _ => me_var 6))
    (mss_one (ms_for rfl (mi_range1 z_range (ma_cons (me_callB call_lenA real_len z_len (by decide +kernel) (ma_cons (me_var 1) (ma_nil))) (ma_nil))) (mg_name 6 sc_Tableau___init__.nd) (mss_one (ms_expr (me_meth c_Tableau_begin hr (me_var 0) (ma_cons (me_var 6) (ma_cons (me_cmp (op_inA hr.units65) real_in (me_var 6) (me_var 5) (by rfl)) (ma_nil))))))))))))))))
theorem ok_law {f : Addr} {fd : FuncData} (F : Fun K "law" "law" s_law f fd) (c_Tableau_corner : MtK P w K mg base 3 "Tableau" "corner" 1 m_Tableau_corner) (c_Tableau_free : MtK P w K mg base 1 "Tableau" "free" 1 m_Tableau_free) (c__law_agrees : Fn P w K mg base 4 "_law_agrees" 4 m__law_agrees) (c__law_any_point : Fn P w K mg base 2 "_law_any_point" 2 m__law_any_point) (c__law_program : Fn P w K mg base 3 "_law_program" 3 m__law_program) (c__law_tape : Fn P w K mg base 1 "_law_tape" 1 m__law_tape) (c__law_whole : Fn P w K mg base 1 "_law_whole" 1 m__law_whole) (mk_Tableau : MkK P w K mg base 2 "Tableau" 5 m_Tableau___init__) (z_len : mg "len" = none) (z_range : mg "range" = none) (z_tuple : mg "tuple" = none) : FnOk P w K mg base CX0 5 f fd ["script"] (spM K mg 1 m_law) := by
  unfold m_law
  exact fn_ok (k := 4) F sc_law fun cdv A outer s H E hr => 
    mss_cons (ms_set 1 sc_law.nd (me_call c__law_tape hr (ma_cons (me_var 0) (ma_nil))))
    (mss_cons (ms_set 2 sc_law.nd (me_call c__law_program hr (ma_cons (me_var 1) (ma_cons (me_int) (ma_cons (me_int) (ma_nil))))))
    (mss_cons (ms_set 3 sc_law.nd (me_callB call_lenA real_len z_len (by decide +kernel) (ma_cons (me_ix (me_var 2) (me_int)) (ma_nil))))
    (mss_cons (ms_set 4 sc_law.nd (me_callB call_lenA real_len z_len (by decide +kernel) (ma_cons (me_ix (me_var 2) (me_int)) (ma_nil))))
    (mss_cons (ms_setLc 5 [("x", 6)] rfl sc_law.nd (sw_true rfl rfl rfl rfl) (mi_seq (me_ix (me_var 2) (me_int))) (blkOk_by (N := ["script", "tape", "program", "many", "rows", "coefs", "x", "v", "c", "places", "corner", "j", "tableau", "other", "part", "k"]) (sc := defScope s_law) (own := [("x", 6)]) (by decide +kernel)) (fun _ _ _ _ _ => mgw_name 6 (by decide) sc_law.nd) (fun _ _ _ _ _ => mts_nil) (fun _ _ _ _ _ => me_int))
    (mss_cons (ms_for rfl (mi_seq (me_ix (me_var 2) (me_int))) (mg_tup 2 rfl (mgs_cons (mg_name 7 sc_law.nd) (mgs_cons (mg_name 8 sc_law.nd) (mgs_nil)))) (mss_one (ms_asg (me_var 8) (mg_sub (me_var 5) (me_var 7)))))
    (mss_cons (ms_set 9 sc_law.nd (me_lst (ma_nil)))
    (mss_cons (ms_set 10 sc_law.nd (me_lst (ma_nil)))
    (mss_cons (ms_for rfl (mi_range1 z_range (ma_cons (me_var 3) (ma_nil))) (mg_name 11 sc_law.nd) (mss_one (ms_if (mt_cmp op_lt real_cmp (me_ix (me_var 5) (me_var 11)) (me_int) (nomark _)) (mss_cons (ms_expr (me_append (me_var 9) (me_op op_addA real_add (me_op op_addA real_add (me_var 4) (me_op op_mulW real_mulW (me_int) (me_var 11))) (me_int))))
    (mss_one (ms_expr (me_append (me_var 10) (me_tup (ma_cons (me_ix (me_ix (me_var 2) (me_int)) (me_var 11)) (ma_cons (me_int) (ma_nil)))))))) (mss_cons (ms_expr (me_append (me_var 9) (me_op op_addA real_add (me_var 4) (me_op op_mulW real_mulW (me_int) (me_var 11)))))
    (mss_one (ms_expr (me_append (me_var 10) (me_tup (ma_cons (me_ix (me_ix (me_var 2) (me_int)) (me_var 11)) (ma_cons (me_int) (ma_nil)))))))))))
    (mss_cons (ms_set 12 sc_law.nd (me_make mk_Tableau hr (ma_cons (me_ix (me_var 2) (me_int)) (ma_cons (me_ix (me_var 2) (me_int)) (ma_cons (me_ix (me_var 2) (me_int)) (ma_cons (me_ix (me_var 2) (me_int)) (ma_nil)))))))
    (mss_cons (ms_set 13 sc_law.nd (me_make mk_Tableau hr (ma_cons (me_ix (me_var 2) (me_int)) (ma_cons (me_ix (me_var 2) (me_int)) (ma_cons (me_tup (ma_nil)) (ma_cons (me_tup (ma_cons (me_tup (ma_cons (me_int) (ma_cons (me_int) (ma_nil)))) (ma_nil))) (ma_nil)))))))
    (mss_cons (ms_if (MW.mt (mw_or (mt_cmp (op_neA hr.units) real_ne (me_meth0 c_Tableau_free hr (me_var 12)) (me_callTy call_tuple_of real_tuple z_tuple (by decide +kernel) (ma_cons (me_var 9) (ma_nil))) (nomark _)) (mw_one_or (mt_cmp (op_neA hr.units) real_ne (me_meth0 c_Tableau_corner hr (me_var 12)) (me_callTy call_tuple_of real_tuple z_tuple (by decide +kernel) (ma_cons (me_var 10) (ma_nil))) (nomark _))))) (mss_one (ms_ret (me_bl))) (mss_nil))
    (mss_cons (ms_for rfl (mi_seq (me_meth0 c_Tableau_corner hr (me_var 12))) (mg_name 14 sc_law.nd) (mss_one (ms_if (MW.mt (mw_or (mt_not (mt_truth (me_call c__law_whole hr (ma_cons (me_ix (me_var 14) (me_int)) (ma_nil))))) (mw_one_or (mt_not (mt_truth (me_call c__law_whole hr (ma_cons (me_ix (me_var 14) (me_int)) (ma_nil)))))))) (mss_one (ms_ret (me_bl))) (mss_nil))))
    (mss_cons (ms_for rfl (mi_range1 z_range (ma_cons (me_int) (ma_nil))) (mg_name 15 sc_law.nd) (mss_one (ms_if (mt_not (mt_truth (me_call c__law_agrees hr (ma_cons (me_var 12) (ma_cons (me_var 2) (ma_cons (me_var 9) (ma_cons (me_call c__law_any_point hr (ma_cons (me_var 1) (ma_cons (me_var 2) (ma_nil)))) (ma_nil)))))))) (mss_one (ms_ret (me_bl))) (mss_nil))))
    (mss_one (ms_ret (me_cmp (op_eqA hr.units) real_eq (me_callB call_lenA real_len z_len (by decide +kernel) (ma_cons (me_meth0 c_Tableau_free hr (me_var 13)) (ma_nil))) (me_var 3) (nomark _)))))))))))))))))
end
theorem all_mk (hlaw : ∀ ns : List Int, ns.length ≤ 63 → ∃ st, m_law [.scr ns] [.tab, .tab] = .ok (.bl true) st) {l : PySem.W.OpenLaw} {w : World} {K : PySem.W.Frag} {h : Heap} {mg : Str → Option Value} {fa : Addr} (X : K.In h) (G : h.Ns mainGlobals mg) (hfa : mg "law" = some (.ref fa)) (own : ∀ (x : Str) (f : Addr), x ∈ (["lowest"] : List Str) → mg x = some (.ref f) → LamX.OwnTab K f h)
    {CL0 : Addr}
    {f0 : Addr} {od0 an0 : Option Addr} {sl0 : Array (Option Value)} {oc0 kV0 dc0 pm0 ct0 : Value} {cd0 : Value}
    {f1 : Addr} {od1 an1 : Option Addr} {sl1 : Array (Option Value)} {oc1 kV1 dc1 pm1 ct1 : Value} {cd1 : Value}
    {f2 : Addr} {od2 an2 : Option Addr} {sl2 : Array (Option Value)} {oc2 kV2 dc2 pm2 ct2 : Value} {cc2 pt2 : Addr} {qc2 : Value} {qd2 : Option Addr} {qv2 : Array Value} {qs2 : Array (Option Value)}
    {f3 : Addr} {od3 an3 : Option Addr} {sl3 : Array (Option Value)} {oc3 kV3 dc3 pm3 ct3 : Value} {cd3 : Value}
    {f4 : Addr} {od4 an4 : Option Addr} {sl4 : Array (Option Value)} {oc4 kV4 dc4 pm4 ct4 : Value} {cd4 : Value}
    {f5 : Addr} {od5 an5 : Option Addr} {sl5 : Array (Option Value)} {oc5 kV5 dc5 pm5 ct5 : Value} {cd5 : Value}
    {f6 : Addr} {od6 an6 : Option Addr} {sl6 : Array (Option Value)} {oc6 kV6 dc6 pm6 ct6 : Value} {cd6 : Value}
    {f7 : Addr} {od7 an7 : Option Addr} {sl7 : Array (Option Value)} {oc7 kV7 dc7 pm7 ct7 : Value} {cd7 : Value}
    {f8 : Addr} {od8 an8 : Option Addr} {sl8 : Array (Option Value)} {oc8 kV8 dc8 pm8 ct8 : Value} {cd8 : Value}
    {f9 : Addr} {od9 an9 : Option Addr} {sl9 : Array (Option Value)} {oc9 kV9 dc9 pm9 ct9 : Value} {cd9 : Value}
    {f10 : Addr} {od10 an10 : Option Addr} {sl10 : Array (Option Value)} {oc10 kV10 dc10 pm10 ct10 : Value} {cc10 pt10 : Addr} {qc10 : Value} {qd10 : Option Addr} {qv10 : Array Value} {qs10 : Array (Option Value)}
    {f11 : Addr} {od11 an11 : Option Addr} {sl11 : Array (Option Value)} {oc11 kV11 dc11 pm11 ct11 : Value} {cd11 : Value}
    {f12 : Addr} {od12 an12 : Option Addr} {sl12 : Array (Option Value)} {oc12 kV12 dc12 pm12 ct12 : Value} {cd12 : Value}
    {f13 : Addr} {od13 an13 : Option Addr} {sl13 : Array (Option Value)} {oc13 kV13 dc13 pm13 ct13 : Value} {cd13 : Value}
    {f14 : Addr} {od14 an14 : Option Addr} {sl14 : Array (Option Value)} {oc14 kV14 dc14 pm14 ct14 : Value} {cd14 : Value}
    {f15 : Addr} {od15 an15 : Option Addr} {sl15 : Array (Option Value)} {oc15 kV15 dc15 pm15 ct15 : Value} {cd15 : Value}
    {f16 : Addr} {od16 an16 : Option Addr} {sl16 : Array (Option Value)} {oc16 kV16 dc16 pm16 ct16 : Value} {cd16 : Value}
    {f17 : Addr} {od17 an17 : Option Addr} {sl17 : Array (Option Value)} {oc17 kV17 dc17 pm17 ct17 : Value} {cd17 : Value}
    {f18 : Addr} {od18 an18 : Option Addr} {sl18 : Array (Option Value)} {oc18 kV18 dc18 pm18 ct18 : Value} {cd18 : Value}
    {f19 : Addr} {od19 an19 : Option Addr} {sl19 : Array (Option Value)} {oc19 kV19 dc19 pm19 ct19 : Value} {cd19 : Value}
    {f20 : Addr} {od20 an20 : Option Addr} {sl20 : Array (Option Value)} {oc20 kV20 dc20 pm20 ct20 : Value} {cd20 : Value}
    {f21 : Addr} {od21 an21 : Option Addr} {sl21 : Array (Option Value)} {oc21 kV21 dc21 pm21 ct21 : Value} {cd21 : Value}
    {f22 : Addr} {od22 an22 : Option Addr} {sl22 : Array (Option Value)} {oc22 kV22 dc22 pm22 ct22 : Value} {cd22 : Value}
    {f23 : Addr} {od23 an23 : Option Addr} {sl23 : Array (Option Value)} {oc23 kV23 dc23 pm23 ct23 : Value} {cd23 : Value}
    {f24 : Addr} {od24 an24 : Option Addr} {sl24 : Array (Option Value)} {oc24 kV24 dc24 pm24 ct24 : Value} {cd24 : Value}
    {f25 : Addr} {od25 an25 : Option Addr} {sl25 : Array (Option Value)} {oc25 kV25 dc25 pm25 ct25 : Value} {cd25 : Value}
    {f26 : Addr} {od26 an26 : Option Addr} {sl26 : Array (Option Value)} {oc26 kV26 dc26 pm26 ct26 : Value} {cd26 : Value}
    {f27 : Addr} {od27 an27 : Option Addr} {sl27 : Array (Option Value)} {oc27 kV27 dc27 pm27 ct27 : Value} {cd27 : Value}
    (xC0 : PySem.W.nsIn K mainGlobals "Tableau" = some (some (.ref CL0))) (xp0 : PySem.W.plainGet K CL0 Str.empty = true) (xh0 : PySem.W.hasDictIn K CL0 = true) (xo0 : PySem.W.plainOver K CL0 = true) (xs0 : PySem.W.findIn K (.ref CL0) "__setattr__" = some (some (.builtin "object.__setattr__"))) (xm0 : PySem.W.makesIn K CL0 = true) (xk0 : PySem.W.keepIn K (.ref CL0) = true)
    (xf_Tableau_aim_terms : PySem.W.findIn K (.ref CL0) "aim_terms" = some none)
    (xf_Tableau_coefs : PySem.W.findIn K (.ref CL0) "coefs" = some none)
    (xf_Tableau_constants : PySem.W.findIn K (.ref CL0) "constants" = some none)
    (xf_Tableau_highs : PySem.W.findIn K (.ref CL0) "highs" = some none)
    (xf_Tableau_lows : PySem.W.findIn K (.ref CL0) "lows" = some none)
    (xf_Tableau_places : PySem.W.findIn K (.ref CL0) "places" = some none)
    (xf_Tableau_rows : PySem.W.findIn K (.ref CL0) "rows" = some none)
    (xf_Tableau_scale : PySem.W.findIn K (.ref CL0) "scale" = some none)
    (a0 : PySem.W.nsIn K mainGlobals "inequality_of" = some (some (.ref f0))) (l0 : K.lookup f0 = some ⟨oc0, od0, .func (PySem.W.fnOf "inequality_of" "inequality_of" (defArgs s_inequality_of) (defBody s_inequality_of) (defScope s_inequality_of) .none kV0 dc0 pm0 an0 cd0 ct0), sl0⟩) (c0 : PySem.W.codeIn K cd0 "inequality_of" = true) (k0 : PySem.W.keepIn K (.ref f0) = true)
    (a1 : PySem.W.nsIn K mainGlobals "ratio" = some (some (.ref f1))) (l1 : K.lookup f1 = some ⟨oc1, od1, .func (PySem.W.fnOf "ratio" "ratio" (defArgs s_ratio) (defBody s_ratio) (defScope s_ratio) .none kV1 dc1 pm1 an1 cd1 ct1), sl1⟩) (c1 : PySem.W.codeIn K cd1 "ratio" = true) (k1 : PySem.W.keepIn K (.ref f1) = true)
    (a2 : PySem.W.nsIn K mainGlobals "lowest" = some (some (.ref f2))) (l2 : K.lookup f2 = some ⟨oc2, od2, .func (PySem.W.fnOf "lowest" "lowest" (defArgs s_lowest) (defBody s_lowest) (defScope s_lowest) .none kV2 dc2 pm2 an2 (.ref cc2) ct2), sl2⟩) (c2 : PySem.W.codeIn K (.ref cc2) "lowest" = true) (k2 : PySem.W.keepIn K (.ref f2) = true)
    (q2 : K.lookup cc2 = some ⟨qc2, qd2, .fields qv2, qs2⟩) (p2 : qv2[11]? = some (.ref pt2)) (h2 : PySem.W.codeHdIn K cc2 pt2 = true) (n2 : K.lookup pt2 = none)
    (a3 : PySem.W.findIn K (.ref CL0) "begin" = some (some (.ref f3))) (i3 : PySem.W.isFn K (.ref f3) = true) (l3 : K.lookup f3 = some ⟨oc3, od3, .func (PySem.W.fnOf "begin" "Tableau.begin" (defArgs s_Tableau_begin) (defBody s_Tableau_begin) (defScope s_Tableau_begin) .none kV3 dc3 pm3 an3 cd3 ct3), sl3⟩) (c3 : PySem.W.codeIn K cd3 "Tableau.begin" = true) (k3 : PySem.W.keepIn K (.ref f3) = true)
    (a4 : PySem.W.findIn K (.ref CL0) "free" = some (some (.ref f4))) (i4 : PySem.W.isFn K (.ref f4) = true) (l4 : K.lookup f4 = some ⟨oc4, od4, .func (PySem.W.fnOf "free" "Tableau.free" (defArgs s_Tableau_free) (defBody s_Tableau_free) (defScope s_Tableau_free) .none kV4 dc4 pm4 an4 cd4 ct4), sl4⟩) (c4 : PySem.W.codeIn K cd4 "Tableau.free" = true) (k4 : PySem.W.keepIn K (.ref f4) = true)
    (a5 : PySem.W.findIn K (.ref CL0) "summed" = some (some (.ref f5))) (i5 : PySem.W.isFn K (.ref f5) = true) (l5 : K.lookup f5 = some ⟨oc5, od5, .func (PySem.W.fnOf "summed" "Tableau.summed" (defArgs s_Tableau_summed) (defBody s_Tableau_summed) (defScope s_Tableau_summed) .none kV5 dc5 pm5 an5 cd5 ct5), sl5⟩) (c5 : PySem.W.codeIn K cd5 "Tableau.summed" = true) (k5 : PySem.W.keepIn K (.ref f5) = true)
    (a6 : PySem.W.findIn K (.ref CL0) "slack" = some (some (.ref f6))) (i6 : PySem.W.isFn K (.ref f6) = true) (l6 : K.lookup f6 = some ⟨oc6, od6, .func (PySem.W.fnOf "slack" "Tableau.slack" (defArgs s_Tableau_slack) (defBody s_Tableau_slack) (defScope s_Tableau_slack) .none kV6 dc6 pm6 an6 cd6 ct6), sl6⟩) (c6 : PySem.W.codeIn K cd6 "Tableau.slack" = true) (k6 : PySem.W.keepIn K (.ref f6) = true)
    (a7 : PySem.W.findIn K (.ref CL0) "aim_equation" = some (some (.ref f7))) (i7 : PySem.W.isFn K (.ref f7) = true) (l7 : K.lookup f7 = some ⟨oc7, od7, .func (PySem.W.fnOf "aim_equation" "Tableau.aim_equation" (defArgs s_Tableau_aim_equation) (defBody s_Tableau_aim_equation) (defScope s_Tableau_aim_equation) .none kV7 dc7 pm7 an7 cd7 ct7), sl7⟩) (c7 : PySem.W.codeIn K cd7 "Tableau.aim_equation" = true) (k7 : PySem.W.keepIn K (.ref f7) = true)
    (a8 : PySem.W.findIn K (.ref CL0) "column_equation" = some (some (.ref f8))) (i8 : PySem.W.isFn K (.ref f8) = true) (l8 : K.lookup f8 = some ⟨oc8, od8, .func (PySem.W.fnOf "column_equation" "Tableau.column_equation" (defArgs s_Tableau_column_equation) (defBody s_Tableau_column_equation) (defScope s_Tableau_column_equation) .none kV8 dc8 pm8 an8 cd8 ct8), sl8⟩) (c8 : PySem.W.codeIn K cd8 "Tableau.column_equation" = true) (k8 : PySem.W.keepIn K (.ref f8) = true)
    (a9 : PySem.W.findIn K (.ref CL0) "slack_equation" = some (some (.ref f9))) (i9 : PySem.W.isFn K (.ref f9) = true) (l9 : K.lookup f9 = some ⟨oc9, od9, .func (PySem.W.fnOf "slack_equation" "Tableau.slack_equation" (defArgs s_Tableau_slack_equation) (defBody s_Tableau_slack_equation) (defScope s_Tableau_slack_equation) .none kV9 dc9 pm9 an9 cd9 ct9), sl9⟩) (c9 : PySem.W.codeIn K cd9 "Tableau.slack_equation" = true) (k9 : PySem.W.keepIn K (.ref f9) = true)
    (a10 : PySem.W.findIn K (.ref CL0) "corner" = some (some (.ref f10))) (i10 : PySem.W.isFn K (.ref f10) = true) (l10 : K.lookup f10 = some ⟨oc10, od10, .func (PySem.W.fnOf "corner" "Tableau.corner" (defArgs s_Tableau_corner) (defBody s_Tableau_corner) (defScope s_Tableau_corner) .none kV10 dc10 pm10 an10 (.ref cc10) ct10), sl10⟩) (c10 : PySem.W.codeIn K (.ref cc10) "Tableau.corner" = true) (k10 : PySem.W.keepIn K (.ref f10) = true)
    (q10 : K.lookup cc10 = some ⟨qc10, qd10, .fields qv10, qs10⟩) (p10 : qv10[11]? = some (.ref pt10)) (h10 : PySem.W.codeHdIn K cc10 pt10 = true) (n10 : K.lookup pt10 = none) (o10 : h.get? pt10 = some { cls := .none, data := .fields #[] })
    (a11 : PySem.W.nsIn K mainGlobals "_law_draw" = some (some (.ref f11))) (l11 : K.lookup f11 = some ⟨oc11, od11, .func (PySem.W.fnOf "_law_draw" "_law_draw" (defArgs s__law_draw) (defBody s__law_draw) (defScope s__law_draw) .none kV11 dc11 pm11 an11 cd11 ct11), sl11⟩) (c11 : PySem.W.codeIn K cd11 "_law_draw" = true) (k11 : PySem.W.keepIn K (.ref f11) = true)
    (a12 : PySem.W.nsIn K mainGlobals "_law_tape" = some (some (.ref f12))) (l12 : K.lookup f12 = some ⟨oc12, od12, .func (PySem.W.fnOf "_law_tape" "_law_tape" (defArgs s__law_tape) (defBody s__law_tape) (defScope s__law_tape) .none kV12 dc12 pm12 an12 cd12 ct12), sl12⟩) (c12 : PySem.W.codeIn K cd12 "_law_tape" = true) (k12 : PySem.W.keepIn K (.ref f12) = true)
    (a13 : PySem.W.nsIn K mainGlobals "_law_whole" = some (some (.ref f13))) (l13 : K.lookup f13 = some ⟨oc13, od13, .func (PySem.W.fnOf "_law_whole" "_law_whole" (defArgs s__law_whole) (defBody s__law_whole) (defScope s__law_whole) .none kV13 dc13 pm13 an13 cd13 ct13), sl13⟩) (c13 : PySem.W.codeIn K cd13 "_law_whole" = true) (k13 : PySem.W.keepIn K (.ref f13) = true)
    (a14 : PySem.W.nsIn K mainGlobals "_law_common" = some (some (.ref f14))) (l14 : K.lookup f14 = some ⟨oc14, od14, .func (PySem.W.fnOf "_law_common" "_law_common" (defArgs s__law_common) (defBody s__law_common) (defScope s__law_common) .none kV14 dc14 pm14 an14 cd14 ct14), sl14⟩) (c14 : PySem.W.codeIn K cd14 "_law_common" = true) (k14 : PySem.W.keepIn K (.ref f14) = true)
    (a15 : PySem.W.nsIn K mainGlobals "_law_terms" = some (some (.ref f15))) (l15 : K.lookup f15 = some ⟨oc15, od15, .func (PySem.W.fnOf "_law_terms" "_law_terms" (defArgs s__law_terms) (defBody s__law_terms) (defScope s__law_terms) .none kV15 dc15 pm15 an15 cd15 ct15), sl15⟩) (c15 : PySem.W.codeIn K cd15 "_law_terms" = true) (k15 : PySem.W.keepIn K (.ref f15) = true)
    (a16 : PySem.W.nsIn K mainGlobals "_law_rhs" = some (some (.ref f16))) (l16 : K.lookup f16 = some ⟨oc16, od16, .func (PySem.W.fnOf "_law_rhs" "_law_rhs" (defArgs s__law_rhs) (defBody s__law_rhs) (defScope s__law_rhs) .none kV16 dc16 pm16 an16 cd16 ct16), sl16⟩) (c16 : PySem.W.codeIn K cd16 "_law_rhs" = true) (k16 : PySem.W.keepIn K (.ref f16) = true)
    (a17 : PySem.W.nsIn K mainGlobals "_law_program" = some (some (.ref f17))) (l17 : K.lookup f17 = some ⟨oc17, od17, .func (PySem.W.fnOf "_law_program" "_law_program" (defArgs s__law_program) (defBody s__law_program) (defScope s__law_program) .none kV17 dc17 pm17 an17 cd17 ct17), sl17⟩) (c17 : PySem.W.codeIn K cd17 "_law_program" = true) (k17 : PySem.W.keepIn K (.ref f17) = true)
    (a18 : PySem.W.nsIn K mainGlobals "_law_inequality" = some (some (.ref f18))) (l18 : K.lookup f18 = some ⟨oc18, od18, .func (PySem.W.fnOf "_law_inequality" "_law_inequality" (defArgs s__law_inequality) (defBody s__law_inequality) (defScope s__law_inequality) .none kV18 dc18 pm18 an18 cd18 ct18), sl18⟩) (c18 : PySem.W.codeIn K cd18 "_law_inequality" = true) (k18 : PySem.W.keepIn K (.ref f18) = true)
    (a19 : PySem.W.nsIn K mainGlobals "_law_count" = some (some (.ref f19))) (l19 : K.lookup f19 = some ⟨oc19, od19, .func (PySem.W.fnOf "_law_count" "_law_count" (defArgs s__law_count) (defBody s__law_count) (defScope s__law_count) .none kV19 dc19 pm19 an19 cd19 ct19), sl19⟩) (c19 : PySem.W.codeIn K cd19 "_law_count" = true) (k19 : PySem.W.keepIn K (.ref f19) = true)
    (a20 : PySem.W.nsIn K mainGlobals "_law_sum" = some (some (.ref f20))) (l20 : K.lookup f20 = some ⟨oc20, od20, .func (PySem.W.fnOf "_law_sum" "_law_sum" (defArgs s__law_sum) (defBody s__law_sum) (defScope s__law_sum) .none kV20 dc20 pm20 an20 cd20 ct20), sl20⟩) (c20 : PySem.W.codeIn K cd20 "_law_sum" = true) (k20 : PySem.W.keepIn K (.ref f20) = true)
    (a21 : PySem.W.nsIn K mainGlobals "_law_slack" = some (some (.ref f21))) (l21 : K.lookup f21 = some ⟨oc21, od21, .func (PySem.W.fnOf "_law_slack" "_law_slack" (defArgs s__law_slack) (defBody s__law_slack) (defScope s__law_slack) .none kV21 dc21 pm21 an21 cd21 ct21), sl21⟩) (c21 : PySem.W.codeIn K cd21 "_law_slack" = true) (k21 : PySem.W.keepIn K (.ref f21) = true)
    (a22 : PySem.W.nsIn K mainGlobals "_law_equation" = some (some (.ref f22))) (l22 : K.lookup f22 = some ⟨oc22, od22, .func (PySem.W.fnOf "_law_equation" "_law_equation" (defArgs s__law_equation) (defBody s__law_equation) (defScope s__law_equation) .none kV22 dc22 pm22 an22 cd22 ct22), sl22⟩) (c22 : PySem.W.codeIn K cd22 "_law_equation" = true) (k22 : PySem.W.keepIn K (.ref f22) = true)
    (a23 : PySem.W.nsIn K mainGlobals "_law_says" = some (some (.ref f23))) (l23 : K.lookup f23 = some ⟨oc23, od23, .func (PySem.W.fnOf "_law_says" "_law_says" (defArgs s__law_says) (defBody s__law_says) (defScope s__law_says) .none kV23 dc23 pm23 an23 cd23 ct23), sl23⟩) (c23 : PySem.W.codeIn K cd23 "_law_says" = true) (k23 : PySem.W.keepIn K (.ref f23) = true)
    (a24 : PySem.W.nsIn K mainGlobals "_law_agrees" = some (some (.ref f24))) (l24 : K.lookup f24 = some ⟨oc24, od24, .func (PySem.W.fnOf "_law_agrees" "_law_agrees" (defArgs s__law_agrees) (defBody s__law_agrees) (defScope s__law_agrees) .none kV24 dc24 pm24 an24 cd24 ct24), sl24⟩) (c24 : PySem.W.codeIn K cd24 "_law_agrees" = true) (k24 : PySem.W.keepIn K (.ref f24) = true)
    (a25 : PySem.W.nsIn K mainGlobals "_law_any_point" = some (some (.ref f25))) (l25 : K.lookup f25 = some ⟨oc25, od25, .func (PySem.W.fnOf "_law_any_point" "_law_any_point" (defArgs s__law_any_point) (defBody s__law_any_point) (defScope s__law_any_point) .none kV25 dc25 pm25 an25 cd25 ct25), sl25⟩) (c25 : PySem.W.codeIn K cd25 "_law_any_point" = true) (k25 : PySem.W.keepIn K (.ref f25) = true)
    (a26 : PySem.W.findIn K (.ref CL0) "__init__" = some (some (.ref f26))) (i26 : PySem.W.isFn K (.ref f26) = true) (l26 : K.lookup f26 = some ⟨oc26, od26, .func (PySem.W.fnOf "__init__" "Tableau.__init__" (defArgs s_Tableau___init__) (defBody s_Tableau___init__) (defScope s_Tableau___init__) .none kV26 dc26 pm26 an26 cd26 ct26), sl26⟩) (c26 : PySem.W.codeIn K cd26 "Tableau.__init__" = true) (k26 : PySem.W.keepIn K (.ref f26) = true)
    (a27 : PySem.W.nsIn K mainGlobals "law" = some (some (.ref f27))) (l27 : K.lookup f27 = some ⟨oc27, od27, .func (PySem.W.fnOf "law" "law" (defArgs s_law) (defBody s_law) (defScope s_law) .none kV27 dc27 pm27 an27 cd27 ct27), sl27⟩) (c27 : PySem.W.codeIn K cd27 "law" = true) (k27 : PySem.W.keepIn K (.ref f27) = true)
    (z_abs : PySem.W.nsIn K mainGlobals "abs" = some none)
    (z_bool : PySem.W.nsIn K mainGlobals "bool" = some none)
    (z_divmod : PySem.W.nsIn K mainGlobals "divmod" = some none)
    (z_int : PySem.W.nsIn K mainGlobals "int" = some none)
    (z_isinstance : PySem.W.nsIn K mainGlobals "isinstance" = some none)
    (z_len : PySem.W.nsIn K mainGlobals "len" = some none)
    (z_list : PySem.W.nsIn K mainGlobals "list" = some none)
    (z_range : PySem.W.nsIn K mainGlobals "range" = some none)
    (z_tuple : PySem.W.nsIn K mainGlobals "tuple" = some none)
    (z_zip : PySem.W.nsIn K mainGlobals "zip" = some none)
    (b_gcd : PySem.W.nsIn K mainGlobals "gcd" = some (some (.builtin "math.gcd")))
    (nd : ([pt2, pt10] : List Addr).Nodup)
    : TabLaw l w K 5 "script" mg fa h := by
  have e := hfa.symm.trans (PySem.W.mg_of X G a27)
  cases e
  have F0 := fun_mk (st := s_inequality_of) l0 c0 k0
  have F1 := fun_mk (st := s_ratio) l1 c1 k1
  have F2 := funT_mk (st := s_lowest) l2 c2 k2 rfl
  have F3 := fun_mk (st := s_Tableau_begin) l3 c3 k3
  have F4 := fun_mk (st := s_Tableau_free) l4 c4 k4
  have F5 := fun_mk (st := s_Tableau_summed) l5 c5 k5
  have F6 := fun_mk (st := s_Tableau_slack) l6 c6 k6
  have F7 := fun_mk (st := s_Tableau_aim_equation) l7 c7 k7
  have F8 := fun_mk (st := s_Tableau_column_equation) l8 c8 k8
  have F9 := fun_mk (st := s_Tableau_slack_equation) l9 c9 k9
  have F10 := funT_mk (st := s_Tableau_corner) l10 c10 k10 rfl
  have F11 := fun_mk (st := s__law_draw) l11 c11 k11
  have F12 := fun_mk (st := s__law_tape) l12 c12 k12
  have F13 := fun_mk (st := s__law_whole) l13 c13 k13
  have F14 := fun_mk (st := s__law_common) l14 c14 k14
  have F15 := fun_mk (st := s__law_terms) l15 c15 k15
  have F16 := fun_mk (st := s__law_rhs) l16 c16 k16
  have F17 := fun_mk (st := s__law_program) l17 c17 k17
  have F18 := fun_mk (st := s__law_inequality) l18 c18 k18
  have F19 := fun_mk (st := s__law_count) l19 c19 k19
  have F20 := fun_mk (st := s__law_sum) l20 c20 k20
  have F21 := fun_mk (st := s__law_slack) l21 c21 k21
  have F22 := fun_mk (st := s__law_equation) l22 c22 k22
  have F23 := fun_mk (st := s__law_says) l23 c23 k23
  have F24 := fun_mk (st := s__law_agrees) l24 c24 k24
  have F25 := fun_mk (st := s__law_any_point) l25 c25 k25
  have F26 := fun_mk (st := s_Tableau___init__) l26 c26 k26
  have F27 := fun_mk (st := s_law) l27 c27 k27
  have O2 := own "lowest" f2 (by simp) (PySem.W.mg_of X G a2) _ _ _ _ _ _ _ _ l2 rfl rfl q2 p2
  have O10 := o10
  have Z_abs : mg "abs" = none := PySem.W.mg_none_of X G z_abs
  have Z_bool : mg "bool" = none := PySem.W.mg_none_of X G z_bool
  have Z_divmod : mg "divmod" = none := PySem.W.mg_none_of X G z_divmod
  have Z_int : mg "int" = none := PySem.W.mg_none_of X G z_int
  have Z_isinstance : mg "isinstance" = none := PySem.W.mg_none_of X G z_isinstance
  have Z_len : mg "len" = none := PySem.W.mg_none_of X G z_len
  have Z_list : mg "list" = none := PySem.W.mg_none_of X G z_list
  have Z_range : mg "range" = none := PySem.W.mg_none_of X G z_range
  have Z_tuple : mg "tuple" = none := PySem.W.mg_none_of X G z_tuple
  have Z_zip : mg "zip" = none := PySem.W.mg_none_of X G z_zip
  have B_gcd : mg "gcd" = some (.builtin "math.gcd") := PySem.W.mg_of X G b_gcd
  have XC0 : Cls K CL0 := ⟨xp0, xh0, xo0, xs0⟩
  have KF_Tableau_aim_terms : ClsK K mg "Tableau" "aim_terms" := ⟨CL0, PySem.W.mg_of X G xC0, XC0, xf_Tableau_aim_terms⟩
  have KF_Tableau_coefs : ClsK K mg "Tableau" "coefs" := ⟨CL0, PySem.W.mg_of X G xC0, XC0, xf_Tableau_coefs⟩
  have KF_Tableau_constants : ClsK K mg "Tableau" "constants" := ⟨CL0, PySem.W.mg_of X G xC0, XC0, xf_Tableau_constants⟩
  have KF_Tableau_highs : ClsK K mg "Tableau" "highs" := ⟨CL0, PySem.W.mg_of X G xC0, XC0, xf_Tableau_highs⟩
  have KF_Tableau_lows : ClsK K mg "Tableau" "lows" := ⟨CL0, PySem.W.mg_of X G xC0, XC0, xf_Tableau_lows⟩
  have KF_Tableau_places : ClsK K mg "Tableau" "places" := ⟨CL0, PySem.W.mg_of X G xC0, XC0, xf_Tableau_places⟩
  have KF_Tableau_rows : ClsK K mg "Tableau" "rows" := ⟨CL0, PySem.W.mg_of X G xC0, XC0, xf_Tableau_rows⟩
  have KF_Tableau_scale : ClsK K mg "Tableau" "scale" := ⟨CL0, PySem.W.mg_of X G xC0, XC0, xf_Tableau_scale⟩
  refine ⟨PySem.W.fnOf "law" "law" (defArgs s_law) (defBody s_law) (defScope s_law) .none kV27 dc27 pm27 an27 cd27 ct27, [(cc2, pt2), (cc10, pt10)], (List.forall_mem_cons.mpr ⟨O2, (List.forall_mem_cons.mpr ⟨O10, (fun _ h => nomatch h)⟩)⟩), (List.forall_mem_cons.mpr ⟨n2, (List.forall_mem_cons.mpr ⟨n10, (fun _ h => nomatch h)⟩)⟩), (List.forall_mem_cons.mpr ⟨PySem.W.codeHd_of_K X h2, (List.forall_mem_cons.mpr ⟨PySem.W.codeHd_of_K X h10, (fun _ h => nomatch h)⟩)⟩), nd, fun s v => .of_eq rfl, fun base _ _ TB => ?_⟩
  let I0 : TBs := ⟨[(cc2, pt2), (cc10, pt10)]⟩
  have T2 : TbAt mg base 0 cc2 pt2 := ⟨rfl, TB (cc2, pt2) (by simp)⟩
  have T10 : TbAt mg base 1 cc10 pt10 := ⟨rfl, TB (cc10, pt10) (by simp)⟩
  have C_inequality_of : Fn l.prog w K mg base 1 "inequality_of" 4 m_inequality_of := ⟨_, _, ["lows", "highs", "rows", "q"], ok_inequality_of F0   Z_divmod Z_len, PySem.W.mg_of X G a0, F0.kp, F0.binds (ps := ["lows", "highs", "rows", "q"]) fun _ _ _ _ _ _ us hl => match us, hl with | [_, _, _, _], _ => rfl⟩
  have C_ratio : Fn l.prog w K mg base 1 "ratio" 2 m_ratio := ⟨_, _, ["top", "bottom"], ok_ratio F1   B_gcd, PySem.W.mg_of X G a1, F1.kp, F1.binds (ps := ["top", "bottom"]) fun _ _ _ _ _ _ us hl => match us, hl with | [_, _], _ => rfl⟩
  have C_lowest : Fn l.prog w K mg base 2 "lowest" 3 m_lowest := ⟨_, _, ["scale", "constant", "coefs"], ok_lowest F2 T2  Z_tuple B_gcd, PySem.W.mg_of X G a2, F2.fn.kp, F2.fn.binds (ps := ["scale", "constant", "coefs"]) fun _ _ _ _ _ _ us hl => match us, hl with | [_, _, _], _ => rfl⟩
  have C_Tableau_begin : MtK l.prog w K mg base 1 "Tableau" "begin" 3 m_Tableau_begin := ⟨CL0, _, _, ["self", "j", "at_low"], PySem.W.mg_of X G xC0, XC0, ⟨a3, i3, k3⟩, ok_Tableau_begin F3  KF_Tableau_coefs KF_Tableau_constants KF_Tableau_highs KF_Tableau_lows KF_Tableau_places KF_Tableau_rows Z_len, F3.binds (ps := ["self", "j", "at_low"]) fun _ _ _ _ _ _ us hl => match us, hl with | [_, _, _], _ => rfl⟩
  have C_Tableau_free : MtK l.prog w K mg base 1 "Tableau" "free" 1 m_Tableau_free := ⟨CL0, _, _, ["self"], PySem.W.mg_of X G xC0, XC0, ⟨a4, i4, k4⟩, ok_Tableau_free F4  KF_Tableau_places Z_tuple, F4.binds (ps := ["self"]) fun _ _ _ _ _ _ us hl => match us, hl with | [_], _ => rfl⟩
  have C_Tableau_summed : MtK l.prog w K mg base 1 "Tableau" "summed" 2 m_Tableau_summed := ⟨CL0, _, _, ["self", "terms"], PySem.W.mg_of X G xC0, XC0, ⟨a5, i5, k5⟩, ok_Tableau_summed F5  KF_Tableau_coefs KF_Tableau_constants KF_Tableau_places Z_len Z_zip, F5.binds (ps := ["self", "terms"]) fun _ _ _ _ _ _ us hl => match us, hl with | [_, _], _ => rfl⟩
  have C_Tableau_slack : MtK l.prog w K mg base 2 "Tableau" "slack" 2 m_Tableau_slack := ⟨CL0, _, _, ["self", "q"], PySem.W.mg_of X G xC0, XC0, ⟨a6, i6, k6⟩, ok_Tableau_slack F6  C_Tableau_summed C_inequality_of KF_Tableau_highs KF_Tableau_lows KF_Tableau_rows KF_Tableau_scale , F6.binds (ps := ["self", "q"]) fun _ _ _ _ _ _ us hl => match us, hl with | [_, _], _ => rfl⟩
  have C_Tableau_aim_equation : MtK l.prog w K mg base 3 "Tableau" "aim_equation" 1 m_Tableau_aim_equation := ⟨CL0, _, _, ["self"], PySem.W.mg_of X G xC0, XC0, ⟨a7, i7, k7⟩, ok_Tableau_aim_equation F7  C_Tableau_summed C_lowest KF_Tableau_aim_terms KF_Tableau_scale , F7.binds (ps := ["self"]) fun _ _ _ _ _ _ us hl => match us, hl with | [_], _ => rfl⟩
  have C_Tableau_column_equation : MtK l.prog w K mg base 3 "Tableau" "column_equation" 2 m_Tableau_column_equation := ⟨CL0, _, _, ["self", "j"], PySem.W.mg_of X G xC0, XC0, ⟨a8, i8, k8⟩, ok_Tableau_column_equation F8  C_lowest KF_Tableau_coefs KF_Tableau_constants KF_Tableau_scale , F8.binds (ps := ["self", "j"]) fun _ _ _ _ _ _ us hl => match us, hl with | [_, _], _ => rfl⟩
  have C_Tableau_slack_equation : MtK l.prog w K mg base 3 "Tableau" "slack_equation" 2 m_Tableau_slack_equation := ⟨CL0, _, _, ["self", "q"], PySem.W.mg_of X G xC0, XC0, ⟨a9, i9, k9⟩, ok_Tableau_slack_equation F9  C_Tableau_slack C_lowest KF_Tableau_scale , F9.binds (ps := ["self", "q"]) fun _ _ _ _ _ _ us hl => match us, hl with | [_, _], _ => rfl⟩
  have C_Tableau_corner : MtK l.prog w K mg base 3 "Tableau" "corner" 1 m_Tableau_corner := ⟨CL0, _, _, ["self"], PySem.W.mg_of X G xC0, XC0, ⟨a10, i10, k10⟩, ok_Tableau_corner F10 T10 C_ratio KF_Tableau_constants KF_Tableau_scale Z_tuple, F10.fn.binds (ps := ["self"]) fun _ _ _ _ _ _ us hl => match us, hl with | [_], _ => rfl⟩
  have C__law_draw : Fn l.prog w K mg base 1 "_law_draw" 2 m__law_draw := ⟨_, _, ["tape", "many"], ok__law_draw F11   Z_int Z_len, PySem.W.mg_of X G a11, F11.kp, F11.binds (ps := ["tape", "many"]) fun _ _ _ _ _ _ us hl => match us, hl with | [_, _], _ => rfl⟩
  have C__law_tape : Fn l.prog w K mg base 1 "_law_tape" 1 m__law_tape := ⟨_, _, ["script"], ok__law_tape F12   Z_list, PySem.W.mg_of X G a12, F12.kp, F12.binds (ps := ["script"]) fun _ _ _ _ _ _ us hl => match us, hl with | [_], _ => rfl⟩
  have C__law_whole : Fn l.prog w K mg base 1 "_law_whole" 1 m__law_whole := ⟨_, _, ["x"], ok__law_whole F13   Z_bool Z_int Z_isinstance, PySem.W.mg_of X G a13, F13.kp, F13.binds (ps := ["x"]) fun _ _ _ _ _ _ us hl => match us, hl with | [_], _ => rfl⟩
  have C__law_common : Fn l.prog w K mg base 1 "_law_common" 2 m__law_common := ⟨_, _, ["a", "b"], ok__law_common F14   Z_abs Z_int Z_range, PySem.W.mg_of X G a14, F14.kp, F14.binds (ps := ["a", "b"]) fun _ _ _ _ _ _ us hl => match us, hl with | [_, _], _ => rfl⟩
  have C__law_terms : Fn l.prog w K mg base 2 "_law_terms" 2 m__law_terms := ⟨_, _, ["tape", "many"], ok__law_terms F15  C__law_draw Z_range Z_tuple, PySem.W.mg_of X G a15, F15.kp, F15.binds (ps := ["tape", "many"]) fun _ _ _ _ _ _ us hl => match us, hl with | [_, _], _ => rfl⟩
  have C__law_rhs : Fn l.prog w K mg base 2 "_law_rhs" 4 m__law_rhs := ⟨_, _, ["tape", "terms", "base", "large"], ok__law_rhs F16  C__law_draw , PySem.W.mg_of X G a16, F16.kp, F16.binds (ps := ["tape", "terms", "base", "large"]) fun _ _ _ _ _ _ us hl => match us, hl with | [_, _, _, _], _ => rfl⟩
  have C__law_program : Fn l.prog w K mg base 3 "_law_program" 3 m__law_program := ⟨_, _, ["tape", "most", "rows"], ok__law_program F17  C__law_draw C__law_rhs C__law_terms Z_range Z_tuple, PySem.W.mg_of X G a17, F17.kp, F17.binds (ps := ["tape", "most", "rows"]) fun _ _ _ _ _ _ us hl => match us, hl with | [_, _, _], _ => rfl⟩
  have C__law_inequality : Fn l.prog w K mg base 1 "_law_inequality" 2 m__law_inequality := ⟨_, _, ["program", "q"], ok__law_inequality F18   Z_int Z_len, PySem.W.mg_of X G a18, F18.kp, F18.binds (ps := ["program", "q"]) fun _ _ _ _ _ _ us hl => match us, hl with | [_, _], _ => rfl⟩
  have C__law_count : Fn l.prog w K mg base 1 "_law_count" 1 m__law_count := ⟨_, _, ["program"], ok__law_count F19   Z_len, PySem.W.mg_of X G a19, F19.kp, F19.binds (ps := ["program"]) fun _ _ _ _ _ _ us hl => match us, hl with | [_], _ => rfl⟩
  have C__law_sum : Fn l.prog w K mg base 1 "_law_sum" 2 m__law_sum := ⟨_, _, ["terms", "point"], ok__law_sum F20   , PySem.W.mg_of X G a20, F20.kp, F20.binds (ps := ["terms", "point"]) fun _ _ _ _ _ _ us hl => match us, hl with | [_, _], _ => rfl⟩
  have C__law_slack : Fn l.prog w K mg base 2 "_law_slack" 3 m__law_slack := ⟨_, _, ["program", "q", "point"], ok__law_slack F21  C__law_inequality C__law_sum , PySem.W.mg_of X G a21, F21.kp, F21.binds (ps := ["program", "q", "point"]) fun _ _ _ _ _ _ us hl => match us, hl with | [_, _, _], _ => rfl⟩
  have C__law_equation : Fn l.prog w K mg base 2 "_law_equation" 2 m__law_equation := ⟨_, _, ["told", "many"], ok__law_equation F22  C__law_common C__law_whole Z_isinstance Z_len Z_list Z_tuple, PySem.W.mg_of X G a22, F22.kp, F22.binds (ps := ["told", "many"]) fun _ _ _ _ _ _ us hl => match us, hl with | [_, _], _ => rfl⟩
  have C__law_says : Fn l.prog w K mg base 1 "_law_says" 3 m__law_says := ⟨_, _, ["told", "worth", "slacks"], ok__law_says F23   Z_len Z_range, PySem.W.mg_of X G a23, F23.kp, F23.binds (ps := ["told", "worth", "slacks"]) fun _ _ _ _ _ _ us hl => match us, hl with | [_, _, _], _ => rfl⟩
  have C__law_agrees : Fn l.prog w K mg base 4 "_law_agrees" 4 m__law_agrees := ⟨_, _, ["tableau", "program", "places", "point"], ok__law_agrees F24  C_Tableau_aim_equation C_Tableau_column_equation C_Tableau_free C_Tableau_slack_equation C__law_count C__law_equation C__law_says C__law_slack C__law_sum Z_len Z_range Z_tuple, PySem.W.mg_of X G a24, F24.kp, F24.binds (ps := ["tableau", "program", "places", "point"]) fun _ _ _ _ _ _ us hl => match us, hl with | [_, _, _, _], _ => rfl⟩
  have C__law_any_point : Fn l.prog w K mg base 2 "_law_any_point" 2 m__law_any_point := ⟨_, _, ["tape", "program"], ok__law_any_point F25  C__law_draw Z_len Z_range Z_tuple, PySem.W.mg_of X G a25, F25.kp, F25.binds (ps := ["tape", "program"]) fun _ _ _ _ _ _ us hl => match us, hl with | [_, _], _ => rfl⟩
  have MK_Tableau : MkK l.prog w K mg base 2 "Tableau" 5 m_Tableau___init__ := ⟨CL0, _, _, ["self", "lows", "highs", "rows", "aim"], PySem.W.mg_of X G xC0, ⟨xm0, a26, i26, xk0⟩, ok_Tableau___init__ F26  C_Tableau_begin KF_Tableau_aim_terms KF_Tableau_coefs KF_Tableau_constants KF_Tableau_highs KF_Tableau_lows KF_Tableau_places KF_Tableau_rows KF_Tableau_scale Z_len Z_range, F26.binds (ps := ["self", "lows", "highs", "rows", "aim"]) fun _ _ _ _ _ _ us hl => match us, hl with | [_, _, _, _, _], _ => rfl⟩
  exact law_end (law_ok (ok_law F27  C_Tableau_corner C_Tableau_free C__law_agrees C__law_any_point C__law_program C__law_tape C__law_whole MK_Tableau Z_len Z_range Z_tuple) hlaw) rfl
end T

open PySem PySem.Spec PyProof.Rows L2 MP
local macro_rules | `(tactic| walk_at "mp") => `(tactic| simp (config := {decide := true, contextual := false}) only [fld_def, fldK_ref, fldO_ins, getR_some, getA_cons, getA_nil, putA_cons, putA_nil, fldput_def, seq_fldput, putKO_ref, putO_ins, meth_def, methK_ref, methO_ins, make_def, madeK_non, dnew_def, dctAt_dct, dctR_dct, dctR_dctL, dget_str, dgetK_some, din_str, dinK_some, leS_ss, strK_str, fstr_def, dput_def, seq_dput, dputK_str, dputO_some, body_def, seq_asg, seq_if, seq_ret, seq_nil, seq_expr, seq_seq, seq_for, for_def, asg_def, if_def, ret_def, retN_def, expr_def, nil_def, bindR_ok, bindR_bad, bindR_exc, bindS_ok, bindS_bad, bindS_exc, contS_next, contS_ret, endB_ret, endB_next, endB_ite, var_zero, var_succ, c_def, bin_def, un_def, call_def, nilA_def, consA_def, def_def, tup_def, lst_def, asB_def', boolR_bl, asT_def', optR_some, notM_def, andM_def, orM_def, not_def', and_def', or_def', ifE_def, gN_def, gT_tup, gsNil_def, gsCons_def, gI_def', putD_ri, putL_lst, setAt_some, add_ii, sub_ii, mul_ii, div_ii, mod_ii, pow_ii, neg_i, cmp_ii, eq_ii, eq_ss, eq_bb, int_i, int_b, ix_ref', ix_tup', ixS_some, atR_some, lstOf_lst, len_ref', lenO_lst, lenT_, lstR_def, tupR_def, itT_, itS_, it_ref, at_zero, at_one, at_two, at_three, tru_non, tru_bl, tru_int, tru_tup, tru_ref', truO_lst, isi_bb, isi_ii, isi_ib, isi_tt, isi_ss, blR_some, loopK_next, loopK_ret, src_ref, srcO_lst, src_tup, fseq_def, List.map_cons, List.map_nil, List.length_cons, List.length_nil, List.length_append, List.cons_append, List.nil_append, List.append_assoc, List.replicate_zero, List.replicate_succ, List.set_cons_zero, List.set_cons_succ, List.getElem?_cons_zero, List.getElem?_cons_succ, Nat.reduceAdd, Nat.reduceSub, Nat.zero_add, Nat.sub_self, if_true, if_false, reduceIte, Bool.xor_false, Bool.xor_true, decide_eq_true_eq, lt_line, Nat.reduceLeDiff, Bool.false_eq_true, rg1_def, rg1_int, app_def, appD_ref, appL_lst, appE_ref, appP_lst, gen_def, tabR_tab, wipe_nil, wipe_cons, stepK_l, stepK_r, stepB_bl, yes_def, lc_def, grow_def, growO_lst, bindX_ok, List.set_nil, List.nil_append, mulW_ii, divA_ii, modN_ii, gcd_ii, isB_bb, abs_i, gU_def, unpE_some, slA_def, pSome_def, pI_int, pNone_def, slA_tup])
local macro_rules | `(tactic| walk_at "mpx") => `(tactic| simp (config := {decide := true, contextual := false}) only [*, fld_def, fldK_ref, fldO_ins, getR_some, getA_cons, getA_nil, putA_cons, putA_nil, fldput_def, seq_fldput, putKO_ref, putO_ins, meth_def, methK_ref, methO_ins, make_def, madeK_non, dnew_def, dctAt_dct, dctR_dct, dctR_dctL, dget_str, dgetK_some, din_str, dinK_some, leS_ss, strK_str, fstr_def, dput_def, seq_dput, dputK_str, dputO_some, body_def, seq_asg, seq_if, seq_ret, seq_nil, seq_expr, seq_seq, seq_for, for_def, asg_def, if_def, ret_def, retN_def, expr_def, nil_def, bindR_ok, bindR_bad, bindR_exc, bindS_ok, bindS_bad, bindS_exc, contS_next, contS_ret, endB_ret, endB_next, endB_ite, var_zero, var_succ, c_def, bin_def, un_def, call_def, nilA_def, consA_def, def_def, tup_def, lst_def, asB_def', boolR_bl, asT_def', optR_some, notM_def, andM_def, orM_def, not_def', and_def', or_def', ifE_def, gN_def, gT_tup, gsNil_def, gsCons_def, gI_def', putD_ri, putL_lst, setAt_some, add_ii, sub_ii, mul_ii, div_ii, mod_ii, pow_ii, neg_i, cmp_ii, eq_ii, eq_ss, eq_bb, int_i, int_b, ix_ref', ix_tup', ixS_some, atR_some, lstOf_lst, len_ref', lenO_lst, lenT_, lstR_def, tupR_def, itT_, itS_, it_ref, at_zero, at_one, at_two, at_three, tru_non, tru_bl, tru_int, tru_tup, tru_ref', truO_lst, isi_bb, isi_ii, isi_ib, isi_tt, isi_ss, blR_some, loopK_next, loopK_ret, src_ref, srcO_lst, src_tup, fseq_def, List.map_cons, List.map_nil, List.length_cons, List.length_nil, List.length_append, List.cons_append, List.nil_append, List.append_assoc, List.replicate_zero, List.replicate_succ, List.set_cons_zero, List.set_cons_succ, List.getElem?_cons_zero, List.getElem?_cons_succ, Nat.reduceAdd, Nat.reduceSub, Nat.zero_add, Nat.sub_self, if_true, if_false, reduceIte, Bool.xor_false, Bool.xor_true, decide_eq_true_eq, lt_line, Nat.reduceLeDiff, Bool.false_eq_true, rg1_def, rg1_int, app_def, appD_ref, appL_lst, appE_ref, appP_lst, gen_def, tabR_tab, wipe_nil, wipe_cons, stepK_l, stepK_r, stepB_bl, yes_def, lc_def, grow_def, growO_lst, bindX_ok, List.set_nil, List.nil_append, mulW_ii, divA_ii, modN_ii, gcd_ii, isB_bb, abs_i, gU_def, unpE_some, slA_def, pSome_def, pI_int, pNone_def, slA_tup])
local macro_rules | `(tactic| simp! only [$ts,*]) => `(tactic| simp (config := {decide := true, contextual := false}) only [fld_def, fldK_ref, fldO_ins, getR_some, getA_cons, getA_nil, putA_cons, putA_nil, fldput_def, seq_fldput, putKO_ref, putO_ins, meth_def, methK_ref, methO_ins, make_def, madeK_non, dnew_def, dctAt_dct, dctR_dct, dctR_dctL, dget_str, dgetK_some, din_str, dinK_some, leS_ss, strK_str, fstr_def, dput_def, seq_dput, dputK_str, dputO_some, body_def, seq_asg, seq_if, seq_ret, seq_nil, seq_expr, seq_seq, seq_for, for_def, asg_def, if_def, ret_def, retN_def, expr_def, nil_def, bindR_ok, bindR_bad, bindR_exc, bindS_ok, bindS_bad, bindS_exc, contS_next, contS_ret, endB_ret, endB_next, endB_ite, var_zero, var_succ, c_def, bin_def, un_def, call_def, nilA_def, consA_def, def_def, tup_def, lst_def, asB_def', boolR_bl, asT_def', optR_some, notM_def, andM_def, orM_def, not_def', and_def', or_def', ifE_def, gN_def, gT_tup, gsNil_def, gsCons_def, gI_def', putD_ri, putL_lst, setAt_some, add_ii, sub_ii, mul_ii, div_ii, mod_ii, pow_ii, neg_i, cmp_ii, eq_ii, eq_ss, eq_bb, int_i, int_b, ix_ref', ix_tup', ixS_some, atR_some, lstOf_lst, len_ref', lenO_lst, lenT_, lstR_def, tupR_def, itT_, itS_, it_ref, at_zero, at_one, at_two, at_three, tru_non, tru_bl, tru_int, tru_tup, tru_ref', truO_lst, isi_bb, isi_ii, isi_ib, isi_tt, isi_ss, blR_some, loopK_next, loopK_ret, src_ref, srcO_lst, src_tup, fseq_def, List.map_cons, List.map_nil, List.length_cons, List.length_nil, List.length_append, List.cons_append, List.nil_append, List.append_assoc, List.replicate_zero, List.replicate_succ, List.set_cons_zero, List.set_cons_succ, List.getElem?_cons_zero, List.getElem?_cons_succ, Nat.reduceAdd, Nat.reduceSub, Nat.zero_add, Nat.sub_self, if_true, if_false, reduceIte, Bool.xor_false, Bool.xor_true, decide_eq_true_eq, lt_line, Nat.reduceLeDiff, Bool.false_eq_true, rg1_def, rg1_int, app_def, appD_ref, appL_lst, appE_ref, appP_lst, gen_def, tabR_tab, wipe_nil, wipe_cons, stepK_l, stepK_r, stepB_bl, yes_def, lc_def, grow_def, growO_lst, bindX_ok, List.set_nil, List.nil_append, mulW_ii, divA_ii, modN_ii, gcd_ii, isB_bb, abs_i, gU_def, unpE_some, slA_def, pSome_def, pI_int, pNone_def, slA_tup, $ts,*])

namespace T
/-- the tape: a list of the script's ints (at c), a place, a rest -/
structure Tape (st : Store) (t c : Nat) (ns : List Int) : Prop where
  ex : ∃ k x : Int, st[t]? = some (.lst [.ref c, .int k, .int x]) ∧ 0 ≤ k ∧ 0 ≤ x
  cells : st[c]? = some (.lst (ns.map D.int))
theorem Tape.lt {st : Store} {t c : Nat} {ns : List Int} (h : Tape st t c ns) : t < st.length := by
  obtain ⟨⟨k, x, e, _⟩, _⟩ := h
  exact (List.getElem?_eq_some_iff.mp e).1
theorem Tape.app {st : Store} {t c : Nat} {ns : List Int} (h : Tape st t c ns) (l : Store) : Tape (st ++ l) t c ns := by
  obtain ⟨⟨k, x, e, h1, h2⟩, e2⟩ := h
  exact ⟨⟨k, x, by rw [List.getElem?_append_left (List.getElem?_eq_some_iff.mp e).1]; exact e, h1, h2⟩, by rw [List.getElem?_append_left (List.getElem?_eq_some_iff.mp e2).1]; exact e2⟩
theorem Tape.keep {st st' : Store} {t c : Nat} {ns : List Int} (h : Tape st t c ns) (k1 : st'[t]? = st[t]?) (k2 : st'[c]? = st[c]?) : Tape st' t c ns :=
  ⟨by rw [k1]; exact h.ex, by rw [k2]; exact h.cells⟩
def mixA (cell k : Int) : Int := (cell * 48271 + k * 69621 + 12345) % 2147483647
def mixB (cell k : Int) : Int := (cell * 16807 + k * 39373 + 6789) % 2147483629
theorem cmul_l {i j : Int} (h0 : -(2 ^ 64) < i) (h1 : i < 2 ^ 64) : CMul i j := .inl ⟨h0, h1⟩
theorem cmul_r {i j : Int} (h0 : -(2 ^ 64) < j) (h1 : j < 2 ^ 64) : CMul i j := .inr ⟨h0, h1⟩
theorem draw_ok {st : Store} {t c : Nat} {ns : List Int} {many : Int} (h : Tape st t c ns) (h0 : 0 < many) (h1 : many < 1073741824) :
    ∃ (d : Int) (o : O), m__law_draw [.ref t, .int many] st = .ok (.int d) (st.set t o) ∧ 0 ≤ d ∧ d < many ∧ Tape (st.set t o) t c ns := by
  obtain ⟨⟨k, x, et, hk, hx⟩, ec⟩ := h
  have hlt := (List.getElem?_eq_some_iff.mp et).1
  have hct : c ≠ t := fun e => by
    subst e
    rw [et] at ec
    have := Option.some.inj ec
    injection this with this
    cases ns with
    | nil => cases this
    | cons a l => injection this with q _; cases q
  have p9 : CPow 10 9 := by decide
  have e9 : (10 : Int) ^ Int.toNat 9 = 1000000000 := by decide
  have m2 : ∀ y : Int, CMul (-2) y := fun y => cmul_l (by decide) (by decide)
  have m3 : ∀ y : Int, CMul y 48271 := fun y => cmul_r (by decide) (by decide)
  have m4 : ∀ y : Int, CMul y 69621 := fun y => cmul_r (by decide) (by decide)
  have m5 : ∀ y : Int, CMul y 16807 := fun y => cmul_r (by decide) (by decide)
  have m6 : ∀ y : Int, CMul y 39373 := fun y => cmul_r (by decide) (by decide)
  have dv : ∀ y : Int, CDiv y many := fun y => ⟨h0, h1⟩
  have s1 : ∀ (o : O), (st.set t o)[t]? = some o := fun o => List.getElem?_set_self hlt
  have ss : ∀ (o o' : O), (st.set t o).set t o' = st.set t o' := fun o o' => List.set_set ..
  have i31 : ixN 3 1 = some 1 := rfl
  have i32 : ixN 3 2 = some 2 := rfl
  have fin : ∀ (k' x' : Int), 0 ≤ k' → 0 ≤ x' → Tape (st.set t (.lst [.ref c, .int k', .int x'])) t c ns := fun k' x' a b => ⟨⟨k', x', s1 _, a, b⟩, by rw [List.getElem?_set_ne (Ne.symm hct)]; exact ec⟩
  have end_ : ∀ (k' x' : Int), 0 ≤ k' → 0 ≤ x' → ∃ (d : Int) (o : O), Res.ok (D.int (x' % many)) (st.set t (.lst [.ref c, .int k', .int (x' / many)])) = .ok (.int d) (st.set t o) ∧ 0 ≤ d ∧ d < many ∧ Tape (st.set t o) t c ns := fun k' x' a b =>
    ⟨_, _, rfl, Int.emod_nonneg _ (by omega), Int.emod_lt_of_pos _ h0, fin _ _ a (Int.ediv_nonneg b (by omega))⟩
  have nn1 : ∀ a : Int, 0 ≤ a % 2147483629 := fun a => Int.emod_nonneg _ (by decide)
  have k1 : 0 ≤ k + 1 := by omega
  unfold m__law_draw
  by_cases hxm : x < many
  · by_cases hkl : k < (((ns.map D.int).length : Nat) : Int)
    · obtain ⟨v, hv⟩ : ∃ v : Int, atI (ns.map D.int) k = some (.int v) := by
        rw [at_in _ _ hk hkl, List.getElem?_map]
        have hl : k.toNat < ns.length := by rw [List.length_map] at hkl; omega
        exact ⟨ns[k.toNat], by rw [List.getElem?_eq_getElem hl]; rfl⟩
      by_cases hv0 : v < 0
      · have q1 : 0 ≤ -2 * v - 1 := by omega
        by_cases hv9 : -2 * v - 1 < 1000000000
        · walk_at "mpx"
        · walk_at "mpx"
      · have q1 : 0 ≤ v := by omega
        by_cases hv9 : v < 1000000000
        · walk_at "mpx"
        · walk_at "mpx"
    · walk_at "mpx"
  · walk_at "mpx"
theorem tape_ok (ns : List Int) (st : Store) : m__law_tape [.scr ns] st = .ok (.ref (st.length + 1)) (st ++ [.lst (ns.map D.int), .lst [.ref st.length, .int 0, .int 0]]) := by
  unfold m__law_tape
  walk_at "mp"
abbrev tP (p : Int × Int) : PyData := .tuple [.int p.1, .int p.2]
abbrev tD (p : Int × Int) : D := .tup [.int p.1, .int p.2]
theorem ofPs_terms : ∀ ts : List (Int × Int), ofPs (ts.map tP) = ts.map tD
  | [] => rfl
  | p :: ts => by
    show ofP (tP p) :: ofPs (ts.map tP) = tD p :: ts.map tD
    rw [ofPs_terms ts]
    rfl
theorem pln_terms : ∀ ts : List (Int × Int), plns (ts.map tP) = true
  | [] => rfl
  | p :: ts => by
    show (pln (tP p) && plns (ts.map tP)) = true
    rw [pln_terms ts]
    rfl
theorem dep_terms : ∀ ts : List (Int × Int), PyData.depthAll (ts.map tP) ≤ 1
  | [] => Nat.zero_le _
  | p :: ts => by
    show max (tP p).depth (PyData.depthAll (ts.map tP)) ≤ 1
    have := dep_terms ts
    have h : (tP p).depth = 1 := by simp [tP, PyData.depth, PyData.depthAll]
    omega
abbrev Rl (r : Str) : Prop := r = "<=" ∨ r = ">=" ∨ r = "=" ∨ r = "!="
theorem rel_at {d : Int} (h0 : 0 ≤ d) (h1 : d < 4) : ∃ r : Str, Rl r ∧ atI [D.str "<=", D.str ">=", D.str "=", D.str "!="] d = some (.str r) := by
  have : d = 0 ∨ d = 1 ∨ d = 2 ∨ d = 3 := by omega
  rcases this with rfl | rfl | rfl | rfl
  · exact ⟨_, .inl rfl, at_zero ..⟩
  · exact ⟨_, .inr (.inl rfl), at_one ..⟩
  · exact ⟨_, .inr (.inr (.inl rfl)), at_two ..⟩
  · exact ⟨_, .inr (.inr (.inr rfl)), at_three ..⟩
abbrev Lit := Int × Str × Int
abbrev lD (l : Lit) : D := .tup [.int l.1, .str l.2.1, .int l.2.2]
abbrev pD (ps : List Int) : D := .tup (ps.map D.int)
/-- many unknowns; numbers within bounds -/
structure LOk (many : Int) (l : Lit) : Prop where
  ix : 0 ≤ l.1 ∧ l.1 < many
  rl : Rl l.2.1
theorem set_last {α : Type} (l : List α) (x y : α) : (l ++ [x]).set l.length y = l ++ [y] := by
  rw [List.set_append_right _ _ (Nat.le_refl _), Nat.sub_self]
  rfl
theorem get_last {α : Type} (l : List α) (x : α) : (l ++ [x])[l.length]? = some x := by
  rw [List.getElem?_append_right (Nat.le_refl _), Nat.sub_self]
  rfl
abbrev NS := List Int × Store
def Fr (st st' : Store) : Prop := st.length ≤ st'.length ∧ ∀ k, k ≠ 3 → k < st.length → st'[k]? = st[k]?
theorem Fr.refl (st : Store) : Fr st st := ⟨Nat.le_refl _, fun _ _ _ => rfl⟩
theorem Fr.trans {a b c : Store} (h : Fr a b) (k : Fr b c) : Fr a c := ⟨Nat.le_trans h.1 k.1, fun j h4 hj => by rw [k.2 j h4 (Nat.lt_of_lt_of_le hj h.1), h.2 j h4 hj]⟩
theorem Fr.app (st l : Store) : Fr st (st ++ l) := ⟨by rw [List.length_append]; omega, fun k _ hk => List.getElem?_append_left hk⟩
theorem Fr.at {st st' : Store} (h : Fr st st') {k : Nat} {o : O} (h4 : k ≠ 3) (hk : st[k]? = some o) : st'[k]? = some o := by
  rw [h.2 k h4 (List.getElem?_eq_some_iff.mp hk).1]
  exact hk
/-- the tape, and all that stood when it began to be read -/
structure Gd (ns : NS) (st : Store) : Prop where
  tape : Tape st 3 2 ns.1
  fr : Fr ns.2 st
theorem Gd.lt2 {ns : NS} {st : Store} (h : Gd ns st) : 3 < st.length ∧ ns.2.length ≤ st.length := ⟨h.tape.lt, h.fr.1⟩
theorem Gd.app {ns : NS} {st : Store} (h : Gd ns st) (l : Store) : Gd ns (st ++ l) := ⟨h.tape.app l, h.fr.trans (.app st l)⟩
theorem gd_draw {ns : NS} {st : Store} {many : Int} (G : Gd ns st) (h0 : 0 < many) (h1 : many < 1073741824) :
    ∃ (d : Int) (st' : Store), m__law_draw [.ref 3, .int many] st = .ok (.int d) st' ∧ 0 ≤ d ∧ d < many ∧ Gd ns st' ∧ st'.length = st.length ∧ ∀ j, j ≠ 3 → st'[j]? = st[j]? := by
  obtain ⟨d, o, e, p, q, T⟩ := draw_ok G.tape h0 h1
  have k : ∀ j, j ≠ 3 → (st.set 3 o)[j]? = st[j]? := fun j hj => List.getElem?_set_ne (Ne.symm hj)
  exact ⟨d, st.set 3 o, e, p, q, ⟨T, G.fr.trans ⟨by rw [List.length_set]; exact Nat.le_refl _, fun j hj _ => k j hj⟩⟩, List.length_set, k⟩
theorem Gd.put {ns : NS} {st : Store} (G : Gd ns st) {id : Nat} (h : 4 ≤ id ∧ ns.2.length ≤ id) (o : O) : Gd ns (st.set id o) := by
  have k : ∀ j, j < 4 → (st.set id o)[j]? = st[j]? := fun j hj => List.getElem?_set_ne (by omega)
  refine ⟨G.tape.keep (k 3 (by decide)) (k 2 (by decide)), ⟨by rw [List.length_set]; exact G.fr.1, fun j hj hl => ?_⟩⟩
  rw [List.getElem?_set_ne (by omega), G.fr.2 j hj hl]
theorem fr_draw {ns : NS} {st : Store} {many : Int} (G : Gd ns st) (h0 : 0 < many) (h1 : many < 1073741824) :
    ∃ (d : Int) (st' : Store), m__law_draw [.ref 3, .int many] st = .ok (.int d) st' ∧ 0 ≤ d ∧ d < many ∧ Gd ns st' ∧ Fr st st' := by
  obtain ⟨d, st', e, p, q, G', l, k⟩ := gd_draw G h0 h1
  exact ⟨d, st', e, p, q, G', by rw [l]; exact Nat.le_refl _, fun j hj _ => k j hj⟩
theorem eq_b (neg a b : Bool) (st : Store) : gEq neg (.bl a) (.bl b) st = .ok (.bl (neg != (a == b))) st := by
  cases neg <;> cases a <;> cases b <;> rfl
noncomputable abbrev BT13 : MP.Env → Store → SR := (sSeq (sAsg (eBin gSub (eDef 2 m__law_draw (aCons (eVar 0) (aCons (eC (.int 7)) (aNil)))) (eC (.int 3))) (gN 4))
    (sIf (asB (eBin (gEq true) (eVar 4) (eC (.int 0)))) (sExpr (eApp (eVar 2) (eTup (aCons (eVar 3) (aCons (eVar 4) (aNil)))))) (sNil)))
def GT (many : Int) (k : Int) (ts : List (Int × Int)) : Prop := ∀ p ∈ ts, (0 ≤ p.1 ∧ p.1 < many) ∧ -k ≤ p.2 ∧ p.2 ≤ k ∧ p.2 ≠ 0
theorem terms_turn {ns : NS} {many : Int} {id : Nat} (h5 : (4 ≤ id ∧ ns.2.length ≤ id)) (ds : List D) : ∀ (n : Nat) (i : Int) (ts : List (Int × Int)) (c v : Option D) (st : Store), 0 ≤ i → i + n ≤ many → ts.length + n ≤ 100 → Gd ns st → st[id]? = some (.lst (ts.map tD)) → GT many 3 ts →
    ∃ (ts' : List (Int × Int)) (c' v' : Option D) (st' : Store), forM { items := ds } (gN 3) BT13 (rgD i n) [some (.ref 3), some (.int many), some (.ref id), c, v] st = .next [some (.ref 3), some (.int many), some (.ref id), c', v'] st' ∧
      Gd ns st' ∧ st'[id]? = some (.lst (ts'.map tD)) ∧ ts'.length ≤ ts.length + n ∧ GT many 3 ts'
  | 0, i, ts, c, v, st, _, _, _, G, hi, hg => ⟨ts, c, v, st, by rw [rgD_zero, for_nil _ _ _ _ _ (ok_vals ds st)], G, hi, Nat.le_refl _, hg⟩
  | n + 1, i, ts, c, v, st, i0, i1, hl, G, hi, hg => by
    obtain ⟨d, st1, e, p, q, G1, l1, k1⟩ := gd_draw (many := 7) G (by decide) (by decide)
    have hi1 : st1[id]? = some (.lst (ts.map tD)) := by rw [k1 id (by omega)]; exact hi
    have hlt := (List.getElem?_eq_some_iff.mp hi1).1
    have hz : (ts.map tD).length < sizeLine := Nat.lt_of_lt_of_le (by rw [List.length_map]; omega : (ts.map tD).length < 1000) (lt_line (Nat.le_refl _))
    rw [rgD_succ, for_cons _ _ _ _ _ _ _ (ok_vals ds _)]
    by_cases hc : d - 3 = 0
    · obtain ⟨ts', c', v', st', ih, a1, a2, a3, a4⟩ := terms_turn (many := many) h5 ds n (i + 1) ts (some (.int i)) (some (.int 0)) st1 (by omega) (by omega) (by omega) G1 hi1 hg
      refine ⟨ts', c', v', st', ?_, a1, a2, by omega, a4⟩
      walk_at "mp"
      rw [e]
      walk_at "mp"
      rw [hc]
      walk_at "mp"
      exact ih
    · obtain ⟨ts', c', v', st', ih, a1, a2, a3, a4⟩ := terms_turn (many := many) h5 ds n (i + 1) (ts ++ [(i, d - 3)]) (some (.int i)) (some (.int (d - 3))) (st1.set id (.lst ((ts ++ [(i, d - 3)]).map tD))) (by omega) (by omega) (by rw [List.length_append]; simp only [List.length_cons, List.length_nil]; omega) (G1.put h5 _) (List.getElem?_set_self hlt) (fun x m => by
        rcases List.mem_append.mp m with z | z
        · exact hg x z
        · rw [List.mem_singleton.mp z]
          exact ⟨⟨i0, by simp only; omega⟩, by simp only; omega, by simp only; omega, hc⟩)
      rw [List.length_append] at a3
      simp only [List.length_cons, List.length_nil] at a3
      refine ⟨ts', c', v', st', ?_, a1, a2, by omega, a4⟩
      walk_at "mp"
      rw [e]
      walk_at "mp"
      rw [if_pos (by simp [hc] : (!decide (d - 3 = 0)) = true), hi1, appP_lst _ _ _ _ hz]
      walk_at "mp"
      simp only [List.map_append, List.map_cons, List.map_nil] at ih
      exact ih
theorem terms_draw {ns : NS} {many : Int} (m0 : 1 ≤ many) (m1 : many ≤ 9) {st : Store} (G : Gd ns st) :
    ∃ (ts : List (Int × Int)) (st' : Store), m__law_terms [.ref 3, .int many] st = .ok (.tup (ts.map tD)) st' ∧ GT many 3 ts ∧ ts.length ≤ 10 ∧ Gd ns st' := by
  have lt := G.lt2
  obtain ⟨ts, c, v, st', e, G1, hi, hl, hg⟩ := terms_turn (many := many) (by omega : (4 ≤ st.length ∧ ns.2.length ≤ st.length)) (rgD 0 many.toNat) many.toNat 0 [] none none (st ++ [.lst []]) (by decide) (by omega) (by simp only [List.length_nil]; omega) (G.app _) (get_last _ _) (fun x m => by cases m)
  refine ⟨ts, st', ?_, hg, by simp only [List.length_nil] at hl; omega, G1⟩
  unfold m__law_terms
  walk_at "mp"
  rw [if_pos ⟨by omega, by omega⟩]
  walk_at "mp"
  rw [e]
  walk_at "mp"
  rw [hi]
  walk_at "mp"
theorem flat_ints : ∀ bs : List Int, (bs.map D.int).mapM flat = some (bs.map V.int)
  | [] => rfl
  | b :: bs => by
    rw [List.map_cons, List.mapM_cons, flat_ints bs]
    rfl
theorem inV_ints (k : Int) : ∀ bs : List Int, inV (.int k) (bs.map V.int) = decide (k ∈ bs)
  | [] => rfl
  | b :: bs => by
    have e : eqV (V.int b) (V.int k) = decide (b = k) := by
      show (b == k) = decide (b = k)
      by_cases z : b = k <;> simp [z]
    show (eqV (.int b) (.int k) || inV (.int k) (bs.map V.int)) = decide (k ∈ b :: bs)
    rw [inV_ints k bs, e]
    by_cases h : b = k
    · subst h
      simp
    · have h' : ¬k = b := fun z => h z.symm
      simp [h, h']
theorem in_ints {st : Store} {n : Nat} {k : Int} {bs : List Int} (h : st[n]? = some (.lst (bs.map D.int))) : gIn false (.int k) (.ref n) st = .ok (.bl (decide (k ∈ bs))) st := by
  rw [gIn_def]
  have e : MP.inD st (.int k) (.ref n) = some (inV (.int k) (bs.map V.int)) := by
    unfold MP.inD
    rw [it_ref, h]
    show (match (match flat (.int k), (bs.map D.int).mapM flat with | some v, some vs => some (inV v vs) | _, _ => none) with | some b => some b | none => _) = _
    rw [flat_ints]
    rfl
  rw [e, inV_ints, blR_some, Bool.xor_false]
theorem eq_pp {st : Store} {neg : Bool} {ps qs : List PyData} (h : plns ps = true) (hd : PyData.depthAll ps ≤ 63) (h' : plns qs = true) (hd' : PyData.depthAll qs ≤ 63) : gEq neg (.tup (ofPs ps)) (.tup (ofPs qs)) st = .ok (.bl (PyData.eqv (.tuple ps) (.tuple qs) ^^ neg)) st := by
  have e : toP st 64 (.tup (ofPs ps)) = some (.tuple ps) := pl_toP st 64 (.tuple ps) h (by simp only [PyData.depth]; omega)
  have e' : toP st 64 (.tup (ofPs qs)) = some (.tuple qs) := pl_toP st 64 (.tuple qs) h' (by simp only [PyData.depth]; omega)
  have q : deepEq st (.tup (ofPs ps)) (.tup (ofPs qs)) = some (PyData.eqv (.tuple ps) (.tuple qs)) := by
    unfold deepEq
    rw [e, e']
    show (if SeqAt.shaped (.tuple ps) = true ∧ SeqAt.shaped (.tuple qs) = true then some (PyData.eqv (.tuple ps) (.tuple qs)) else none) = _
    rw [if_pos ⟨shaped_pln (p := .tuple ps) h (by simp only [PyData.depth]; omega), shaped_pln (p := .tuple qs) h' (by simp only [PyData.depth]; omega)⟩]
  rw [gEq_def, show eqD st (.tup (ofPs ps)) (.tup (ofPs qs)) = deepEq st (.tup (ofPs ps)) (.tup (ofPs qs)) from rfl, q, blR_some]
theorem bR {α β : Type} (a : α) (st : Store) (k : α → Store → Res β) : bindR (.ok a st) k = k a st := rfl
theorem bX {α β : Type} (a : α) (st : Store) (k : α → Store → Res β) : bindX (.ok a st) k = k a st := rfl
/-! list comprehensions whose element calls nothing that writes -/
theorem lc_pure {α : Type} {enc out : α → D} {g : Tg} {f : Ev D} {ds : List D} {id : Nat} {env : MP.Env} : ∀ (xs : List α) (acc : List D) (st : Store),
    (∀ x ∈ xs, ∀ st, ∃ env', g (enc x) env st = .ok env' st ∧ f env' st = .ok (out x) st) → acc.length + xs.length ≤ 1000 → st[id]? = some (.lst acc) →
    lcM { items := ds } g tYesM f id env (xs.map enc) st = .ok () (st.set id (.lst (acc ++ xs.map out)))
  | [], acc, st, _, _, hi => by
    have hlt := (List.getElem?_eq_some_iff.mp hi).1
    have he : st.set id (.lst acc) = st := by
      apply List.ext_getElem?
      intro j
      by_cases e : id = j
      · subst e
        rw [List.getElem?_set_self hlt, hi]
      · rw [List.getElem?_set_ne e]
    rw [List.map_nil, lcM_nil _ _ _ _ _ _ _ (ok_vals ds st), List.map_nil, List.append_nil, he]
  | x :: xs, acc, st, hs, hl, hi => by
    have hlt := (List.getElem?_eq_some_iff.mp hi).1
    rw [List.length_cons] at hl
    obtain ⟨env', e1, e2⟩ := hs x List.mem_cons_self st
    have hz : acc.length < sizeLine := Nat.lt_of_lt_of_le (by omega : acc.length < 1000) (lt_line (Nat.le_refl _))
    rw [List.map_cons, lcM_cons _ _ _ _ _ _ _ _ _ (ok_vals ds st), e1, bX, yes_def, bX, if_pos rfl, e2, bX, grow_def, hi, growO_lst _ _ _ _ hz, bX]
    rw [lc_pure xs (acc ++ [out x]) (st.set id (.lst (acc ++ [out x]))) (fun y m => hs y (List.mem_cons_of_mem _ m)) (by rw [List.length_append]; simp only [List.length_cons, List.length_nil]; omega) (List.getElem?_set_self hlt), List.set_set]
    simp only [List.append_assoc, List.cons_append, List.nil_append, List.map_cons]
theorem lc_run {α : Type} {enc out : α → D} {g : Tg} {f : Ev D} {xs : List α} {ds : List D} {env : MP.Env} {st : Store} (hl : xs.length ≤ 1000)
    (hs : ∀ x ∈ xs, ∀ st, ∃ env', g (enc x) env st = .ok env' st ∧ f env' st = .ok (out x) st) : lcM { items := ds } g tYesM f st.length env (xs.map enc) (st ++ [.lst []]) = .ok () (st ++ [.lst (xs.map out)]) := by
  rw [lc_pure xs [] _ hs (by simpa using hl) (get_last _ _), set_last, List.nil_append]
theorem lc_all {α : Type} {enc out : α → D} {fi : Ev Src} {vs : List Nat} {g : Tg} {f : Ev D} {xs : List α} {env : MP.Env} {st : Store} (hf : fi env st = .ok { items := xs.map enc } st) (hl : xs.length ≤ 1000)
    (hs : ∀ x ∈ xs, ∀ st, ∃ env', g (enc x) (wipeD env vs) st = .ok env' st ∧ f env' st = .ok (out x) st) : eLc fi vs g tYesM f env st = .ok (.ref st.length) (st ++ [.lst (xs.map out)]) := by
  rw [lc_def, hf, bR, lc_pure xs [] _ hs (by simpa using hl) (get_last _ _), bX, set_last, List.nil_append]
theorem gen_pure {α : Type} {enc out : α → D} {g : Tg} {f : Ev D} {ds : List D} {env : MP.Env} : ∀ (xs : List α) (acc : List D) (st : Store),
    (∀ x ∈ xs, ∀ st, ∃ env', g (enc x) env st = .ok env' st ∧ f env' st = .ok (out x) st) → acc.length + xs.length ≤ 1000 →
    genM stepT .tup { items := ds } g tYesM f env acc (xs.map enc) st = .ok (.tup (acc ++ xs.map out)) st
  | [], acc, st, _, _ => by
    rw [List.map_nil, genM_nil _ _ _ _ _ _ _ _ _ (ok_vals ds st), List.map_nil, List.append_nil]
  | x :: xs, acc, st, hs, hl => by
    rw [List.length_cons] at hl
    obtain ⟨env', e1, e2⟩ := hs x List.mem_cons_self st
    have hz : acc.length < sizeLine := Nat.lt_of_lt_of_le (by omega : acc.length < 1000) (lt_line (Nat.le_refl _))
    rw [List.map_cons, genM_cons _ _ _ _ _ _ _ _ _ _ _ (ok_vals ds st), e1, bX, yes_def, bX, if_pos rfl, e2, bX, stepT_def _ _ hz, stepK_l]
    rw [gen_pure xs (acc ++ [out x]) st (fun y m => hs y (List.mem_cons_of_mem _ m)) (by rw [List.length_append]; simp only [List.length_cons, List.length_nil]; omega)]
    simp only [List.append_assoc, List.cons_append, List.nil_append, List.map_cons]
/-! [draw(tape, m) - c for v in ..] -/
theorem evar_at {ti : Nat} {env : MP.Env} {st : Store} {d : D} (h : env[ti]? = some (some d)) : eVar ti env st = .ok d st := by
  unfold eVar
  rw [h]
theorem lc_draw {ns : NS} {m c : Int} {j ti : Nat} (hj : j ≠ ti) (m0 : 0 < m) (m1 : m < 1073741824) {ds : List D} {id : Nat} {env : MP.Env} (ht : env[ti]? = some (some (.ref 3))) (h5 : (4 ≤ id ∧ ns.2.length ≤ id)) : ∀ (xs : List D) (acc : List Int) (st : Store),
    acc.length + xs.length ≤ 1000 → Gd ns st → st[id]? = some (.lst (acc.map D.int)) →
    ∃ (ys : List Int) (st' : Store), lcM { items := ds } (gN j) tYesM (eBin MP.gSub (eDef 2 m__law_draw (aCons (eVar ti) (aCons (eC (.int m)) (aNil)))) (eC (.int c))) id env xs st = .ok () st' ∧ Gd ns st' ∧ st'[id]? = some (.lst ((acc ++ ys).map D.int)) ∧
      ys.length = xs.length ∧ (∀ y ∈ ys, -c ≤ y ∧ y < m - c) ∧ st'.length = st.length ∧ ∀ k, k ≠ 3 → k ≠ id → st'[k]? = st[k]?
  | [], acc, st, _, G, hi => ⟨[], st, by rw [lcM_nil _ _ _ _ _ _ _ (ok_vals ds st)], G, by rw [List.append_nil]; exact hi, rfl, (by simp), rfl, fun _ _ _ => rfl⟩
  | x :: xs, acc, st, hl, G, hi => by
    rw [List.length_cons] at hl
    obtain ⟨d, st1, e, p, q, G1, l1, k1⟩ := gd_draw G m0 m1
    have hi1 : st1[id]? = some (.lst (acc.map D.int)) := by rw [k1 id (by omega)]; exact hi
    have hlt := (List.getElem?_eq_some_iff.mp hi1).1
    have ht2 : (env.set j (some x))[ti]? = some (some (.ref 3)) := by rw [List.getElem?_set_ne hj]; exact ht
    have hz : (acc.map D.int).length < sizeLine := Nat.lt_of_lt_of_le (by rw [List.length_map]; omega : (acc.map D.int).length < 1000) (lt_line (Nat.le_refl _))
    obtain ⟨ys, st2, e2, G2, hi2, l2, b2, n2, k2⟩ := lc_draw (c := c) hj m0 m1 (ds := ds) ht h5 xs (acc ++ [d - c]) (st1.set id (.lst ((acc ++ [d - c]).map D.int))) (by rw [List.length_append]; simp only [List.length_cons, List.length_nil]; omega) (G1.put h5 _) (List.getElem?_set_self hlt)
    refine ⟨(d - c) :: ys, st2, ?_, G2, by rw [hi2]; simp, by rw [List.length_cons, List.length_cons, l2], fun y hy => ?_, by rw [n2, List.length_set, l1], fun k h4 hk => by rw [k2 k h4 hk, List.getElem?_set_ne (Ne.symm hk), k1 k h4]⟩
    · rw [lcM_cons _ _ _ _ _ _ _ _ _ (ok_vals ds st), gN_def, bX, yes_def, bX, if_pos rfl, bin_def, def_def, consA_def, evar_at ht2, bR, consA_def, c_def, bR, nilA_def, bR, bR, bR, if_pos (show [D.ref 3, D.int m].length = 2 from rfl), e, bR, c_def, bR, sub_ii, bX, grow_def, hi1, growO_lst _ _ _ _ hz, bX]
      rw [List.map_append] at e2
      exact e2
    · rcases List.mem_cons.mp hy with rfl | hy
      · omega
      · exact b2 y hy
theorem lcd_all {ns : NS} {m c : Int} {j ti : Nat} {fi : Ev Src} {vs : List Nat} {xs : List D} {env : MP.Env} {st : Store} (hj : j ≠ ti) (m0 : 0 < m) (m1 : m < 1073741824) (G : Gd ns st) (hf : fi env st = .ok { items := xs } st) (hl : xs.length ≤ 1000) (ht : (wipeD env vs)[ti]? = some (some (.ref 3))) :
    ∃ (ys : List Int) (st' : Store), eLc fi vs (gN j) tYesM (eBin MP.gSub (eDef 2 m__law_draw (aCons (eVar ti) (aCons (eC (.int m)) (aNil)))) (eC (.int c))) env st = .ok (.ref st.length) st' ∧ Gd ns st' ∧ Fr st st' ∧ st.length < st'.length ∧ st'[st.length]? = some (.lst (ys.map D.int)) ∧ ys.length = xs.length ∧ ∀ y ∈ ys, -c ≤ y ∧ y < m - c := by
  have lt := G.lt2
  obtain ⟨ys, st', e, G1, hi, l, b, n, k⟩ := lc_draw (c := c) hj m0 m1 (ds := xs) ht (by omega : (4 ≤ st.length ∧ ns.2.length ≤ st.length)) xs [] (st ++ [.lst []]) (by simpa using hl) (G.app _) (get_last _ _)
  rw [List.length_append, List.length_cons, List.length_nil] at n
  refine ⟨ys, st', ?_, G1, ⟨by omega, fun q h4 hq => by rw [k q h4 (by omega), List.getElem?_append_left hq]⟩, by omega, by simpa using hi, l, b⟩
  rw [lc_def, hf, bR, e, bX]
abbrev iD (ns : List Int) : D := .tup (ns.map D.int)
abbrev In (many v : Int) : Prop := 0 ≤ v ∧ v < many
theorem pick_t {env : MP.Env} {i j : Nat} (hij : i ≠ j) (hl : j < env.length) (hi : i < env.length) (p : Int × Int) (st : Store) : ∃ env', gT 2 (gsCons (gN i) (gsCons (gN j) (gsNil))) (tD p) env st = .ok env' st ∧ eVar i env' st = .ok (.int p.1) st := by
  refine ⟨(env.set i (some (.int p.1))).set j (some (.int p.2)), rfl, evar_at ?_⟩
  rw [List.getElem?_set_ne (Ne.symm hij), List.getElem?_set_self hi]
theorem pick_l {env : MP.Env} {i : Nat} (hi : i < env.length) (p : Lit) (st : Store) : ∃ env', gN i (lD p) env st = .ok env' st ∧ eBin gIx (eVar i) (eC (.int 0)) env' st = .ok (.int p.1) st := by
  refine ⟨env.set i (some (lD p)), rfl, ?_⟩
  rw [bin_def, evar_at (List.getElem?_set_self hi), bR, c_def, bR]
  rfl
theorem ints_of {α : Type} (f : α → Int) (xs : List α) : (xs.map f).map D.int = xs.map fun x => D.int (f x) := by
  rw [List.map_map] <;> rfl
theorem itup (ns : List Int) (st : Store) : gList [iD ns] st = .ok (.ref st.length) (st ++ [.lst (ns.map D.int)]) := rfl
theorem add_ll {st : Store} {n m : Nat} {xs ys : List D} (hn : st[n]? = some (.lst xs)) (hm : st[m]? = some (.lst ys)) (hl : xs.length + ys.length ≤ 1000) : gAdd (.ref n) (.ref m) st = .ok (.ref st.length) (st ++ [.lst (xs ++ ys)]) := by
  show (match st[n]?, st[m]? with | some (O.lst i), some (O.lst j) => if i.length + j.length ≤ sizeLine then Res.ok (D.ref st.length) (st ++ [O.lst (i ++ j)]) else Res.bad | _, _ => Res.bad) = _
  rw [hn, hm]
  exact if_pos (lt_line hl)
theorem two_last (st : Store) (x y : O) : st ++ [x] ++ [y] = st ++ [x, y] := by simp
theorem at_l0 (st : Store) (x : O) (l : List O) : (st ++ x :: l)[st.length]? = some x := by simp
theorem at_l1 (st : Store) (x y : O) (l : List O) : (st ++ x :: y :: l)[st.length + 1]? = some y := by
  rw [List.getElem?_append_right (by omega), Nat.add_sub_cancel_left] <;> rfl
theorem at_l2 (st : Store) (x y z : O) (l : List O) : (st ++ x :: y :: z :: l)[st.length + 2]? = some z := by
  rw [List.getElem?_append_right (by omega), Nat.add_sub_cancel_left] <;> rfl
theorem lm_run {g : Nat → List D → List D → Store → Res D} {fo : Ev D} {fA : Ev (List D)} {env : MP.Env} {st st2 : Store} {n : Nat} {ds ds2 as : List D} (ho : fo env st = .ok (.ref n) st) (hn : st[n]? = some (.lst ds)) (ha : fA env st = .ok as st2) (hn2 : st2[n]? = some (.lst ds2)) : eLm g fo fA env st = g n ds2 as st2 := by
  unfold eLm
  rw [ho, bR]
  simp only [hn]
  rw [ha, bR]
  simp only [hn2]
theorem erase_map {α β : Type} (f : α → β) : ∀ (xs : List α) (i : Nat), (xs.map f).eraseIdx i = (xs.eraseIdx i).map f
  | [], _ => rfl
  | _ :: _, 0 => rfl
  | x :: xs, i + 1 => by
    rw [List.map_cons, List.eraseIdx_cons_succ, List.eraseIdx_cons_succ, List.map_cons, erase_map f xs i]
theorem lr_run {f : Ev D} {env : MP.Env} {st : Store} {j : Int} (hf : f env st = .ok (.int j) st) (h0 : 0 ≤ j) (h1 : j ≤ 100) : eLstRg f env st = .ok (.ref st.length) (st ++ [.lst (rgD 0 j.toNat)]) := by
  unfold eLstRg lrD
  rw [hf, bR]
  exact if_pos ⟨by omega, by omega, by omega⟩
theorem pop_ok {ns : List Int} {st : Store} {n : Nat} {d : Int} (h0 : 0 ≤ d) (h1 : d < ns.length) (h2 : d < 2 ^ 63) : ∃ v, v ∈ ns ∧ gPopAt n (ns.map D.int) [.int d] st = .ok (.int v) (st.set n (.lst ((ns.eraseIdx d.toNat).map D.int))) := by
  have hl : d.toNat < ns.length := by omega
  refine ⟨ns[d.toNat], List.getElem_mem hl, ?_⟩
  have e1 : seqIndex? d (ns.map D.int).length = some d.toNat := seqIndex_of h0 (by rw [List.length_map]; exact h1)
  have e2 : (ns.map D.int)[d.toNat]? = some (.int ns[d.toNat]) := by rw [List.getElem?_map, List.getElem?_eq_getElem hl] <;> rfl
  have e3 : (ns.map D.int).eraseIdx d.toNat = (ns.eraseIdx d.toNat).map D.int := erase_map _ _ _
  unfold gPopAt
  simp only [if_pos (show -(2 ^ 63) ≤ d ∧ d < 2 ^ 63 from ⟨by omega, h2⟩), e1, e2, e3]
theorem rg_ints (i : Int) : ∀ n : Nat, rgD i n = ((List.range n).map fun j : Nat => i + (j : Int)).map D.int := fun n => by
  unfold rgD
  rw [List.map_map] <;> rfl
theorem some_from {ns : NS} {m c : Int} {j ti : Nat} {xs ds : List D} {env : MP.Env} {st : Store} (hj : j ≠ ti) (m0 : 0 < m) (m1 : m < 1073741824) (G : Gd ns st) (hl : xs.length ≤ 1000) (ht : env[ti]? = some (some (.ref 3))) :
    ∃ (ys : List Int) (st' : Store), lcM { items := ds } (gN j) tYesM (eBin MP.gSub (eDef 2 m__law_draw (aCons (eVar ti) (aCons (eC (.int m)) (aNil)))) (eC (.int c))) st.length env xs (st ++ [.lst []]) = .ok () st' ∧ Gd ns st' ∧ Fr st st' ∧ st.length < st'.length ∧ st'[st.length]? = some (.lst (ys.map D.int)) ∧ ys.length = xs.length ∧ ∀ y ∈ ys, -c ≤ y ∧ y < m - c := by
  have lt := G.lt2
  obtain ⟨ys, st', e, G1, hi, l, b, n, k⟩ := lc_draw (c := c) hj m0 m1 (ds := ds) ht (by omega : (4 ≤ st.length ∧ ns.2.length ≤ st.length)) xs [] (st ++ [.lst []]) (by simpa using hl) (G.app _) (get_last _ _)
  rw [List.length_append, List.length_cons, List.length_nil] at n
  exact ⟨ys, st', e, G1, ⟨by omega, fun q h4 hq => by rw [k q h4 (by omega), List.getElem?_append_left hq]⟩, by omega, by simpa using hi, l, b⟩
def litP (l : Lit) : PyData := .tuple [.int l.1, .str l.2.1, .int l.2.2]
theorem cut_ints (vs : List Int) (lo hi : Option Int) : ∃ us : List Int, MP.cutD (vs.map D.int) lo hi = us.map D.int ∧ us.length ≤ vs.length ∧ ∀ v ∈ us, v ∈ vs := by
  unfold MP.cutD
  rw [← List.map_drop, ← List.map_take]
  refine ⟨_, rfl, ?_, fun v m => List.mem_of_mem_drop (List.mem_of_mem_take m)⟩
  rw [List.length_take, List.length_drop]
  omega
theorem rel3_at {d : Int} (h0 : 0 ≤ d) (h1 : d < 3) : ∃ r : Str, Rl r ∧ atI [D.str "<=", D.str ">=", D.str "="] d = some (.str r) := by
  have : d = 0 ∨ d = 1 ∨ d = 2 := by omega
  rcases this with rfl | rfl | rfl
  · exact ⟨_, .inl rfl, at_zero ..⟩
  · exact ⟨_, .inr (.inl rfl), at_one ..⟩
  · exact ⟨_, .inr (.inr (.inl rfl)), at_two ..⟩
theorem rgl (i : Int) (n : Nat) : (rgD i n).length = n := by
  unfold rgD
  simp

def val (ps : List Int) (v : Int) : Int := ps.getD v.toNat 0
def tsum (ps : List Int) : List (Int × Int) → Int
  | [] => 0
  | p :: ts => p.2 * val ps p.1 + tsum ps ts
theorem at_val {ps : List Int} {v : Int} (h0 : 0 ≤ v) (h1 : v < ps.length) : atI (ps.map D.int) v = some (.int (val ps v)) := by
  rw [at_in _ _ h0 (by rw [List.length_map]; exact h1), List.getElem?_map]
  have hl : v.toNat < ps.length := by omega
  unfold val
  rw [List.getElem?_eq_getElem hl, List.getD_eq_getElem?_getD, List.getElem?_eq_getElem hl]
  rfl
theorem wm {i j : Int} {a : Nat} (ha : i.natAbs < 2 ^ a) {b : Nat} (hb : j.natAbs < 2 ^ b) (h0 : 0 < a := by decide) (h1 : 0 < b := by decide) (h : a + b ≤ 1000000 := by decide) : CMulW i j := wide_mul ha hb h0 h1 h
theorem flat_bls : ∀ bs : List Bool, (bs.map D.bl).mapM flat = some (bs.map V.bl)
  | [] => rfl
  | b :: bs => by
    rw [List.map_cons, List.mapM_cons, flat_bls bs]
    rfl
theorem inV_bls : ∀ bs : List Bool, inV (.bl true) (bs.map V.bl) = bs.any id
  | [] => rfl
  | b :: bs => by
    show (eqV (.bl b) (.bl true) || inV (.bl true) (bs.map V.bl)) = (id b || bs.any id)
    rw [inV_bls bs]
    cases b <;> rfl
theorem in_bls {st : Store} {n : Nat} {bs : List Bool} (h : st[n]? = some (.lst (bs.map D.bl))) : gIn false (.bl true) (.ref n) st = .ok (.bl (bs.any id)) st := by
  rw [gIn_def]
  have e : MP.inD st (.bl true) (.ref n) = some (inV (.bl true) (bs.map V.bl)) := by
    unfold MP.inD
    rw [it_ref, h]
    show (match (match flat (.bl true), (bs.map D.bl).mapM flat with | some v, some vs => some (inV v vs) | _, _ => none) with | some b => some b | none => _) = _
    rw [flat_bls]
    rfl
  rw [e, inV_bls, blR_some, Bool.xor_false]
theorem watch_some (ds : List D) (n : Nat) : watch { items := ds, obj := some n } = [(n, ds)] := rfl
theorem watch_none (ds : List D) : watch { items := ds } = [] := rfl
theorem drop_head {α : Type} {l r : List α} {i : Nat} {x : α} (h : l.drop i = x :: r) : l[i]? = some x ∧ l.drop (i + 1) = r ∧ i < l.length := by
  have h1 : l[i]? = some x := by
    have := List.getElem?_drop (xs := l) (i := i) (j := 0)
    rw [h, Nat.add_zero] at this
    exact this.symm
  refine ⟨h1, ?_, (List.getElem?_eq_some_iff.mp h1).1⟩
  have : (l.drop i).drop 1 = r := by rw [h]; rfl
  rw [List.drop_drop] at this
  exact this
theorem at_nat {α : Type} {f : α → D} {xs : List α} {i : Nat} {x : α} (h : xs[i]? = some x) : atI (xs.map f) (i : Int) = some (f x) := by
  have hl := (List.getElem?_eq_some_iff.mp h).1
  rw [at_in _ _ (by omega) (by rw [List.length_map]; omega), List.getElem?_map, Int.toNat_natCast, h]
  rfl
theorem lt_big {n : Nat} (h : n ≤ 100000) : n < sizeLine := by
  rw [sizeLine_eq]
  omega
variable {m : Nat} {ns : List (Key × D)} {us : List (Str × Int × Int)} {bs : List (Key × D)} {g : D}
theorem at_app {S : Store} {k : Nat} {o : O} (h : S[k]? = some o) (L : Store) : (S ++ L)[k]? = some o := by
  rw [List.getElem?_append_left (List.getElem?_eq_some_iff.mp h).1]; exact h
theorem seq_c (a b : MP.Env → Store → SR) (env : MP.Env) (st : Store) : sSeq a b env st = contS (a env st) b := rfl
theorem asg_n {f : Ev D} {i : Nat} {env : MP.Env} {st st1 : Store} {d : D} (h : f env st = .ok d st1) : sAsg f (gN i) env st = .next (env.set i (some d)) st1 := by
  rw [asg_def, h]
  rfl
theorem def2 {g : List D → Store → Res D} {fa fb : Ev D} {env : MP.Env} {st st1 st2 : Store} {a b : D} (ha : fa env st = .ok a st1) (hb : fb env st1 = .ok b st2) : eDef 2 g (aCons fa (aCons fb aNil)) env st = g [a, b] st2 := by
  rw [def_def, consA_def, ha, bR, consA_def, hb, bR, nilA_def, bR, bR, bR]
  rfl
theorem if_f {T : Ev Bool} {X : MP.Env → Store → SR} {env : MP.Env} {st st1 : Store} (h : T env st = .ok false st1) : sIf T X sNil env st = .next env st1 := by
  rw [if_def, h]
  rfl
theorem lc_d (fi : Ev Src) (vs : List Nat) (g : Tg) (c : Ev Bool) (f : Ev D) (env : MP.Env) (st : Store) : eLc fi vs g c f env st = bindR (fi env st) fun s st1 => bindX (lcM s g c f st1.length (wipeD env vs) s.items (st1 ++ [.lst []])) fun _ st2 => .ok (.ref st1.length) st2 := rfl
theorem paired_len {α β : Type} {R : α → β → Prop} : ∀ {xs : List α} {ys : List β}, Paired R xs ys → ys.length = xs.length
  | _, _, .nil => rfl
  | _, _, .cons _ t => by rw [List.length_cons, List.length_cons, paired_len t]
theorem list_of {st : Store} {n : Nat} {ds : List D} (h : st[n]? = some (.lst ds)) : gList [.ref n] st = .ok (.ref st.length) (st ++ [.lst ds]) := by
  show (match (match st[n]? with | some (O.lst ds) => some ds | _ => none) with | some ds => Res.ok (D.ref st.length) (st ++ [O.lst ds]) | none => .bad) = _
  rw [h]
theorem Gd.re {ns : NS} {st : Store} (G : Gd ns st) : Gd (ns.1, st) st := ⟨G.tape, Fr.refl st⟩
theorem Gd.on {ns : NS} {st st' : Store} (G : Gd ns st) (G' : Gd (ns.1, st) st') : Gd ns st' ∧ Fr st st' := ⟨⟨G'.tape, G.fr.trans G'.fr⟩, G'.fr⟩
/-! a pure list comprehension over any source -/
theorem lc_gen {α : Type} {enc out : α → D} {p : α → Bool} {g : Tg} {c : Ev Bool} {f : Ev D} {src : Src} {st0 : Store} {env : MP.Env} (hok : ∀ o, src.Ok (st0 ++ [o])) {XS : List α} (hx : ∀ x ∈ XS, ∀ o, ∃ env', g (enc x) env (st0 ++ [o]) = .ok env' (st0 ++ [o]) ∧ c env' (st0 ++ [o]) = .ok (p x) (st0 ++ [o]) ∧ (p x = true → f env' (st0 ++ [o]) = .ok (out x) (st0 ++ [o]))) :
    ∀ (xs : List α) (acc : List D), (∀ x ∈ xs, x ∈ XS) → acc.length + xs.length ≤ 1000 → lcM src g c f st0.length env (xs.map enc) (st0 ++ [.lst acc]) = .ok () (st0 ++ [.lst (acc ++ (xs.filter p).map out)])
  | [], acc, _, _ => by rw [List.map_nil, lcM_nil _ _ _ _ _ _ _ (hok _), List.filter_nil, List.map_nil, List.append_nil]
  | x :: xs, acc, hm, hl => by
    rw [List.length_cons] at hl
    obtain ⟨env', e1, e2, e3⟩ := hx x (hm x List.mem_cons_self) (.lst acc)
    have hz : acc.length < sizeLine := lt_big (by omega)
    rw [List.map_cons, lcM_cons _ _ _ _ _ _ _ _ _ (hok _), e1, bX, e2, bX]
    cases hp : p x with
    | true =>
      rw [if_pos rfl, e3 hp, bX, grow_def, get_last, growO_lst _ _ _ _ hz, bX, set_last, lc_gen hok hx xs _ (fun y m => hm y (List.mem_cons_of_mem _ m)) (by rw [List.length_append]; simp only [List.length_cons, List.length_nil]; omega), List.filter_cons_of_pos hp, List.map_cons, List.append_assoc]
      rfl
    | false =>
      rw [if_neg (by decide), lc_gen hok hx xs _ (fun y m => hm y (List.mem_cons_of_mem _ m)) (by omega), List.filter_cons_of_neg (by rw [hp]; decide)]
theorem lc_all2 {α : Type} {enc out : α → D} {p : α → Bool} {fi : Ev Src} {vs : List Nat} {g : Tg} {c : Ev Bool} {f : Ev D} {src : Src} {st : Store} {env : MP.Env} {xs : List α} (hfi : fi env st = .ok src st) (hit : src.items = xs.map enc) (hok : ∀ o, src.Ok (st ++ [o])) (hl : xs.length ≤ 1000)
    (hx : ∀ x ∈ xs, ∀ o, ∃ env', g (enc x) (wipeD env vs) (st ++ [o]) = .ok env' (st ++ [o]) ∧ c env' (st ++ [o]) = .ok (p x) (st ++ [o]) ∧ (p x = true → f env' (st ++ [o]) = .ok (out x) (st ++ [o]))) : eLc fi vs g c f env st = .ok (.ref st.length) (st ++ [.lst ((xs.filter p).map out)]) := by
  rw [lc_d, hfi, bR, hit, lc_gen hok hx xs [] (fun _ m => m) (by simpa using hl), bX, List.nil_append]
theorem filter_true {α : Type} (xs : List α) : xs.filter (fun _ => true) = xs := List.filter_eq_self.mpr fun _ _ => rfl
/-! the model -/
theorem mk_d (c : Str) (n : Nat) (g : List D → Store → Res D) (fA : Ev (List D)) (env : MP.Env) (st : Store) : eMake c n g fA env st = bindR (fA env st) fun ds st1 => if ds.length + 1 = n then bindR (g (.ref st1.length :: ds) (st1 ++ [.ins c []])) (madeK st1.length) else .bad := rfl
theorem tup_d (f : Ev (List D)) (env : MP.Env) (st : Store) : eTup f env st = bindR (f env st) fun ds st1 => if ds.length ≤ sizeLine then .ok (.tup ds) st1 else .bad := rfl
theorem call_d (g : List D → Store → Res D) (f : Ev (List D)) (env : MP.Env) (st : Store) : eCall g f env st = bindR (f env st) fun ds st1 => g ds st1 := rfl
theorem consA_d (f : Ev D) (fs : Ev (List D)) (env : MP.Env) (st : Store) : aCons f fs env st = bindR (f env st) fun d st1 => bindR (fs env st1) fun ds st2 => .ok (d :: ds) st2 := rfl
theorem nilA_d (env : MP.Env) (st : Store) : aNil env st = .ok [] st := rfl
theorem cN (env : MP.Env) (st : Store) (b : MP.Env → Store → SR) : contS (.next env st) b = b env st := rfl
theorem bd_d (N : Nat) (g : MP.Env → Store → SR) (ds : List D) (st : Store) : ofBody N g ds st = endB (g (ds.map some ++ List.replicate (N - ds.length) none) st) := rfl
theorem ret_d (f : Ev D) (env : MP.Env) (st : Store) : sRet f env st = bindS env (f env st) fun d st1 => .ret d st1 := rfl
theorem bin_d (g : G2) (fa fb : Ev D) (env : MP.Env) (st : Store) : eBin g fa fb env st = bindR (fa env st) fun x st1 => bindR (fb env st1) fun y st2 => g x y st2 := rfl
theorem c_d' (d : D) (env : MP.Env) (st : Store) : eC d env st = .ok d st := rfl
theorem gen_src {α : Type} {enc out : α → D} {g : Tg} {f : Ev D} {src : Src} {env : MP.Env} {st : Store} (hok : src.Ok st) {XS : List α} (hs : ∀ x ∈ XS, ∃ env', g (enc x) env st = .ok env' st ∧ f env' st = .ok (out x) st) : ∀ (xs : List α) (acc : List D), (∀ x ∈ xs, x ∈ XS) → acc.length + xs.length ≤ 1000 →
    genM stepT .tup src g tYesM f env acc (xs.map enc) st = .ok (.tup (acc ++ xs.map out)) st
  | [], acc, _, _ => by
    rw [List.map_nil, genM_nil _ _ _ _ _ _ _ _ _ hok, List.map_nil, List.append_nil]
  | x :: xs, acc, hm, hl => by
    rw [List.length_cons] at hl
    obtain ⟨env', e1, e2⟩ := hs x (hm x List.mem_cons_self)
    have hz : acc.length < sizeLine := lt_big (by omega)
    rw [List.map_cons, genM_cons _ _ _ _ _ _ _ _ _ _ _ hok, e1, bX, yes_def, bX, if_pos rfl, e2, bX, stepT_def _ _ hz, stepK_l]
    rw [gen_src hok hs xs (acc ++ [out x]) (fun y m => hm y (List.mem_cons_of_mem _ m)) (by rw [List.length_append]; simp only [List.length_cons, List.length_nil]; omega)]
    simp only [List.append_assoc, List.cons_append, List.nil_append, List.map_cons]
theorem rg_nat (n : Nat) : rgD 0 n = (List.range n).map fun j : Nat => D.int (j : Int) := by
  rw [rg_ints, List.map_map]
  refine List.map_congr_left fun j _ => ?_
  show D.int (0 + (j : Int)) = _
  rw [Int.zero_add]
theorem map_range {α β : Type} (xs : List α) (f : α → β) (g : Nat → β) (h : ∀ (j : Nat) x, xs[j]? = some x → g j = f x) : (List.range xs.length).map g = xs.map f := by
  refine List.ext_getElem (by simp) fun i h1 h2 => ?_
  rw [List.length_map] at h2
  rw [List.getElem_map, List.getElem_map, List.getElem_range]
  exact h i _ (List.getElem?_eq_getElem h2)
theorem val_nat {ps : List Int} {j : Nat} {x : Int} (h : ps[j]? = some x) : val ps j = x := by
  unfold val
  rw [Int.toNat_natCast, List.getD_eq_getElem?_getD, h]
  rfl
theorem zD2_cons (a b : D) (r s : List D) : zD2 (a :: r) (b :: s) = .tup [a, b] :: zD2 r s := rfl
theorem zD2_nil : zD2 [] [] = [] := rfl
theorem zs2_def (a b : D) (st : Store) : zipS2 [a, b] st = zipK2 (srcOf st a) (srcOf st b) st := rfl
theorem zk2_some (a b : Src) (st : Store) : zipK2 (some a) (some b) st = .ok { items := zD2 a.items b.items, objs := watch a ++ watch b } st := rfl
theorem fzip2_def (f : Ev (List D)) (env : MP.Env) (st : Store) : fZip2 f env st = bindR (f env st) zipS2 := rfl
theorem ofPs_ints : ∀ xs : List Int, ofPs (xs.map PyData.int) = xs.map D.int
  | [] => rfl
  | x :: xs => by
    show ofP (.int x) :: ofPs (xs.map PyData.int) = D.int x :: xs.map D.int
    rw [ofPs_ints xs]
    rfl
theorem pln_ints : ∀ xs : List Int, plns (xs.map PyData.int) = true
  | [] => rfl
  | x :: xs => by
    show (true && plns (xs.map PyData.int)) = true
    rw [pln_ints xs]
    rfl
theorem dep_ints : ∀ xs : List Int, PyData.depthAll (xs.map PyData.int) ≤ 0
  | [] => Nat.le_refl _
  | x :: xs => by
    show max 0 (PyData.depthAll (xs.map PyData.int)) ≤ 0
    have := dep_ints xs
    omega
theorem sq {a b : MP.Env → Store → SR} {env env1 : MP.Env} {st st1 : Store} {r : SR} (h : a env st = .next env1 st1) (h2 : b env1 st1 = r) : sSeq a b env st = r := by
  rw [seq_c, h, cN, h2]
theorem at_h5 (S : Store) (a b c d e f : O) (l : List O) : (S ++ a :: b :: c :: d :: e :: f :: l)[S.length + 5]? = some f := by simp
theorem at_h0 (S : Store) (x : O) (l : List O) : (S ++ x :: l)[S.length]? = some x := by simp
theorem set_h0 (S : Store) (x y : O) (l : List O) : (S ++ x :: l).set S.length y = S ++ y :: l := by
  rw [List.set_append_right _ _ (Nat.le_refl _), Nat.sub_self]
  rfl
theorem at_h1 (S : Store) (x y : O) (l : List O) : (S ++ x :: y :: l)[S.length + 1]? = some y := by simp
theorem at_h2 (S : Store) (x y z : O) (l : List O) : (S ++ x :: y :: z :: l)[S.length + 2]? = some z := by simp
theorem at_h3 (S : Store) (x y z w : O) (l : List O) : (S ++ x :: y :: z :: w :: l)[S.length + 3]? = some w := by simp
theorem at_h4 (S : Store) (x y z w v : O) (l : List O) : (S ++ x :: y :: z :: w :: v :: l)[S.length + 4]? = some v := by simp
theorem set_hk (S L : Store) (k : Nat) (o : O) : (S ++ L).set (S.length + k) o = S ++ L.set k o := by
  rw [List.set_append_right _ _ (Nat.le_add_right _ _), Nat.add_sub_cancel_left]


section
def Sm (x : Int) : Prop := -1000000000000000000 ≤ x ∧ x ≤ 1000000000000000000
theorem Sm.mul {i j : Int} (h : Sm i) (k : Sm j) : CMulW i j := by
  unfold Sm at h k
  exact wm (a := 61) (b := 61) (by omega) (by omega)
theorem gcd1 (c : Int) (st : Store) : gGcd [.int 1, .int c] st = .ok (.int 1) st := by
  show Res.ok (D.int ((Nat.gcd 1 c.natAbs : Nat) : Int)) st = _
  rw [Nat.gcd_one_left]
  rfl
theorem div1 (i : Int) (st : Store) : gDivA (.int i) (.int 1) st = .ok (.int i) st := by
  show (if CDivA i 1 then Res.ok (D.int (i.fdiv 1)) st else Res.bad) = _
  rw [if_pos (show CDivA i 1 from (show (1 : Int) ≠ 0 ∧ (Int.natAbs 1).log2 < 9000 from by decide)), Int.fdiv_one]
/-! lowest -/
noncomputable abbrev BLW : MP.Env → Store → SR := (sAsg (eCall gGcd (aCons (eVar 3) (aCons (eVar 4) (aNil)))) (gN 3))
theorem blw_one {e0 e1 e2 : Option D} (x : Int) (st : Store) : BLW [e0, e1, e2, some (.int 1), some (.int x)] st = .next [e0, e1, e2, some (.int 1), some (.int x)] st := by
  refine (asg_n (d := .int 1) (st1 := st) ?_).trans rfl
  rw [call_d, consA_d]
  show bindR (Res.ok [D.int 1, D.int x] st) _ = _
  rw [bR, gcd1]
theorem blw_turn {ds : List D} {r : Nat} {e0 e1 e2 : Option D} {st : Store} (hr : st[r]? = some (.lst ds)) : ∀ (xs : List Int) (v4 : Option D), ∃ w4, MP.forM { items := ds, obj := some r } (gN 4) BLW (xs.map D.int) [e0, e1, e2, some (.int 1), v4] st = .next [e0, e1, e2, some (.int 1), w4] st
  | [], v4 => ⟨v4, by rw [List.map_nil, for_nil _ _ _ _ _ (show Src.Ok { items := ds, obj := some r } _ from hr)]⟩
  | x :: xs, v4 => by
    obtain ⟨w4, ih⟩ := blw_turn hr xs (some (.int x)) (e0 := e0) (e1 := e1) (e2 := e2)
    refine ⟨w4, ?_⟩
    rw [List.map_cons, for_cons _ _ _ _ _ _ _ (show Src.Ok { items := ds, obj := some r } _ from hr), gN_def]
    show loopK (BLW [e0, e1, e2, some (.int 1), some (.int x)] st) _ = _
    rw [blw_one]
    exact ih
abbrev eqD (c : Int) (cs : List Int) : D := .tup [.int 1, .int c, iD cs]
theorem lowest_ok {r : Nat} {c : Int} {cs : List Int} {st : Store} (hr : st[r]? = some (.lst (cs.map D.int))) (t0 : st[0]? = some .tab) (hl : cs.length ≤ 1000) : m_lowest [.int 1, .int c, .ref r] st = .ok (eqD c cs) st := by
  obtain ⟨w4, e⟩ := blw_turn (e0 := some (.int 1)) (e1 := some (.int c)) (e2 := some (.ref r)) hr cs none
  have eg := gen_src (enc := D.int) (out := D.int) (g := gN 4) (f := eBin gDivA (eVar 4) (eVar 3)) (env := [some (.int 1), some (.int c), some (.ref r), some (.int 1), none]) (show Src.Ok { items := cs.map D.int, obj := some r } st from hr) (XS := cs) (fun x _ => ⟨[some (.int 1), some (.int c), some (.ref r), some (.int 1), some (.int x)], rfl, by
    show gDivA (.int x) (.int 1) st = _
    rw [div1]⟩) cs [] (fun _ m => m) (by simpa using hl)
  rw [List.nil_append] at eg
  have g1 := gcd1 c st
  have d1 := div1 1 st
  have d2 := div1 c st
  unfold m_lowest
  rw [bd_d]
  show endB (sSeq _ _ [some (.int 1), some (.int c), some (.ref r), none, none] st) = _
  rw [seq_c, asg_n (d := .int 1) (st1 := st) (by rw [call_d, consA_d]; show bindR (Res.ok [D.int 1, D.int c] st) _ = _; rw [bR, g1]), cN]
  show endB (sSeq (sFor (fSeq (eVar 2)) (gN 4) BLW) _ [some (.int 1), some (.int c), some (.ref r), some (.int 1), none] st) = _
  rw [sq (env1 := [some (.int 1), some (.int c), some (.ref r), some (.int 1), w4]) (st1 := st) (by
    simp! only [hr]
    exact e) rfl]
  have cd : CDivA c 1 := show (1 : Int) ≠ 0 ∧ (Int.natAbs 1).log2 < 9000 from by decide
  simp! only [hr, t0, eg, cd, Int.fdiv_one]
/-! the law's gcd -/
noncomputable abbrev BCO : MP.Env → Store → SR := (sSeq (sIf (asB (eBin (gEq false) (eVar 1) (eC (.int 0)))) (sRet (eVar 0)) (sNil))
    (sSeq (sAsg (eBin gModN (eCall gInt (aCons (eVar 0) (aNil))) (eVar 1)) (gN 3))
    (sSeq (sAsg (eVar 1) (gN 0))
    (sAsg (eVar 3) (gN 1)))))
theorem co_end (a : Int) (v2 v3 : Option D) (st : Store) : BCO [some (.int a), some (.int 0), v2, v3] st = .ret (.int a) st := by
  simp! only []
theorem co_go (a b : Int) (hb : b ≠ 0) (v2 v3 : Option D) (st : Store) : BCO [some (.int a), some (.int b), v2, v3] st = .next [some (.int b), some (.int (a.fmod b)), v2, some (.int (a.fmod b))] st := by
  simp! only [hb]
theorem co_loop {ds : List D} {st : Store} (n : Nat) (i a b : Int) (v2 v3 : Option D) (h : (a = 0 ∧ b = 1) ∨ (a = 1 ∧ 0 ≤ b)) : MP.forM { items := ds } (gN 2) BCO (rgD i (n + 1 + 1 + 1)) [some (.int a), some (.int b), v2, v3] st = .ret (.int 1) st := by
  have turn : ∀ (k : Nat) (i : Int) (env : MP.Env) (st : Store), MP.forM { items := ds } (gN 2) BCO (rgD i (k + 1)) env st = loopK (BCO (env.set 2 (some (.int i))) st) fun e st2 => MP.forM { items := ds } (gN 2) BCO (rgD (i + 1) k) e st2 := fun k i env st => by
    rw [rgD_succ, for_cons _ _ _ _ _ _ _ (ok_vals ds st), gN_def]
    rfl
  rcases h with ⟨rfl, rfl⟩ | ⟨rfl, hb⟩
  · rw [turn]
    show loopK (BCO [some (.int 0), some (.int 1), _, v3] st) _ = _
    rw [co_go _ _ (by decide)]
    show MP.forM { items := ds } (gN 2) BCO _ [some (.int 1), some (.int 0), some (.int i), some (.int 0)] st = _
    rw [turn]
    show loopK (BCO [some (.int 1), some (.int 0), _, _] st) _ = _
    rw [co_end]
    rfl
  · by_cases h0 : b = 0
    · subst h0
      rw [turn]
      show loopK (BCO [some (.int 1), some (.int 0), _, v3] st) _ = _
      rw [co_end]
      rfl
    · rw [turn]
      show loopK (BCO [some (.int 1), some (.int b), _, v3] st) _ = _
      rw [co_go _ _ h0]
      by_cases h1 : b = 1
      · subst h1
        show MP.forM { items := ds } (gN 2) BCO _ [some (.int 1), some (.int 0), some (.int i), some (.int 0)] st = _
        rw [turn]
        show loopK (BCO [some (.int 1), some (.int 0), _, _] st) _ = _
        rw [co_end]
        rfl
      · have hm : (1 : Int).fmod b = 1 := by
          rw [Int.fmod_eq_emod_of_nonneg _ hb]
          exact Int.emod_eq_of_lt (by decide) (by omega)
        rw [hm]
        show MP.forM { items := ds } (gN 2) BCO _ [some (.int b), some (.int 1), some (.int i), some (.int 1)] st = _
        rw [turn]
        show loopK (BCO [some (.int b), some (.int 1), _, _] st) _ = _
        rw [co_go _ _ (by decide), Int.fmod_one]
        show MP.forM { items := ds } (gN 2) BCO _ [some (.int 1), some (.int 0), some (.int (i + 1)), some (.int 0)] st = _
        rw [turn]
        show loopK (BCO [some (.int 1), some (.int 0), _, _] st) _ = _
        rw [co_end]
        rfl
theorem common_ok (a b : Int) (h : (a = 0 ∧ b = 1) ∨ a = 1) (st : Store) : m__law_common [.int a, .int b] st = .ok (.int 1) st := by
  have e := co_loop (ds := rgD 0 (3997 + 1 + 1 + 1)) (st := st) 3997 0 (if a < 0 then -a else a) (if b < 0 then -b else b) none none (by
    rcases h with ⟨rfl, rfl⟩ | rfl
    · exact .inl ⟨rfl, rfl⟩
    · refine .inr ⟨rfl, ?_⟩
      split <;> omega)
  unfold m__law_common
  simp! only []
  rw [show Int.toNat 4000 = 3997 + 1 + 1 + 1 from rfl, e]
  rfl
/-! an equation in lowest terms -/
theorem whole_ok (x : Int) (st : Store) : m__law_whole [.int x] st = .ok (.bl true) st := by
  unfold m__law_whole
  simp! only []
  rfl
noncomputable abbrev BEQ : MP.Env → Store → SR := (sSeq (sIf (tNotM (asT (eDef 1 m__law_whole (aCons (eVar 4) (aNil))))) (sRet (eC (.bl false))) (sNil))
    (sAsg (eDef 2 m__law_common (aCons (eVar 3) (aCons (eVar 4) (aNil)))) (gN 3)))
theorem beq_one {e0 e1 e2 : Option D} (a x : Int) (h : (a = 0 ∧ x = 1) ∨ a = 1) (st : Store) : BEQ [e0, e1, e2, some (.int a), some (.int x)] st = .next [e0, e1, e2, some (.int 1), some (.int x)] st := by
  have e1 := whole_ok x st
  have e2 := common_ok a x h st
  simp! only [e1, e2]
theorem beq_turn {ds : List D} {r : Nat} {e0 e1 e2 : Option D} {st : Store} (hr : st[r]? = some (.lst ds)) : ∀ (xs : List Int) (v4 : Option D), ∃ w4, MP.forM { items := ds, obj := some r } (gN 4) BEQ (xs.map D.int) [e0, e1, e2, some (.int 1), v4] st = .next [e0, e1, e2, some (.int 1), w4] st
  | [], v4 => ⟨v4, by rw [List.map_nil, for_nil _ _ _ _ _ (show Src.Ok { items := ds, obj := some r } _ from hr)]⟩
  | x :: xs, v4 => by
    obtain ⟨w4, ih⟩ := beq_turn hr xs (some (.int x)) (e0 := e0) (e1 := e1) (e2 := e2)
    refine ⟨w4, ?_⟩
    rw [List.map_cons, for_cons _ _ _ _ _ _ _ (show Src.Ok { items := ds, obj := some r } _ from hr), gN_def]
    show loopK (BEQ [e0, e1, e2, some (.int 1), some (.int x)] st) _ = _
    rw [beq_one _ _ (.inr rfl)]
    exact ih
theorem equation_ok {c n : Int} {cs : List Int} (hn : (cs.length : Int) = n) (hl : cs.length ≤ 900) (st : Store) : ∃ L, m__law_equation [eqD c cs, .int n] st = .ok (.bl true) (st ++ L) := by
  obtain ⟨S1, hS1⟩ : ∃ S1, st ++ [O.lst [.int 1, .int c]] = S1 := ⟨_, rfl⟩
  obtain ⟨S2, hS2⟩ : ∃ S2, S1 ++ [O.lst (cs.map D.int)] = S2 := ⟨_, rfl⟩
  obtain ⟨S3, hS3⟩ : ∃ S3, S2 ++ [O.lst ([.int 1, .int c] ++ cs.map D.int)] = S3 := ⟨_, rfl⟩
  have a1 : S2[st.length]? = some (.lst [.int 1, .int c]) := by rw [← hS2]; exact at_app (by rw [← hS1]; exact get_last _ _) _
  have a2 : S2[S1.length]? = some (.lst (cs.map D.int)) := by rw [← hS2]; exact get_last _ _
  have a3 : S3[S2.length]? = some (.lst ([.int 1, .int c] ++ cs.map D.int)) := by rw [← hS3]; exact get_last _ _
  have ea := add_ll a1 a2 (by rw [List.length_map]; simp only [List.length_cons, List.length_nil]; omega)
  rw [hS3] at ea
  have el : ((cs.map D.int).length : Int) = n := by rw [List.length_map, hn]
  obtain ⟨w4, e⟩ := beq_turn (e0 := some (eqD c cs)) (e1 := some (.int n)) (e2 := some (.ref S2.length)) a3 (c :: cs) (some (.int 1))
  refine ⟨[.lst [.int 1, .int c], .lst (cs.map D.int), .lst ([.int 1, .int c] ++ cs.map D.int)], ?_⟩
  have hst : st ++ [.lst [.int 1, .int c], .lst (cs.map D.int), .lst ([.int 1, .int c] ++ cs.map D.int)] = S3 := by rw [← hS3, ← hS2, ← hS1]; simp
  rw [hst]
  have e' : MP.forM { items := [.int 1, .int c] ++ cs.map D.int, obj := some S2.length } (gN 4) BEQ ([.int 1, .int c] ++ cs.map D.int) [some (eqD c cs), some (.int n), some (.ref S2.length), some (.int 0), none] S3 = .next [some (eqD c cs), some (.int n), some (.ref S2.length), some (.int 1), w4] S3 := by
    show MP.forM _ _ _ (D.int 1 :: (c :: cs).map D.int) _ _ = _
    rw [for_cons _ _ _ _ _ _ _ (show Src.Ok { items := [.int 1, .int c] ++ cs.map D.int, obj := some S2.length } _ from a3), gN_def]
    show loopK (BEQ [some (eqD c cs), some (.int n), some (.ref S2.length), some (.int 0), some (.int 1)] S3) _ = _
    rw [beq_one _ _ (.inl ⟨rfl, rfl⟩)]
    exact e
  unfold m__law_equation
  simp! only [el]
  have h12 : st ++ [O.lst [.int 1, .int c], .lst (cs.map D.int)] = S2 := by rw [← hS2, ← hS1]; simp
  have h1l : S1.length = st.length + 1 := by rw [← hS1, List.length_append]; rfl
  rw [h1l] at ea
  rw [h12, ea]
  simp only [List.cons_append, List.nil_append] at a3 e'
  simp! only [a3]
  rw [e', cN]
  simp! only []
  rfl
/-! what an equation says -/
def dot : List Int → List Int → Int
  | x :: xs, y :: ys => x * y + dot xs ys
  | _, _ => 0
noncomputable abbrev BSY : MP.Env → Store → SR := (sAsg (eBin gAdd (eVar 3) (eBin gMulW (eBin MP.gIx (eBin MP.gIx (eVar 0) (eC (.int 2))) (eVar 4)) (eBin MP.gIx (eVar 2) (eVar 4)))) (gN 3))
theorem says_turn {c : Int} {cs ss : List Int} (hl : cs.length = ss.length) (hc : ∀ x ∈ cs, Sm x) (hs : ∀ x ∈ ss, Sm x) {s : Nat} {st : Store} (gs : st[s]? = some (.lst (ss.map D.int))) {e1 : Option D} (ds : List D) : ∀ (n i : Nat) (tot : Int) (v4 : Option D), i + n = ss.length →
    ∃ w4, MP.forM { items := ds } (gN 4) BSY (rgD (i : Nat) n) [some (eqD c cs), e1, some (.ref s), some (.int tot), v4] st = .next [some (eqD c cs), e1, some (.ref s), some (.int (tot + dot (cs.drop i) (ss.drop i))), w4] st
  | 0, i, tot, v4, hi => ⟨v4, by rw [rgD_zero, for_nil _ _ _ _ _ (ok_vals ds st), List.drop_of_length_le (by omega), List.drop_of_length_le (by omega)]; show _ = SR.next [_, _, _, some (.int (tot + 0)), _] _; rw [Int.add_zero]⟩
  | n + 1, i, tot, v4, hi => by
    have h1 : i < cs.length := by omega
    have h2 : i < ss.length := by omega
    obtain ⟨w4, ih⟩ := says_turn hl hc hs gs ds (e1 := e1) (c := c) n (i + 1) (tot + cs[i] * ss[i]) (some (.int (i : Nat))) (by omega)
    have a1 : atI (cs.map D.int) (i : Nat) = some (.int cs[i]) := at_nat (f := D.int) (List.getElem?_eq_getElem h1)
    have a2 : atI (ss.map D.int) (i : Nat) = some (.int ss[i]) := at_nat (f := D.int) (List.getElem?_eq_getElem h2)
    have cm : CMulW cs[i] ss[i] := (hc _ (List.getElem_mem h1)).mul (hs _ (List.getElem_mem h2))
    refine ⟨w4, ?_⟩
    rw [rgD_succ, for_cons _ _ _ _ _ _ _ (ok_vals ds st), List.drop_eq_getElem_cons h1, List.drop_eq_getElem_cons h2]
    simp! only [gs, a1, a2, cm]
    rw [show ((i : Nat) : Int) + 1 = ((i + 1 : Nat) : Int) by omega, ih]
    show SR.next [_, _, _, some (.int (tot + cs[i] * ss[i] + dot (cs.drop (i + 1)) (ss.drop (i + 1)))), _] _ = SR.next [_, _, _, some (.int (tot + (cs[i] * ss[i] + dot (cs.drop (i + 1)) (ss.drop (i + 1))))), _] _
    rw [Int.add_assoc]
theorem says_ok {c w : Int} {cs ss : List Int} (hl : cs.length = ss.length) (hn : ss.length ≤ 100) (hc : ∀ x ∈ cs, Sm x) (hs : ∀ x ∈ ss, Sm x) (hw : Sm w) {s : Nat} {st : Store} (gs : st[s]? = some (.lst (ss.map D.int))) : m__law_says [eqD c cs, .int w, .ref s] st = .ok (.bl (decide (w = c + dot cs ss))) st := by
  obtain ⟨n, hn2⟩ : ∃ n : Int, (((ss.map D.int).length : Nat) : Int) = n := ⟨_, rfl⟩
  have hn3 : n.toNat = ss.length ∧ 0 ≤ n ∧ n ≤ 100 := by rw [List.length_map] at hn2; omega
  obtain ⟨w4, e⟩ := says_turn (c := c) hl hc hs gs (e1 := some (.int w)) (rgD 0 ss.length) ss.length 0 c none (by omega)
  rw [List.drop_zero, List.drop_zero] at e
  have cm : CMulW 1 w := (show Sm 1 from ⟨by decide, by decide⟩).mul hw
  have len : lenO st[s]? st = .ok (.int n) st := by rw [gs, lenO_lst, hn2]
  unfold m__law_says
  simp! only [len]
  rw [if_pos ⟨by omega, by omega⟩]
  simp! only [hn3.1]
  rw [show ((0 : Nat) : Int) = 0 from rfl] at e
  rw [e]
  simp! only [cm]
  rw [Int.one_mul]
end

section
abbrev Row := List (Int × Int) × Int
abbrev tsD (ts : List (Int × Int)) : D := .tup (ts.map tD)
abbrev rD (r : Row) : D := .tup [tsD r.1, .int r.2]
abbrev rsD (R : List Row) : D := .tup (R.map rD)
def plc (k n : Nat) (a : Nat → Bool) : List Int := (List.range n).map fun j => (k : Int) + 2 * j + (if a j = true then 1 else 0)
def con (L H : List Int) (n : Nat) (a : Nat → Bool) : List Int := (List.range n).map fun j => if a j = true then val L j else val H j
def sg (a : Nat → Bool) (j : Nat) : Int := if a j = true then 1 else -1
def unit (n j : Nat) (s : Int) : List Int := (List.replicate n (0 : Int)).set j s
abbrev fldsT (L H : List Int) (R : List Row) (ts : List (Int × Int)) (p c q : Nat) : List (Str × D) := [("lows", iD L), ("highs", iD H), ("rows", rsD R), ("aim_terms", tsD ts), ("places", .ref p), ("scale", .int 1), ("constants", .ref c), ("coefs", .ref q)]
structure Ta (n m : Nat) (L H : List Int) (R : List Row) (ts : List (Int × Int)) (a : Nat → Bool) (p c q : Nat) (rs : List Nat) (st : Store) : Prop where
  hm : st[m]? = some (.ins "Tableau" (fldsT L H R ts p c q))
  hp : st[p]? = some (.lst ((plc R.length n a).map D.int))
  hc : st[c]? = some (.lst ((con L H n a).map D.int))
  hq : st[q]? = some (.lst (rs.map D.ref))
  hr : ∀ (j r : Nat), rs[j]? = some r → st[r]? = some (.lst ((unit n j (sg a j)).map D.int))
  rl : rs.length = n
  ll : L.length = n
  hl : H.length = n
  n9 : n ≤ 9
  t0 : st[0]? = some .tab
  t1 : st[1]? = some .tab
  sl : ∀ x ∈ L, Sm (10 * x)
  sh : ∀ x ∈ H, Sm (10 * x)
theorem Ta.app {n m : Nat} {L H : List Int} {R : List Row} {ts : List (Int × Int)} {a : Nat → Bool} {p c q : Nat} {rs : List Nat} {st : Store} (T : Ta n m L H R ts a p c q rs st) (E : Store) : Ta n m L H R ts a p c q rs (st ++ E) :=
  ⟨at_app T.hm _, at_app T.hp _, at_app T.hc _, at_app T.hq _, fun j r h => at_app (T.hr j r h) _, T.rl, T.ll, T.hl, T.n9, at_app T.t0 _, at_app T.t1 _, T.sl, T.sh⟩
theorem con_len (L H : List Int) (n : Nat) (a : Nat → Bool) : (con L H n a).length = n := by simp [con]
theorem plc_len (k n : Nat) (a : Nat → Bool) : (plc k n a).length = n := by simp [plc]
theorem unit_len (n j : Nat) (s : Int) : (unit n j s).length = n := by simp [unit]
theorem con_at {L H : List Int} {n : Nat} {a : Nat → Bool} {j : Nat} (h : j < n) : (con L H n a)[j]? = some (if a j = true then val L j else val H j) := by
  unfold con
  rw [List.getElem?_map, List.getElem?_range h]
  rfl
theorem con_sm {n m : Nat} {L H : List Int} {R : List Row} {ts : List (Int × Int)} {a : Nat → Bool} {p c q : Nat} {rs : List Nat} {st : Store} (T : Ta n m L H R ts a p c q rs st) : ∀ x ∈ con L H n a, Sm (10 * x) := fun x mx => by
  obtain ⟨j, hj, rfl⟩ := List.mem_map.mp mx
  have hj := List.mem_range.mp hj
  have v1 : val L j ∈ L := by
    have h : j < L.length := by rw [T.ll]; exact hj
    rw [val_nat (List.getElem?_eq_getElem h)]
    exact List.getElem_mem h
  have v2 : val H j ∈ H := by
    have h : j < H.length := by rw [T.hl]; exact hj
    rw [val_nat (List.getElem?_eq_getElem h)]
    exact List.getElem_mem h
  split
  · exact T.sl _ v1
  · exact T.sh _ v2
theorem unit_sm (n j : Nat) (a : Nat → Bool) : ∀ x ∈ unit n j (sg a j), -1 ≤ x ∧ x ≤ 1 := fun x mx => by
  rcases List.mem_or_eq_of_mem_set mx with h | h
  · rw [List.eq_of_mem_replicate h]; exact ⟨by decide, by decide⟩
  · rw [h]; unfold sg; split <;> exact ⟨by decide, by decide⟩
/-! sums over terms -/
def TI (n : Nat) (us : List (Int × Int)) : Prop := ∀ t ∈ us, In n t.1 ∧ -10000000 ≤ t.2 ∧ t.2 ≤ 10000000
def sumc (C : List Int) : List (Int × Int) → Int
  | [] => 0
  | t :: us => t.2 * val C t.1 + sumc C us
def axpy (c : Int) (xs ys : List Int) : List Int := (xs.zip ys).map fun t => t.1 + c * t.2
def svec (n : Nat) (a : Nat → Bool) (acc : List Int) : List (Int × Int) → List Int
  | [] => acc
  | t :: us => svec n a (axpy t.2 acc (unit n t.1.toNat (sg a t.1.toNat))) us
theorem axpy_len {c : Int} {xs ys : List Int} (h : xs.length = ys.length) : (axpy c xs ys).length = xs.length := by simp [axpy, h]
theorem svec_len {n : Nat} {a : Nat → Bool} : ∀ (us : List (Int × Int)) (acc : List Int), acc.length = n → (svec n a acc us).length = n
  | [], _, h => h
  | t :: us, acc, h => svec_len us _ (by rw [axpy_len (by rw [h, unit_len]), h])
theorem zD2_ints : ∀ (xs ys : List Int), zD2 (xs.map D.int) (ys.map D.int) = (xs.zip ys).map tD
  | [], [] => rfl
  | [], _ :: _ => rfl
  | _ :: _, [] => rfl
  | x :: xs, y :: ys => by
    rw [List.map_cons, List.map_cons, zD2_cons, zD2_ints xs ys]
    rfl
theorem rep_ok {st : Store} {r : Nat} {x : D} {k : Int} {n : Nat} (hr : st[r]? = some (.lst [x])) (hk : k = n) (hn : n ≤ 1000) : gRep (.ref r) (.int k) st = .ok (.ref st.length) (st ++ [.lst (List.replicate n x)]) := by
  show (match st[r]? with | some (O.lst ds) => if -(2 ^ 63) ≤ k ∧ k < 2 ^ 63 ∧ ds.length * k.toNat ≤ sizeLine then Res.ok (D.ref st.length) (st ++ [O.lst (List.replicate k.toNat ds).flatten]) else .bad | _ => .bad) = _
  have z : [x].length * k.toNat ≤ sizeLine := Nat.le_of_lt (lt_big (by simp only [List.length_cons, List.length_nil]; omega))
  rw [hr]
  show (if -(2 ^ 63) ≤ k ∧ k < 2 ^ 63 ∧ [x].length * k.toNat ≤ sizeLine then Res.ok (D.ref st.length) (st ++ [O.lst (List.replicate k.toNat [x]).flatten]) else .bad) = _
  rw [if_pos ⟨by omega, by omega, z⟩, hk, Int.toNat_natCast, List.flatten_replicate_singleton]
noncomputable abbrev BSU : MP.Env → Store → SR := (sSeq (sAsg (eBin gAdd (eVar 2) (eBin gMulW (eVar 5) (eBin MP.gIx (eFld "Tableau" "constants" (eVar 0)) (eVar 4)))) (gN 2))
    (sAsg (eLc (fZip2 (aCons (eVar 3) (aCons (eBin MP.gIx (eFld "Tableau" "coefs" (eVar 0)) (eVar 4)) (aNil)))) [6, 7] (gT 2 (gsCons (gN 6) (gsCons (gN 7) (gsNil)))) (tYesM) (eBin gAdd (eVar 6) (eBin gMulW (eVar 5) (eVar 7)))) (gN 3)))
theorem su_one {n m : Nat} {L H : List Int} {R : List Row} {ts : List (Int × Int)} {a : Nat → Bool} {p c q : Nat} {rs : List Nat} {st : Store} (T : Ta n m L H R ts a p c q rs st) {e1 : Option D} {k : Int} {acc : List Int} (ha : acc.length = n) {r : Nat} (hr : st[r]? = some (.lst (acc.map D.int))) {j x : Int} (hj : In n j) (hx : -10000000 ≤ x ∧ x ≤ 10000000) :
    BSU [some (.ref m), e1, some (.int k), some (.ref r), some (.int j), some (.int x), none, none] st = .next [some (.ref m), e1, some (.int (k + x * val (con L H n a) j)), some (.ref st.length), some (.int j), some (.int x), none, none] (st ++ [.lst ((axpy x acc (unit n j.toNat (sg a j.toNat))).map D.int)]) := by
  have hjn : j.toNat < n := by have := hj.1; have := hj.2; omega
  obtain ⟨rj, hrj⟩ : ∃ rj, rs[j.toNat]? = some rj := ⟨rs[j.toNat]'(by rw [T.rl]; exact hjn), List.getElem?_eq_getElem _⟩
  have hu := T.hr _ _ hrj
  have aq : atI (rs.map D.ref) j = some (.ref rj) := by
    have := at_nat (f := D.ref) hrj
    rwa [Int.toNat_of_nonneg hj.1] at this
  have ac := at_val (ps := con L H n a) hj.1 (by rw [con_len]; exact hj.2)
  have vm : Sm (10 * val (con L H n a) j) := by
    refine con_sm T _ ?_
    have h : j.toNat < (con L H n a).length := by rw [con_len]; exact hjn
    have e := val_nat (List.getElem?_eq_getElem h)
    rw [Int.toNat_of_nonneg hj.1] at e
    rw [e]
    exact List.getElem_mem h
  have sx : Sm x := by unfold Sm; omega
  have cm : CMulW x (val (con L H n a) j) := sx.mul (by unfold Sm at vm ⊢; omega)
  have e2 := lc_all2 (enc := tD) (out := fun t : Int × Int => D.int (t.1 + x * t.2)) (p := fun _ => true) (fi := fZip2 (aCons (eVar 3) (aCons (eBin MP.gIx (eFld "Tableau" "coefs" (eVar 0)) (eVar 4)) (aNil)))) (vs := [6, 7]) (g := gT 2 (gsCons (gN 6) (gsCons (gN 7) (gsNil)))) (c := tYesM) (f := eBin gAdd (eVar 6) (eBin gMulW (eVar 5) (eVar 7))) (src := { items := zD2 (acc.map D.int) ((unit n j.toNat (sg a j.toNat)).map D.int), objs := [(r, acc.map D.int), (rj, (unit n j.toNat (sg a j.toNat)).map D.int)] }) (st := st) (env := [some (.ref m), e1, some (.int (k + x * val (con L H n a) j)), some (.ref r), some (.int j), some (.int x), none, none]) (xs := acc.zip (unit n j.toNat (sg a j.toNat))) (by
    simp! only [fzip2_def, T.hm, T.hq, aq, zs2_def, hr, hu, zk2_some, watch_some]) (zD2_ints _ _) (fun o => ok_of fun w hw => by
    rcases List.mem_cons.mp hw with rfl | hw
    · exact at_app hr _
    · rw [List.mem_singleton.mp hw]
      exact at_app hu _) (by rw [List.length_zip, ha, unit_len]; have := T.n9; omega) (fun t mt o => ⟨[some (.ref m), e1, some (.int (k + x * val (con L H n a) j)), some (.ref r), some (.int j), some (.int x), some (.int t.1), some (.int t.2)], rfl, rfl, fun _ => by
    have hb := unit_sm n j.toNat a t.2 (List.of_mem_zip mt).2
    have cm2 : CMulW x t.2 := sx.mul (by unfold Sm; omega)
    simp! only [cm2]⟩)
  rw [filter_true] at e2
  refine sq (env1 := [some (.ref m), e1, some (.int (k + x * val (con L H n a) j)), some (.ref r), some (.int j), some (.int x), none, none]) (st1 := st) (by simp! only [T.hm, T.hc, ac, cm]) ?_
  refine (asg_n e2).trans ?_
  unfold axpy
  rw [List.map_map]
  rfl
theorem su_turn {n m : Nat} {L H : List Int} {R : List Row} {ts : List (Int × Int)} {a : Nat → Bool} {p c q : Nat} {rs : List Nat} {e1 : Option D} (ds : List D) : ∀ (us : List (Int × Int)) (st : Store) (k : Int) (acc : List Int) (r : Nat) (v4 v5 : Option D), Ta n m L H R ts a p c q rs st → TI n us → acc.length = n → st[r]? = some (.lst (acc.map D.int)) →
    ∃ (r' : Nat) (w4 w5 : Option D) (E : Store), MP.forM { items := ds } (gT 2 (gsCons (gN 4) (gsCons (gN 5) (gsNil)))) BSU (us.map tD) [some (.ref m), e1, some (.int k), some (.ref r), v4, v5, none, none] st = .next [some (.ref m), e1, some (.int (k + sumc (con L H n a) us)), some (.ref r'), w4, w5, none, none] (st ++ E) ∧ (st ++ E)[r']? = some (.lst ((svec n a acc us).map D.int))
  | [], st, k, acc, r, v4, v5, T, _, ha, hr => ⟨r, v4, v5, [], by rw [List.map_nil, for_nil _ _ _ _ _ (ok_vals ds st), List.append_nil]; show _ = SR.next [_, _, some (.int (k + 0)), _, _, _, _, _] _; rw [Int.add_zero], by rw [List.append_nil]; exact hr⟩
  | (j, x) :: us, st, k, acc, r, v4, v5, T, ti, ha, hr => by
    have h := ti (j, x) List.mem_cons_self
    have e := su_one T ha hr h.1 h.2 (e1 := e1) (k := k)
    obtain ⟨r', w4, w5, E, ih, hr'⟩ := su_turn ds us _ (k + x * val (con L H n a) j) (axpy x acc (unit n j.toNat (sg a j.toNat))) st.length (some (.int j)) (some (.int x)) (T.app [.lst ((axpy x acc (unit n j.toNat (sg a j.toNat))).map D.int)]) (fun t m => ti t (List.mem_cons_of_mem _ m)) (by rw [axpy_len (by rw [ha, unit_len]), ha]) (get_last _ _) (e1 := e1)
    refine ⟨r', w4, w5, [.lst ((axpy x acc (unit n j.toNat (sg a j.toNat))).map D.int)] ++ E, ?_, by rw [← List.append_assoc]; exact hr'⟩
    rw [List.map_cons, for_cons _ _ _ _ _ _ _ (ok_vals ds st)]
    show loopK (BSU [some (.ref m), e1, some (.int k), some (.ref r), some (.int j), some (.int x), none, none] st) _ = _
    rw [e, ← List.append_assoc]
    show MP.forM _ _ _ _ _ _ = SR.next [_, _, some (.int (k + (x * val (con L H n a) j + sumc (con L H n a) us))), _, _, _, _, _] _
    rw [← Int.add_assoc]
    exact ih
theorem summed_ok {n m : Nat} {L H : List Int} {R : List Row} {ts : List (Int × Int)} {a : Nat → Bool} {p c q : Nat} {rs : List Nat} {st : Store} (T : Ta n m L H R ts a p c q rs st) {us : List (Int × Int)} (ti : TI n us) :
    ∃ (r : Nat) (E : Store), m_Tableau_summed [.ref m, tsD us] st = .ok (.tup [.int (sumc (con L H n a) us), .ref r]) (st ++ E) ∧ (st ++ E)[r]? = some (.lst ((svec n a (List.replicate n 0) us).map D.int)) := by
  obtain ⟨S, hS⟩ : ∃ S, st ++ [O.lst [.int 0], .lst ((List.replicate n (0 : Int)).map D.int)] = S := ⟨_, rfl⟩
  have TS : Ta n m L H R ts a p c q rs S := by rw [← hS]; exact T.app _
  obtain ⟨r, w4, w5, E, e, hr⟩ := su_turn (e1 := some (tsD us)) (us.map tD) us S 0 (List.replicate n 0) (st.length + 1) none none TS ti (by simp) (by rw [← hS]; exact at_h1 _ _ _ _)
  rw [Int.zero_add] at e
  refine ⟨r, [O.lst [.int 0], .lst ((List.replicate n (0 : Int)).map D.int)] ++ E, ?_, by rw [← List.append_assoc, hS]; exact hr⟩
  obtain ⟨k, hk⟩ : ∃ k : Int, ((plc R.length n a).map D.int).length = k := ⟨_, rfl⟩
  have hk2 : k = n := by rw [← hk, List.length_map, plc_len]
  have len : ∀ E, lenO (st ++ E)[p]? (st ++ E) = .ok (.int k) (st ++ E) := fun E => by rw [at_app T.hp, lenO_lst, hk]
  have hm2 : ∀ E, (st ++ E)[m]? = some (.ins "Tableau" (fldsT L H R ts p c q)) := fun E => at_app T.hm _
  have er : gRep (.ref st.length) (.int k) (st ++ [.lst [.int 0]]) = .ok (.ref (st.length + 1)) S := by
    have h9 := T.n9
    rw [rep_ok (get_last _ _) hk2 (by omega), ← hS]
    simp
  rw [← List.append_assoc, hS]
  unfold m_Tableau_summed
  simp! only [len, hm2]
  rw [er]
  simp! only []
  rw [e]
  simp! only []
/-! which inequality -/
def iq (R : List Row) (L H : List Int) (q : Int) : Row :=
  if q < R.length then R.getD q.toNat ([], 0) else if (q - R.length) % 2 = 0 then ([((q - R.length) / 2, 1)], val H ((q - R.length) / 2)) else ([((q - R.length) / 2, -1)], -val L ((q - R.length) / 2))
theorem at_row {R : List Row} {q : Int} (h0 : 0 ≤ q) (h1 : q < R.length) : atI (R.map rD) q = some (rD (R.getD q.toNat ([], 0))) := by
  have h : q.toNat < R.length := by omega
  have := at_nat (f := rD) (List.getElem?_eq_getElem h)
  rw [Int.toNat_of_nonneg h0] at this
  rw [this, List.getD_eq_getElem?_getD, List.getElem?_eq_getElem h]
  rfl
theorem dvm_ok (i : Int) (st : Store) : gDvm [.int i, .int 2] st = .ok (.tup [.int (i / 2), .int (i % 2)]) st := by
  show (if CDiv i 2 then Res.ok (D.tup [.int (i / 2), .int (i % 2)]) st else .bad) = _
  exact if_pos (show (0 : Int) < 2 ∧ (2 : Int) < 1073741824 from by decide)
theorem ineq_ok {R : List Row} {L H : List Int} {n : Nat} (hL : L.length = n) (hH : H.length = n) {q : Int} (h0 : 0 ≤ q) (h1 : q < R.length + 2 * n) (st : Store) : m_inequality_of [iD L, iD H, rsD R, .int q] st = .ok (rD (iq R L H q)) st := by
  obtain ⟨k, hk⟩ : ∃ k : Int, ((R.map rD).length : Int) = k := ⟨_, rfl⟩
  have hk2 : (R.length : Int) = k := by rw [← hk, List.length_map]
  unfold iq
  rw [hk2]
  by_cases hq : q < k
  · rw [if_pos hq]
    have a1 := at_row h0 (by omega : q < R.length)
    unfold m_inequality_of
    simp! only [hk, hq, a1]
  · rw [if_neg hq]
    have hj : 0 ≤ (q - k) / 2 ∧ (q - k) / 2 < n := by omega
    have a1 := at_val (ps := H) hj.1 (by rw [hH]; exact hj.2)
    have a2 := at_val (ps := L) hj.1 (by rw [hL]; exact hj.2)
    have e := dvm_ok (q - k) st
    unfold m_inequality_of
    by_cases hz : (q - k) % 2 = 0
    · rw [if_pos hz]
      simp! only [hk, hq, e, hz, a1]
      rfl
    · rw [if_neg hz]
      simp! only [hk, hq, e, hz, a2]
      rfl
theorem lineq_ok {R : List Row} {L H : List Int} {n : Nat} (hL : L.length = n) (hH : H.length = n) {x : D} {g : Nat} {st : Store} (hg : st[g]? = some (.lst [iD L, iD H, rsD R, x])) {q : Int} (h0 : 0 ≤ q) (h1 : q < R.length + 2 * n) : m__law_inequality [.ref g, .int q] st = .ok (rD (iq R L H q)) st := by
  obtain ⟨k, hk⟩ : ∃ k : Int, ((R.map rD).length : Int) = k := ⟨_, rfl⟩
  have hk2 : (R.length : Int) = k := by rw [← hk, List.length_map]
  unfold iq
  rw [hk2]
  by_cases hq : q < k
  · rw [if_pos hq]
    have a1 := at_row h0 (by omega : q < R.length)
    unfold m__law_inequality
    simp! only [hg, hk, hq, a1]
  · rw [if_neg hq]
    have hj : 0 ≤ (q - k) / 2 ∧ (q - k) / 2 < n := by omega
    have a1 := at_val (ps := H) hj.1 (by rw [hH]; exact hj.2)
    have a2 := at_val (ps := L) hj.1 (by rw [hL]; exact hj.2)
    have cd : CDivA (q - k) 2 := show (2 : Int) ≠ 0 ∧ (Int.natAbs 2).log2 < 9000 from by decide
    have f1 : (q - k).fdiv 2 = (q - k) / 2 := Int.fdiv_eq_ediv_of_nonneg _ (by decide)
    have f2 : (q - k).fmod 2 = (q - k) % 2 := Int.fmod_eq_emod_of_nonneg _ (by decide)
    unfold m__law_inequality
    by_cases hz : (q - k) % 2 = 0
    · rw [if_pos hz]
      simp! only [hg, hk, hq, cd, f1, f2, hz, a1]
      rfl
    · rw [if_neg hz]
      simp! only [hg, hk, hq, cd, f1, f2, hz, a2]
      rfl
/-! slacks -/
theorem slack_ok {n m : Nat} {L H : List Int} {R : List Row} {ts : List (Int × Int)} {a : Nat → Bool} {p c q : Nat} {rs : List Nat} {st : Store} (T : Ta n m L H R ts a p c q rs st) {i : Int} (h0 : 0 ≤ i) (h1 : i < R.length + 2 * n) (ti : TI n (iq R L H i).1) (hs : Sm (iq R L H i).2) :
    ∃ (r : Nat) (E : Store), m_Tableau_slack [.ref m, .int i] st = .ok (.tup [.int ((iq R L H i).2 - sumc (con L H n a) (iq R L H i).1), .ref r]) (st ++ E) ∧ (st ++ E)[r]? = some (.lst (((svec n a (List.replicate n 0) (iq R L H i).1).map fun x => -x).map D.int)) := by
  have e1 := ineq_ok T.ll T.hl h0 h1 st
  obtain ⟨r, E, e2, hr⟩ := summed_ok T ti
  obtain ⟨rw1, hrw⟩ : ∃ w, iq R L H i = w := ⟨_, rfl⟩
  rw [hrw] at e1 e2 hr hs ⊢
  obtain ⟨us, w⟩ := rw1
  simp only at hs e2 hr ⊢
  obtain ⟨S, hS⟩ : ∃ S, st ++ E = S := ⟨_, rfl⟩
  rw [hS] at e2 hr
  have hm2 : S[m]? = some (.ins "Tableau" (fldsT L H R ts p c q)) := by rw [← hS]; exact at_app T.hm _
  have hl := svec_len (n := n) (a := a) us (List.replicate n 0) (by simp)
  obtain ⟨v, hv⟩ : ∃ v, svec n a (List.replicate n 0) us = v := ⟨_, rfl⟩
  rw [hv] at hr hl
  have cm : CMulW 1 w := (show Sm 1 from ⟨by decide, by decide⟩).mul hs
  have e3 := lc_all2 (enc := D.int) (out := fun x : Int => D.int (-x)) (p := fun _ => true) (fi := fSeq (eVar 5)) (vs := [6]) (g := gN 6) (c := tYesM) (f := eUn gNeg (eVar 6)) (src := { items := v.map D.int, obj := some r }) (st := S) (env := [some (.ref m), some (.int i), some (tsD us), some (.int w), some (.int (sumc (con L H n a) us)), some (.ref r), none]) (xs := v) (by simp! only [hr]) rfl (fun o => at_app hr _) (by rw [hl]; have := T.n9; omega) (fun x _ o => ⟨[some (.ref m), some (.int i), some (tsD us), some (.int w), some (.int (sumc (con L H n a) us)), some (.ref r), some (.int x)], rfl, rfl, fun _ => rfl⟩)
  rw [filter_true] at e3
  refine ⟨S.length, E ++ [.lst ((v.map fun x => -x).map D.int)], ?_, by rw [← List.append_assoc, hS, hv]; exact get_last _ _⟩
  rw [← List.append_assoc, hS]
  have hmap : v.map (fun x => D.int (-x)) = (v.map fun x => -x).map D.int := by rw [List.map_map]; rfl
  rw [hmap] at e3
  unfold m_Tableau_slack
  rw [bd_d]
  show endB (sSeq _ _ [some (.ref m), some (.int i), none, none, none, none, none] st) = _
  rw [sq (env1 := [some (.ref m), some (.int i), some (tsD us), some (.int w), none, none, none]) (st1 := st) (by simp! only [T.hm, e1]) rfl]
  rw [sq (env1 := [some (.ref m), some (.int i), some (tsD us), some (.int w), some (.int (sumc (con L H n a) us)), some (.ref r), none]) (st1 := S) (by simp! only [T.hm, e2]) rfl]
  rw [ret_d, tup_d, consA_d, bin_d]
  have ea : eBin gMulW (eFld "Tableau" "scale" (eVar 0)) (eVar 3) [some (.ref m), some (.int i), some (tsD us), some (.int w), some (.int (sumc (con L H n a) us)), some (.ref r), none] S = .ok (.int w) S := by
    simp! only [hm2, cm]
    rw [Int.one_mul]
  rw [ea, bR]
  show endB (bindS _ (bindR (bindR (Res.ok (D.int (w - sumc (con L H n a) us)) S) _) _) _) = _
  rw [bR, consA_d, e3, bR, nilA_d, bR, bR, bR, if_pos (Nat.le_of_lt (lt_big (by simp)))]
  rfl
end

section
/-! what the numbers say -/
theorem dot_axpy (c : Int) : ∀ (xs ys ss : List Int), xs.length = ys.length → ys.length = ss.length → dot (axpy c xs ys) ss = dot xs ss + c * dot ys ss
  | [], [], [], _, _ => by simp [axpy, dot]
  | x :: xs, y :: ys, s :: ss, h, h' => by
    have ih := dot_axpy c xs ys ss (by simpa using h) (by simpa using h')
    show (x + c * y) * s + dot (axpy c xs ys) ss = (x * s + dot xs ss) + c * (y * s + dot ys ss)
    rw [ih]
    grind
theorem dot_zero : ∀ (n : Nat) (ss : List Int), dot (List.replicate n 0) ss = 0
  | 0, _ => rfl
  | n + 1, [] => rfl
  | n + 1, s :: ss => by
    show 0 * s + dot (List.replicate n 0) ss = 0
    rw [dot_zero n ss, Int.zero_mul, Int.add_zero]
theorem dot_unit : ∀ (n j : Nat) (x : Int) (ss : List Int), j < n → ss.length = n → dot (unit n j x) ss = x * val ss j
  | n + 1, 0, x, s :: ss, _, _ => by
    show x * s + dot (List.replicate n 0) ss = x * s
    rw [dot_zero, Int.add_zero]
  | n + 1, j + 1, x, s :: ss, h, h' => by
    have ih := dot_unit n j x ss (by omega) (by simpa using h')
    show 0 * s + dot (unit n j x) ss = _
    rw [ih, Int.zero_mul, Int.zero_add]
    rfl
theorem dot_svec {n : Nat} {a : Nat → Bool} {ss pt C : List Int} (hs : ss.length = n) (tie : ∀ j : Nat, j < n → val pt j = val C j + sg a j * val ss j) : ∀ (us : List (Int × Int)) (acc : List Int), acc.length = n → TI n us → sumc C us + dot (svec n a acc us) ss = dot acc ss + sumc pt us
  | [], acc, _, _ => by
    show 0 + dot acc ss = dot acc ss + 0
    omega
  | (j, c) :: us, acc, ha, ti => by
    have hj := (ti (j, c) List.mem_cons_self).1
    have hjn : j.toNat < n := by have := hj.1; have := hj.2; omega
    have ih := dot_svec hs tie us (axpy c acc (unit n j.toNat (sg a j.toNat))) (by rw [axpy_len (by rw [ha, unit_len]), ha]) (fun t m => ti t (List.mem_cons_of_mem _ m))
    rw [dot_axpy c _ _ _ (by rw [ha, unit_len]) (by rw [unit_len, hs]), dot_unit _ _ _ _ hjn hs] at ih
    have ht := tie j.toNat hjn
    rw [Int.toNat_of_nonneg hj.1] at ht ih
    show c * val C j + sumc C us + dot (svec n a (axpy c acc (unit n j.toNat (sg a j.toNat))) us) ss = dot acc ss + (c * val pt j + sumc pt us)
    rw [ht]
    grind
theorem dot_neg : ∀ (xs ss : List Int), dot (xs.map fun x => -x) ss = -dot xs ss
  | [], _ => rfl
  | x :: xs, [] => rfl
  | x :: xs, s :: ss => by
    show -x * s + dot (xs.map fun x => -x) ss = -(x * s + dot xs ss)
    rw [dot_neg xs ss]
    grind
/-! how large -/
theorem mb {i j : Int} {A B : Nat} (h : i.natAbs ≤ A) (k : j.natAbs ≤ B) : (i * j).natAbs ≤ A * B := by
  rw [Int.natAbs_mul]
  exact Nat.mul_le_mul h k
theorem svec_sm {n : Nat} {a : Nat → Bool} {C : Nat} (us : List (Int × Int)) : ∀ (acc : List Int) (B : Nat), (∀ t ∈ us, t.2.natAbs ≤ C) → (∀ x ∈ acc, x.natAbs ≤ B) → ∀ x ∈ svec n a acc us, x.natAbs ≤ B + us.length * C := by
  induction us with
  | nil => exact fun acc B _ h x m => Nat.le_trans (h x m) (Nat.le_add_right _ _)
  | cons t us ih =>
    intro acc B ti h x m
    have hc := ti t List.mem_cons_self
    have i2 := ih (axpy t.2 acc (unit n t.1.toNat (sg a t.1.toNat))) (B + C) (fun t m => ti t (List.mem_cons_of_mem _ m)) (fun y my => by
      obtain ⟨w, mt, rfl⟩ := List.mem_map.mp my
      obtain ⟨m1, m2⟩ := List.of_mem_zip mt
      have b1 := h _ m1
      have b2 := unit_sm n t.1.toNat a _ m2
      have b3 := mb (i := t.2) (j := w.2) (A := C) (B := 1) hc (by omega)
      rw [Nat.mul_one] at b3
      omega) x m
    rw [List.length_cons, Nat.succ_mul]
    omega
theorem sumc_sm {n : Nat} {pt : List Int} {A B : Nat} (hp : pt.length = n) (hb : ∀ x ∈ pt, x.natAbs ≤ B) (us : List (Int × Int)) : (∀ t ∈ us, In n t.1 ∧ t.2.natAbs ≤ A) → (sumc pt us).natAbs ≤ us.length * (A * B) := by
  induction us with
  | nil => exact fun _ => Nat.zero_le _
  | cons t us ih =>
    intro ti
    have hc := ti t List.mem_cons_self
    have i2 := ih fun t m => ti t (List.mem_cons_of_mem _ m)
    have hv : (val pt t.1).natAbs ≤ B := by
      have h : t.1.toNat < pt.length := by have := hc.1.1; have := hc.1.2; omega
      have e := val_nat (List.getElem?_eq_getElem h)
      rw [Int.toNat_of_nonneg hc.1.1] at e
      rw [e]
      exact hb _ (List.getElem_mem h)
    have b3 := mb hc.2 hv
    rw [List.length_cons, Nat.succ_mul]
    show (t.2 * val pt t.1 + sumc pt us).natAbs ≤ _
    omega
/-! the equations -/
theorem aim_eq_ok {n m : Nat} {L H : List Int} {R : List Row} {ts : List (Int × Int)} {a : Nat → Bool} {p c q : Nat} {rs : List Nat} {st : Store} (T : Ta n m L H R ts a p c q rs st) (ti : TI n ts) :
    ∃ E, m_Tableau_aim_equation [.ref m] st = .ok (eqD (sumc (con L H n a) ts) (svec n a (List.replicate n 0) ts)) (st ++ E) := by
  obtain ⟨r, E, e, hr⟩ := summed_ok T ti
  have hl := svec_len (n := n) (a := a) ts (List.replicate n 0) (by simp)
  have el := lowest_ok (c := sumc (con L H n a) ts) hr (at_app T.t0 _) (by rw [hl]; have := T.n9; omega)
  have hm2 : (st ++ E)[m]? = some (.ins "Tableau" (fldsT L H R ts p c q)) := at_app T.hm _
  refine ⟨E, ?_⟩
  unfold m_Tableau_aim_equation
  simp! only [T.hm, e, hm2, el]
theorem col_eq_ok {n m : Nat} {L H : List Int} {R : List Row} {ts : List (Int × Int)} {a : Nat → Bool} {p c q : Nat} {rs : List Nat} {st : Store} (T : Ta n m L H R ts a p c q rs st) {j : Nat} (hj : j < n) :
    m_Tableau_column_equation [.ref m, .int (j : Nat)] st = .ok (eqD (val (con L H n a) j) (unit n j (sg a j))) st := by
  obtain ⟨rj, hrj⟩ : ∃ rj, rs[j]? = some rj := ⟨rs[j]'(by rw [T.rl]; exact hj), List.getElem?_eq_getElem _⟩
  have aq : atI (rs.map D.ref) (j : Nat) = some (.ref rj) := at_nat (f := D.ref) hrj
  have ac := at_val (ps := con L H n a) (v := (j : Nat)) (by omega) (by rw [con_len]; omega)
  have el := lowest_ok (c := val (con L H n a) j) (T.hr _ _ hrj) T.t0 (by rw [unit_len]; have := T.n9; omega)
  unfold m_Tableau_column_equation
  simp! only [T.hm, T.hc, T.hq, ac, aq, el]
theorem slk_eq_ok {n m : Nat} {L H : List Int} {R : List Row} {ts : List (Int × Int)} {a : Nat → Bool} {p c q : Nat} {rs : List Nat} {st : Store} (T : Ta n m L H R ts a p c q rs st) {i : Int} (h0 : 0 ≤ i) (h1 : i < R.length + 2 * n) (ti : TI n (iq R L H i).1) (hs : Sm (iq R L H i).2) :
    ∃ E, m_Tableau_slack_equation [.ref m, .int i] st = .ok (eqD ((iq R L H i).2 - sumc (con L H n a) (iq R L H i).1) ((svec n a (List.replicate n 0) (iq R L H i).1).map fun x => -x)) (st ++ E) := by
  obtain ⟨r, E, e, hr⟩ := slack_ok T h0 h1 ti hs
  have hl := svec_len (n := n) (a := a) (iq R L H i).1 (List.replicate n 0) (by simp)
  have el := lowest_ok (c := (iq R L H i).2 - sumc (con L H n a) (iq R L H i).1) hr (at_app T.t0 _) (by rw [List.length_map, hl]; have := T.n9; omega)
  have hm2 : (st ++ E)[m]? = some (.ins "Tableau" (fldsT L H R ts p c q)) := at_app T.hm _
  refine ⟨E, ?_⟩
  unfold m_Tableau_slack_equation
  simp! only [T.hm, e, hm2, el]
theorem free_ok {n m : Nat} {L H : List Int} {R : List Row} {ts : List (Int × Int)} {a : Nat → Bool} {p c q : Nat} {rs : List Nat} {st : Store} (T : Ta n m L H R ts a p c q rs st) : m_Tableau_free [.ref m] st = .ok (iD (plc R.length n a)) st := by
  unfold m_Tableau_free
  simp! only [T.hm, T.hp]
theorem ratio_ok (x : Int) (st : Store) : m_ratio [.int x, .int 1] st = .ok (.tup [.int x, .int 1]) st := by
  have g : Nat.gcd x.natAbs (Int.natAbs 1) = 1 := Nat.gcd_one_right _
  have cd : CDivA x 1 := show (1 : Int) ≠ 0 ∧ (Int.natAbs 1).log2 < 9000 from by decide
  have cd1 : CDivA 1 1 := show (1 : Int) ≠ 0 ∧ (Int.natAbs 1).log2 < 9000 from by decide
  unfold m_ratio
  simp! only [g]
  rw [show ((1 : Nat) : Int) = 1 from rfl]
  simp! only [cd, cd1, Int.fdiv_one]
theorem corner_ok {n m : Nat} {L H : List Int} {R : List Row} {ts : List (Int × Int)} {a : Nat → Bool} {p c q : Nat} {rs : List Nat} {st : Store} (T : Ta n m L H R ts a p c q rs st) : m_Tableau_corner [.ref m] st = .ok (.tup ((con L H n a).map fun x => .tup [.int x, .int 1])) st := by
  have eg := gen_src (enc := D.int) (out := fun x => D.tup [.int x, .int 1]) (g := gN 1) (f := eDef 2 m_ratio (aCons (eVar 1) (aCons (eFld "Tableau" "scale" (eVar 0)) (aNil)))) (env := [some (.ref m), none]) (show Src.Ok { items := (con L H n a).map D.int, obj := some c } st from T.hc) (XS := con L H n a) (fun x _ => ⟨[some (.ref m), some (.int x)], rfl, by
    have e := ratio_ok x st
    simp! only [T.hm, e]⟩) (con L H n a) [] (fun _ m => m) (by rw [con_len]; have := T.n9; simp only [List.length_nil]; omega)
  rw [List.nil_append] at eg
  unfold m_Tableau_corner
  simp! only [T.hm, T.hc, T.t1, eg]
/-! the law's sums -/
noncomputable abbrev BLS : MP.Env → Store → SR := (sAsg (eBin gAdd (eVar 2) (eBin gMulW (eVar 4) (eBin MP.gIx (eVar 1) (eVar 3)))) (gN 2))
theorem ls_turn {n : Nat} {pt : List Int} (hp : pt.length = n) (hb : ∀ x ∈ pt, x.natAbs ≤ 1000000000) {e0 : Option D} {st : Store} (ds : List D) : ∀ (us : List (Int × Int)) (k : Int) (v3 v4 : Option D), TI n us → ∃ w3 w4, MP.forM { items := ds } (gT 2 (gsCons (gN 3) (gsCons (gN 4) (gsNil)))) BLS (us.map tD) [e0, some (iD pt), some (.int k), v3, v4] st = .next [e0, some (iD pt), some (.int (k + sumc pt us)), w3, w4] st
  | [], k, v3, v4, _ => ⟨v3, v4, by rw [List.map_nil, for_nil _ _ _ _ _ (ok_vals ds st)]; show _ = SR.next [_, _, some (.int (k + 0)), _, _] _; rw [Int.add_zero]⟩
  | (j, c) :: us, k, v3, v4, ti => by
    have hc := ti (j, c) List.mem_cons_self
    have hj := hc.1
    obtain ⟨w3, w4, ih⟩ := ls_turn hp hb ds us (k + c * val pt j) (some (.int j)) (some (.int c)) (fun t m => ti t (List.mem_cons_of_mem _ m)) (e0 := e0) (st := st)
    have a0 := at_val (ps := pt) hj.1 (by rw [hp]; exact hj.2)
    have hv : (val pt j).natAbs ≤ 1000000000 := by
      have h : j.toNat < pt.length := by have := hj.1; have := hj.2; simp only at *; omega
      have e := val_nat (List.getElem?_eq_getElem h)
      rw [Int.toNat_of_nonneg hj.1] at e
      rw [e]
      exact hb _ (List.getElem_mem h)
    have cm : CMulW c (val pt j) := Sm.mul (by have := hc.2; simp only at this; unfold Sm; omega) (by unfold Sm; omega)
    refine ⟨w3, w4, ?_⟩
    simp only at a0
    rw [List.map_cons, for_cons _ _ _ _ _ _ _ (ok_vals ds st)]
    simp! only [a0, cm]
    rw [ih]
    show SR.next [_, _, some (.int (k + c * val pt j + sumc pt us)), _, _] _ = SR.next [_, _, some (.int (k + (c * val pt j + sumc pt us))), _, _] _
    rw [Int.add_assoc]
theorem lsum_ok {n : Nat} {pt : List Int} (hp : pt.length = n) (hb : ∀ x ∈ pt, x.natAbs ≤ 1000000000) {us : List (Int × Int)} (ti : TI n us) (st : Store) : m__law_sum [tsD us, iD pt] st = .ok (.int (sumc pt us)) st := by
  obtain ⟨w3, w4, e⟩ := ls_turn hp hb (us.map tD) us 0 none none ti (e0 := some (tsD us)) (st := st)
  rw [Int.zero_add] at e
  unfold m__law_sum
  simp! only []
  rw [e]
  simp! only []
theorem lslack_ok {n : Nat} {R : List Row} {L H : List Int} (hL : L.length = n) (hH : H.length = n) {x : D} {g : Nat} {st : Store} (hg : st[g]? = some (.lst [iD L, iD H, rsD R, x])) {q : Int} (h0 : 0 ≤ q) (h1 : q < R.length + 2 * n) {pt : List Int} (hp : pt.length = n) (hb : ∀ x ∈ pt, x.natAbs ≤ 1000000000) (ti : TI n (iq R L H q).1) : m__law_slack [.ref g, .int q, iD pt] st = .ok (.int ((iq R L H q).2 - sumc pt (iq R L H q).1)) st := by
  have e1 := lineq_ok hL hH hg h0 h1
  have e2 := lsum_ok hp hb ti st
  obtain ⟨w, hw⟩ : ∃ w, iq R L H q = w := ⟨_, rfl⟩
  rw [hw] at e1 e2 ⊢
  obtain ⟨us, b⟩ := w
  simp only at e1 e2 ⊢
  unfold m__law_slack
  simp! only [e1]
  simp! only [e2]
end

section
/-- a program and a point -/
structure Pr (n : Nat) (R : List Row) (L H : List Int) (ts : List (Int × Int)) (pt : List Int) : Prop where
  n9 : n ≤ 9
  ll : L.length = n
  hl : H.length = n
  pl : pt.length = n
  pb : ∀ x ∈ pt, x.natAbs ≤ 1000000000
  lb : ∀ x ∈ L, x.natAbs ≤ 1000000000
  hb : ∀ x ∈ H, x.natAbs ≤ 1000000000
  ti : TI n ts
  tl : ts.length ≤ 9
  ri : ∀ r ∈ R, TI n r.1 ∧ r.1.length ≤ 9 ∧ r.2.natAbs ≤ 100000000000000000
  rl : R.length ≤ 20
theorem val_mem {ps : List Int} {j : Int} (h0 : 0 ≤ j) (h1 : j < ps.length) : val ps j ∈ ps := by
  have h : j.toNat < ps.length := by omega
  have e := val_nat (List.getElem?_eq_getElem h)
  rw [Int.toNat_of_nonneg h0] at e
  rw [e]
  exact List.getElem_mem h
theorem TI.nat {n : Nat} {us : List (Int × Int)} (h : TI n us) : ∀ t ∈ us, In n t.1 ∧ t.2.natAbs ≤ 10000000 := fun t m => ⟨(h t m).1, by have := (h t m).2; omega⟩
theorem pr_iq {n : Nat} {R : List Row} {L H : List Int} {ts : List (Int × Int)} {pt : List Int} (P : Pr n R L H ts pt) {i : Int} (h0 : 0 ≤ i) (h1 : i < R.length + 2 * n) : TI n (iq R L H i).1 ∧ (iq R L H i).1.length ≤ 9 ∧ (iq R L H i).2.natAbs ≤ 100000000000000000 := by
  unfold T.iq
  split
  · rename_i hq
    have h : i.toNat < R.length := by omega
    rw [List.getD_eq_getElem?_getD, List.getElem?_eq_getElem h]
    exact P.ri _ (List.getElem_mem h)
  · have hj : 0 ≤ (i - R.length) / 2 ∧ (i - R.length) / 2 < n := by omega
    split
    · refine ⟨fun t m => ?_, Nat.le_of_ble_eq_true rfl, ?_⟩
      · rw [List.mem_singleton.mp m]
        exact ⟨hj, by show (-10000000 : Int) ≤ _; simp only []; decide, by simp only []; decide⟩
      · have := P.hb _ (val_mem hj.1 (by rw [P.hl]; exact hj.2))
        show (val H _).natAbs ≤ _
        omega
    · refine ⟨fun t m => ?_, Nat.le_of_ble_eq_true rfl, ?_⟩
      · rw [List.mem_singleton.mp m]
        exact ⟨hj, by show (-10000000 : Int) ≤ _; simp only []; decide, by simp only []; decide⟩
      · have := P.lb _ (val_mem hj.1 (by rw [P.ll]; exact hj.2))
        show (-val L _).natAbs ≤ _
        omega
def slk (R : List Row) (L H pt : List Int) (q : Int) : Int := (iq R L H q).2 - sumc pt (iq R L H q).1
theorem pr_slk {n : Nat} {R : List Row} {L H : List Int} {ts : List (Int × Int)} {pt : List Int} (P : Pr n R L H ts pt) {i : Int} (h0 : 0 ≤ i) (h1 : i < R.length + 2 * n) : Sm (slk R L H pt i) := by
  have h := pr_iq P h0 h1
  have s := sumc_sm P.pl P.pb (iq R L H i).1 h.1.nat
  have h3 : (iq R L H i).1.length * (10000000 * 1000000000) ≤ 9 * (10000000 * 1000000000) := Nat.mul_le_mul_right _ h.2.1
  have h4 := h.2.2
  unfold T.slk Sm
  omega
theorem slk_pl {n : Nat} {R : List Row} {L H pt : List Int} (a : Nat → Bool) {j : Nat} (hj : j < n) : val (con L H n a) j + sg a j * slk R L H pt ((R.length : Int) + 2 * j + (if a j = true then 1 else 0)) = val pt j := by
  rw [val_nat (con_at hj)]
  unfold slk T.iq sg
  cases a j with
  | true =>
    simp only [if_true]
    rw [if_neg (by omega), if_neg (by omega)]
    show val L j + 1 * (-val L (((R.length : Int) + 2 * j + 1 - R.length) / 2) - ((-1) * val pt (((R.length : Int) + 2 * j + 1 - R.length) / 2) + 0)) = _
    rw [show ((R.length : Int) + 2 * j + 1 - R.length) / 2 = j by omega]
    omega
  | false =>
    rw [if_neg Bool.false_ne_true, if_neg Bool.false_ne_true, if_neg Bool.false_ne_true, if_neg (by omega), if_pos (by omega)]
    show val H j + (-1) * (val H (((R.length : Int) + 2 * j + 0 - R.length) / 2) - (1 * val pt (((R.length : Int) + 2 * j + 0 - R.length) / 2) + 0)) = _
    rw [show ((R.length : Int) + 2 * j + 0 - R.length) / 2 = j by omega]
    omega
theorem eq_ints (xs : List Int) (st : Store) : gEq true (iD xs) (iD xs) st = .ok (.bl false) st := by
  rw [iD, ← ofPs_ints]
  exact eq_tt (pln_ints xs) (Nat.le_trans (dep_ints xs) (by decide))
/-- the tableau, the program, the places and the slacks in a store -/
structure Ag (n m : Nat) (L H : List Int) (R : List Row) (ts : List (Int × Int)) (a : Nat → Bool) (p c q : Nat) (rs : List Nat) (pt : List Int) (g s : Nat) (ss : List Int) (st : Store) : Prop where
  T : Ta n m L H R ts a p c q rs st
  P : Pr n R L H ts pt
  hg : st[g]? = some (.lst [iD L, iD H, rsD R, tsD ts])
  hs : st[s]? = some (.lst (ss.map D.int))
  sl : ss.length = n
  sb : ∀ x ∈ ss, Sm x
  tie : ∀ j : Nat, j < n → val pt j = val (con L H n a) j + sg a j * val ss j
theorem Ag.app {n m : Nat} {L H : List Int} {R : List Row} {ts : List (Int × Int)} {a : Nat → Bool} {p c q : Nat} {rs : List Nat} {pt : List Int} {g s : Nat} {ss : List Int} {st : Store} (A : Ag n m L H R ts a p c q rs pt g s ss st) (E : Store) : Ag n m L H R ts a p c q rs pt g s ss (st ++ E) :=
  ⟨A.T.app E, A.P, at_app A.hg _, at_app A.hs _, A.sl, A.sb, A.tie⟩
theorem Ag.sv {n m : Nat} {L H : List Int} {R : List Row} {ts : List (Int × Int)} {a : Nat → Bool} {p c q : Nat} {rs : List Nat} {pt : List Int} {g s : Nat} {ss : List Int} {st : Store} (_A : Ag n m L H R ts a p c q rs pt g s ss st) {us : List (Int × Int)} (ti : TI n us) (hl : us.length ≤ 9) : ∀ x ∈ svec n a (List.replicate n 0) us, x.natAbs ≤ 90000000 := fun x mx => by
  have h := svec_sm (n := n) (a := a) (C := 10000000) us (List.replicate n 0) 0 (fun t m => (ti.nat t m).2) (fun y my => by rw [List.eq_of_mem_replicate my]; exact Nat.le_refl _) x mx
  omega
theorem col_one {n m : Nat} {L H : List Int} {R : List Row} {ts : List (Int × Int)} {a : Nat → Bool} {p c q : Nat} {rs : List Nat} {pt : List Int} {g s : Nat} {ss : List Int} {st : Store} (A : Ag n m L H R ts a p c q rs pt g s ss st) {nn : Int} (hn : (n : Int) = nn) {j : Nat} (hj : j < n) :
    ∃ E, m__law_equation [eqD (val (con L H n a) j) (unit n j (sg a j)), .int nn] st = .ok (.bl true) (st ++ E) ∧ m__law_says [eqD (val (con L H n a) j) (unit n j (sg a j)), .int (val pt j), .ref s] (st ++ E) = .ok (.bl true) (st ++ E) := by
  obtain ⟨E, e1⟩ := equation_ok (n := nn) (c := val (con L H n a) j) (cs := unit n j (sg a j)) (by rw [unit_len]; exact hn) (by rw [unit_len]; have := A.P.n9; omega) st
  refine ⟨E, e1, ?_⟩
  have hv := A.P.pb _ (val_mem (ps := pt) (j := (j : Nat)) (by omega) (by rw [A.P.pl]; omega))
  have e := says_ok (c := val (con L H n a) j) (w := val pt j) (cs := unit n j (sg a j)) (ss := ss) (by rw [unit_len, A.sl]) (by rw [A.sl]; have := A.P.n9; omega) (fun x mx => by have := unit_sm n j a x mx; unfold Sm; omega) A.sb (by unfold Sm; omega) (at_app A.hs E)
  rw [e, dot_unit _ _ _ _ hj A.sl, ← A.tie j hj, decide_eq_true rfl]
theorem aim_one {n m : Nat} {L H : List Int} {R : List Row} {ts : List (Int × Int)} {a : Nat → Bool} {p c q : Nat} {rs : List Nat} {pt : List Int} {g s : Nat} {ss : List Int} {st : Store} (A : Ag n m L H R ts a p c q rs pt g s ss st) {nn : Int} (hn : (n : Int) = nn) :
    ∃ E, m__law_equation [eqD (sumc (con L H n a) ts) (svec n a (List.replicate n 0) ts), .int nn] st = .ok (.bl true) (st ++ E) ∧ m__law_says [eqD (sumc (con L H n a) ts) (svec n a (List.replicate n 0) ts), .int (sumc pt ts), .ref s] (st ++ E) = .ok (.bl true) (st ++ E) := by
  have hl := svec_len (n := n) (a := a) ts (List.replicate n 0) (by simp)
  obtain ⟨E, e1⟩ := equation_ok (n := nn) (c := sumc (con L H n a) ts) (cs := svec n a (List.replicate n 0) ts) (by rw [hl]; exact hn) (by rw [hl]; have := A.P.n9; omega) st
  refine ⟨E, e1, ?_⟩
  have hv := sumc_sm A.P.pl A.P.pb ts A.P.ti.nat
  have h3 : ts.length * (10000000 * 1000000000) ≤ 9 * (10000000 * 1000000000) := Nat.mul_le_mul_right _ A.P.tl
  have e := says_ok (c := sumc (con L H n a) ts) (w := sumc pt ts) (cs := svec n a (List.replicate n 0) ts) (ss := ss) (by rw [hl, A.sl]) (by rw [A.sl]; have := A.P.n9; omega) (fun x mx => by have := A.sv A.P.ti A.P.tl x mx; unfold Sm; omega) A.sb (by unfold Sm; omega) (at_app A.hs E)
  have hd := dot_svec A.sl A.tie ts (List.replicate n 0) (by simp) A.P.ti
  rw [dot_zero, Int.zero_add] at hd
  rw [e, hd, decide_eq_true rfl]
theorem slk_one {n m : Nat} {L H : List Int} {R : List Row} {ts : List (Int × Int)} {a : Nat → Bool} {p c q : Nat} {rs : List Nat} {pt : List Int} {g s : Nat} {ss : List Int} {st : Store} (A : Ag n m L H R ts a p c q rs pt g s ss st) {nn : Int} (hn : (n : Int) = nn) {i : Int} (h0 : 0 ≤ i) (h1 : i < R.length + 2 * n) :
    ∃ E, m__law_equation [eqD ((iq R L H i).2 - sumc (con L H n a) (iq R L H i).1) ((svec n a (List.replicate n 0) (iq R L H i).1).map fun x => -x), .int nn] st = .ok (.bl true) (st ++ E) ∧ m__law_says [eqD ((iq R L H i).2 - sumc (con L H n a) (iq R L H i).1) ((svec n a (List.replicate n 0) (iq R L H i).1).map fun x => -x), .int (slk R L H pt i), .ref s] (st ++ E) = .ok (.bl true) (st ++ E) := by
  have hi := pr_iq A.P h0 h1
  have hsl := pr_slk A.P h0 h1
  have hl := svec_len (n := n) (a := a) (iq R L H i).1 (List.replicate n 0) (by simp)
  have hl2 : ((svec n a (List.replicate n 0) (iq R L H i).1).map fun x => -x).length = n := by rw [List.length_map, hl]
  obtain ⟨E, e1⟩ := equation_ok (n := nn) (c := (iq R L H i).2 - sumc (con L H n a) (iq R L H i).1) (cs := (svec n a (List.replicate n 0) (iq R L H i).1).map fun x => -x) (by rw [hl2]; exact hn) (by rw [hl2]; have := A.P.n9; omega) st
  refine ⟨E, e1, ?_⟩
  have e := says_ok (c := (iq R L H i).2 - sumc (con L H n a) (iq R L H i).1) (w := slk R L H pt i) (cs := (svec n a (List.replicate n 0) (iq R L H i).1).map fun x => -x) (ss := ss) (by rw [hl2, A.sl]) (by rw [A.sl]; have := A.P.n9; omega) (fun x mx => by
    obtain ⟨y, my, rfl⟩ := List.mem_map.mp mx
    have := A.sv hi.1 hi.2.1 y my
    unfold Sm
    omega) A.sb hsl (at_app A.hs E)
  have hd := dot_svec A.sl A.tie (iq R L H i).1 (List.replicate n 0) (by simp) hi.1
  rw [dot_zero, Int.zero_add] at hd
  rw [e, dot_neg, decide_eq_true (by unfold T.slk; omega)]
end

section
noncomputable abbrev A0 : MP.Env → Store → SR := (sAsg (eCall gLen (aCons (eBin MP.gIx (eVar 1) (eC (.int 0))) (aNil))) (gN 4))
noncomputable abbrev A1 : MP.Env → Store → SR := (sIf (asB (eBin (gEq true) (eMeth "Tableau" "free" 1 m_Tableau_free (eVar 0) (aNil)) (eCall gTuple (aCons (eVar 2) (aNil))))) (sRet (eC (.bl false))) (sNil))
noncomputable abbrev A2 : MP.Env → Store → SR := (sAsg (eLc (fSeq (eVar 2)) [6] (gN 6) (tYesM) (eDef 3 m__law_slack (aCons (eVar 1) (aCons (eVar 6) (aCons (eVar 3) (aNil)))))) (gN 5))
noncomputable abbrev A3 : MP.Env → Store → SR := (sAsg (eMeth "Tableau" "aim_equation" 1 m_Tableau_aim_equation (eVar 0) (aNil)) (gN 7))
noncomputable abbrev A4 : MP.Env → Store → SR := (sIf (tOrM (tNotM (asT (eDef 2 m__law_equation (aCons (eVar 7) (aCons (eVar 4) (aNil)))))) (tNotM (asT (eDef 3 m__law_says (aCons (eVar 7) (aCons (eDef 2 m__law_sum (aCons (eBin MP.gIx (eVar 1) (eC (.int 3))) (aCons (eVar 3) (aNil)))) (aCons (eVar 5) (aNil)))))))) (sRet (eC (.bl false))) (sNil))
noncomputable abbrev A5b : MP.Env → Store → SR := (sSeq (sAsg (eMeth "Tableau" "column_equation" 2 m_Tableau_column_equation (eVar 0) (aCons (eVar 8) (aNil))) (gN 7)) (sIf (tOrM (tNotM (asT (eDef 2 m__law_equation (aCons (eVar 7) (aCons (eVar 4) (aNil)))))) (tNotM (asT (eDef 3 m__law_says (aCons (eVar 7) (aCons (eBin MP.gIx (eVar 3) (eVar 8)) (aCons (eVar 5) (aNil)))))))) (sRet (eC (.bl false))) (sNil)))
noncomputable abbrev A5 : MP.Env → Store → SR := (sFor (fRange1 (aCons (eVar 4) (aNil))) (gN 8) A5b)
noncomputable abbrev A6b : MP.Env → Store → SR := (sSeq (sAsg (eMeth "Tableau" "slack_equation" 2 m_Tableau_slack_equation (eVar 0) (aCons (eVar 6) (aNil))) (gN 7)) (sIf (tOrM (tNotM (asT (eDef 2 m__law_equation (aCons (eVar 7) (aCons (eVar 4) (aNil)))))) (tNotM (asT (eDef 3 m__law_says (aCons (eVar 7) (aCons (eDef 3 m__law_slack (aCons (eVar 1) (aCons (eVar 6) (aCons (eVar 3) (aNil))))) (aCons (eVar 5) (aNil)))))))) (sRet (eC (.bl false))) (sNil)))
noncomputable abbrev A6 : MP.Env → Store → SR := (sFor (fRange1 (aCons (eDef 1 m__law_count (aCons (eVar 1) (aNil))) (aNil))) (gN 6) A6b)
noncomputable abbrev A7 : MP.Env → Store → SR := (sRet (eC (.bl true)))
noncomputable abbrev AL : MP.Env → Store → SR := sSeq A0 (sSeq A1 (sSeq A2 (sSeq A3 (sSeq A4 (sSeq A5 (sSeq A6 (A7)))))))
theorem A_def : m__law_agrees = ofBody 9 AL := rfl
theorem sqr {a b : MP.Env → Store → SR} {env : MP.Env} {st : Store} {d : D} {s : Store} (h : a env st = .ret d s) : sSeq a b env st = .ret d s := by
  rw [seq_c, h]
  rfl
theorem plc_at {k n : Nat} {a : Nat → Bool} {j : Nat} (h : j < n) : (plc k n a)[j]? = some ((k : Int) + 2 * j + (if a j = true then 1 else 0)) := by
  unfold plc
  rw [List.getElem?_map, List.getElem?_range h]
  rfl
theorem plc_in {k n : Nat} {a : Nat → Bool} : ∀ x ∈ plc k n a, 0 ≤ x ∧ x < (k : Int) + 2 * n := fun x mx => by
  obtain ⟨j, hj, rfl⟩ := List.mem_map.mp mx
  have hj := List.mem_range.mp hj
  split <;> omega
theorem cols_turn {n m : Nat} {L H : List Int} {R : List Row} {ts : List (Int × Int)} {a : Nat → Bool} {p c q : Nat} {rs : List Nat} {pt : List Int} {g s : Nat} {ss : List Int} {nn : Int} (hn : (n : Int) = nn) {e2 e6 : Option D} (ds : List D) : ∀ (k j : Nat) (st : Store) (v7 v8 : Option D), j + k = n → Ag n m L H R ts a p c q rs pt g s ss st →
    ∃ (w7 w8 : Option D) (E : Store), MP.forM { items := ds } (gN 8) A5b (rgD (j : Nat) k) [some (.ref m), some (.ref g), e2, some (iD pt), some (.int nn), some (.ref s), e6, v7, v8] st = .next [some (.ref m), some (.ref g), e2, some (iD pt), some (.int nn), some (.ref s), e6, w7, w8] (st ++ E)
  | 0, j, st, v7, v8, _, _ => ⟨v7, v8, [], by rw [rgD_zero, for_nil _ _ _ _ _ (ok_vals ds st), List.append_nil]⟩
  | k + 1, j, st, v7, v8, hj, A => by
    obtain ⟨E, e1, e2'⟩ := col_one A hn (j := j) (by omega)
    have e0 := col_eq_ok A.T (j := j) (by omega)
    have ap := at_val (ps := pt) (v := (j : Nat)) (by omega) (by rw [A.P.pl]; omega)
    obtain ⟨w7, w8, E2, ih⟩ := cols_turn hn ds k (j + 1) (st ++ E) (some (eqD (val (con L H n a) j) (unit n j (sg a j)))) (some (.int (j : Nat))) (by omega) (A.app E) (e2 := e2) (e6 := e6)
    refine ⟨w7, w8, E ++ E2, ?_⟩
    rw [rgD_succ, for_cons _ _ _ _ _ _ _ (ok_vals ds st), gN_def]
    have step : A5b [some (.ref m), some (.ref g), e2, some (iD pt), some (.int nn), some (.ref s), e6, v7, some (.int (j : Nat))] st = .next [some (.ref m), some (.ref g), e2, some (iD pt), some (.int nn), some (.ref s), e6, some (eqD (val (con L H n a) j) (unit n j (sg a j))), some (.int (j : Nat))] (st ++ E) := by
      refine sq (env1 := [some (.ref m), some (.ref g), e2, some (iD pt), some (.int nn), some (.ref s), e6, some (eqD (val (con L H n a) j) (unit n j (sg a j))), some (.int (j : Nat))]) (st1 := st) (by simp! only [A.T.hm, e0]) (if_f ?_)
      obtain ⟨X, hX⟩ : ∃ X, eqD (val (con L H n a) j) (unit n j (sg a j)) = X := ⟨_, rfl⟩
      rw [hX] at e1 e2' ⊢
      simp! only [e1, ap, e2']
      rfl
    show loopK (A5b [some (.ref m), some (.ref g), e2, some (iD pt), some (.int nn), some (.ref s), e6, v7, some (.int (j : Nat))] st) _ = _
    rw [step, ← List.append_assoc, show ((j : Nat) : Int) + 1 = ((j + 1 : Nat) : Int) by omega]
    exact ih
theorem slks_turn {n m : Nat} {L H : List Int} {R : List Row} {ts : List (Int × Int)} {a : Nat → Bool} {p c q : Nat} {rs : List Nat} {pt : List Int} {g s : Nat} {ss : List Int} {nn : Int} (hn : (n : Int) = nn) {e2 e8 : Option D} (ds : List D) : ∀ (k : Nat) (i : Int) (st : Store) (v6 v7 : Option D), 0 ≤ i → i + k ≤ R.length + 2 * n → Ag n m L H R ts a p c q rs pt g s ss st →
    ∃ (w6 w7 : Option D) (E : Store), MP.forM { items := ds } (gN 6) A6b (rgD i k) [some (.ref m), some (.ref g), e2, some (iD pt), some (.int nn), some (.ref s), v6, v7, e8] st = .next [some (.ref m), some (.ref g), e2, some (iD pt), some (.int nn), some (.ref s), w6, w7, e8] (st ++ E)
  | 0, i, st, v6, v7, _, _, _ => ⟨v6, v7, [], by rw [rgD_zero, for_nil _ _ _ _ _ (ok_vals ds st), List.append_nil]⟩
  | k + 1, i, st, v6, v7, h0, h1, A => by
    have hi := pr_iq A.P h0 (by omega)
    obtain ⟨E0, e0⟩ := slk_eq_ok A.T h0 (by omega) hi.1 (by have := hi.2.2; unfold Sm; omega)
    obtain ⟨E, e1, e2'⟩ := slk_one (A.app E0) hn h0 (by omega)
    have es := lslack_ok A.P.ll A.P.hl ((A.app E0).app E).hg h0 (by omega) A.P.pl A.P.pb hi.1
    change _ = Res.ok (D.int (slk R L H pt i)) _ at es
    obtain ⟨X, hX⟩ : ∃ X, eqD ((iq R L H i).2 - sumc (con L H n a) (iq R L H i).1) ((svec n a (List.replicate n 0) (iq R L H i).1).map fun x => -x) = X := ⟨_, rfl⟩
    rw [hX] at e0 e1 e2'
    obtain ⟨w6, w7, E2, ih⟩ := slks_turn hn ds k (i + 1) (st ++ E0 ++ E) (some (.int i)) (some X) (by omega) (by omega) ((A.app E0).app E) (e2 := e2) (e8 := e8)
    refine ⟨w6, w7, E0 ++ E ++ E2, ?_⟩
    rw [rgD_succ, for_cons _ _ _ _ _ _ _ (ok_vals ds st), gN_def]
    have step : A6b [some (.ref m), some (.ref g), e2, some (iD pt), some (.int nn), some (.ref s), some (.int i), v7, e8] st = .next [some (.ref m), some (.ref g), e2, some (iD pt), some (.int nn), some (.ref s), some (.int i), some X, e8] (st ++ E0 ++ E) := by
      refine sq (env1 := [some (.ref m), some (.ref g), e2, some (iD pt), some (.int nn), some (.ref s), some (.int i), some X, e8]) (st1 := st ++ E0) (by simp! only [A.T.hm, e0]) (if_f ?_)
      obtain ⟨S, hS⟩ : ∃ S, st ++ E0 = S := ⟨_, rfl⟩
      rw [hS] at e1 e2' es ⊢
      simp! only [e1]
      simp! only [es, e2']
      rfl
    show loopK (A6b [some (.ref m), some (.ref g), e2, some (iD pt), some (.int nn), some (.ref s), some (.int i), v7, e8] st) _ = _
    rw [step, ← List.append_assoc, ← List.append_assoc]
    exact ih
theorem agrees_ok {n m : Nat} {L H : List Int} {R : List Row} {ts : List (Int × Int)} {a : Nat → Bool} {p c q : Nat} {rs : List Nat} {pt : List Int} {g w : Nat} {st : Store} (T : Ta n m L H R ts a p c q rs st) (P : Pr n R L H ts pt) (hg : st[g]? = some (.lst [iD L, iD H, rsD R, tsD ts])) (hw : st[w]? = some (.lst ((plc R.length n a).map D.int))) :
    ∃ E, m__law_agrees [.ref m, .ref g, .ref w, iD pt] st = .ok (.bl true) (st ++ E) := by
  obtain ⟨nn, hnn⟩ : ∃ nn : Int, ((L.map D.int).length : Int) = nn := ⟨_, rfl⟩
  have hn : (n : Int) = nn := by rw [← hnn, List.length_map, P.ll]
  obtain ⟨pl, hpl⟩ : ∃ pl, plc R.length n a = pl := ⟨_, rfl⟩
  have hin : ∀ x ∈ pl, 0 ≤ x ∧ x < (R.length : Int) + 2 * n := by rw [← hpl]; exact plc_in
  have hpn : pl.length = n := by rw [← hpl, plc_len]
  rw [hpl] at hw
  have fr := free_ok T
  rw [hpl] at fr
  have q1 := eq_ints pl st
  obtain ⟨ss, hss⟩ : ∃ ss, pl.map (slk R L H pt) = ss := ⟨_, rfl⟩
  obtain ⟨S, hS⟩ : ∃ S, st ++ [O.lst (ss.map D.int)] = S := ⟨_, rfl⟩
  have A : Ag n m L H R ts a p c q rs pt g st.length ss S := by
    rw [← hS]
    refine ⟨T.app _, P, at_app hg _, get_last _ _, by rw [← hss, List.length_map, hpn], fun x mx => ?_, fun j hj => ?_⟩
    · rw [← hss] at mx
      obtain ⟨y, my, rfl⟩ := List.mem_map.mp mx
      exact pr_slk P (hin y my).1 (hin y my).2
    · rw [val_nat (ps := ss) (j := j) (x := slk R L H pt ((R.length : Int) + 2 * j + (if a j = true then 1 else 0))) (by rw [← hss, ← hpl, List.getElem?_map, plc_at hj]; rfl)]
      exact (slk_pl a hj).symm
  have f0 : A0 [some (.ref m), some (.ref g), some (.ref w), some (iD pt), none, none, none, none, none] st = .next [some (.ref m), some (.ref g), some (.ref w), some (iD pt), some (.int nn), none, none, none, none] st := asg_n (by simp! only [hg, hnn])
  have f1 : A1 [some (.ref m), some (.ref g), some (.ref w), some (iD pt), some (.int nn), none, none, none, none] st = .next [some (.ref m), some (.ref g), some (.ref w), some (iD pt), some (.int nn), none, none, none, none] st := if_f (by
    simp! only [T.hm, fr, hw]
    rw [q1]
    rfl)
  have f2 : A2 [some (.ref m), some (.ref g), some (.ref w), some (iD pt), some (.int nn), none, none, none, none] st = .next [some (.ref m), some (.ref g), some (.ref w), some (iD pt), some (.int nn), some (.ref st.length), none, none, none] S := asg_n (by
    have e := lc_all2 (enc := D.int) (out := fun q : Int => D.int (slk R L H pt q)) (p := fun _ => true) (fi := fSeq (eVar 2)) (vs := [6]) (g := gN 6) (c := tYesM) (f := eDef 3 m__law_slack (aCons (eVar 1) (aCons (eVar 6) (aCons (eVar 3) (aNil))))) (src := { items := pl.map D.int, obj := some w }) (st := st) (env := [some (.ref m), some (.ref g), some (.ref w), some (iD pt), some (.int nn), none, none, none, none]) (xs := pl) (by simp! only [hw]) rfl (fun o => at_app hw _) (by rw [hpn]; have := P.n9; omega) (fun y my o => ⟨[some (.ref m), some (.ref g), some (.ref w), some (iD pt), some (.int nn), none, some (.int y), none, none], rfl, rfl, fun _ => by
      have hy := hin y my
      have es := lslack_ok P.ll P.hl (at_app hg [o]) hy.1 hy.2 P.pl P.pb (pr_iq P hy.1 hy.2).1
      simp! only [es]
      rfl⟩)
    rw [filter_true] at e
    rw [e, ← hS, ← hss, List.map_map]
    rfl)
  obtain ⟨E3, e3⟩ := aim_eq_ok A.T P.ti
  obtain ⟨X, hX⟩ : ∃ X, eqD (sumc (con L H n a) ts) (svec n a (List.replicate n 0) ts) = X := ⟨_, rfl⟩
  obtain ⟨E4, e4, e4'⟩ := aim_one (A.app E3) hn
  rw [hX] at e3 e4 e4'
  have Aq := (A.app E3).app E4
  have els := lsum_ok P.pl P.pb P.ti (S ++ E3 ++ E4)
  have f3 : A3 [some (.ref m), some (.ref g), some (.ref w), some (iD pt), some (.int nn), some (.ref st.length), none, none, none] S = .next [some (.ref m), some (.ref g), some (.ref w), some (iD pt), some (.int nn), some (.ref st.length), none, some X, none] (S ++ E3) := asg_n (by simp! only [A.T.hm, e3])
  have f4 : A4 [some (.ref m), some (.ref g), some (.ref w), some (iD pt), some (.int nn), some (.ref st.length), none, some X, none] (S ++ E3) = .next [some (.ref m), some (.ref g), some (.ref w), some (iD pt), some (.int nn), some (.ref st.length), none, some X, none] (S ++ E3 ++ E4) := if_f (by
    have hg4 := Aq.hg
    obtain ⟨S3, hS3⟩ : ∃ S3, S ++ E3 = S3 := ⟨_, rfl⟩
    rw [hS3] at e4 e4' els hg4 ⊢
    simp! only [e4]
    simp! only [hg4, els, e4']
    rfl)
  obtain ⟨w7, w8, E5, e5⟩ := cols_turn hn (rgD 0 nn.toNat) n 0 (S ++ E3 ++ E4) (some X) none (by omega) Aq (e2 := some (.ref w)) (e6 := none)
  have A5' := Aq.app E5
  obtain ⟨cnt, hcnt⟩ : ∃ cnt : Int, ((R.map rD).length : Int) + 2 * nn = cnt := ⟨_, rfl⟩
  have hcnt2 : cnt = R.length + 2 * n := by rw [← hcnt, List.length_map, hn]
  obtain ⟨w6, w7', E6, e6⟩ := slks_turn hn (rgD 0 cnt.toNat) cnt.toNat 0 (S ++ E3 ++ E4 ++ E5) none w7 (by decide) (by omega) A5' (e2 := some (.ref w)) (e8 := w8)
  have f5 : A5 [some (.ref m), some (.ref g), some (.ref w), some (iD pt), some (.int nn), some (.ref st.length), none, some X, none] (S ++ E3 ++ E4) = .next [some (.ref m), some (.ref g), some (.ref w), some (iD pt), some (.int nn), some (.ref st.length), none, w7, w8] (S ++ E3 ++ E4 ++ E5) := by
    have h9 := P.n9
    have hnt : nn.toNat = n := by omega
    rw [hnt] at e5
    obtain ⟨S4, hS4⟩ : ∃ S4, S ++ E3 ++ E4 = S4 := ⟨_, rfl⟩
    rw [hS4] at e5 ⊢
    simp! only []
    rw [if_pos ⟨by omega, by omega⟩, hnt]
    exact e5
  have f6 : A6 [some (.ref m), some (.ref g), some (.ref w), some (iD pt), some (.int nn), some (.ref st.length), none, w7, w8] (S ++ E3 ++ E4 ++ E5) = .next [some (.ref m), some (.ref g), some (.ref w), some (iD pt), some (.int nn), some (.ref st.length), w6, w7', w8] (S ++ E3 ++ E4 ++ E5 ++ E6) := by
    have h9 := P.n9
    have hrl := P.rl
    have hg5 := A5'.hg
    have hc : m__law_count [.ref g] (S ++ E3 ++ E4 ++ E5) = .ok (.int cnt) (S ++ E3 ++ E4 ++ E5) := by
      obtain ⟨S5, hS5⟩ : ∃ S5, S ++ E3 ++ E4 ++ E5 = S5 := ⟨_, rfl⟩
      rw [hS5] at hg5 ⊢
      obtain ⟨rr, hrr⟩ : ∃ rr : Int, ((R.map rD).length : Int) = rr := ⟨_, rfl⟩
      have cm : CMulW 2 nn := Sm.mul ⟨by decide, by decide⟩ (by unfold Sm; omega)
      rw [hrr] at hcnt
      unfold m__law_count
      simp! only [hg5, hrr, hnn, cm, hcnt]
    obtain ⟨S5, hS5⟩ : ∃ S5, S ++ E3 ++ E4 ++ E5 = S5 := ⟨_, rfl⟩
    rw [hS5] at e6 hc ⊢
    simp! only [hc]
    rw [if_pos ⟨by omega, by omega⟩]
    exact e6
  refine ⟨[O.lst (ss.map D.int)] ++ E3 ++ E4 ++ E5 ++ E6, ?_⟩
  rw [show st ++ ([O.lst (ss.map D.int)] ++ E3 ++ E4 ++ E5 ++ E6) = S ++ E3 ++ E4 ++ E5 ++ E6 from by rw [← hS]; simp]
  rw [A_def, bd_d]
  show endB (AL [some (.ref m), some (.ref g), some (.ref w), some (iD pt), none, none, none, none, none] st) = _
  have hL : AL [some (.ref m), some (.ref g), some (.ref w), some (iD pt), none, none, none, none, none] st = .ret (.bl true) (S ++ E3 ++ E4 ++ E5 ++ E6) := sq f0 (sq f1 (sq f2 (sq f3 (sq f4 (sq f5 (sq f6 rfl))))))
  rw [hL]
  rfl
end

section
noncomputable abbrev B0 : MP.Env → Store → SR := (sExpr (eApp (eFld "Tableau" "places" (eVar 0)) (eBin gAdd (eBin gAdd (eCall gLen (aCons (eFld "Tableau" "rows" (eVar 0)) (aNil))) (eBin gMulW (eC (.int 2)) (eVar 1))) (eIf (asT (eVar 2)) (eC (.int 1)) (eC (.int 0))))))
noncomputable abbrev B1 : MP.Env → Store → SR := (sExpr (eApp (eFld "Tableau" "constants" (eVar 0)) (eIf (asT (eVar 2)) (eBin MP.gIx (eFld "Tableau" "lows" (eVar 0)) (eVar 1)) (eBin MP.gIx (eFld "Tableau" "highs" (eVar 0)) (eVar 1)))))
noncomputable abbrev B2 : MP.Env → Store → SR := (sAsg (eBin gRep (eLst (aCons (eC (.int 0)) (aNil))) (eCall gLen (aCons (eFld "Tableau" "lows" (eVar 0)) (aNil)))) (gN 3))
noncomputable abbrev B3 : MP.Env → Store → SR := (sAsg (eIf (asT (eVar 2)) (eC (.int 1)) (eUn gNeg (eC (.int 1)))) (gI (eVar 3) (eVar 1)))
noncomputable abbrev B4 : MP.Env → Store → SR := (sExpr (eApp (eFld "Tableau" "coefs" (eVar 0)) (eVar 3)))
noncomputable abbrev BL : MP.Env → Store → SR := sSeq B0 (sSeq B1 (sSeq B2 (sSeq B3 (B4))))
theorem B_def : m_Tableau_begin = ofBody 4 BL := rfl
noncomputable abbrev I0 : MP.Env → Store → SR := (sFldPut "Tableau" "lows" (eVar 0) (eVar 1))
noncomputable abbrev I1 : MP.Env → Store → SR := (sFldPut "Tableau" "highs" (eVar 0) (eVar 2))
noncomputable abbrev I2 : MP.Env → Store → SR := (sFldPut "Tableau" "rows" (eVar 0) (eVar 3))
noncomputable abbrev I3 : MP.Env → Store → SR := (sFldPut "Tableau" "aim_terms" (eVar 0) (eVar 4))
noncomputable abbrev I4 : MP.Env → Store → SR := (sFldPut "Tableau" "places" (eVar 0) (eLst (aNil)))
noncomputable abbrev I5 : MP.Env → Store → SR := (sFldPut "Tableau" "scale" (eVar 0) (eC (.int 1)))
noncomputable abbrev I6 : MP.Env → Store → SR := (sFldPut "Tableau" "constants" (eVar 0) (eLst (aNil)))
noncomputable abbrev I7 : MP.Env → Store → SR := (sFldPut "Tableau" "coefs" (eVar 0) (eLst (aNil)))
noncomputable abbrev I8 : MP.Env → Store → SR := (sAsg (eLc (fSeq (eVar 4)) [6, 7] (gT 2 (gsCons (gN 6) (gsCons (gN 7) (gsNil)))) (asB (eBin (gCmp fun i j => decide (i < j)) (eVar 7) (eC (.int 0)))) (eVar 6)) (gN 5))
noncomputable abbrev I9b : MP.Env → Store → SR := (sExpr (eMeth "Tableau" "begin" 3 m_Tableau_begin (eVar 0) (aCons (eVar 6) (aCons (eBin (gIn false) (eVar 6) (eVar 5)) (aNil)))))
noncomputable abbrev I9 : MP.Env → Store → SR := (sFor (fRange1 (aCons (eCall gLen (aCons (eVar 1) (aNil))) (aNil))) (gN 6) I9b)
noncomputable abbrev IL : MP.Env → Store → SR := sSeq I0 (sSeq I1 (sSeq I2 (sSeq I3 (sSeq I4 (sSeq I5 (sSeq I6 (sSeq I7 (sSeq I8 (I9)))))))))
theorem I_def : m_Tableau___init__ = ofBody 8 IL := rfl
structure Ini (n m : Nat) (L H : List Int) (R : List Row) (ts : List (Int × Int)) (a : Nat → Bool) (p c q k : Nat) (rs : List Nat) (st : Store) : Prop where
  hm : st[m]? = some (.ins "Tableau" (fldsT L H R ts p c q))
  hp : st[p]? = some (.lst ((plc R.length k a).map D.int))
  hc : st[c]? = some (.lst ((con L H k a).map D.int))
  hq : st[q]? = some (.lst (rs.map D.ref))
  hr : ∀ (j r : Nat), rs[j]? = some r → st[r]? = some (.lst ((unit n j (sg a j)).map D.int)) ∧ q < r
  rl : rs.length = k
  o1 : m < p
  o2 : p < c
  o3 : c < q
theorem plc_succ (r k : Nat) (a : Nat → Bool) : plc r (k + 1) a = plc r k a ++ [(r : Int) + 2 * k + (if a k = true then 1 else 0)] := by
  unfold plc
  rw [List.range_succ, List.map_append]
  rfl
theorem con_succ (L H : List Int) (k : Nat) (a : Nat → Bool) : con L H (k + 1) a = con L H k a ++ [if a k = true then val L k else val H k] := by
  unfold con
  rw [List.range_succ, List.map_append]
  rfl
theorem begin_ok {n m : Nat} {L H : List Int} {R : List Row} {ts : List (Int × Int)} {a : Nat → Bool} {p c q k : Nat} {rs : List Nat} {st : Store} (I : Ini n m L H R ts a p c q k rs st) (hL : L.length = n) (hH : H.length = n) (n9 : n ≤ 9) (hR : R.length ≤ 20) (hk : k < n) :
    ∃ st', m_Tableau_begin [.ref m, .int (k : Nat), .bl (a k)] st = .ok .non st' ∧ Ini n m L H R ts a p c q (k + 1) (rs ++ [st.length + 1]) st' ∧ st.length ≤ st'.length ∧ ∀ x, x ≠ p → x ≠ c → x ≠ q → x < st.length → st'[x]? = st[x]? := by
  have o1 := I.o1
  have o2 := I.o2
  have o3 := I.o3
  have lq := (List.getElem?_eq_some_iff.mp I.hq).1
  obtain ⟨P', hP'⟩ : ∃ P', plc R.length (k + 1) a = P' := ⟨_, rfl⟩
  obtain ⟨C', hC'⟩ : ∃ C', con L H (k + 1) a = C' := ⟨_, rfl⟩
  obtain ⟨U, hU⟩ : ∃ U, unit n k (sg a k) = U := ⟨_, rfl⟩
  obtain ⟨X1, hX1⟩ : ∃ X, st.set p (.lst (P'.map D.int)) = X := ⟨_, rfl⟩
  obtain ⟨X2, hX2⟩ : ∃ X, X1.set c (.lst (C'.map D.int)) = X := ⟨_, rfl⟩
  have l1 : X1.length = st.length := by rw [← hX1, List.length_set]
  have l2 : X2.length = st.length := by rw [← hX2, List.length_set, l1]
  obtain ⟨X3, hX3⟩ : ∃ X, X2 ++ [O.lst [.int 0], .lst (U.map D.int)] = X := ⟨_, rfl⟩
  obtain ⟨X4, hX4⟩ : ∃ X, X3.set q (.lst ((rs ++ [st.length + 1]).map D.ref)) = X := ⟨_, rfl⟩
  have k1 : ∀ x, x ≠ p → X1[x]? = st[x]? := fun x hx => by rw [← hX1, List.getElem?_set_ne (Ne.symm hx)]
  have k2 : ∀ x, x ≠ c → X2[x]? = X1[x]? := fun x hx => by rw [← hX2, List.getElem?_set_ne (Ne.symm hx)]
  have k3 : ∀ x, x < st.length → X3[x]? = X2[x]? := fun x hx => by rw [← hX3, List.getElem?_append_left (by omega)]
  have k4 : ∀ x, x ≠ q → X4[x]? = X3[x]? := fun x hx => by rw [← hX4, List.getElem?_set_ne (Ne.symm hx)]
  have m1 : X1[m]? = some (.ins "Tableau" (fldsT L H R ts p c q)) := by rw [k1 m (by omega)]; exact I.hm
  have m2 : X2[m]? = some (.ins "Tableau" (fldsT L H R ts p c q)) := by rw [k2 m (by omega)]; exact m1
  have m3 : X3[m]? = some (.ins "Tableau" (fldsT L H R ts p c q)) := by rw [k3 m (by omega)]; exact m2
  have c1 : X1[c]? = some (.lst ((con L H k a).map D.int)) := by rw [k1 c (by omega)]; exact I.hc
  have q3 : X3[q]? = some (.lst (rs.map D.ref)) := by rw [k3 q lq, k2 q (by omega), k1 q (by omega)]; exact I.hq
  obtain ⟨rr, hrr⟩ : ∃ rr : Int, ((R.map rD).length : Int) = rr := ⟨_, rfl⟩
  have hrr2 : rr = R.length := by rw [← hrr, List.length_map]
  obtain ⟨nn, hnn⟩ : ∃ nn : Int, ((L.map D.int).length : Int) = nn := ⟨_, rfl⟩
  have hnn2 : nn = n := by rw [← hnn, List.length_map, hL]
  have cm : CMulW 2 (k : Nat) := Sm.mul ⟨by decide, by decide⟩ (by unfold Sm; omega)
  have aL := at_val (ps := L) (v := (k : Nat)) (by omega) (by rw [hL]; omega)
  have aH := at_val (ps := H) (v := (k : Nat)) (by omega) (by rw [hH]; omega)
  have hap : ∀ (S : Store) (i : Nat) (ds : List D) (d : D), S[i]? = some (.lst ds) → ds.length ≤ 100 → appL S[i]? (appP S[i]? i d S) = .ok .non (S.set i (.lst (ds ++ [d]))) := fun S i ds d h hd => by
    rw [h, appP_lst _ _ _ _ (lt_big (by omega))]
    rfl
  have f0 : ∀ v3, B0 [some (.ref m), some (.int (k : Nat)), some (.bl (a k)), v3] st = .next [some (.ref m), some (.int (k : Nat)), some (.bl (a k)), v3] X1 := fun v3 => by
    rw [← hX1, ← hP', plc_succ, ← hrr2]
    cases hb : a k with
    | true =>
      simp! only [I.hm, hrr, cm]
      rw [hap _ _ _ _ I.hp (by rw [List.length_map, plc_len]; omega)]
      simp! only []
      simp
    | false =>
      simp! only [I.hm, hrr, cm]
      rw [hap _ _ _ _ I.hp (by rw [List.length_map, plc_len]; omega)]
      simp! only []
      simp
  have f1 : ∀ v3, B1 [some (.ref m), some (.int (k : Nat)), some (.bl (a k)), v3] X1 = .next [some (.ref m), some (.int (k : Nat)), some (.bl (a k)), v3] X2 := fun v3 => by
    rw [← hX2, ← hC', con_succ]
    cases hb : a k with
    | true =>
      simp! only [m1, aL]
      rw [hap _ _ _ _ c1 (by rw [List.length_map, con_len]; omega)]
      simp! only []
      simp
    | false =>
      simp! only [m1, aH]
      rw [hap _ _ _ _ c1 (by rw [List.length_map, con_len]; omega)]
      simp! only []
      simp
  have f2 : ∀ v3, B2 [some (.ref m), some (.int (k : Nat)), some (.bl (a k)), v3] X2 = .next [some (.ref m), some (.int (k : Nat)), some (.bl (a k)), some (.ref (st.length + 1))] (X2 ++ [O.lst [.int 0], .lst (List.replicate n (D.int 0))]) := fun v3 => asg_n (by
    have m2' : (X2 ++ [O.lst [D.int 0]])[m]? = some (.ins "Tableau" (fldsT L H R ts p c q)) := at_app m2 _
    have er := rep_ok (get_last X2 (O.lst [D.int 0])) hnn2 (by omega)
    simp! only [m2', hnn]
    rw [er]
    simp [l2])
  have f3 : B3 [some (.ref m), some (.int (k : Nat)), some (.bl (a k)), some (.ref (st.length + 1))] (X2 ++ [O.lst [.int 0], .lst (List.replicate n (D.int 0))]) = .next [some (.ref m), some (.int (k : Nat)), some (.bl (a k)), some (.ref (st.length + 1))] X3 := by
    have g : (X2 ++ [O.lst [.int 0], .lst (List.replicate n (D.int 0))])[st.length + 1]? = some (.lst (List.replicate n (D.int 0))) := by rw [← l2]; exact at_h1 _ _ _ _
    have x0 : ixN (List.replicate n (D.int 0)).length (k : Nat) = some k := by
      rw [ixN_in _ _ (by omega) (by rw [List.length_replicate]; omega), Int.toNat_natCast]
    have hs : ∀ o, (X2 ++ [O.lst [.int 0], .lst (List.replicate n (D.int 0))]).set (st.length + 1) o = X2 ++ [O.lst [.int 0], o] := fun o => by rw [← l2]; exact set_hk _ _ 1 _
    rw [← hX3, ← hU]
    unfold unit sg
    rw [List.map_set, List.map_replicate]
    cases hb : a k with
    | true =>
      simp! only [g, x0, hs]
    | false =>
      simp! only [g, x0, hs]
  have f4 : B4 [some (.ref m), some (.int (k : Nat)), some (.bl (a k)), some (.ref (st.length + 1))] X3 = .next [some (.ref m), some (.int (k : Nat)), some (.bl (a k)), some (.ref (st.length + 1))] X4 := by
    rw [← hX4]
    simp! only [m3]
    rw [hap _ _ _ _ q3 (by rw [List.length_map, I.rl]; omega)]
    simp! only []
    simp
  refine ⟨X4, ?_, ⟨?_, ?_, ?_, ?_, fun j r hj => ?_, by rw [List.length_append, I.rl]; rfl, o1, o2, o3⟩, ?_, fun x h1 h2 h3 hx => by rw [k4 x h3, k3 x hx, k2 x h2, k1 x h1]⟩
  · rw [B_def, bd_d]
    show endB (BL [some (.ref m), some (.int (k : Nat)), some (.bl (a k)), none] st) = _
    rw [show BL [some (.ref m), some (.int (k : Nat)), some (.bl (a k)), none] st = .next _ X4 from sq (f0 none) (sq (f1 none) (sq (f2 none) (sq f3 f4)))]
    rfl
  · rw [k4 m (by omega)]; exact m3
  · rw [k4 p (by omega), k3 p (by omega), k2 p (by omega), ← hX1, hP']
    exact List.getElem?_set_self (by omega)
  · rw [k4 c (by omega), k3 c (by omega), ← hX2, hC']
    exact List.getElem?_set_self (by omega)
  · rw [← hX4]
    exact List.getElem?_set_self (by rw [← hX3, List.length_append]; omega)
  · by_cases hjk : j < k
    · rw [List.getElem?_append_left (by rw [I.rl]; exact hjk)] at hj
      obtain ⟨h1, h2⟩ := I.hr j r hj
      have hlt := (List.getElem?_eq_some_iff.mp h1).1
      exact ⟨by rw [k4 r (by omega), k3 r hlt, k2 r (by omega), k1 r (by omega)]; exact h1, h2⟩
    · rw [List.getElem?_append_right (by rw [I.rl]; omega), I.rl] at hj
      have hj0 : j - k = 0 := by
        have := (List.getElem?_eq_some_iff.mp hj).1
        simp only [List.length_cons, List.length_nil] at this
        omega
      rw [hj0] at hj
      have hj1 : st.length + 1 = r := by simpa using hj
      have hjk2 : j = k := by omega
      subst hj1 hjk2
      refine ⟨?_, by omega⟩
      rw [k4 _ (by omega), ← hX3, hU, ← l2]
      exact at_h1 _ _ _ _
  · rw [← hX4, List.length_set, ← hX3, List.length_append, l2]
    omega
theorem begins {n m : Nat} {L H : List Int} {R : List Row} {ts : List (Int × Int)} {a : Nat → Bool} {p c q : Nat} (hL : L.length = n) (hH : H.length = n) (n9 : n ≤ 9) (hR : R.length ≤ 20) {ng : Nat} {negs : List Int} (ha : ∀ j : Nat, a j = decide ((j : Int) ∈ negs)) (hng : ng ≠ p ∧ ng ≠ c ∧ ng ≠ q) {e1 e2 e3 e4 e7 : Option D} (ds : List D) : ∀ (d k : Nat) (rs : List Nat) (st : Store) (v6 : Option D), k + d = n → Ini n m L H R ts a p c q k rs st → st[ng]? = some (.lst (negs.map D.int)) →
    ∃ (rs' : List Nat) (w6 : Option D) (st' : Store), MP.forM { items := ds } (gN 6) I9b (rgD (k : Nat) d) [some (.ref m), e1, e2, e3, e4, some (.ref ng), v6, e7] st = .next [some (.ref m), e1, e2, e3, e4, some (.ref ng), w6, e7] st' ∧ Ini n m L H R ts a p c q n rs' st' ∧ st.length ≤ st'.length ∧ ∀ x, x ≠ p → x ≠ c → x ≠ q → x < st.length → st'[x]? = st[x]?
  | 0, k, rs, st, v6, hk, I, hn => ⟨rs, v6, st, by rw [rgD_zero, for_nil _ _ _ _ _ (ok_vals ds st)], by rw [show n = k by omega] at I ⊢; exact I, Nat.le_refl _, fun _ _ _ _ _ => rfl⟩
  | d + 1, k, rs, st, v6, hk, I, hn => by
    obtain ⟨st1, e, I1, l1, k1⟩ := begin_ok I hL hH n9 hR (by omega)
    have hlt := (List.getElem?_eq_some_iff.mp hn).1
    obtain ⟨rs', w6, st', ih, a1, a2, a3⟩ := begins hL hH n9 hR ha hng ds d (k + 1) _ st1 (some (.int (k : Nat))) (by omega) I1 (by rw [k1 ng hng.1 hng.2.1 hng.2.2 hlt]; exact hn) (e1 := e1) (e2 := e2) (e3 := e3) (e4 := e4) (e7 := e7)
    refine ⟨rs', w6, st', ?_, a1, by omega, fun x h1 h2 h3 hx => by rw [a3 x h1 h2 h3 (by omega), k1 x h1 h2 h3 hx]⟩
    rw [rgD_succ, for_cons _ _ _ _ _ _ _ (ok_vals ds st), gN_def]
    have hi := in_ints (k := (k : Nat)) hn
    rw [← ha] at hi
    have step : I9b [some (.ref m), e1, e2, e3, e4, some (.ref ng), some (.int (k : Nat)), e7] st = .next [some (.ref m), e1, e2, e3, e4, some (.ref ng), some (.int (k : Nat)), e7] st1 := by
      simp! only [hi, I.hm, e]
    show loopK (I9b [some (.ref m), e1, e2, e3, e4, some (.ref ng), some (.int (k : Nat)), e7] st) _ = _
    rw [step, show ((k : Nat) : Int) + 1 = ((k + 1 : Nat) : Int) by omega]
    exact ih
def negs (ts : List (Int × Int)) : List Int := (ts.filter fun t => decide (t.2 < 0)).map fun t => t.1
abbrev lowA (ts : List (Int × Int)) (j : Nat) : Bool := decide ((j : Int) ∈ negs ts)
theorem init_ok {n : Nat} {L H : List Int} {R : List Row} {ts : List (Int × Int)} {S : Store} (hL : L.length = n) (hH : H.length = n) (n9 : n ≤ 9) (hR : R.length ≤ 20) (htl : ts.length ≤ 100) (t0 : S[0]? = some .tab) (t1 : S[1]? = some .tab) (sl : ∀ x ∈ L, Sm (10 * x)) (sh : ∀ x ∈ H, Sm (10 * x)) :
    ∃ (rs : List Nat) (st' : Store), m_Tableau___init__ [.ref S.length, iD L, iD H, rsD R, tsD ts] (S ++ [.ins "Tableau" []]) = .ok .non st' ∧ Ta n S.length L H R ts (lowA ts) (S.length + 1) (S.length + 2) (S.length + 3) rs st' ∧ S.length ≤ st'.length ∧ (∀ x, x < S.length → st'[x]? = S[x]?) ∧ ∀ (j r : Nat), rs[j]? = some r → S.length < r := by
  obtain ⟨m, hm⟩ : ∃ m, S.length = m := ⟨_, rfl⟩
  have g0 : ∀ (o : O) (l : List O), (S ++ o :: l)[m]? = some o := fun o l => by rw [← hm]; exact at_h0 _ _ _
  have s0 : ∀ (o o' : O) (l : List O), (S ++ o :: l).set m o' = S ++ o' :: l := fun o o' l => by rw [← hm]; exact set_h0 _ _ _ _
  obtain ⟨F, hF⟩ : ∃ F, F = fldsT L H R ts (m + 1) (m + 2) (m + 3) := ⟨_, rfl⟩
  obtain ⟨X, hX⟩ : ∃ X, S ++ [O.ins "Tableau" F, .lst [], .lst [], .lst []] = X := ⟨_, rfl⟩
  have len : ∀ (o : O) (l : List O), (S ++ o :: l).length = m + 1 + l.length := fun o l => by rw [List.length_append, List.length_cons, hm]; omega
  have f0 : I0 [some (.ref m), some (iD L), some (iD H), some (rsD R), some (tsD ts), none, none, none] (S ++ [.ins "Tableau" []]) = .next [some (.ref m), some (iD L), some (iD H), some (rsD R), some (tsD ts), none, none, none] (S ++ [.ins "Tableau" [("lows", iD L)]]) := by simp! only [g0, s0]
  have f1 : I1 [some (.ref m), some (iD L), some (iD H), some (rsD R), some (tsD ts), none, none, none] (S ++ [.ins "Tableau" [("lows", iD L)]]) = .next [some (.ref m), some (iD L), some (iD H), some (rsD R), some (tsD ts), none, none, none] (S ++ [.ins "Tableau" [("lows", iD L), ("highs", iD H)]]) := by simp! only [g0, s0]
  have f2 : I2 [some (.ref m), some (iD L), some (iD H), some (rsD R), some (tsD ts), none, none, none] (S ++ [.ins "Tableau" [("lows", iD L), ("highs", iD H)]]) = .next [some (.ref m), some (iD L), some (iD H), some (rsD R), some (tsD ts), none, none, none] (S ++ [.ins "Tableau" [("lows", iD L), ("highs", iD H), ("rows", rsD R)]]) := by simp! only [g0, s0]
  have f3 : I3 [some (.ref m), some (iD L), some (iD H), some (rsD R), some (tsD ts), none, none, none] (S ++ [.ins "Tableau" [("lows", iD L), ("highs", iD H), ("rows", rsD R)]]) = .next [some (.ref m), some (iD L), some (iD H), some (rsD R), some (tsD ts), none, none, none] (S ++ [.ins "Tableau" [("lows", iD L), ("highs", iD H), ("rows", rsD R), ("aim_terms", tsD ts)]]) := by simp! only [g0, s0]
  have f4 : I4 [some (.ref m), some (iD L), some (iD H), some (rsD R), some (tsD ts), none, none, none] (S ++ [.ins "Tableau" [("lows", iD L), ("highs", iD H), ("rows", rsD R), ("aim_terms", tsD ts)]]) = .next [some (.ref m), some (iD L), some (iD H), some (rsD R), some (tsD ts), none, none, none] (S ++ [.ins "Tableau" [("lows", iD L), ("highs", iD H), ("rows", rsD R), ("aim_terms", tsD ts), ("places", .ref (m + 1))], .lst []]) := by
    simp! only [g0, s0, hm]
  have f5 : I5 [some (.ref m), some (iD L), some (iD H), some (rsD R), some (tsD ts), none, none, none] (S ++ [.ins "Tableau" [("lows", iD L), ("highs", iD H), ("rows", rsD R), ("aim_terms", tsD ts), ("places", .ref (m + 1))], .lst []]) = .next [some (.ref m), some (iD L), some (iD H), some (rsD R), some (tsD ts), none, none, none] (S ++ [.ins "Tableau" [("lows", iD L), ("highs", iD H), ("rows", rsD R), ("aim_terms", tsD ts), ("places", .ref (m + 1)), ("scale", .int 1)], .lst []]) := by
    simp! only [g0, s0, hm]
  have f6 : I6 [some (.ref m), some (iD L), some (iD H), some (rsD R), some (tsD ts), none, none, none] (S ++ [.ins "Tableau" [("lows", iD L), ("highs", iD H), ("rows", rsD R), ("aim_terms", tsD ts), ("places", .ref (m + 1)), ("scale", .int 1)], .lst []]) = .next [some (.ref m), some (iD L), some (iD H), some (rsD R), some (tsD ts), none, none, none] (S ++ [.ins "Tableau" [("lows", iD L), ("highs", iD H), ("rows", rsD R), ("aim_terms", tsD ts), ("places", .ref (m + 1)), ("scale", .int 1), ("constants", .ref (m + 2))], .lst [], .lst []]) := by
    simp! only [g0, s0, hm]
  have f7 : I7 [some (.ref m), some (iD L), some (iD H), some (rsD R), some (tsD ts), none, none, none] (S ++ [.ins "Tableau" [("lows", iD L), ("highs", iD H), ("rows", rsD R), ("aim_terms", tsD ts), ("places", .ref (m + 1)), ("scale", .int 1), ("constants", .ref (m + 2))], .lst [], .lst []]) = .next [some (.ref m), some (iD L), some (iD H), some (rsD R), some (tsD ts), none, none, none] X := by
    simp! only [g0, s0, hm]
    rw [← hX, hF]
  have lX : X.length = m + 4 := by rw [← hX, len]; rfl
  obtain ⟨Y, hY⟩ : ∃ Y, X ++ [O.lst ((negs ts).map D.int)] = Y := ⟨_, rfl⟩
  have f8 : I8 [some (.ref m), some (iD L), some (iD H), some (rsD R), some (tsD ts), none, none, none] X = .next [some (.ref m), some (iD L), some (iD H), some (rsD R), some (tsD ts), some (.ref (m + 4)), none, none] Y := asg_n (by
    have e := lc_all2 (enc := tD) (out := fun t : Int × Int => D.int t.1) (p := fun t => decide (t.2 < 0)) (fi := fSeq (eVar 4)) (vs := [6, 7]) (g := gT 2 (gsCons (gN 6) (gsCons (gN 7) (gsNil)))) (c := asB (eBin (gCmp fun i j => decide (i < j)) (eVar 7) (eC (.int 0)))) (f := eVar 6) (src := { items := ts.map tD }) (st := X) (env := [some (.ref m), some (iD L), some (iD H), some (rsD R), some (tsD ts), none, none, none]) (xs := ts) rfl rfl (fun o => ok_vals _ _) (by omega) (fun t mt o => ⟨[some (.ref m), some (iD L), some (iD H), some (rsD R), some (tsD ts), none, some (.int t.1), some (.int t.2)], rfl, rfl, fun _ => rfl⟩)
    rw [e, lX, ← hY]
    unfold negs
    rw [List.map_map]
    rfl)
  obtain ⟨nn, hnn⟩ : ∃ nn : Int, ((L.map D.int).length : Int) = nn := ⟨_, rfl⟩
  have hnn2 : nn.toNat = n ∧ 0 ≤ nn ∧ nn ≤ 9 := by rw [List.length_map, hL] at hnn; omega
  have yx : ∀ x, x < m + 4 → Y[x]? = X[x]? := fun x hx => by rw [← hY, List.getElem?_append_left (by omega)]
  have I0' : Ini n m L H R ts (lowA ts) (m + 1) (m + 2) (m + 3) 0 [] Y := by
    refine ⟨?_, ?_, ?_, ?_, fun j r h => by simp at h, rfl, by omega, by omega, by omega⟩
    · rw [yx m (by omega), ← hX, g0, hF]
    · rw [yx _ (by omega), ← hX, ← hm]; exact at_h1 _ _ _ _
    · rw [yx _ (by omega), ← hX, ← hm]; exact at_h2 _ _ _ _ _
    · rw [yx _ (by omega), ← hX, ← hm]; exact at_h3 _ _ _ _ _ _
  obtain ⟨rs, w6, st', e9, IN, l9, k9⟩ := begins hL hH n9 hR (ng := m + 4) (negs := negs ts) (fun j => rfl) ⟨by omega, by omega, by omega⟩ (rgD 0 n) n 0 [] Y none (by omega) I0' (by rw [← hY, ← lX]; exact get_last _ _) (e1 := some (iD L)) (e2 := some (iD H)) (e3 := some (rsD R)) (e4 := some (tsD ts)) (e7 := none)
  have lY : Y.length = m + 5 := by rw [← hY, List.length_append, lX]; rfl
  have kS : ∀ x, x < m → st'[x]? = S[x]? := fun x hx => by
    rw [k9 x (by omega) (by omega) (by omega) (by omega), yx x (by omega), ← hX, List.getElem?_append_left (by omega)]
  have l0 : 1 < m := by
    have := (List.getElem?_eq_some_iff.mp t1).1
    omega
  refine ⟨rs, st', ?_, ⟨by rw [hm]; exact IN.hm, by rw [hm]; exact IN.hp, by rw [hm]; exact IN.hc, by rw [hm]; exact IN.hq, fun j r h => (IN.hr j r h).1, IN.rl, hL, hH, n9, by rw [kS 0 (by omega)]; exact t0, by rw [kS 1 l0]; exact t1, sl, sh⟩, by omega, fun x hx => kS x (by omega), fun j r h => by have := (IN.hr j r h).2; omega⟩
  have f9 : I9 [some (.ref m), some (iD L), some (iD H), some (rsD R), some (tsD ts), some (.ref (m + 4)), none, none] Y = .next [some (.ref m), some (iD L), some (iD H), some (rsD R), some (tsD ts), some (.ref (m + 4)), w6, none] st' := by
    simp! only [hnn]
    rw [if_pos ⟨by omega, by omega⟩, hnn2.1]
    exact e9
  rw [hm, I_def, bd_d]
  show endB (IL [some (.ref m), some (iD L), some (iD H), some (rsD R), some (tsD ts), none, none, none] (S ++ [.ins "Tableau" []])) = _
  rw [show IL [some (.ref m), some (iD L), some (iD H), some (rsD R), some (tsD ts), none, none, none] (S ++ [.ins "Tableau" []]) = .next _ st' from sq f0 (sq f1 (sq f2 (sq f3 (sq f4 (sq f5 (sq f6 (sq f7 (sq f8 f9))))))))]
  rfl
end

section
noncomputable abbrev P0 : MP.Env → Store → SR := (sAsg (eBin gAdd (eC (.int 1)) (eDef 2 m__law_draw (aCons (eVar 0) (aCons (eVar 1) (aNil))))) (gN 3))
noncomputable abbrev P1 : MP.Env → Store → SR := (sAsg (eC (.int 1)) (gN 4))
noncomputable abbrev P2 : MP.Env → Store → SR := (sIf (asB (eBin (gEq false) (eDef 2 m__law_draw (aCons (eVar 0) (aCons (eC (.int 6)) (aNil)))) (eC (.int 0)))) (sAsg (eBin gAdd (eC (.int 1)) (eDef 2 m__law_draw (aCons (eVar 0) (aCons (eC (.int 1000000)) (aNil))))) (gN 4)) (sNil))
noncomputable abbrev P3 : MP.Env → Store → SR := (sAsg (eLst (aNil)) (gN 5))
noncomputable abbrev P4 : MP.Env → Store → SR := (sAsg (eLst (aNil)) (gN 6))
noncomputable abbrev P5 : MP.Env → Store → SR := (sAsg (eLst (aNil)) (gN 7))
noncomputable abbrev P6b : MP.Env → Store → SR := (sSeq (sAsg (eBin MP.gSub (eBin gMulW (eBin MP.gSub (eDef 2 m__law_draw (aCons (eVar 0) (aCons (eC (.int 7)) (aNil)))) (eC (.int 3))) (eVar 4)) (eDef 2 m__law_draw (aCons (eVar 0) (aCons (eC (.int 2)) (aNil))))) (gN 9)) (sSeq (sExpr (eApp (eVar 5) (eVar 9))) (sSeq (sExpr (eApp (eVar 6) (eBin gAdd (eVar 9) (eBin gMulW (eDef 2 m__law_draw (aCons (eVar 0) (aCons (eC (.int 5)) (aNil)))) (eVar 4))))) (sExpr (eApp (eVar 7) (eBin gAdd (eVar 9) (eDef 2 m__law_draw (aCons (eVar 0) (aCons (eBin gAdd (eBin MP.gSub (eBin MP.gIx (eVar 6) (eVar 8)) (eVar 9)) (eC (.int 1))) (aNil))))))))))
noncomputable abbrev P6 : MP.Env → Store → SR := (sFor (fRange1 (aCons (eVar 3) (aNil))) (gN 8) P6b)
noncomputable abbrev P7 : MP.Env → Store → SR := (sAsg (eLst (aNil)) (gN 10))
noncomputable abbrev P8b : MP.Env → Store → SR := (sSeq (sAsg (eDef 2 m__law_terms (aCons (eVar 0) (aCons (eVar 3) (aNil)))) (gN 12)) (sSeq (sIf (asB (eBin (gEq false) (eDef 2 m__law_draw (aCons (eVar 0) (aCons (eC (.int 5)) (aNil)))) (eC (.int 0)))) (sAsg (eCall gTuple (aCons (eLc (fSeq (eVar 12)) [13, 14] (gT 2 (gsCons (gN 13) (gsCons (gN 14) (gsNil)))) (tYesM) (eTup (aCons (eVar 13) (aCons (eBin gMulW (eVar 14) (eVar 4)) (aNil))))) (aNil))) (gN 12)) (sNil)) (sSeq (sExpr (eApp (eVar 10) (eTup (aCons (eVar 12) (aCons (eDef 4 m__law_rhs (aCons (eVar 0) (aCons (eVar 12) (aCons (eVar 7) (aCons (eVar 4) (aNil)))))) (aNil)))))) (sIf (asB (eBin (gEq false) (eDef 2 m__law_draw (aCons (eVar 0) (aCons (eC (.int 6)) (aNil)))) (eC (.int 0)))) (sSeq (sAsg (eCall gTuple (aCons (eLc (fSeq (eVar 12)) [13, 14] (gT 2 (gsCons (gN 13) (gsCons (gN 14) (gsNil)))) (tYesM) (eTup (aCons (eVar 13) (aCons (eUn gNeg (eVar 14)) (aNil))))) (aNil))) (gN 12)) (sExpr (eApp (eVar 10) (eTup (aCons (eVar 12) (aCons (eDef 4 m__law_rhs (aCons (eVar 0) (aCons (eVar 12) (aCons (eVar 7) (aCons (eVar 4) (aNil)))))) (aNil))))))) (sNil)))))
noncomputable abbrev P8 : MP.Env → Store → SR := (sFor (fRange1 (aCons (eDef 2 m__law_draw (aCons (eVar 0) (aCons (eBin gAdd (eVar 2) (eC (.int 1))) (aNil)))) (aNil))) (gN 11) P8b)
noncomputable abbrev P9 : MP.Env → Store → SR := (sRet (eLst (aCons (eCall gTuple (aCons (eVar 5) (aNil))) (aCons (eCall gTuple (aCons (eVar 6) (aNil))) (aCons (eCall gTuple (aCons (eVar 10) (aNil))) (aCons (eDef 2 m__law_terms (aCons (eVar 0) (aCons (eVar 3) (aNil)))) (aNil)))))))
noncomputable abbrev PL : MP.Env → Store → SR := sSeq P0 (sSeq P1 (sSeq P2 (sSeq P3 (sSeq P4 (sSeq P5 (sSeq P6 (sSeq P7 (sSeq P8 (P9)))))))))
theorem P_def : m__law_program = ofBody 15 PL := rfl
noncomputable abbrev H0 : MP.Env → Store → SR := (sIf (asB (eBin (gEq false) (eDef 2 m__law_draw (aCons (eVar 0) (aCons (eC (.int 5)) (aNil)))) (eC (.int 0)))) (sRet (eBin MP.gSub (eBin gAdd (eBin gMulW (eBin MP.gSub (eDef 2 m__law_draw (aCons (eVar 0) (aCons (eC (.int 16)) (aNil)))) (eC (.int 6))) (eVar 3)) (eDef 2 m__law_draw (aCons (eVar 0) (aCons (eC (.int 3)) (aNil))))) (eC (.int 1)))) (sNil))
noncomputable abbrev H1 : MP.Env → Store → SR := (sAsg (eDef 2 m__law_draw (aCons (eVar 0) (aCons (eC (.int 4)) (aNil)))) (gN 4))
noncomputable abbrev H2b : MP.Env → Store → SR := (sAsg (eBin gAdd (eVar 4) (eBin gMulW (eVar 6) (eBin MP.gIx (eVar 2) (eVar 5)))) (gN 4))
noncomputable abbrev H2 : MP.Env → Store → SR := (sFor (fSeq (eVar 1)) (gT 2 (gsCons (gN 5) (gsCons (gN 6) (gsNil)))) H2b)
noncomputable abbrev H3 : MP.Env → Store → SR := (sRet (eVar 4))
noncomputable abbrev HL : MP.Env → Store → SR := sSeq H0 (sSeq H1 (sSeq H2 (H3)))
theorem H_def : m__law_rhs = ofBody 7 HL := rfl
abbrev Tr := Int × Int × Int
def PB (t : Tr) : Prop := -3000001 ≤ t.1 ∧ t.1 ≤ 3000000 ∧ t.1 ≤ t.2.1 ∧ t.2.1 ≤ t.1 + 4000000 ∧ t.1 ≤ t.2.2 ∧ t.2.2 ≤ t.2.1
abbrev tL (us : List Tr) : List Int := us.map fun t => t.1
abbrev tH (us : List Tr) : List Int := us.map fun t => t.2.1
abbrev tB (us : List Tr) : List Int := us.map fun t => t.2.2
theorem last_at {xs : List Int} {x : Int} {i : Nat} (h : xs.length = i) : atI ((xs ++ [x]).map D.int) (i : Nat) = some (.int x) := by
  refine at_nat (f := D.int) (xs := xs ++ [x]) (x := x) ?_
  rw [← h]
  exact get_last _ _
theorem app_l {S : Store} {i : Nat} {xs : List Int} {x : Int} (h : S[i]? = some (.lst (xs.map D.int))) (hd : xs.length ≤ 100) : appL S[i]? (appP S[i]? i (.int x) S) = .ok .non (S.set i (.lst ((xs ++ [x]).map D.int))) := by
  rw [h, appP_lst _ _ _ _ (lt_big (by rw [List.length_map]; omega)), List.map_append]
  rfl
theorem pb_turn {ns : NS} {large : Int} (l0 : 1 ≤ large) (l1 : large ≤ 1000000) {il ih ib : Nat} (h1 : 4 ≤ il ∧ ns.2.length ≤ il) (h2 : 4 ≤ ih ∧ ns.2.length ≤ ih) (h3 : 4 ≤ ib ∧ ns.2.length ≤ ib) (n1 : il ≠ ih) (n2 : il ≠ ib) (n3 : ih ≠ ib) {e1 e2 e3 : Option D} {R : MP.Env} (ds : List D) : ∀ (k i : Nat) (us : List Tr) (v8 v9 : Option D) (st : Store), us.length = i → i + k ≤ 9 → Gd ns st → (∀ t ∈ us, PB t) → st[il]? = some (.lst ((tL us).map D.int)) → st[ih]? = some (.lst ((tH us).map D.int)) → st[ib]? = some (.lst ((tB us).map D.int)) →
    ∃ (us' : List Tr) (w8 w9 : Option D) (st' : Store), MP.forM { items := ds } (gN 8) P6b (rgD (i : Nat) k) (some (.ref 3) :: e1 :: e2 :: e3 :: some (.int large) :: some (.ref il) :: some (.ref ih) :: some (.ref ib) :: v8 :: v9 :: R) st = .next (some (.ref 3) :: e1 :: e2 :: e3 :: some (.int large) :: some (.ref il) :: some (.ref ih) :: some (.ref ib) :: w8 :: w9 :: R) st' ∧
      us'.length = i + k ∧ Gd ns st' ∧ (∀ t ∈ us', PB t) ∧ st'[il]? = some (.lst ((tL us').map D.int)) ∧ st'[ih]? = some (.lst ((tH us').map D.int)) ∧ st'[ib]? = some (.lst ((tB us').map D.int))
  | 0, i, us, v8, v9, st, hl, _, G, hp, g1, g2, g3 => ⟨us, v8, v9, st, by rw [rgD_zero, for_nil _ _ _ _ _ (ok_vals ds st)], hl, G, hp, g1, g2, g3⟩
  | k + 1, i, us, v8, v9, st, hl, hk, G, hp, g1, g2, g3 => by
    obtain ⟨d1, st1, e1', p1, q1, G1, F1⟩ := fr_draw (many := 7) G (by decide) (by decide)
    obtain ⟨d2, st2, e2', p2, q2, G2, F2⟩ := fr_draw (many := 2) G1 (by decide) (by decide)
    have w : ∀ {j : Nat} {o : O}, (4 ≤ j) → st[j]? = some o → st2[j]? = some o := fun hj h => F2.at (by omega) (F1.at (by omega) h)
    have g1' := w (by omega) g1
    have g2' := w (by omega) g2
    have g3' := w (by omega) g3
    have c1 : CMulW (d1 - 3) large := Sm.mul (by unfold Sm; omega) (by unfold Sm; omega)
    have b1 := mb (i := d1 - 3) (j := large) (A := 3) (B := 1000000) (by omega) (by omega)
    have b1' : -3000000 ≤ (d1 - 3) * large ∧ (d1 - 3) * large ≤ 3000000 := by omega
    obtain ⟨low, hlow⟩ : ∃ low, (d1 - 3) * large - d2 = low := ⟨_, rfl⟩
    obtain ⟨S3, hS3⟩ : ∃ S, st2.set il (.lst ((tL us ++ [low]).map D.int)) = S := ⟨_, rfl⟩
    have G3 : Gd ns S3 := by rw [← hS3]; exact G2.put h1 _
    obtain ⟨d3, st4, e3', p3, q3, G4, F4⟩ := fr_draw (many := 5) G3 (by decide) (by decide)
    have c2 : CMulW d3 large := Sm.mul (by unfold Sm; omega) (by unfold Sm; omega)
    have b2 := mb (i := d3) (j := large) (A := 4) (B := 1000000) (by omega) (by omega)
    have b2' : 0 ≤ d3 * large := Int.mul_nonneg p3 (by omega)
    obtain ⟨high, hhigh⟩ : ∃ high, low + d3 * large = high := ⟨_, rfl⟩
    have g4h : st4[ih]? = some (.lst ((tH us).map D.int)) := F4.at (by omega) (by rw [← hS3, List.getElem?_set_ne n1]; exact g2')
    obtain ⟨S5, hS5⟩ : ∃ S, st4.set ih (.lst ((tH us ++ [high]).map D.int)) = S := ⟨_, rfl⟩
    have lt4h := (List.getElem?_eq_some_iff.mp g4h).1
    have G5 : Gd ns S5 := by rw [← hS5]; exact G4.put h2 _
    have g5h : S5[ih]? = some (.lst ((tH us ++ [high]).map D.int)) := by rw [← hS5]; exact List.getElem?_set_self lt4h
    obtain ⟨d4, st6, e4', p4, q4, G6, F6⟩ := fr_draw (many := high - low + 1) G5 (by omega) (by omega)
    have ah := last_at (xs := tH us) (x := high) (i := i) (by rw [List.length_map, hl])
    have g4l : st4[il]? = some (.lst ((tL us ++ [low]).map D.int)) := F4.at (by omega) (by rw [← hS3]; exact List.getElem?_set_self (List.getElem?_eq_some_iff.mp g1').1)
    have g6l : st6[il]? = some (.lst ((tL us ++ [low]).map D.int)) := F6.at (by omega) (by rw [← hS5, List.getElem?_set_ne (Ne.symm n1)]; exact g4l)
    have g6h : st6[ih]? = some (.lst ((tH us ++ [high]).map D.int)) := F6.at (by omega) g5h
    have g4b : st4[ib]? = some (.lst ((tB us).map D.int)) := F4.at (by omega) (by rw [← hS3, List.getElem?_set_ne n2]; exact g3')
    have g5b : S5[ib]? = some (.lst ((tB us).map D.int)) := by rw [← hS5, List.getElem?_set_ne n3]; exact g4b
    have g6b : st6[ib]? = some (.lst ((tB us).map D.int)) := F6.at (by omega) g5b
    obtain ⟨S7, hS7⟩ : ∃ S, st6.set ib (.lst ((tB us ++ [low + d4]).map D.int)) = S := ⟨_, rfl⟩
    have G7 : Gd ns S7 := by rw [← hS7]; exact G6.put h3 _
    obtain ⟨us', w8, w9, st', ihh, a1, a2, a3, a4, a5, a6⟩ := pb_turn l0 l1 h1 h2 h3 n1 n2 n3 ds k (i + 1) (us ++ [(low, high, low + d4)]) (some (.int (i : Nat))) (some (.int low)) S7 (by rw [List.length_append, hl]; rfl) (by omega) G7 (fun t m => by
      rcases List.mem_append.mp m with z | z
      · exact hp t z
      · rw [List.mem_singleton.mp z]
        unfold PB
        simp only
        omega) (by rw [← hS7, List.getElem?_set_ne (Ne.symm n2), g6l]; simp only [tL, List.map_append, List.map_cons, List.map_nil]) (by rw [← hS7, List.getElem?_set_ne (Ne.symm n3), g6h]; simp only [tH, List.map_append, List.map_cons, List.map_nil]) (by rw [← hS7, List.getElem?_set_self (List.getElem?_eq_some_iff.mp g6b).1]; simp only [tB, List.map_append, List.map_cons, List.map_nil]) (e1 := e1) (e2 := e2) (e3 := e3) (R := R)
    refine ⟨us', w8, w9, st', ?_, by omega, a2, a3, a4, a5, a6⟩
    rw [rgD_succ, for_cons _ _ _ _ _ _ _ (ok_vals ds st), gN_def]
    have step : P6b (some (.ref 3) :: e1 :: e2 :: e3 :: some (.int large) :: some (.ref il) :: some (.ref ih) :: some (.ref ib) :: some (.int (i : Nat)) :: v9 :: R) st = .next (some (.ref 3) :: e1 :: e2 :: e3 :: some (.int large) :: some (.ref il) :: some (.ref ih) :: some (.ref ib) :: some (.int (i : Nat)) :: some (.int low) :: R) S7 := by
      have k1 := app_l (x := low) g1' (by rw [List.length_map]; omega)
      have k2 := app_l (x := high) g4h (by rw [List.length_map]; omega)
      have k3 := app_l (x := low + d4) g6b (by rw [List.length_map]; omega)
      rw [hS3] at k1
      rw [hS5] at k2
      rw [hS7] at k3
      refine sq (env1 := some (.ref 3) :: e1 :: e2 :: e3 :: some (.int large) :: some (.ref il) :: some (.ref ih) :: some (.ref ib) :: some (.int (i : Nat)) :: some (.int low) :: R) (st1 := st2) (by simp! only [e1', c1, e2', hlow]) ?_
      refine sq (env1 := some (.ref 3) :: e1 :: e2 :: e3 :: some (.int large) :: some (.ref il) :: some (.ref ih) :: some (.ref ib) :: some (.int (i : Nat)) :: some (.int low) :: R) (st1 := S3) (by
        simp! only []
        rw [k1]
        rfl) ?_
      refine sq (env1 := some (.ref 3) :: e1 :: e2 :: e3 :: some (.int large) :: some (.ref il) :: some (.ref ih) :: some (.ref ib) :: some (.int (i : Nat)) :: some (.int low) :: R) (st1 := S5) (by
        have g3h : S3[ih]? = some (.lst ((tH us).map D.int)) := by rw [← hS3, List.getElem?_set_ne n1]; exact g2'
        rw [g4h] at k2
        simp! only [e3', c2, hhigh]
        first | rw [g3h, g4h, k2] | rw [g4h, k2]
        rfl) ?_
      have g5b' := g5b
      rw [g6b] at k3
      simp! only [g5h, ah, e4']
      first | rw [g5b', g6b, k3] | rw [g6b, k3]
      rfl
    show loopK (P6b (some (.ref 3) :: e1 :: e2 :: e3 :: some (.int large) :: some (.ref il) :: some (.ref ih) :: some (.ref ib) :: some (.int (i : Nat)) :: v9 :: R) st) _ = _
    rw [step, show ((i : Nat) : Int) + 1 = ((i + 1 : Nat) : Int) by omega]
    exact ihh
/-! a right side -/
theorem rh_turn {n : Nat} {B : List Int} (hB : B.length = n) (hb : ∀ x ∈ B, x.natAbs ≤ 1000000000) {ib : Nat} {e0 e1 e3 : Option D} {st : Store} (hg : st[ib]? = some (.lst (B.map D.int))) (ds : List D) : ∀ (us : List (Int × Int)) (k : Int) (v5 v6 : Option D), TI n us → ∃ w5 w6, MP.forM { items := ds } (gT 2 (gsCons (gN 5) (gsCons (gN 6) (gsNil)))) H2b (us.map tD) [e0, e1, some (.ref ib), e3, some (.int k), v5, v6] st = .next [e0, e1, some (.ref ib), e3, some (.int (k + sumc B us)), w5, w6] st
  | [], k, v5, v6, _ => ⟨v5, v6, by rw [List.map_nil, for_nil _ _ _ _ _ (ok_vals ds st)]; show _ = SR.next [_, _, _, _, some (.int (k + 0)), _, _] _; rw [Int.add_zero]⟩
  | (j, c) :: us, k, v5, v6, ti => by
    have hc := ti (j, c) List.mem_cons_self
    have hj := hc.1
    obtain ⟨w5, w6, ih⟩ := rh_turn hB hb hg ds us (k + c * val B j) (some (.int j)) (some (.int c)) (fun t m => ti t (List.mem_cons_of_mem _ m)) (e0 := e0) (e1 := e1) (e3 := e3)
    have a0 := at_val (ps := B) hj.1 (by rw [hB]; exact hj.2)
    have hv := hb _ (val_mem (ps := B) hj.1 (by rw [hB]; exact hj.2))
    have cm : CMulW c (val B j) := Sm.mul (by have := hc.2; simp only at this; unfold Sm; omega) (by simp only at hv; unfold Sm; omega)
    refine ⟨w5, w6, ?_⟩
    simp only at a0
    rw [List.map_cons, for_cons _ _ _ _ _ _ _ (ok_vals ds st)]
    simp! only [hg, a0, cm]
    rw [ih]
    show SR.next [_, _, _, _, some (.int (k + c * val B j + sumc B us)), _, _] _ = SR.next [_, _, _, _, some (.int (k + (c * val B j + sumc B us))), _, _] _
    rw [Int.add_assoc]
theorem rhs_ok {ns : NS} {n : Nat} {B : List Int} (hB : B.length = n) (hb : ∀ x ∈ B, x.natAbs ≤ 1000000000) {ib : Nat} (i3 : ib ≠ 3) {st : Store} (G : Gd ns st) (hg : st[ib]? = some (.lst (B.map D.int))) {us : List (Int × Int)} (ti : TI n us) (ul : us.length ≤ 9) {large : Int} (l0 : 1 ≤ large) (l1 : large ≤ 1000000) :
    ∃ (b : Int) (st' : Store), m__law_rhs [.ref 3, tsD us, .ref ib, .int large] st = .ok (.int b) st' ∧ b.natAbs ≤ 100000000000000000 ∧ Gd ns st' ∧ Fr st st' := by
  obtain ⟨d, st1, e, p, q, G1, F1⟩ := fr_draw (many := 5) G (by decide) (by decide)
  by_cases hd : d = 0
  · obtain ⟨d2, st2, e2, p2, q2, G2, F2⟩ := fr_draw (many := 16) G1 (by decide) (by decide)
    obtain ⟨d3, st3, e3, p3, q3, G3, F3⟩ := fr_draw (many := 3) G2 (by decide) (by decide)
    have c1 : CMulW (d2 - 6) large := Sm.mul (by unfold Sm; omega) (by unfold Sm; omega)
    have b1 := mb (i := d2 - 6) (j := large) (A := 16) (B := 1000000) (by omega) (by omega)
    refine ⟨(d2 - 6) * large + d3 - 1, st3, ?_, by omega, G3, F1.trans (F2.trans F3)⟩
    unfold m__law_rhs
    simp! only [e]
    rw [if_pos hd]
    simp! only [e2, c1, e3]
  · obtain ⟨d2, st2, e2, p2, q2, G2, F2⟩ := fr_draw (many := 4) G1 (by decide) (by decide)
    have hg2 := F2.at i3 (F1.at i3 hg)
    obtain ⟨w5, w6, el⟩ := rh_turn hB hb hg2 (us.map tD) us d2 none none ti (e0 := some (.ref 3)) (e1 := some (tsD us)) (e3 := some (.int large))
    have hv := sumc_sm hB hb us ti.nat
    have h3 : us.length * (10000000 * 1000000000) ≤ 9 * (10000000 * 1000000000) := Nat.mul_le_mul_right _ ul
    refine ⟨d2 + sumc B us, st2, ?_, by omega, G2, F1.trans F2⟩
    unfold m__law_rhs
    simp! only [e]
    rw [if_neg hd]
    simp! only [e2]
    rw [el]
    simp! only []
end

section
theorem if_d (T : Ev Bool) (X Y : MP.Env → Store → SR) (env : MP.Env) (st : Store) : sIf T X Y env st = bindS env (T env st) fun b st1 => if b = true then X env st1 else Y env st1 := rfl
theorem t2_turn {ns : NS} {many : Int} {id : Nat} (h5 : (4 ≤ id ∧ ns.2.length ≤ id)) (ds : List D) : ∀ (n : Nat) (i : Int) (ts : List (Int × Int)) (c v : Option D) (st : Store), 0 ≤ i → i + n ≤ many → ts.length + n ≤ 100 → Gd ns st → st[id]? = some (.lst (ts.map tD)) → GT many 3 ts → (∀ p ∈ ts, p.1 < i) → ts.Pairwise (fun a b => a.1 < b.1) →
    ∃ (ts' : List (Int × Int)) (c' v' : Option D) (st' : Store), MP.forM { items := ds } (gN 3) BT13 (rgD i n) [some (.ref 3), some (.int many), some (.ref id), c, v] st = .next [some (.ref 3), some (.int many), some (.ref id), c', v'] st' ∧
      Gd ns st' ∧ st'[id]? = some (.lst (ts'.map tD)) ∧ ts'.length ≤ ts.length + n ∧ GT many 3 ts' ∧ ts'.Pairwise (fun a b => a.1 < b.1)
  | 0, i, ts, c, v, st, _, _, _, G, hi, hg, _, hp => ⟨ts, c, v, st, by rw [rgD_zero, for_nil _ _ _ _ _ (ok_vals ds st)], G, hi, Nat.le_refl _, hg, hp⟩
  | n + 1, i, ts, c, v, st, i0, i1, hl, G, hi, hg, hlt, hp => by
    obtain ⟨d, st1, e, p, q, G1, l1, k1⟩ := gd_draw (many := 7) G (by decide) (by decide)
    have hi1 : st1[id]? = some (.lst (ts.map tD)) := by rw [k1 id (by omega)]; exact hi
    have hlt1 := (List.getElem?_eq_some_iff.mp hi1).1
    have hz : (ts.map tD).length < sizeLine := lt_big (by rw [List.length_map]; omega)
    rw [rgD_succ, for_cons _ _ _ _ _ _ _ (ok_vals ds _)]
    by_cases hc : d - 3 = 0
    · obtain ⟨ts', c', v', st', ih, a1, a2, a3, a4, a5⟩ := t2_turn (many := many) h5 ds n (i + 1) ts (some (.int i)) (some (.int 0)) st1 (by omega) (by omega) (by omega) G1 hi1 hg (fun p m => by have := hlt p m; omega) hp
      refine ⟨ts', c', v', st', ?_, a1, a2, by omega, a4, a5⟩
      simp! only [e, hc]
      exact ih
    · obtain ⟨ts', c', v', st', ih, a1, a2, a3, a4, a5⟩ := t2_turn (many := many) h5 ds n (i + 1) (ts ++ [(i, d - 3)]) (some (.int i)) (some (.int (d - 3))) (st1.set id (.lst ((ts ++ [(i, d - 3)]).map tD))) (by omega) (by omega) (by rw [List.length_append]; simp only [List.length_cons, List.length_nil]; omega) (G1.put h5 _) (List.getElem?_set_self hlt1) (fun x m => by
        rcases List.mem_append.mp m with z | z
        · exact hg x z
        · rw [List.mem_singleton.mp z]
          exact ⟨⟨i0, by simp only; omega⟩, by simp only; omega, by simp only; omega, hc⟩) (fun x m => by
        rcases List.mem_append.mp m with z | z
        · have := hlt x z
          omega
        · rw [List.mem_singleton.mp z]
          simp only
          omega) (List.pairwise_append.mpr ⟨hp, List.pairwise_singleton .., fun x mx y my => by
        rw [List.mem_singleton.mp my]
        exact hlt x mx⟩)
      rw [List.length_append] at a3
      simp only [List.length_cons, List.length_nil] at a3
      refine ⟨ts', c', v', st', ?_, a1, a2, by omega, a4, a5⟩
      simp! only [e]
      rw [if_pos (by simp [hc] : (!decide (d - 3 = 0)) = true), hi1, appP_lst _ _ _ _ hz]
      simp! only []
      simp only [List.map_append, List.map_cons, List.map_nil] at ih
      exact ih
theorem t2_draw {ns : NS} {n : Nat} {many : Int} (hn : (n : Int) = many) (m0 : 1 ≤ many) (m1 : many ≤ 9) {st : Store} (G : Gd ns st) :
    ∃ (ts : List (Int × Int)) (st' : Store), m__law_terms [.ref 3, .int many] st = .ok (tsD ts) st' ∧ (∀ t ∈ ts, In n t.1 ∧ -3 ≤ t.2 ∧ t.2 ≤ 3) ∧ ts.length ≤ 9 ∧ ts.Pairwise (fun a b => a.1 < b.1) ∧ Gd ns st' ∧ Fr st st' := by
  have lt := G.lt2
  obtain ⟨ts, c, v, st', e, G1, hi, hl, hg, hp⟩ := t2_turn (ns := (ns.1, st)) (many := many) ⟨by omega, Nat.le_refl st.length⟩ (rgD 0 many.toNat) many.toNat 0 [] none none (st ++ [.lst []]) (by decide) (by omega) (by simp only [List.length_nil]; omega) (G.re.app _) (get_last _ _) (fun x m => by cases m) (fun x m => by cases m) List.Pairwise.nil
  refine ⟨ts, st', ?_, fun t mt => ?_, by simp only [List.length_nil] at hl; omega, hp, (G.on G1).1, (G.on G1).2⟩
  · unfold m__law_terms
    simp! only []
    rw [if_pos ⟨by omega, by omega⟩]
    simp! only [e, hi]
  · have := hg t mt
    exact ⟨⟨this.1.1, by omega⟩, this.2.1, this.2.2.1⟩
/-! rows -/
def RO (n : Nat) (r : Row) : Prop := TI n r.1 ∧ r.1.length ≤ 9 ∧ r.2.natAbs ≤ 100000000000000000
noncomputable abbrev P8a : MP.Env → Store → SR := (sExpr (eApp (eVar 10) (eTup (aCons (eVar 12) (aCons (eDef 4 m__law_rhs (aCons (eVar 0) (aCons (eVar 12) (aCons (eVar 7) (aCons (eVar 4) (aNil)))))) (aNil))))))
theorem row_app {ns : NS} {n : Nat} {B : List Int} (hB : B.length = n) (hb : ∀ x ∈ B, x.natAbs ≤ 1000000000) {ib fo : Nat} (i3 : ib ≠ 3) (hfo : 4 ≤ fo ∧ ns.2.length ≤ fo) (hg : ns.2[ib]? = some (.lst (B.map D.int))) {us : List (Int × Int)} (ti : TI n us) (ul : us.length ≤ 9) {large : Int} (l0 : 1 ≤ large) (l1 : large ≤ 1000000) {st : Store} (G : Gd ns st) {R : List Row} (hR : R.length ≤ 50) (hr : ∀ r ∈ R, RO n r) (hf : st[fo]? = some (.lst (R.map rD))) {e1 e2 e3 e5 e6 e8 e9 e11 e13 e14 : Option D} :
    ∃ (R' : List Row) (st' : Store), P8a [some (.ref 3), e1, e2, e3, some (.int large), e5, e6, some (.ref ib), e8, e9, some (.ref fo), e11, some (tsD us), e13, e14] st = .next [some (.ref 3), e1, e2, e3, some (.int large), e5, e6, some (.ref ib), e8, e9, some (.ref fo), e11, some (tsD us), e13, e14] st' ∧ Gd ns st' ∧ (∀ r ∈ R', RO n r) ∧ R'.length = R.length + 1 ∧ st'[fo]? = some (.lst (R'.map rD)) := by
  obtain ⟨b, st1, e, hbb, G1, F1⟩ := rhs_ok hB hb i3 G (G.fr.at i3 hg) ti ul l0 l1
  have hf1 := F1.at (k := fo) (by omega) hf
  have hlt := (List.getElem?_eq_some_iff.mp hf1).1
  refine ⟨R ++ [(us, b)], st1.set fo (.lst ((R ++ [(us, b)]).map rD)), ?_, G1.put hfo _, fun r m => ?_, by rw [List.length_append]; rfl, List.getElem?_set_self hlt⟩
  · simp! only [e]
    rw [hf1, appP_lst _ _ _ _ (lt_big (by rw [List.length_map]; omega)), hf]
    simp! only []
    rw [List.map_append]
    rfl
  · rcases List.mem_append.mp m with z | z
    · exact hr r z
    · rw [List.mem_singleton.mp z]
      exact ⟨ti, ul, hbb⟩
theorem map_tup {xs : List (Int × Int)} (f : Int → Int) {F : Ev D} {env : MP.Env} {st : Store} (h12 : eVar 12 env st = .ok (tsD xs) st) (hl : xs.length ≤ 100)
    (hF : ∀ x ∈ xs, ∀ o, F (((wipeD env [13, 14]).set 13 (some (.int x.1))).set 14 (some (.int x.2))) (st ++ [o]) = .ok (tD (x.1, f x.2)) (st ++ [o])) :
    eCall gTuple (aCons (eLc (fSeq (eVar 12)) [13, 14] (gT 2 (gsCons (gN 13) (gsCons (gN 14) (gsNil)))) (tYesM) F) (aNil)) env st = .ok (tsD (xs.map fun x => (x.1, f x.2))) (st ++ [.lst ((xs.map fun x => (x.1, f x.2)).map tD)]) := by
  have e := lc_all2 (enc := tD) (out := fun x : Int × Int => tD (x.1, f x.2)) (p := fun _ => true) (fi := fSeq (eVar 12)) (vs := [13, 14]) (g := gT 2 (gsCons (gN 13) (gsCons (gN 14) (gsNil)))) (c := tYesM) (f := F) (src := { items := xs.map tD }) (st := st) (env := env) (xs := xs) (by rw [fseq_def, h12]; rfl) rfl (fun o => ok_vals _ _) (by omega) (fun x mx o => ⟨_, rfl, rfl, fun _ => hF x mx o⟩)
  rw [filter_true] at e
  have hm : xs.map (fun x => tD (x.1, f x.2)) = (xs.map fun x => (x.1, f x.2)).map tD := by rw [List.map_map]; rfl
  rw [hm] at e
  have hg := get_last st (O.lst ((xs.map fun x => (x.1, f x.2)).map tD))
  rw [call_d, consA_d, e, bR, nilA_d, bR, bR]
  simp! only [hg]
theorem r_turn {ns : NS} {n : Nat} {nn : Int} (hn : (n : Int) = nn) (m0 : 1 ≤ nn) (m1 : nn ≤ 9) {B : List Int} (hB : B.length = n) (hb : ∀ x ∈ B, x.natAbs ≤ 1000000000) {ib fo : Nat} (i3 : ib ≠ 3) (hfo : 4 ≤ fo ∧ ns.2.length ≤ fo) (hg : ns.2[ib]? = some (.lst (B.map D.int))) {large : Int} (l0 : 1 ≤ large) (l1 : large ≤ 1000000) {e1 e2 e5 e6 e8 e9 : Option D} (ds : List D) : ∀ (k : Nat) (i : Int) (R : List Row) (v11 v12 : Option D) (st : Store), R.length + 2 * k ≤ 20 → Gd ns st → (∀ r ∈ R, RO n r) → st[fo]? = some (.lst (R.map rD)) →
    ∃ (R' : List Row) (w11 w12 : Option D) (st' : Store), MP.forM { items := ds } (gN 11) P8b (rgD i k) [some (.ref 3), e1, e2, some (.int nn), some (.int large), e5, e6, some (.ref ib), e8, e9, some (.ref fo), v11, v12, none, none] st = .next [some (.ref 3), e1, e2, some (.int nn), some (.int large), e5, e6, some (.ref ib), e8, e9, some (.ref fo), w11, w12, none, none] st' ∧ Gd ns st' ∧ (∀ r ∈ R', RO n r) ∧ R'.length ≤ 20 ∧ st'[fo]? = some (.lst (R'.map rD))
  | 0, i, R, v11, v12, st, hl, G, hr, hf => ⟨R, v11, v12, st, by rw [rgD_zero, for_nil _ _ _ _ _ (ok_vals ds st)], G, hr, by omega, hf⟩
  | k + 1, i, R, v11, v12, st, hl, G, hr, hf => by
    have lf := hfo.1
    obtain ⟨ts, st1, e1', ht, tl, _, G1, F1⟩ := t2_draw hn m0 m1 G
    obtain ⟨d, st2, e2', p2, q2, G2, F2⟩ := fr_draw (many := 5) G1 (by decide) (by decide)
    have hf2 := F2.at (k := fo) (by omega) (F1.at (k := fo) (by omega) hf)
    -- the terms, perhaps grown
    obtain ⟨us, st3, f1, ti, ul, G3, hf3⟩ : ∃ (us : List (Int × Int)) (st3 : Store), sIf (asB (eBin (gEq false) (eDef 2 m__law_draw (aCons (eVar 0) (aCons (eC (.int 5)) (aNil)))) (eC (.int 0)))) (sAsg (eCall gTuple (aCons (eLc (fSeq (eVar 12)) [13, 14] (gT 2 (gsCons (gN 13) (gsCons (gN 14) (gsNil)))) (tYesM) (eTup (aCons (eVar 13) (aCons (eBin gMulW (eVar 14) (eVar 4)) (aNil))))) (aNil))) (gN 12)) (sNil) [some (.ref 3), e1, e2, some (.int nn), some (.int large), e5, e6, some (.ref ib), e8, e9, some (.ref fo), some (.int i), some (tsD ts), none, none] st1 = .next [some (.ref 3), e1, e2, some (.int nn), some (.int large), e5, e6, some (.ref ib), e8, e9, some (.ref fo), some (.int i), some (tsD us), none, none] st3 ∧ TI n us ∧ us.length ≤ 9 ∧ Gd ns st3 ∧ st3[fo]? = some (.lst (R.map rD)) := by
      by_cases hd : d = 0
      · have em := map_tup (xs := ts) (fun x => x * large) (F := eTup (aCons (eVar 13) (aCons (eBin gMulW (eVar 14) (eVar 4)) (aNil)))) (env := [some (.ref 3), e1, e2, some (.int nn), some (.int large), e5, e6, some (.ref ib), e8, e9, some (.ref fo), some (.int i), some (tsD ts), none, none]) (st := st2) rfl (by omega) (fun x mx o => by
          have hx := (ht x mx).2
          have cm : CMulW x.2 large := Sm.mul (by unfold Sm; omega) (by unfold Sm; omega)
          show eTup (aCons (eVar 13) (aCons (eBin gMulW (eVar 14) (eVar 4)) (aNil))) [some (.ref 3), e1, e2, some (.int nn), some (.int large), e5, e6, some (.ref ib), e8, e9, some (.ref fo), some (.int i), some (tsD ts), some (.int x.1), some (.int x.2)] (st2 ++ [o]) = _
          simp! only [cm])
        refine ⟨ts.map fun x => (x.1, x.2 * large), _, ?_, fun t mt => ?_, by rw [List.length_map]; exact tl, G2.app [.lst ((ts.map fun x => (x.1, x.2 * large)).map tD)], at_app hf2 _⟩
        · rw [if_d]
          rw [show asB (eBin (gEq false) (eDef 2 m__law_draw (aCons (eVar 0) (aCons (eC (.int 5)) (aNil)))) (eC (.int 0))) [some (.ref 3), e1, e2, some (.int nn), some (.int large), e5, e6, some (.ref ib), e8, e9, some (.ref fo), some (.int i), some (tsD ts), none, none] st1 = .ok true st2 from by
            simp! only [e2', hd]
            rfl]
          show sAsg _ _ _ _ = _
          rw [asg_n em]
          rfl
        · obtain ⟨x, mx, rfl⟩ := List.mem_map.mp mt
          have hx := ht x mx
          have b1 := mb (i := x.2) (j := large) (A := 3) (B := 1000000) (by have := hx.2; omega) (by omega)
          exact ⟨hx.1, by simp only; omega, by simp only; omega⟩
      · refine ⟨ts, st2, if_f ?_, fun t mt => ⟨(ht t mt).1, by have := (ht t mt).2; omega, by have := (ht t mt).2; omega⟩, tl, G2, hf2⟩
        simp! only [e2', hd]
        rfl
    obtain ⟨R1, st4, f2, G4, hr1, hl1, hf4⟩ := row_app hB hb i3 hfo hg ti ul l0 l1 G3 (by omega) hr hf3 (e1 := e1) (e2 := e2) (e3 := some (.int nn)) (e5 := e5) (e6 := e6) (e8 := e8) (e9 := e9) (e11 := some (.int i)) (e13 := none) (e14 := none)
    obtain ⟨d5, st5, e5', p5, q5, G5, F5⟩ := fr_draw (many := 6) G4 (by decide) (by decide)
    have hf5 := F5.at (k := fo) (by omega) hf4
    obtain ⟨R2, us2, st6, f3, G6, hr2, hl2, hf6⟩ : ∃ (R2 : List Row) (us2 : List (Int × Int)) (st6 : Store), sIf (asB (eBin (gEq false) (eDef 2 m__law_draw (aCons (eVar 0) (aCons (eC (.int 6)) (aNil)))) (eC (.int 0)))) (sSeq (sAsg (eCall gTuple (aCons (eLc (fSeq (eVar 12)) [13, 14] (gT 2 (gsCons (gN 13) (gsCons (gN 14) (gsNil)))) (tYesM) (eTup (aCons (eVar 13) (aCons (eUn gNeg (eVar 14)) (aNil))))) (aNil))) (gN 12)) P8a) (sNil) [some (.ref 3), e1, e2, some (.int nn), some (.int large), e5, e6, some (.ref ib), e8, e9, some (.ref fo), some (.int i), some (tsD us), none, none] st4 = .next [some (.ref 3), e1, e2, some (.int nn), some (.int large), e5, e6, some (.ref ib), e8, e9, some (.ref fo), some (.int i), some (tsD us2), none, none] st6 ∧ Gd ns st6 ∧ (∀ r ∈ R2, RO n r) ∧ R2.length ≤ R.length + 2 ∧ st6[fo]? = some (.lst (R2.map rD)) := by
      by_cases hd : d5 = 0
      · have em := map_tup (xs := us) (fun x => -x) (F := eTup (aCons (eVar 13) (aCons (eUn gNeg (eVar 14)) (aNil)))) (env := [some (.ref 3), e1, e2, some (.int nn), some (.int large), e5, e6, some (.ref ib), e8, e9, some (.ref fo), some (.int i), some (tsD us), none, none]) (st := st5) rfl (by omega) (fun x mx o => rfl)
        have ti2 : TI n (us.map fun x => (x.1, -x.2)) := fun t mt => by
          obtain ⟨x, mx, rfl⟩ := List.mem_map.mp mt
          have hx := ti x mx
          exact ⟨hx.1, by simp only; omega, by simp only; omega⟩
        obtain ⟨R2, st6, f4, G6, hr2, hl2, hf6⟩ := row_app hB hb i3 hfo hg ti2 (by rw [List.length_map]; exact ul) l0 l1 (G5.app [.lst ((us.map fun x => (x.1, -x.2)).map tD)]) (by omega) hr1 (at_app hf5 _) (e1 := e1) (e2 := e2) (e3 := some (.int nn)) (e5 := e5) (e6 := e6) (e8 := e8) (e9 := e9) (e11 := some (.int i)) (e13 := none) (e14 := none)
        refine ⟨R2, us.map fun x => (x.1, -x.2), st6, ?_, G6, hr2, by omega, hf6⟩
        rw [if_d]
        rw [show asB (eBin (gEq false) (eDef 2 m__law_draw (aCons (eVar 0) (aCons (eC (.int 6)) (aNil)))) (eC (.int 0))) [some (.ref 3), e1, e2, some (.int nn), some (.int large), e5, e6, some (.ref ib), e8, e9, some (.ref fo), some (.int i), some (tsD us), none, none] st4 = .ok true st5 from by
          simp! only [e5', hd]
          rfl]
        exact sq (asg_n em) f4
      · refine ⟨R1, us, st5, if_f ?_, G5, hr1, by omega, hf5⟩
        simp! only [e5', hd]
        rfl
    obtain ⟨R', w11, w12, st', ih, a1, a2, a3, a4⟩ := r_turn hn m0 m1 hB hb i3 hfo hg l0 l1 ds k (i + 1) R2 (some (.int i)) (some (tsD us2)) st6 (by omega) G6 hr2 hf6 (e1 := e1) (e2 := e2) (e5 := e5) (e6 := e6) (e8 := e8) (e9 := e9)
    refine ⟨R', w11, w12, st', ?_, a1, a2, a3, a4⟩
    rw [rgD_succ, for_cons _ _ _ _ _ _ _ (ok_vals ds st), gN_def]
    have step : P8b [some (.ref 3), e1, e2, some (.int nn), some (.int large), e5, e6, some (.ref ib), e8, e9, some (.ref fo), some (.int i), v12, none, none] st = .next [some (.ref 3), e1, e2, some (.int nn), some (.int large), e5, e6, some (.ref ib), e8, e9, some (.ref fo), some (.int i), some (tsD us2), none, none] st6 :=
      sq (asg_n (by simp! only [e1'])) (sq f1 (sq f2 f3))
    show loopK (P8b [some (.ref 3), e1, e2, some (.int nn), some (.int large), e5, e6, some (.ref ib), e8, e9, some (.ref fo), some (.int i), v12, none, none] st) _ = _
    rw [step]
    exact ih
end

section
noncomputable abbrev Y0 : MP.Env → Store → SR := (sAsg (eLst (aNil)) (gN 2))
noncomputable abbrev Y1b : MP.Env → Store → SR := (sIf (asB (eBin (gEq false) (eDef 2 m__law_draw (aCons (eVar 0) (aCons (eC (.int 3)) (aNil)))) (eC (.int 0)))) (sExpr (eApp (eVar 2) (eBin MP.gSub (eDef 2 m__law_draw (aCons (eVar 0) (aCons (eC (.int 2000001)) (aNil)))) (eC (.int 1000000))))) (sExpr (eApp (eVar 2) (eBin gAdd (eBin MP.gIx (eBin MP.gIx (eVar 1) (eC (.int 0))) (eVar 3)) (eDef 2 m__law_draw (aCons (eVar 0) (aCons (eBin gAdd (eBin MP.gSub (eBin MP.gIx (eBin MP.gIx (eVar 1) (eC (.int 1))) (eVar 3)) (eBin MP.gIx (eBin MP.gIx (eVar 1) (eC (.int 0))) (eVar 3))) (eC (.int 1))) (aNil))))))))
noncomputable abbrev Y1 : MP.Env → Store → SR := (sFor (fRange1 (aCons (eCall gLen (aCons (eBin MP.gIx (eVar 1) (eC (.int 0))) (aNil))) (aNil))) (gN 3) Y1b)
noncomputable abbrev Y2 : MP.Env → Store → SR := (sRet (eCall gTuple (aCons (eVar 2) (aNil))))
noncomputable abbrev YL : MP.Env → Store → SR := sSeq Y0 (sSeq Y1 (Y2))
theorem Y_def : m__law_any_point = ofBody 4 YL := rfl
theorem program_ok {ns : NS} {st : Store} (G : Gd ns st) :
    ∃ (n : Nat) (L H : List Int) (R : List Row) (ts : List (Int × Int)) (g : Nat) (st' : Store), m__law_program [.ref 3, .int 4, .int 5] st = .ok (.ref g) st' ∧ st'[g]? = some (.lst [iD L, iD H, rsD R, tsD ts]) ∧ 1 ≤ n ∧ n ≤ 4 ∧ L.length = n ∧ H.length = n ∧ (∀ x ∈ L, x.natAbs ≤ 100000000) ∧ (∀ x ∈ H, x.natAbs ≤ 100000000) ∧ (∀ j : Nat, j < n → val L j ≤ val H j ∧ val H j ≤ val L j + 4000000) ∧ (∀ r ∈ R, RO n r) ∧ R.length ≤ 20 ∧ TI n ts ∧ ts.length ≤ 9 ∧ ts.Pairwise (fun a b => a.1 < b.1) ∧ Gd ns st' ∧ Fr st st' ∧ st.length ≤ g := by
  have lt := G.lt2
  obtain ⟨d0, st1, e0, p0, q0, G1, F1⟩ := fr_draw (many := 4) G.re (by decide) (by decide)
  obtain ⟨d1, st2, e1, p1, q1, G2, F2⟩ := fr_draw (many := 6) G1 (by decide) (by decide)
  obtain ⟨nn, hnn⟩ : ∃ nn : Int, 1 + d0 = nn := ⟨_, rfl⟩
  obtain ⟨n, hn⟩ : ∃ n : Nat, (n : Int) = nn := ⟨nn.toNat, by omega⟩
  have hnt : nn.toNat = n := by omega
  obtain ⟨large, st3, f2, l0, l1, G3⟩ : ∃ (large : Int) (st3 : Store), P2 [some (.ref 3), some (.int 4), some (.int 5), some (.int nn), some (.int 1), none, none, none, none, none, none, none, none, none, none] st1 = .next [some (.ref 3), some (.int 4), some (.int 5), some (.int nn), some (.int large), none, none, none, none, none, none, none, none, none, none] st3 ∧ 1 ≤ large ∧ large ≤ 1000000 ∧ Gd (ns.1, st) st3 := by
    by_cases hd : d1 = 0
    · obtain ⟨d2, st3, e2, p2, q2, G3, F3⟩ := fr_draw (many := 1000000) G2 (by decide) (by decide)
      refine ⟨1 + d2, st3, ?_, by omega, by omega, G3⟩
      simp! only [e1]
      rw [if_pos hd]
      simp! only [e2]
    · refine ⟨1, st2, ?_, by decide, by decide, G2⟩
      simp! only [e1]
      rw [if_neg hd]
  obtain ⟨k, hk⟩ : ∃ k : Nat, st3.length = k := ⟨_, rfl⟩
  have lt3 := G3.lt2
  obtain ⟨X, hX⟩ : ∃ X, st3 ++ [O.lst [], .lst [], .lst []] = X := ⟨_, rfl⟩
  have GX : Gd (ns.1, st3) X := by rw [← hX]; exact G3.re.app _
  have gX : X[k]? = some (.lst []) ∧ X[k + 1]? = some (.lst []) ∧ X[k + 2]? = some (.lst []) := by rw [← hX, ← hk]; exact ⟨at_h0 _ _ _, at_h1 _ _ _ _, at_h2 _ _ _ _ _⟩
  obtain ⟨us, w8, w9, st4, e6, ul, G4, hpb, g4l, g4h, g4b⟩ := pb_turn (ns := (ns.1, st3)) l0 l1 (il := k) (ih := k + 1) (ib := k + 2) ⟨by omega, by show st3.length ≤ k; omega⟩ ⟨by omega, by show st3.length ≤ k + 1; omega⟩ ⟨by omega, by show st3.length ≤ k + 2; omega⟩ (by omega) (by omega) (by omega) (rgD 0 n) n 0 [] none none X rfl (by omega) GX (fun t m => nomatch m) gX.1 gX.2.1 gX.2.2 (e1 := some (.int 4)) (e2 := some (.int 5)) (e3 := some (.int nn)) (R := [none, none, none, none, none])
  rw [Nat.zero_add] at ul
  have hB : (tB us).length = n := by rw [List.length_map, ul]
  have hbb : ∀ x ∈ tB us, x.natAbs ≤ 1000000000 := fun x mx => by
    obtain ⟨t, mt, rfl⟩ := List.mem_map.mp mx
    have := hpb t mt
    unfold PB at this
    omega
  have lt4 := G4.lt2
  have l34 : st3.length + 3 ≤ st4.length := by
    have := (List.getElem?_eq_some_iff.mp g4b).1
    omega
  obtain ⟨d7, st6, e8, p8, q8, G6, F6⟩ := fr_draw (many := 5 + 1) (G4.re.app [.lst []]) (by decide) (by decide)
  obtain ⟨fo, hfo⟩ : ∃ fo, st4.length = fo := ⟨_, rfl⟩
  have hf6 : st6[fo]? = some (.lst []) := F6.at (by omega) (by rw [← hfo]; exact get_last _ _)
  obtain ⟨R, w11, w12, st7, e9, G7, hR, Rl, hf7⟩ := r_turn (ns := (ns.1, st4)) hn (by omega) (by omega) hB hbb (ib := k + 2) (fo := fo) (by omega) ⟨by omega, by show st4.length ≤ fo; omega⟩ g4b l0 l1 (rgD 0 d7.toNat) d7.toNat 0 [] none none st6 (by simp only [List.length_nil]; omega) G6 (fun r m => nomatch m) hf6 (e1 := some (.int 4)) (e2 := some (.int 5)) (e5 := some (.ref k)) (e6 := some (.ref (k + 1))) (e8 := w8) (e9 := w9)
  have g7l := G7.fr.at (k := k) (by omega) g4l
  have g7h := G7.fr.at (k := k + 1) (by omega) g4h
  obtain ⟨ts, st8, e10, ht, tl, tp, G8, F8⟩ := t2_draw hn (by omega) (by omega) G7
  obtain ⟨Y, hY⟩ : ∃ Y, st8 ++ [O.lst [iD (tL us), iD (tH us), rsD R, tsD ts]] = Y := ⟨_, rfl⟩
  have Fz : Fr st st8 := G3.fr.trans ((show Fr st3 st4 from G4.fr).trans ((show Fr st4 st7 from G7.fr).trans F8))
  have G8' : Gd ns st8 := (G.on (⟨G8.tape, Fz⟩ : Gd (ns.1, st) st8)).1
  have ti : TI n ts := fun t mt => ⟨(ht t mt).1, by have := (ht t mt).2; omega, by have := (ht t mt).2; omega⟩
  have f0 : P0 [some (.ref 3), some (.int 4), some (.int 5), none, none, none, none, none, none, none, none, none, none, none, none] st = .next [some (.ref 3), some (.int 4), some (.int 5), some (.int nn), none, none, none, none, none, none, none, none, none, none, none] st1 := asg_n (by simp! only [e0, hnn])
  have f1 : P1 [some (.ref 3), some (.int 4), some (.int 5), some (.int nn), none, none, none, none, none, none, none, none, none, none, none] st1 = .next [some (.ref 3), some (.int 4), some (.int 5), some (.int nn), some (.int 1), none, none, none, none, none, none, none, none, none, none] st1 := asg_n rfl
  have f3 : P3 [some (.ref 3), some (.int 4), some (.int 5), some (.int nn), some (.int large), none, none, none, none, none, none, none, none, none, none] st3 = .next [some (.ref 3), some (.int 4), some (.int 5), some (.int nn), some (.int large), some (.ref k), none, none, none, none, none, none, none, none, none] (st3 ++ [.lst []]) := asg_n (by simp! only [hk])
  have f4 : P4 [some (.ref 3), some (.int 4), some (.int 5), some (.int nn), some (.int large), some (.ref k), none, none, none, none, none, none, none, none, none] (st3 ++ [.lst []]) = .next [some (.ref 3), some (.int 4), some (.int 5), some (.int nn), some (.int large), some (.ref k), some (.ref (k + 1)), none, none, none, none, none, none, none, none] (st3 ++ [.lst [], .lst []]) := asg_n (by simp! only [hk])
  have f5 : P5 [some (.ref 3), some (.int 4), some (.int 5), some (.int nn), some (.int large), some (.ref k), some (.ref (k + 1)), none, none, none, none, none, none, none, none] (st3 ++ [.lst [], .lst []]) = .next [some (.ref 3), some (.int 4), some (.int 5), some (.int nn), some (.int large), some (.ref k), some (.ref (k + 1)), some (.ref (k + 2)), none, none, none, none, none, none, none] X := asg_n (by
    simp! only [hk]
    rw [hX])
  have f6 : P6 [some (.ref 3), some (.int 4), some (.int 5), some (.int nn), some (.int large), some (.ref k), some (.ref (k + 1)), some (.ref (k + 2)), none, none, none, none, none, none, none] X = .next [some (.ref 3), some (.int 4), some (.int 5), some (.int nn), some (.int large), some (.ref k), some (.ref (k + 1)), some (.ref (k + 2)), w8, w9, none, none, none, none, none] st4 := by
    simp! only []
    rw [if_pos ⟨by omega, by omega⟩, hnt]
    exact e6
  have f7 : P7 [some (.ref 3), some (.int 4), some (.int 5), some (.int nn), some (.int large), some (.ref k), some (.ref (k + 1)), some (.ref (k + 2)), w8, w9, none, none, none, none, none] st4 = .next [some (.ref 3), some (.int 4), some (.int 5), some (.int nn), some (.int large), some (.ref k), some (.ref (k + 1)), some (.ref (k + 2)), w8, w9, some (.ref fo), none, none, none, none] (st4 ++ [.lst []]) := asg_n (by simp! only [hfo])
  have f8 : P8 [some (.ref 3), some (.int 4), some (.int 5), some (.int nn), some (.int large), some (.ref k), some (.ref (k + 1)), some (.ref (k + 2)), w8, w9, some (.ref fo), none, none, none, none] (st4 ++ [.lst []]) = .next [some (.ref 3), some (.int 4), some (.int 5), some (.int nn), some (.int large), some (.ref k), some (.ref (k + 1)), some (.ref (k + 2)), w8, w9, some (.ref fo), w11, w12, none, none] st7 := by
    simp! only [e8]
    rw [if_pos ⟨by omega, by omega⟩]
    exact e9
  have f9 : P9 [some (.ref 3), some (.int 4), some (.int 5), some (.int nn), some (.int large), some (.ref k), some (.ref (k + 1)), some (.ref (k + 2)), w8, w9, some (.ref fo), w11, w12, none, none] st7 = .ret (.ref st8.length) Y := by
    simp! only [g7l, g7h, hf7, e10]
    rw [hY]
  refine ⟨n, tL us, tH us, R, ts, st8.length, Y, ?_, by rw [← hY]; exact get_last _ _, by omega, by omega, by rw [List.length_map, ul], by rw [List.length_map, ul], fun x mx => ?_, fun x mx => ?_, fun j hj => ?_, hR, Rl, ti, tl, tp, by rw [← hY]; exact G8'.app _, by rw [← hY]; exact Fz.trans (Fr.app ..), Fz.1⟩
  · rw [P_def, bd_d]
    show endB (PL [some (.ref 3), some (.int 4), some (.int 5), none, none, none, none, none, none, none, none, none, none, none, none] st) = _
    rw [show PL [some (.ref 3), some (.int 4), some (.int 5), none, none, none, none, none, none, none, none, none, none, none, none] st = .ret (.ref st8.length) Y from sq f0 (sq f1 (sq f2 (sq f3 (sq f4 (sq f5 (sq f6 (sq f7 (sq f8 f9))))))))]
    rfl
  · obtain ⟨t, mt, rfl⟩ := List.mem_map.mp mx
    have := hpb t mt
    unfold PB at this
    omega
  · obtain ⟨t, mt, rfl⟩ := List.mem_map.mp mx
    have := hpb t mt
    unfold PB at this
    omega
  · have hju : j < us.length := by omega
    have := hpb _ (List.getElem_mem hju)
    unfold PB at this
    rw [val_nat (ps := tL us) (x := us[j].1) (by rw [List.getElem?_map, List.getElem?_eq_getElem hju]; rfl), val_nat (ps := tH us) (x := us[j].2.1) (by rw [List.getElem?_map, List.getElem?_eq_getElem hju]; rfl)]
    omega
/-! any point -/
theorem yp_turn {ns : NS} {n : Nat} {L H : List Int} {R : List Row} {x : D} (hL : L.length = n) (hH : H.length = n) (n9 : n ≤ 9) (lb : ∀ x ∈ L, x.natAbs ≤ 100000000) (hb : ∀ j : Nat, j < n → val L j ≤ val H j ∧ val H j ≤ val L j + 4000000) {g r : Nat} (g3 : g ≠ 3) (hg : ns.2[g]? = some (.lst [iD L, iD H, rsD R, x])) (hr : 4 ≤ r ∧ ns.2.length ≤ r) (ds : List D) : ∀ (k i : Nat) (ps : List Int) (v3 : Option D) (st : Store), ps.length = i → i + k = n → Gd ns st → (∀ y ∈ ps, y.natAbs ≤ 1000000000) → st[r]? = some (.lst (ps.map D.int)) →
    ∃ (ps' : List Int) (w3 : Option D) (st' : Store), MP.forM { items := ds } (gN 3) Y1b (rgD (i : Nat) k) [some (.ref 3), some (.ref g), some (.ref r), v3] st = .next [some (.ref 3), some (.ref g), some (.ref r), w3] st' ∧ ps'.length = n ∧ Gd ns st' ∧ (∀ y ∈ ps', y.natAbs ≤ 1000000000) ∧ st'[r]? = some (.lst (ps'.map D.int))
  | 0, i, ps, v3, st, hl, hk, G, hp, h => ⟨ps, v3, st, by rw [rgD_zero, for_nil _ _ _ _ _ (ok_vals ds st)], by omega, G, hp, h⟩
  | k + 1, i, ps, v3, st, hl, hk, G, hp, h => by
    obtain ⟨d, st1, e1, p1, q1, G1, F1⟩ := fr_draw (many := 3) G (by decide) (by decide)
    have hg1 := G1.fr.at g3 hg
    have aL := at_val (ps := L) (v := (i : Nat)) (by omega) (by rw [hL]; omega)
    have aH := at_val (ps := H) (v := (i : Nat)) (by omega) (by rw [hH]; omega)
    have hbi := hb i (by omega)
    have hli := lb _ (val_mem (ps := L) (j := (i : Nat)) (by omega) (by rw [hL]; omega))
    obtain ⟨y, st2, f, hy, G2, F2⟩ : ∃ (y : Int) (st2 : Store), (∀ S, S = st2.set r (.lst ((ps ++ [y]).map D.int)) → Y1b [some (.ref 3), some (.ref g), some (.ref r), some (.int (i : Nat))] st = .next [some (.ref 3), some (.ref g), some (.ref r), some (.int (i : Nat))] S) ∧ y.natAbs ≤ 1000000000 ∧ Gd ns st2 ∧ Fr st1 st2 := by
      have h1 := F1.at (k := r) (by omega) h
      by_cases hd : d = 0
      · obtain ⟨d2, st2, e2, p2, q2, G2, F2⟩ := fr_draw (many := 2000001) G1 (by decide) (by decide)
        have h2 := F2.at (k := r) (by omega) h1
        refine ⟨d2 - 1000000, st2, fun S hS => ?_, by omega, G2, F2⟩
        have ka := app_l (x := d2 - 1000000) h2 (by omega)
        rw [← hS] at ka
        simp! only [e1]
        rw [if_pos hd]
        simp! only [e2]
        rw [h2] at ka
        first | rw [h1, h2, ka] | rw [h2, ka]
        rfl
      · obtain ⟨d2, st2, e2, p2, q2, G2, F2⟩ := fr_draw (many := val H i - val L i + 1) G1 (by omega) (by omega)
        have h2 := F2.at (k := r) (by omega) h1
        refine ⟨val L i + d2, st2, fun S hS => ?_, by omega, G2, F2⟩
        have ka := app_l (x := val L i + d2) h2 (by omega)
        rw [← hS] at ka
        simp! only [e1]
        rw [if_neg hd]
        simp! only [hg1, aL, aH, e2]
        rw [h2] at ka
        first | rw [h1, h2, ka] | rw [h2, ka]
        rfl
    have h2 := F2.at (k := r) (by omega) (F1.at (k := r) (by omega) h)
    obtain ⟨ps', w3, st', ih, a1, a2, a3, a4⟩ := yp_turn hL hH n9 lb hb g3 hg hr ds k (i + 1) (ps ++ [y]) (some (.int (i : Nat))) (st2.set r (.lst ((ps ++ [y]).map D.int))) (by rw [List.length_append, hl]; rfl) (by omega) (G2.put hr _) (fun z m => by
      rcases List.mem_append.mp m with q | q
      · exact hp z q
      · rw [List.mem_singleton.mp q]
        exact hy) (List.getElem?_set_self (List.getElem?_eq_some_iff.mp h2).1)
    refine ⟨ps', w3, st', ?_, a1, a2, a3, a4⟩
    rw [rgD_succ, for_cons _ _ _ _ _ _ _ (ok_vals ds st), gN_def]
    show loopK (Y1b [some (.ref 3), some (.ref g), some (.ref r), some (.int (i : Nat))] st) _ = _
    rw [f _ rfl, show ((i : Nat) : Int) + 1 = ((i + 1 : Nat) : Int) by omega]
    exact ih
theorem any_ok {ns : NS} {n : Nat} {L H : List Int} {R : List Row} {x : D} (hL : L.length = n) (hH : H.length = n) (n9 : n ≤ 9) (lb : ∀ x ∈ L, x.natAbs ≤ 100000000) (hb : ∀ j : Nat, j < n → val L j ≤ val H j ∧ val H j ≤ val L j + 4000000) {g : Nat} (g3 : g ≠ 3) {st : Store} (G : Gd ns st) (hg : st[g]? = some (.lst [iD L, iD H, rsD R, x])) :
    ∃ (pt : List Int) (st' : Store), m__law_any_point [.ref 3, .ref g] st = .ok (iD pt) st' ∧ pt.length = n ∧ (∀ y ∈ pt, y.natAbs ≤ 1000000000) ∧ Gd ns st' ∧ Fr st st' := by
  have lt := G.lt2
  obtain ⟨pt, w3, st', e, hl, G', hp, h⟩ := yp_turn (ns := (ns.1, st)) hL hH n9 lb hb g3 hg (r := st.length) ⟨by omega, Nat.le_refl _⟩ (rgD 0 n) n 0 [] none (st ++ [.lst []]) rfl (by omega) (G.re.app _) (fun y m => nomatch m) (get_last _ _)
  refine ⟨pt, st', ?_, hl, hp, (G.on G').1, (G.on G').2⟩
  obtain ⟨nn, hnn⟩ : ∃ nn : Int, ((L.map D.int).length : Int) = nn := ⟨_, rfl⟩
  have hn2 : nn.toNat = n ∧ 0 ≤ nn ∧ nn ≤ 9 := by rw [List.length_map, hL] at hnn; omega
  have hg2 : (st ++ [O.lst []])[g]? = some (.lst [iD L, iD H, rsD R, x]) := at_app hg _
  unfold m__law_any_point
  simp! only [hg2, hnn]
  rw [if_pos ⟨by omega, by omega⟩, hn2.1]
  show endB (contS (MP.forM { items := rgD 0 n } (gN 3) Y1b (rgD 0 n) [some (.ref 3), some (.ref g), some (.ref st.length), none] (st ++ [.lst []])) _) = _
  rw [show ((0 : Nat) : Int) = 0 from rfl] at e
  rw [e, cN]
  simp! only [h]
end

section
noncomputable abbrev Z0 : MP.Env → Store → SR := (sAsg (eDef 1 m__law_tape (aCons (eVar 0) (aNil))) (gN 1))
noncomputable abbrev Z1 : MP.Env → Store → SR := (sAsg (eDef 3 m__law_program (aCons (eVar 1) (aCons (eC (.int 4)) (aCons (eC (.int 5)) (aNil))))) (gN 2))
noncomputable abbrev Z2 : MP.Env → Store → SR := (sAsg (eCall gLen (aCons (eBin MP.gIx (eVar 2) (eC (.int 0))) (aNil))) (gN 3))
noncomputable abbrev Z3 : MP.Env → Store → SR := (sAsg (eCall gLen (aCons (eBin MP.gIx (eVar 2) (eC (.int 2))) (aNil))) (gN 4))
noncomputable abbrev Z4 : MP.Env → Store → SR := (sAsg (eLc (fSeq (eBin MP.gIx (eVar 2) (eC (.int 0)))) [6] (gN 6) (tYesM) (eC (.int 0))) (gN 5))
noncomputable abbrev Z5b : MP.Env → Store → SR := (sAsg (eVar 8) (gI (eVar 5) (eVar 7)))
noncomputable abbrev Z5 : MP.Env → Store → SR := (sFor (fSeq (eBin MP.gIx (eVar 2) (eC (.int 3)))) (gT 2 (gsCons (gN 7) (gsCons (gN 8) (gsNil)))) Z5b)
noncomputable abbrev Z6 : MP.Env → Store → SR := (sAsg (eLst (aNil)) (gN 9))
noncomputable abbrev Z7 : MP.Env → Store → SR := (sAsg (eLst (aNil)) (gN 10))
noncomputable abbrev Z8b : MP.Env → Store → SR := (sIf (asB (eBin (gCmp fun i j => decide (i < j)) (eBin MP.gIx (eVar 5) (eVar 11)) (eC (.int 0)))) (sSeq (sExpr (eApp (eVar 9) (eBin gAdd (eBin gAdd (eVar 4) (eBin gMulW (eC (.int 2)) (eVar 11))) (eC (.int 1))))) (sExpr (eApp (eVar 10) (eTup (aCons (eBin MP.gIx (eBin MP.gIx (eVar 2) (eC (.int 0))) (eVar 11)) (aCons (eC (.int 1)) (aNil))))))) (sSeq (sExpr (eApp (eVar 9) (eBin gAdd (eVar 4) (eBin gMulW (eC (.int 2)) (eVar 11))))) (sExpr (eApp (eVar 10) (eTup (aCons (eBin MP.gIx (eBin MP.gIx (eVar 2) (eC (.int 1))) (eVar 11)) (aCons (eC (.int 1)) (aNil))))))))
noncomputable abbrev Z8 : MP.Env → Store → SR := (sFor (fRange1 (aCons (eVar 3) (aNil))) (gN 11) Z8b)
noncomputable abbrev Z9 : MP.Env → Store → SR := (sAsg (eMake "Tableau" 5 m_Tableau___init__ (aCons (eBin MP.gIx (eVar 2) (eC (.int 0))) (aCons (eBin MP.gIx (eVar 2) (eC (.int 1))) (aCons (eBin MP.gIx (eVar 2) (eC (.int 2))) (aCons (eBin MP.gIx (eVar 2) (eC (.int 3))) (aNil)))))) (gN 12))
noncomputable abbrev Z10 : MP.Env → Store → SR := (sAsg (eMake "Tableau" 5 m_Tableau___init__ (aCons (eBin MP.gIx (eVar 2) (eC (.int 1))) (aCons (eBin MP.gIx (eVar 2) (eC (.int 1))) (aCons (eTup (aNil)) (aCons (eTup (aCons (eTup (aCons (eC (.int 0)) (aCons (eC (.int 5)) (aNil)))) (aNil))) (aNil)))))) (gN 13))
noncomputable abbrev Z11 : MP.Env → Store → SR := (sIf (tOrM (asB (eBin (gEq true) (eMeth "Tableau" "free" 1 m_Tableau_free (eVar 12) (aNil)) (eCall gTuple (aCons (eVar 9) (aNil))))) (asB (eBin (gEq true) (eMeth "Tableau" "corner" 1 m_Tableau_corner (eVar 12) (aNil)) (eCall gTuple (aCons (eVar 10) (aNil)))))) (sRet (eC (.bl false))) (sNil))
noncomputable abbrev Z12b : MP.Env → Store → SR := (sIf (tOrM (tNotM (asT (eDef 1 m__law_whole (aCons (eBin MP.gIx (eVar 14) (eC (.int 0))) (aNil))))) (tNotM (asT (eDef 1 m__law_whole (aCons (eBin MP.gIx (eVar 14) (eC (.int 1))) (aNil)))))) (sRet (eC (.bl false))) (sNil))
noncomputable abbrev Z12 : MP.Env → Store → SR := (sFor (fSeq (eMeth "Tableau" "corner" 1 m_Tableau_corner (eVar 12) (aNil))) (gN 14) Z12b)
noncomputable abbrev Z13b : MP.Env → Store → SR := (sIf (tNotM (asT (eDef 4 m__law_agrees (aCons (eVar 12) (aCons (eVar 2) (aCons (eVar 9) (aCons (eDef 2 m__law_any_point (aCons (eVar 1) (aCons (eVar 2) (aNil)))) (aNil)))))))) (sRet (eC (.bl false))) (sNil))
noncomputable abbrev Z13 : MP.Env → Store → SR := (sFor (fRange1 (aCons (eC (.int 3)) (aNil))) (gN 15) Z13b)
noncomputable abbrev Z14 : MP.Env → Store → SR := (sRet (eBin (gEq false) (eCall gLen (aCons (eMeth "Tableau" "free" 1 m_Tableau_free (eVar 13) (aNil)) (aNil))) (eVar 3)))
noncomputable abbrev ZL : MP.Env → Store → SR := sSeq Z0 (sSeq Z1 (sSeq Z2 (sSeq Z3 (sSeq Z4 (sSeq Z5 (sSeq Z6 (sSeq Z7 (sSeq Z8 (sSeq Z9 (sSeq Z10 (sSeq Z11 (sSeq Z12 (sSeq Z13 (Z14))))))))))))))
theorem Z_def : m_law = ofBody 16 ZL := rfl
theorem Ta.go {n m : Nat} {L H : List Int} {R : List Row} {ts : List (Int × Int)} {a : Nat → Bool} {p c q : Nat} {rs : List Nat} {st st' : Store} (T : Ta n m L H R ts a p c q rs st) (F : Fr st st') (hm : 4 ≤ m) (hp : 4 ≤ p) (hc : 4 ≤ c) (hq : 4 ≤ q) (hr : ∀ (j r : Nat), rs[j]? = some r → 4 ≤ r) : Ta n m L H R ts a p c q rs st' :=
  ⟨F.at (by omega) T.hm, F.at (by omega) T.hp, F.at (by omega) T.hc, F.at (by omega) T.hq, fun j r h => F.at (by have := hr j r h; omega) (T.hr j r h), T.rl, T.ll, T.hl, T.n9, F.at (by decide) T.t0, F.at (by decide) T.t1, T.sl, T.sh⟩
theorem setc_val {n : Nat} (ts : List (Int × Int)) : ∀ (cs : List Int), cs.length = n → TI n ts → ts.Pairwise (fun a b => a.1 < b.1) → ∀ j : Nat, j < n → (val (ts.foldl (fun cs t => cs.set t.1.toNat t.2) cs) j < 0 ↔ ((j : Int) ∈ negs ts ∨ ((∀ t ∈ ts, t.1 ≠ j) ∧ val cs j < 0))) := by
  induction ts with
  | nil =>
    intro cs _ _ _ j _
    simp [negs]
  | cons t ts ih =>
    intro cs hl ti hp j hj
    rw [List.foldl_cons, ih (cs.set t.1.toNat t.2) (by rw [List.length_set]; exact hl) (fun u m => ti u (List.mem_cons_of_mem _ m)) (List.pairwise_cons.mp hp).2 j hj]
    have hlt := (List.pairwise_cons.mp hp).1
    have ht := (ti t List.mem_cons_self).1
    have hneg : ∀ x, x ∈ negs (t :: ts) ↔ ((t.2 < 0 ∧ t.1 = x) ∨ x ∈ negs ts) := fun x => by
      unfold negs
      by_cases h : t.2 < 0
      · rw [List.filter_cons_of_pos (by simpa using h), List.map_cons, List.mem_cons]
        simp [h, eq_comm]
      · rw [List.filter_cons_of_neg (by simpa using h)]
        simp [h]
    have hin : ∀ x, x ∈ negs ts → t.1 < x := fun x mx => by
      unfold negs at mx
      obtain ⟨u, mu, rfl⟩ := List.mem_map.mp mx
      exact hlt u (List.mem_filter.mp mu).1
    rw [hneg]
    by_cases hjt : t.1 = j
    · have hv : val (cs.set t.1.toNat t.2) j = t.2 := val_nat (by rw [hjt, Int.toNat_natCast]; exact List.getElem?_set_self (by omega))
      rw [hv]
      constructor
      · rintro (h | h)
        · exact .inl (.inr h)
        · exact .inl (.inl ⟨h.2, hjt⟩)
      · rintro ((h | h) | h)
        · exact .inr ⟨fun u mu => by have := hlt u mu; omega, h.1⟩
        · exact .inl h
        · exact absurd hjt (h.1 t List.mem_cons_self)
    · have hv : val (cs.set t.1.toNat t.2) j = val cs j := by
        have hn : t.1.toNat ≠ j := by have := ht.1; omega
        unfold val
        rw [List.getD_eq_getElem?_getD, List.getD_eq_getElem?_getD, Int.toNat_natCast, List.getElem?_set_ne hn]
      rw [hv]
      constructor
      · rintro (h | h)
        · exact .inl (.inr h)
        · exact .inr ⟨fun u mu => by
            rcases List.mem_cons.mp mu with rfl | mu
            · exact hjt
            · exact h.1 u mu, h.2⟩
      · rintro ((h | h) | h)
        · exact absurd h.2 hjt
        · exact .inl h
        · exact .inr ⟨fun u mu => h.1 u (List.mem_cons_of_mem _ mu), h.2⟩
theorem setc_len (ts : List (Int × Int)) : ∀ cs : List Int, (ts.foldl (fun cs t => cs.set t.1.toNat t.2) cs).length = cs.length := by
  induction ts with
  | nil => exact fun _ => rfl
  | cons t ts ih => intro cs; rw [List.foldl_cons, ih, List.length_set]
theorem z5_turn {n : Nat} {S : Store} {ic : Nat} (hi : S.length = ic) (ds : List D) {e0 e1 e2 e3 e4 e6 : Option D} {R : MP.Env} : ∀ (ts : List (Int × Int)) (cs : List Int) (v7 v8 : Option D), TI n ts → cs.length = n → ∃ w7 w8, MP.forM { items := ds } (gT 2 (gsCons (gN 7) (gsCons (gN 8) (gsNil)))) Z5b (ts.map tD) (e0 :: e1 :: e2 :: e3 :: e4 :: some (.ref ic) :: e6 :: v7 :: v8 :: R) (S ++ [.lst (cs.map D.int)]) = .next (e0 :: e1 :: e2 :: e3 :: e4 :: some (.ref ic) :: e6 :: w7 :: w8 :: R) (S ++ [.lst ((ts.foldl (fun cs t => cs.set t.1.toNat t.2) cs).map D.int)])
  | [], cs, v7, v8, _, _ => ⟨v7, v8, by rw [List.map_nil, for_nil _ _ _ _ _ (ok_vals ds _)]; rfl⟩
  | (j, x) :: ts, cs, v7, v8, ti, hl => by
    have hj := (ti (j, x) List.mem_cons_self).1
    obtain ⟨w7, w8, ih⟩ := z5_turn hi ds ts (cs.set j.toNat x) (some (.int j)) (some (.int x)) (fun t m => ti t (List.mem_cons_of_mem _ m)) (by rw [List.length_set]; exact hl) (e0 := e0) (e1 := e1) (e2 := e2) (e3 := e3) (e4 := e4) (e6 := e6) (R := R)
    have g : (S ++ [O.lst (cs.map D.int)])[ic]? = some (.lst (cs.map D.int)) := by rw [← hi]; exact get_last _ _
    have x0 : ixN (cs.map D.int).length j = some j.toNat := ixN_in _ _ hj.1 (by rw [List.length_map, hl]; exact hj.2)
    have hs : ∀ o p : O, (S ++ [o]).set ic p = S ++ [p] := fun o p => by rw [← hi]; exact set_last _ _ _
    refine ⟨w7, w8, ?_⟩
    rw [List.map_cons, for_cons _ _ _ _ _ _ _ (ok_vals ds _)]
    simp! only [g, x0, hs]
    rw [← List.map_set]
    exact ih
theorem z8_turn {n : Nat} {L H : List Int} {RL : Nat} {rr : Int} {a : Nat → Bool} {cs : List Int} {S : Store} {g ic ip io : Nat} {x y : D} (hL : L.length = n) (hH : H.length = n) (hcl : cs.length = n) (n9 : n ≤ 9) (hrr : (RL : Int) = rr) (hr20 : RL ≤ 20) (ha : ∀ j : Nat, j < n → a j = decide (val cs j < 0)) (hg : S[g]? = some (.lst [iD L, iD H, x, y])) (hc : S[ic]? = some (.lst (cs.map D.int))) (hi : S.length = ip) (ho : S.length + 1 = io) (ds : List D) {e0 e1 e3 e6 e7 e8 : Option D} {E : MP.Env} : ∀ (k i : Nat) (v11 : Option D), i + k = n →
    ∃ w11, MP.forM { items := ds } (gN 11) Z8b (rgD (i : Nat) k) (e0 :: e1 :: some (.ref g) :: e3 :: some (.int rr) :: some (.ref ic) :: e6 :: e7 :: e8 :: some (.ref ip) :: some (.ref io) :: v11 :: E) (S ++ [.lst ((plc RL i a).map D.int), .lst ((con L H i a).map fun x => tD (x, 1))]) = .next (e0 :: e1 :: some (.ref g) :: e3 :: some (.int rr) :: some (.ref ic) :: e6 :: e7 :: e8 :: some (.ref ip) :: some (.ref io) :: w11 :: E) (S ++ [.lst ((plc RL n a).map D.int), .lst ((con L H n a).map fun x => tD (x, 1))])
  | 0, i, v11, h => ⟨v11, by rw [rgD_zero, for_nil _ _ _ _ _ (ok_vals ds _), show n = i by omega]⟩
  | k + 1, i, v11, h => by
    obtain ⟨w11, ih⟩ := z8_turn hL hH hcl n9 hrr hr20 ha hg hc hi ho ds k (i + 1) (some (.int (i : Nat))) (by omega) (e0 := e0) (e1 := e1) (e3 := e3) (e6 := e6) (e7 := e7) (e8 := e8) (E := E)
    have aC := at_val (ps := cs) (v := (i : Nat)) (by omega) (by rw [hcl]; omega)
    have aL := at_val (ps := L) (v := (i : Nat)) (by omega) (by rw [hL]; omega)
    have aH := at_val (ps := H) (v := (i : Nat)) (by omega) (by rw [hH]; omega)
    have hg' : ∀ l, (S ++ l)[g]? = some (.lst [iD L, iD H, x, y]) := fun l => at_app hg l
    have hc' : ∀ l, (S ++ l)[ic]? = some (.lst (cs.map D.int)) := fun l => at_app hc l
    have cm : CMulW 2 (i : Nat) := Sm.mul ⟨by decide, by decide⟩ (by unfold Sm; omega)
    have ap1 : ∀ (u v : List D) (d : D), u.length ≤ 100 → appL (S ++ [O.lst u, .lst v])[ip]? (appP (S ++ [O.lst u, .lst v])[ip]? ip d (S ++ [O.lst u, .lst v])) = .ok .non (S ++ [.lst (u ++ [d]), .lst v]) := fun u v d hd => by
      rw [show (S ++ [O.lst u, .lst v])[ip]? = some (.lst u) from by rw [← hi]; exact at_h0 _ _ _, appP_lst _ _ _ _ (lt_big (by omega)), show (S ++ [O.lst u, .lst v]).set ip (.lst (u ++ [d])) = S ++ [.lst (u ++ [d]), .lst v] from by rw [← hi]; exact set_h0 _ _ _ _]
      rfl
    have ap2 : ∀ (u v : List D) (d : D), v.length ≤ 100 → appL (S ++ [O.lst u, .lst v])[io]? (appP (S ++ [O.lst u, .lst v])[io]? io d (S ++ [O.lst u, .lst v])) = .ok .non (S ++ [.lst u, .lst (v ++ [d])]) := fun u v d hd => by
      rw [show (S ++ [O.lst u, .lst v])[io]? = some (.lst v) from by rw [← ho]; exact at_h1 _ _ _ _, appP_lst _ _ _ _ (lt_big (by omega)), show (S ++ [O.lst u, .lst v]).set io (.lst (v ++ [d])) = S ++ [.lst u, .lst (v ++ [d])] from by rw [← ho]; exact set_hk _ _ 1 _]
      rfl
    refine ⟨w11, ?_⟩
    rw [rgD_succ, for_cons _ _ _ _ _ _ _ (ok_vals ds _), gN_def, show ((i : Nat) : Int) + 1 = ((i + 1 : Nat) : Int) by omega]
    have lp : ((plc RL i a).map D.int).length ≤ 100 := by rw [List.length_map, plc_len]; omega
    have lc' : ((con L H i a).map fun x => tD (x, 1)).length ≤ 100 := by rw [List.length_map, con_len]; omega
    have hai := ha i (by omega)
    rw [plc_succ, con_succ, List.map_append, List.map_append, hrr] at ih
    have step : Z8b (e0 :: e1 :: some (.ref g) :: e3 :: some (.int rr) :: some (.ref ic) :: e6 :: e7 :: e8 :: some (.ref ip) :: some (.ref io) :: some (.int (i : Nat)) :: E) (S ++ [.lst ((plc RL i a).map D.int), .lst ((con L H i a).map fun x => tD (x, 1))]) = .next (e0 :: e1 :: some (.ref g) :: e3 :: some (.int rr) :: some (.ref ic) :: e6 :: e7 :: e8 :: some (.ref ip) :: some (.ref io) :: some (.int (i : Nat)) :: E) (S ++ [.lst ((plc RL i a).map D.int ++ [rr + 2 * (i : Int) + (if a i = true then 1 else 0)].map D.int), .lst (((con L H i a).map fun x => tD (x, 1)) ++ [if a i = true then val L i else val H i].map fun x => tD (x, 1))]) := by
      by_cases hv : val cs i < 0
      · rw [hai, decide_eq_true hv, if_pos rfl, if_pos rfl]
        simp! only [hc', aC, hv, cm]
        rw [ap1 _ _ _ lp]
        simp! only [hg', aL]
        rw [ap2 _ _ _ lc']
        simp! only []
      · rw [hai, decide_eq_false hv, if_neg Bool.false_ne_true, if_neg Bool.false_ne_true, Int.add_zero]
        simp! only [hc', aC, hv, cm]
        rw [ap1 _ _ _ lp]
        simp! only [hg', aH]
        rw [ap2 _ _ _ lc']
        simp! only []
    show loopK (Z8b (e0 :: e1 :: some (.ref g) :: e3 :: some (.int rr) :: some (.ref ic) :: e6 :: e7 :: e8 :: some (.ref ip) :: some (.ref io) :: some (.int (i : Nat)) :: E) _) _ = _
    rw [step]
    exact ih
end

section
theorem z13_turn {ns : NS} {n m : Nat} {L H : List Int} {R : List Row} {ts : List (Int × Int)} {a : Nat → Bool} {p c q : Nat} {rs : List Nat} {g w : Nat} (T : Ta n m L H R ts a p c q rs ns.2) (hm : 4 ≤ m) (hp : 4 ≤ p) (hc : 4 ≤ c) (hq : 4 ≤ q) (hr : ∀ (j r : Nat), rs[j]? = some r → 4 ≤ r) (hg : ns.2[g]? = some (.lst [iD L, iD H, rsD R, tsD ts])) (hw : ns.2[w]? = some (.lst ((plc R.length n a).map D.int))) (g4 : 4 ≤ g) (w4 : 4 ≤ w) (lb : ∀ x ∈ L, x.natAbs ≤ 100000000) (hb : ∀ x ∈ H, x.natAbs ≤ 100000000) (hlh : ∀ j : Nat, j < n → val L j ≤ val H j ∧ val H j ≤ val L j + 4000000) (ri : ∀ r ∈ R, RO n r) (rl : R.length ≤ 20) (ti : TI n ts) (tl : ts.length ≤ 9) (ds : List D) {e0 e3 e4 e5 e6 e7 e8 e10 e11 e13 e14 : Option D} : ∀ (k : Nat) (i : Int) (v15 : Option D) (st : Store), Gd ns st →
    ∃ (w15 : Option D) (st' : Store), MP.forM { items := ds } (gN 15) Z13b (rgD i k) [e0, some (.ref 3), some (.ref g), e3, e4, e5, e6, e7, e8, some (.ref w), e10, e11, some (.ref m), e13, e14, v15] st = .next [e0, some (.ref 3), some (.ref g), e3, e4, e5, e6, e7, e8, some (.ref w), e10, e11, some (.ref m), e13, e14, w15] st' ∧ Gd ns st'
  | 0, i, v15, st, G => ⟨v15, st, by rw [rgD_zero, for_nil _ _ _ _ _ (ok_vals ds _)], G⟩
  | k + 1, i, v15, st, G => by
    obtain ⟨pt, st1, e1, pl, pb, G1, F1⟩ := any_ok T.ll T.hl T.n9 lb hlh (by omega) G (G.fr.at (by omega) hg)
    obtain ⟨E, e2⟩ := agrees_ok (T.go G1.fr hm hp hc hq hr) (pt := pt) ⟨T.n9, T.ll, T.hl, pl, pb, fun x mx => by have := lb x mx; omega, fun x mx => by have := hb x mx; omega, ti, tl, ri, rl⟩ (G1.fr.at (by omega) hg) (G1.fr.at (by omega) hw)
    obtain ⟨w15, st', ih, G'⟩ := z13_turn T hm hp hc hq hr hg hw g4 w4 lb hb hlh ri rl ti tl ds k (i + 1) (some (.int i)) (st1 ++ E) (G1.app E) (e0 := e0) (e3 := e3) (e4 := e4) (e5 := e5) (e6 := e6) (e7 := e7) (e8 := e8) (e10 := e10) (e11 := e11) (e13 := e13) (e14 := e14)
    refine ⟨w15, st', ?_, G'⟩
    rw [rgD_succ, for_cons _ _ _ _ _ _ _ (ok_vals ds _), gN_def]
    have step : Z13b [e0, some (.ref 3), some (.ref g), e3, e4, e5, e6, e7, e8, some (.ref w), e10, e11, some (.ref m), e13, e14, some (.int i)] st = .next [e0, some (.ref 3), some (.ref g), e3, e4, e5, e6, e7, e8, some (.ref w), e10, e11, some (.ref m), e13, e14, some (.int i)] (st1 ++ E) := if_f (by
      simp! only [e1, e2]
      rfl)
    show loopK (Z13b [e0, some (.ref 3), some (.ref g), e3, e4, e5, e6, e7, e8, some (.ref w), e10, e11, some (.ref m), e13, e14, some (.int i)] st) _ = _
    rw [step]
    exact ih
theorem z12_turn (ds : List D) {R : MP.Env} {e0 e1 e2 e3 e4 e5 e6 e7 e8 e9 e10 e11 e12 e13 : Option D} {st : Store} : ∀ (xs : List Int) (v14 : Option D), ∃ w14, MP.forM { items := ds } (gN 14) Z12b (xs.map fun x => .tup [.int x, .int 1]) (e0 :: e1 :: e2 :: e3 :: e4 :: e5 :: e6 :: e7 :: e8 :: e9 :: e10 :: e11 :: e12 :: e13 :: v14 :: R) st = .next (e0 :: e1 :: e2 :: e3 :: e4 :: e5 :: e6 :: e7 :: e8 :: e9 :: e10 :: e11 :: e12 :: e13 :: w14 :: R) st
  | [], v14 => ⟨v14, by rw [List.map_nil, for_nil _ _ _ _ _ (ok_vals ds _)]⟩
  | x :: xs, v14 => by
    obtain ⟨w14, ih⟩ := z12_turn ds xs (some (.tup [.int x, .int 1])) (e0 := e0) (e1 := e1) (e2 := e2) (e3 := e3) (e4 := e4) (e5 := e5) (e6 := e6) (e7 := e7) (e8 := e8) (e9 := e9) (e10 := e10) (e11 := e11) (e12 := e12) (e13 := e13) (R := R) (st := st)
    have h1 := whole_ok x st
    have h2 := whole_ok 1 st
    refine ⟨w14, ?_⟩
    rw [List.map_cons, for_cons _ _ _ _ _ _ _ (ok_vals ds _), gN_def]
    have step : Z12b (e0 :: e1 :: e2 :: e3 :: e4 :: e5 :: e6 :: e7 :: e8 :: e9 :: e10 :: e11 :: e12 :: e13 :: some (.tup [.int x, .int 1]) :: R) st = .next (e0 :: e1 :: e2 :: e3 :: e4 :: e5 :: e6 :: e7 :: e8 :: e9 :: e10 :: e11 :: e12 :: e13 :: some (.tup [.int x, .int 1]) :: R) st := if_f (by
      simp! only [h1, h2]
      rfl)
    show loopK (Z12b (e0 :: e1 :: e2 :: e3 :: e4 :: e5 :: e6 :: e7 :: e8 :: e9 :: e10 :: e11 :: e12 :: e13 :: some (.tup [.int x, .int 1]) :: R) st) _ = _
    rw [step]
    exact ih
theorem eq_ones (xs : List Int) (st : Store) : gEq true (.tup (xs.map fun x => .tup [.int x, .int 1])) (.tup (xs.map fun x => tD (x, 1))) st = .ok (.bl false) st := by
  show gEq true (.tup (xs.map fun x => tD (x, 1))) (.tup (xs.map fun x => tD (x, 1))) st = _
  rw [show xs.map (fun x => tD (x, 1)) = (xs.map fun x => (x, (1 : Int))).map tD from by rw [List.map_map]; rfl, ← ofPs_terms]
  exact eq_tt (pln_terms _) (Nat.le_trans (dep_terms _) (by decide))
theorem law_true : ∀ ns : List Int, ns.length ≤ 63 → ∃ st, m_law [.scr ns] [.tab, .tab] = .ok (.bl true) st := by
  intro ns hl
  obtain ⟨st0, hst0⟩ : ∃ st0 : Store, st0 = [.tab, .tab, .lst (ns.map D.int), .lst [.ref 2, .int 0, .int 0]] := ⟨_, rfl⟩
  have G0 : Gd (ns, st0) st0 := ⟨by rw [hst0]; exact ⟨⟨0, 0, rfl, by decide, by decide⟩, rfl⟩, Fr.refl _⟩
  have et := tape_ok ns [.tab, .tab]
  simp only [List.length_cons, List.length_nil, Nat.reduceAdd, List.cons_append, List.nil_append] at et
  rw [← hst0] at et
  have l00 : st0.length = 4 := by rw [hst0]; rfl
  have a0 : st0[0]? = some .tab := by rw [hst0]; rfl
  have a1 : st0[1]? = some .tab := by rw [hst0]; rfl
  obtain ⟨n, L, H, R, ts, g, st1, e1, hg, n1, n4, hL, hH, lb, hb, hlh, ri, rl, ti, tl, tp, G1, F1, gl⟩ := program_ok G0
  have g4 : 4 ≤ g := by omega
  have t0 := F1.at (by decide) a0
  have t1 := F1.at (by decide) a1
  obtain ⟨nn, hnn⟩ : ∃ nn : Int, ((L.map D.int).length : Int) = nn := ⟨_, rfl⟩
  have hn : (n : Int) = nn := by rw [← hnn, List.length_map, hL]
  obtain ⟨rr, hrr⟩ : ∃ rr : Int, ((R.map rD).length : Int) = rr := ⟨_, rfl⟩
  have hrr2 : (R.length : Int) = rr := by rw [← hrr, List.length_map]
  have f0 : Z0 [some (.scr ns), none, none, none, none, none, none, none, none, none, none, none, none, none, none, none] [.tab, .tab] = .next [some (.scr ns), some (.ref 3), none, none, none, none, none, none, none, none, none, none, none, none, none, none] st0 := asg_n (by simp! only [et])
  have f1 : Z1 [some (.scr ns), some (.ref 3), none, none, none, none, none, none, none, none, none, none, none, none, none, none] st0 = .next [some (.scr ns), some (.ref 3), some (.ref g), none, none, none, none, none, none, none, none, none, none, none, none, none] st1 := asg_n (by simp! only [e1])
  have f2 : Z2 [some (.scr ns), some (.ref 3), some (.ref g), none, none, none, none, none, none, none, none, none, none, none, none, none] st1 = .next [some (.scr ns), some (.ref 3), some (.ref g), some (.int nn), none, none, none, none, none, none, none, none, none, none, none, none] st1 := asg_n (by simp! only [hg, hnn])
  have f3 : Z3 [some (.scr ns), some (.ref 3), some (.ref g), some (.int nn), none, none, none, none, none, none, none, none, none, none, none, none] st1 = .next [some (.scr ns), some (.ref 3), some (.ref g), some (.int nn), some (.int rr), none, none, none, none, none, none, none, none, none, none, none] st1 := asg_n (by simp! only [hg, hrr])
  obtain ⟨ic, hic⟩ : ∃ ic, st1.length = ic := ⟨_, rfl⟩
  obtain ⟨z, hz⟩ : ∃ z, List.replicate n (0 : Int) = z := ⟨_, rfl⟩
  have hzl : z.length = n := by rw [← hz]; simp
  have f4 : Z4 [some (.scr ns), some (.ref 3), some (.ref g), some (.int nn), some (.int rr), none, none, none, none, none, none, none, none, none, none, none] st1 = .next [some (.scr ns), some (.ref 3), some (.ref g), some (.int nn), some (.int rr), some (.ref ic), none, none, none, none, none, none, none, none, none, none] (st1 ++ [.lst (z.map D.int)]) := asg_n (by
    have e := lc_all2 (enc := D.int) (out := fun _ : Int => D.int 0) (p := fun _ => true) (fi := fSeq (eBin MP.gIx (eVar 2) (eC (.int 0)))) (vs := [6]) (g := gN 6) (c := tYesM) (f := eC (.int 0)) (src := { items := L.map D.int }) (st := st1) (env := [some (.scr ns), some (.ref 3), some (.ref g), some (.int nn), some (.int rr), none, none, none, none, none, none, none, none, none, none, none]) (xs := L) (by simp! only [hg]) rfl (fun o => ok_vals _ _) (by omega) (fun x _ o => ⟨_, rfl, rfl, fun _ => rfl⟩)
    rw [filter_true] at e
    rw [e, hic, ← hz, List.map_replicate, List.map_const', hL])
  obtain ⟨w7, w8, e5⟩ := z5_turn (n := n) hic (ts.map tD) ts z none none ti hzl (e0 := some (.scr ns)) (e1 := some (.ref 3)) (e2 := some (.ref g)) (e3 := some (.int nn)) (e4 := some (.int rr)) (e6 := none) (R := [none, none, none, none, none, none, none])
  obtain ⟨cs, hcs⟩ : ∃ cs, ts.foldl (fun cs t => cs.set t.1.toNat t.2) z = cs := ⟨_, rfl⟩
  have hcl : cs.length = n := by rw [← hcs, setc_len, hzl]
  have hv0 : ∀ j : Nat, val z j = 0 := fun j => by
    unfold val
    rw [← hz, List.getD_eq_getElem?_getD]
    by_cases h : j < n
    · rw [List.getElem?_replicate_of_lt (by omega)]; rfl
    · rw [List.getElem?_eq_none (by simp; omega)]; rfl
  have ha : ∀ j : Nat, j < n → lowA ts j = decide (val cs j < 0) := fun j hj => by
    have h := setc_val ts z hzl ti tp j hj
    rw [hcs, hv0] at h
    unfold lowA
    rw [decide_eq_decide, h]
    constructor
    · exact .inl
    · rintro (h | h)
      · exact h
      · exact absurd h.2 (by decide)
  rw [hcs] at e5
  obtain ⟨st2, hst2⟩ : ∃ st2, st1 ++ [O.lst (cs.map D.int)] = st2 := ⟨_, rfl⟩
  rw [hst2] at e5
  have hg' : (st1 ++ [O.lst (z.map D.int)])[g]? = some (.lst [iD L, iD H, rsD R, tsD ts]) := at_app hg _
  have f5 : Z5 [some (.scr ns), some (.ref 3), some (.ref g), some (.int nn), some (.int rr), some (.ref ic), none, none, none, none, none, none, none, none, none, none] (st1 ++ [.lst (z.map D.int)]) = .next [some (.scr ns), some (.ref 3), some (.ref g), some (.int nn), some (.int rr), some (.ref ic), none, w7, w8, none, none, none, none, none, none, none] st2 := by
    simp! only [hg']
    exact e5
  have F2 : Fr st1 st2 := by rw [← hst2]; exact Fr.app ..
  have hg2 := F2.at (by omega) hg
  have hc2 : st2[ic]? = some (.lst (cs.map D.int)) := by rw [← hst2, ← hic]; exact get_last _ _
  obtain ⟨ip, hip⟩ : ∃ ip, st2.length = ip := ⟨_, rfl⟩
  have l12 : st1.length ≤ st2.length := F2.1
  have l01 : st0.length ≤ st1.length := F1.1
  obtain ⟨w11, e8⟩ := z8_turn hL hH hcl (by omega) hrr2 rl ha hg2 hc2 hip (io := ip + 1) (by omega) (rgD 0 n) n 0 none (by omega) (e0 := some (.scr ns)) (e1 := some (.ref 3)) (e3 := some (.int nn)) (e6 := none) (e7 := w7) (e8 := w8) (E := [none, none, none, none])
  obtain ⟨st3, hst3⟩ : ∃ st3, st2 ++ [O.lst ((plc R.length n (lowA ts)).map D.int), .lst ((con L H n (lowA ts)).map fun x => tD (x, 1))] = st3 := ⟨_, rfl⟩
  rw [hst3] at e8
  have f6 : Z6 [some (.scr ns), some (.ref 3), some (.ref g), some (.int nn), some (.int rr), some (.ref ic), none, w7, w8, none, none, none, none, none, none, none] st2 = .next [some (.scr ns), some (.ref 3), some (.ref g), some (.int nn), some (.int rr), some (.ref ic), none, w7, w8, some (.ref ip), none, none, none, none, none, none] (st2 ++ [.lst []]) := asg_n (by simp! only [hip])
  have f7 : Z7 [some (.scr ns), some (.ref 3), some (.ref g), some (.int nn), some (.int rr), some (.ref ic), none, w7, w8, some (.ref ip), none, none, none, none, none, none] (st2 ++ [.lst []]) = .next [some (.scr ns), some (.ref 3), some (.ref g), some (.int nn), some (.int rr), some (.ref ic), none, w7, w8, some (.ref ip), some (.ref (ip + 1)), none, none, none, none, none] (st2 ++ [.lst [], .lst []]) := asg_n (by simp! only [hip])
  have f8 : Z8 [some (.scr ns), some (.ref 3), some (.ref g), some (.int nn), some (.int rr), some (.ref ic), none, w7, w8, some (.ref ip), some (.ref (ip + 1)), none, none, none, none, none] (st2 ++ [.lst [], .lst []]) = .next [some (.scr ns), some (.ref 3), some (.ref g), some (.int nn), some (.int rr), some (.ref ic), none, w7, w8, some (.ref ip), some (.ref (ip + 1)), w11, none, none, none, none] st3 := by
    have hnt : nn.toNat = n := by omega
    simp! only []
    rw [if_pos ⟨by omega, by omega⟩, hnt]
    exact e8
  have F3 : Fr st2 st3 := by rw [← hst3]; exact Fr.app ..
  have G3 : Gd (ns, st0) st3 := by rw [← hst3, ← hst2]; exact (G1.app _).app _
  have hg3 := F3.at (by omega) hg2
  have hp3 : st3[ip]? = some (.lst ((plc R.length n (lowA ts)).map D.int)) := by rw [← hst3, ← hip]; exact at_h0 _ _ _
  have ho3 : st3[ip + 1]? = some (.lst ((con L H n (lowA ts)).map fun x => tD (x, 1))) := by rw [← hst3, ← hip]; exact at_h1 _ _ _ _
  have t03 := F3.at (by decide) (F2.at (by decide) t0)
  have t13 := F3.at (by decide) (F2.at (by decide) t1)
  have sL : ∀ x ∈ L, Sm (10 * x) := fun x mx => by have := lb x mx; unfold Sm; omega
  have sH : ∀ x ∈ H, Sm (10 * x) := fun x mx => by have := hb x mx; unfold Sm; omega
  have l23 : st2.length ≤ st3.length := F3.1
  obtain ⟨rs, st4, e9, T4, l34, k4, r4⟩ := init_ok (S := st3) hL hH (by omega) rl (by omega) t03 t13 sL sH (ts := ts)
  have F4 : Fr st3 st4 := ⟨l34, fun j _ hj => k4 j hj⟩
  have G4 : Gd (ns, st0) st4 := ⟨G3.tape.keep (k4 3 (by omega)) (k4 2 (by omega)), G3.fr.trans F4⟩
  have f9 : Z9 [some (.scr ns), some (.ref 3), some (.ref g), some (.int nn), some (.int rr), some (.ref ic), none, w7, w8, some (.ref ip), some (.ref (ip + 1)), w11, none, none, none, none] st3 = .next [some (.scr ns), some (.ref 3), some (.ref g), some (.int nn), some (.int rr), some (.ref ic), none, w7, w8, some (.ref ip), some (.ref (ip + 1)), w11, some (.ref st3.length), none, none, none] st4 := asg_n (by
    have ea : (aCons (eBin MP.gIx (eVar 2) (eC (.int 0))) (aCons (eBin MP.gIx (eVar 2) (eC (.int 1))) (aCons (eBin MP.gIx (eVar 2) (eC (.int 2))) (aCons (eBin MP.gIx (eVar 2) (eC (.int 3))) (aNil))))) [some (.scr ns), some (.ref 3), some (.ref g), some (.int nn), some (.int rr), some (.ref ic), none, w7, w8, some (.ref ip), some (.ref (ip + 1)), w11, none, none, none, none] st3 = .ok [iD L, iD H, rsD R, tsD ts] st3 := by simp! only [hg3]
    rw [mk_d, ea, bR]
    simp! only [e9])
  have hg4 := F4.at (by omega) hg3
  have t04 := F4.at (by decide) t03
  have t14 := F4.at (by decide) t13
  obtain ⟨rs5, st5, e10, T5, l45, k5, r5⟩ := init_ok (S := st4) (L := H) (R := []) (ts := [(0, 5)]) hH hH (by omega) (by decide) (by decide) t04 t14 sH sH
  have F5 : Fr st4 st5 := ⟨l45, fun j _ hj => k5 j hj⟩
  have G5 : Gd (ns, st0) st5 := ⟨G4.tape.keep (k5 3 (by omega)) (k5 2 (by omega)), G4.fr.trans F5⟩
  have f10 : Z10 [some (.scr ns), some (.ref 3), some (.ref g), some (.int nn), some (.int rr), some (.ref ic), none, w7, w8, some (.ref ip), some (.ref (ip + 1)), w11, some (.ref st3.length), none, none, none] st4 = .next [some (.scr ns), some (.ref 3), some (.ref g), some (.int nn), some (.int rr), some (.ref ic), none, w7, w8, some (.ref ip), some (.ref (ip + 1)), w11, some (.ref st3.length), some (.ref st4.length), none, none] st5 := asg_n (by
    have ea : (aCons (eBin MP.gIx (eVar 2) (eC (.int 1))) (aCons (eBin MP.gIx (eVar 2) (eC (.int 1))) (aCons (eTup (aNil)) (aCons (eTup (aCons (eTup (aCons (eC (.int 0)) (aCons (eC (.int 5)) (aNil)))) (aNil))) (aNil))))) [some (.scr ns), some (.ref 3), some (.ref g), some (.int nn), some (.int rr), some (.ref ic), none, w7, w8, some (.ref ip), some (.ref (ip + 1)), w11, some (.ref st3.length), none, none, none] st4 = .ok [iD H, iD H, rsD [], tsD [(0, 5)]] st4 := by
      simp! only [hg4]
      rfl
    rw [mk_d, ea, bR]
    simp! only [e10])
  have T45 := T4.go F5 (by omega) (by omega) (by omega) (by omega) fun j r h => by have := r4 j r h; omega
  have hp5 := F5.at (k := ip) (by omega) (F4.at (k := ip) (by omega) hp3)
  have ho5 := F5.at (k := ip + 1) (by omega) (F4.at (k := ip + 1) (by omega) ho3)
  have efr := free_ok T45
  have eco := corner_ok T45
  have q1 := eq_ints (plc R.length n (lowA ts)) st5
  have q2 := eq_ones (con L H n (lowA ts)) st5
  have hm5 := T45.hm
  have f11 : Z11 [some (.scr ns), some (.ref 3), some (.ref g), some (.int nn), some (.int rr), some (.ref ic), none, w7, w8, some (.ref ip), some (.ref (ip + 1)), w11, some (.ref st3.length), some (.ref st4.length), none, none] st5 = .next [some (.scr ns), some (.ref 3), some (.ref g), some (.int nn), some (.int rr), some (.ref ic), none, w7, w8, some (.ref ip), some (.ref (ip + 1)), w11, some (.ref st3.length), some (.ref st4.length), none, none] st5 := if_f (by
    obtain ⟨m, hm⟩ : ∃ m, st3.length = m := ⟨_, rfl⟩
    rw [hm] at efr eco hm5 ⊢
    simp! only [hm5, efr, hp5]
    rw [q1]
    simp! only [hm5, eco, ho5]
    rw [q2]
    rfl)
  obtain ⟨w14, e12⟩ := z12_turn ((con L H n (lowA ts)).map fun x => .tup [.int x, .int 1]) (con L H n (lowA ts)) none (e0 := some (.scr ns)) (e1 := some (.ref 3)) (e2 := some (.ref g)) (e3 := some (.int nn)) (e4 := some (.int rr)) (e5 := some (.ref ic)) (e6 := none) (e7 := w7) (e8 := w8) (e9 := some (.ref ip)) (e10 := some (.ref (ip + 1))) (e11 := w11) (e12 := some (.ref st3.length)) (e13 := some (.ref st4.length)) (R := [none]) (st := st5)
  have f12 : Z12 [some (.scr ns), some (.ref 3), some (.ref g), some (.int nn), some (.int rr), some (.ref ic), none, w7, w8, some (.ref ip), some (.ref (ip + 1)), w11, some (.ref st3.length), some (.ref st4.length), none, none] st5 = .next [some (.scr ns), some (.ref 3), some (.ref g), some (.int nn), some (.int rr), some (.ref ic), none, w7, w8, some (.ref ip), some (.ref (ip + 1)), w11, some (.ref st3.length), some (.ref st4.length), w14, none] st5 := by
    obtain ⟨m, hm⟩ : ∃ m, st3.length = m := ⟨_, rfl⟩
    rw [hm] at eco hm5 e12 ⊢
    simp! only [hm5, eco]
    exact e12
  have hg5 := F5.at (by omega) hg4
  obtain ⟨w15, st6, e13, G6⟩ := z13_turn (ns := (ns, st5)) T45 (by omega) (by omega) (by omega) (by omega) (fun j r h => by have := r4 j r h; omega) hg5 hp5 g4 (by omega) lb hb hlh ri rl ti tl (rgD 0 3) 3 0 none st5 G5.re (e0 := some (.scr ns)) (e3 := some (.int nn)) (e4 := some (.int rr)) (e5 := some (.ref ic)) (e6 := none) (e7 := w7) (e8 := w8) (e10 := some (.ref (ip + 1))) (e11 := w11) (e13 := some (.ref st4.length)) (e14 := w14)
  have f13 : Z13 [some (.scr ns), some (.ref 3), some (.ref g), some (.int nn), some (.int rr), some (.ref ic), none, w7, w8, some (.ref ip), some (.ref (ip + 1)), w11, some (.ref st3.length), some (.ref st4.length), w14, none] st5 = .next [some (.scr ns), some (.ref 3), some (.ref g), some (.int nn), some (.int rr), some (.ref ic), none, w7, w8, some (.ref ip), some (.ref (ip + 1)), w11, some (.ref st3.length), some (.ref st4.length), w14, w15] st6 := by
    obtain ⟨m, hm⟩ : ∃ m, st3.length = m := ⟨_, rfl⟩
    rw [hm] at e13 ⊢
    simp! only []
    exact e13
  have T6 := T5.go G6.fr (by omega) (by omega) (by omega) (by omega) fun j r h => by have := r5 j r h; omega
  have efr6 := free_ok T6
  have hm6 := T6.hm
  have f14 : Z14 [some (.scr ns), some (.ref 3), some (.ref g), some (.int nn), some (.int rr), some (.ref ic), none, w7, w8, some (.ref ip), some (.ref (ip + 1)), w11, some (.ref st3.length), some (.ref st4.length), w14, w15] st6 = .ret (.bl true) st6 := by
    obtain ⟨m, hm⟩ : ∃ m, st4.length = m := ⟨_, rfl⟩
    rw [hm] at efr6 hm6 ⊢
    have hpn : (((plc 0 n (lowA [(0, 5)])).map D.int).length : Int) = nn := by rw [List.length_map, plc_len, hn]
    simp! only [hm6, efr6, hpn]
    rfl
  refine ⟨st6, ?_⟩
  rw [Z_def, bd_d]
  show endB (ZL [some (.scr ns), none, none, none, none, none, none, none, none, none, none, none, none, none, none, none] [.tab, .tab]) = _
  have hZ : ZL [some (.scr ns), none, none, none, none, none, none, none, none, none, none, none, none, none, none, none] [.tab, .tab] = .ret (.bl true) st6 := sq f0 (sq f1 (sq f2 (sq f3 (sq f4 (sq f5 (sq f6 (sq f7 (sq f8 (sq f9 (sq f10 (sq f11 (sq f12 (sq f13 (f14))))))))))))))
  rw [hZ]
  rfl
end

end T
open PySem PySem.W PyProof.Rows
local macro_rules | `(tactic| o_head ($_:ident $k $a $e)) => `(tactic| o_head (PySem.W.kmHook $k $a $e (MP.tabsNamed ($k MP.prm0) ["Tableau.corner"])))
set_option maxHeartbeats 0 in
theorem PySem.Challenge.cw_commonground_k41_new_tableau_holds : PySem.Challenge.rw_commonground_k41_new_tableau.Holds := by
  w_on; o_law; k_head; (case hw => w_witness2)
  k_fill
  refine MP.walk_tabsM (l := PySem.Challenge.rw_commonground_k41_new_tableau) (k := 5) (x := "script") (xs := ["lowest"]) rfl rfl ⟨rfl, by decide, by decide⟩ (by decide +kernel) (fun w h Y => PySem.W.km_in_of Y) (fun w h Y => PySem.W.km_tabs_of Y) ?F
  case F =>
    intro w mg fa h KX G hmg own hT
    refine' T.all_mk T.law_true KX G hmg own ?xC0 ?xp0 ?xh0 ?xo0 ?xs0 ?xm0 ?xk0 ?xf_Tableau_aim_terms ?xf_Tableau_coefs ?xf_Tableau_constants ?xf_Tableau_highs ?xf_Tableau_lows ?xf_Tableau_places ?xf_Tableau_rows ?xf_Tableau_scale ?a0 ?l0 ?c0 ?k0 ?a1 ?l1 ?c1 ?k1 ?a2 ?l2 ?c2 ?k2 ?q2 ?p2 ?h2 ?n2 ?a3 ?i3 ?l3 ?c3 ?k3 ?a4 ?i4 ?l4 ?c4 ?k4 ?a5 ?i5 ?l5 ?c5 ?k5 ?a6 ?i6 ?l6 ?c6 ?k6 ?a7 ?i7 ?l7 ?c7 ?k7 ?a8 ?i8 ?l8 ?c8 ?k8 ?a9 ?i9 ?l9 ?c9 ?k9 ?a10 ?i10 ?l10 ?c10 ?k10 ?q10 ?p10 ?h10 ?n10 ?o10 ?a11 ?l11 ?c11 ?k11 ?a12 ?l12 ?c12 ?k12 ?a13 ?l13 ?c13 ?k13 ?a14 ?l14 ?c14 ?k14 ?a15 ?l15 ?c15 ?k15 ?a16 ?l16 ?c16 ?k16 ?a17 ?l17 ?c17 ?k17 ?a18 ?l18 ?c18 ?k18 ?a19 ?l19 ?c19 ?k19 ?a20 ?l20 ?c20 ?k20 ?a21 ?l21 ?c21 ?k21 ?a22 ?l22 ?c22 ?k22 ?a23 ?l23 ?c23 ?k23 ?a24 ?l24 ?c24 ?k24 ?a25 ?l25 ?c25 ?k25 ?a26 ?i26 ?l26 ?c26 ?k26 ?a27 ?l27 ?c27 ?k27 ?z_abs ?z_bool ?z_divmod ?z_int ?z_isinstance ?z_len ?z_list ?z_range ?z_tuple ?z_zip ?b_gcd ?nd
    (case xC0 => k_is)
    (case xp0 => k_is)
    (case xh0 => k_is)
    (case xo0 => k_is)
    (case xs0 => k_is)
    (case xm0 => k_is)
    (case xk0 => k_is)
    (case xf_Tableau_aim_terms => k_is)
    (case xf_Tableau_coefs => k_is)
    (case xf_Tableau_constants => k_is)
    (case xf_Tableau_highs => k_is)
    (case xf_Tableau_lows => k_is)
    (case xf_Tableau_places => k_is)
    (case xf_Tableau_rows => k_is)
    (case xf_Tableau_scale => k_is)
    (case a0 => k_is)
    (case l0 => k_is)
    (case c0 => k_is)
    (case k0 => k_is)
    (case a1 => k_is)
    (case l1 => k_is)
    (case c1 => k_is)
    (case k1 => k_is)
    (case a2 => k_is)
    (case l2 => k_is)
    (case c2 => k_is)
    (case k2 => k_is)
    (case q2 => k_is)
    (case p2 => rfl)
    (case h2 => kernel_rfl)
    (case n2 => kernel_rfl)
    (case a3 => k_is)
    (case i3 => k_is)
    (case l3 => k_is)
    (case c3 => k_is)
    (case k3 => k_is)
    (case a4 => k_is)
    (case i4 => k_is)
    (case l4 => k_is)
    (case c4 => k_is)
    (case k4 => k_is)
    (case a5 => k_is)
    (case i5 => k_is)
    (case l5 => k_is)
    (case c5 => k_is)
    (case k5 => k_is)
    (case a6 => k_is)
    (case i6 => k_is)
    (case l6 => k_is)
    (case c6 => k_is)
    (case k6 => k_is)
    (case a7 => k_is)
    (case i7 => k_is)
    (case l7 => k_is)
    (case c7 => k_is)
    (case k7 => k_is)
    (case a8 => k_is)
    (case i8 => k_is)
    (case l8 => k_is)
    (case c8 => k_is)
    (case k8 => k_is)
    (case a9 => k_is)
    (case i9 => k_is)
    (case l9 => k_is)
    (case c9 => k_is)
    (case k9 => k_is)
    (case a10 => k_is)
    (case i10 => k_is)
    (case l10 => k_is)
    (case c10 => k_is)
    (case k10 => k_is)
    (case q10 => k_is)
    (case p10 => rfl)
    (case h10 => kernel_rfl)
    (case n10 => kernel_rfl)
    (case o10 => exact hT _ (by decide +kernel))
    (case a11 => k_is)
    (case l11 => k_is)
    (case c11 => k_is)
    (case k11 => k_is)
    (case a12 => k_is)
    (case l12 => k_is)
    (case c12 => k_is)
    (case k12 => k_is)
    (case a13 => k_is)
    (case l13 => k_is)
    (case c13 => k_is)
    (case k13 => k_is)
    (case a14 => k_is)
    (case l14 => k_is)
    (case c14 => k_is)
    (case k14 => k_is)
    (case a15 => k_is)
    (case l15 => k_is)
    (case c15 => k_is)
    (case k15 => k_is)
    (case a16 => k_is)
    (case l16 => k_is)
    (case c16 => k_is)
    (case k16 => k_is)
    (case a17 => k_is)
    (case l17 => k_is)
    (case c17 => k_is)
    (case k17 => k_is)
    (case a18 => k_is)
    (case l18 => k_is)
    (case c18 => k_is)
    (case k18 => k_is)
    (case a19 => k_is)
    (case l19 => k_is)
    (case c19 => k_is)
    (case k19 => k_is)
    (case a20 => k_is)
    (case l20 => k_is)
    (case c20 => k_is)
    (case k20 => k_is)
    (case a21 => k_is)
    (case l21 => k_is)
    (case c21 => k_is)
    (case k21 => k_is)
    (case a22 => k_is)
    (case l22 => k_is)
    (case c22 => k_is)
    (case k22 => k_is)
    (case a23 => k_is)
    (case l23 => k_is)
    (case c23 => k_is)
    (case k23 => k_is)
    (case a24 => k_is)
    (case l24 => k_is)
    (case c24 => k_is)
    (case k24 => k_is)
    (case a25 => k_is)
    (case l25 => k_is)
    (case c25 => k_is)
    (case k25 => k_is)
    (case a26 => k_is)
    (case i26 => k_is)
    (case l26 => k_is)
    (case c26 => k_is)
    (case k26 => k_is)
    (case a27 => k_is)
    (case l27 => k_is)
    (case c27 => k_is)
    (case k27 => k_is)
    (case z_abs => k_is)
    (case z_bool => k_is)
    (case z_divmod => k_is)
    (case z_int => k_is)
    (case z_isinstance => k_is)
    (case z_len => k_is)
    (case z_list => k_is)
    (case z_range => k_is)
    (case z_tuple => k_is)
    (case z_zip => k_is)
    (case b_gcd => k_is)
    (case nd => decide)
