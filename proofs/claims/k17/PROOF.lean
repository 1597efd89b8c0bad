import PyProof.Rows.All
import Wide.All
import OpenK.AllK
import Wide.FinOn
import HandS.ForMost
import HandS.ForExc
import HandS.TupAny
import HandS.TupMul
import HandS.IsInst
import HandS.Flow
import HandS.Conv
import HandS.Walk
import KE.GoesEnum
import KE.GoesMore
import PySem.Challenge.RW_endclimbs_k17_whole_rooms_by_counting
set_option Elab.async false
set_option linter.all false
set_option maxRecDepth 100000
set_option maxHeartbeats 4000000
namespace Zed
open PySem PySem.Spec PyProof.Rows L2

/-! ### data and results -/
structure Exc where
  cls : Str
  fs : List (Str × PyData)
inductive W where
  | d (x : PyData)
  | m (k : Nat)
  | s (ns : List Int)
inductive MO where
  | lst (xs : List PyData)
  | dict (kvs : List (L2.Key × PyData))
abbrev Mu := List MO
inductive R (α : Type) where
  | ok (a : α) (μ : Mu)
  | exc (x : Exc) (μ : Mu)
  | bad
def R.bind {α β : Type} (r : R α) (k : α → Mu → R β) : R β :=
  match r with
  | .ok a μ => k a μ
  | .exc x μ => .exc x μ
  | .bad => .bad
inductive Sl where
  | w (x : W)
  | own (xs : List PyData)
abbrev Ev := List (Option Sl)

/-! ### the ghost: what is frozen, where the mutable objects stand -/
structure Gh where
  F : Hp
  rho : List Addr

theorem Same.seqT {K : PySem.W.Frag} {H H' : Hp} {a : Addr} {xs : List V} (e : Same H H') (h : SqT K H a xs) : SqT K H' a xs := by
  rcases h with (h | ⟨o, h⟩) | h
  · exact .inl (.inl (e _ _ h))
  · exact .inl (.inr ⟨o, e _ _ h⟩)
  · exact .inr h

mutual
inductive Dz (K : PySem.W.Frag) (F : Hp) : V → PyData → Prop
  | non : Dz K F .non .none
  | bl (b : Bool) : Dz K F (.bl b) (.bool b)
  | int (i : Int) : Dz K F (.int i) (.int i)
  | str (x : Str) : Dz K F (.str x) (.str x)
  | lst {a : Addr} {xs : List V} {ds : List PyData} : F a = some (.lst xs) → DzAll K F xs ds → Dz K F (.ref a) (.list ds)
  | tup {a : Addr} {xs : List V} {ds : List PyData} : SqT K F a xs → DzAll K F xs ds → Dz K F (.ref a) (.tuple ds)
inductive DzAll (K : PySem.W.Frag) (F : Hp) : List V → List PyData → Prop
  | nil : DzAll K F [] []
  | cons {v : V} {vs : List V} {d : PyData} {ds : List PyData} : Dz K F v d → DzAll K F vs ds → DzAll K F (v :: vs) (d :: ds)
end
mutual
theorem Dz.dp {K : PySem.W.Frag} {H : Hp} : ∀ (d : PyData) (v : V), Dz K H v d → Dp K H v d
  | .none, _, h => by cases h; exact .non
  | .bool b, _, h => by cases h; exact .bl b
  | .int i, _, h => by cases h; exact .int i
  | .str x, _, h => by cases h; exact .str x
  | .list ds, _, h => by
    cases h with
    | lst hs ha => exact .lst (SqL.of hs) (DzAll.dp ds _ ha)
  | .tuple ds, _, h => by
    cases h with
    | tup hs ha => exact .tup hs (DzAll.dp ds _ ha)
  | .dict _, _, h => by cases h
theorem DzAll.dp {K : PySem.W.Frag} {H : Hp} : ∀ (ds : List PyData) (vs : List V), DzAll K H vs ds → DpAll K H vs ds
  | [], _, h => by cases h; exact .nil
  | d :: ds, _, h => by
    cases h with
    | cons h1 h2 => exact .cons (Dz.dp d _ h1) (DzAll.dp ds _ h2)
end
mutual
theorem dp_mono {K : PySem.W.Frag} {H H' : Hp} (e : Same H H') : ∀ (d : PyData) (v : V), Dz K H v d → Dz K H' v d
  | .none, _, h => by cases h; exact .non
  | .bool b, _, h => by cases h; exact .bl b
  | .int i, _, h => by cases h; exact .int i
  | .str x, _, h => by cases h; exact .str x
  | .list ds, _, h => by
    cases h with
    | lst hs ha => exact .lst (e _ _ hs) (dpAll_mono e ds _ ha)
  | .tuple ds, _, h => by
    cases h with
    | tup hs ha => exact .tup (Same.seqT e hs) (dpAll_mono e ds _ ha)
  | .dict _, _, h => by cases h
theorem dpAll_mono {K : PySem.W.Frag} {H H' : Hp} (e : Same H H') : ∀ (ds : List PyData) (vs : List V), DzAll K H vs ds → DzAll K H' vs ds
  | [], _, h => by cases h; exact .nil
  | d :: ds, _, h => by
    cases h with
    | cons h1 h2 => exact .cons (dp_mono e d _ h1) (dpAll_mono e ds _ h2)
end
theorem dpAll_len {K : PySem.W.Frag} {H : Hp} : ∀ {ds : List PyData} {vs : List V}, DzAll K H vs ds → vs.length = ds.length
  | [], _, h => by cases h; rfl
  | d :: ds, _, h => by
    cases h with
    | cons h1 h2 => simp [dpAll_len h2]
theorem dpAll_get {K : PySem.W.Frag} {H : Hp} : ∀ {ds : List PyData} {vs : List V} {i : Nat} {d : PyData}, DzAll K H vs ds → ds[i]? = some d → ∃ v, vs[i]? = some v ∧ Dz K H v d
  | [], _, _, _, h, e => by simp at e
  | d :: ds, _, 0, _, h, e => by
    cases h with
    | cons h1 h2 => simp at e; subst e; exact ⟨_, rfl, h1⟩
  | d :: ds, _, i + 1, _, h, e => by
    cases h with
    | cons h1 h2 =>
      obtain ⟨v, q1, q2⟩ := dpAll_get (i := i) h2 (by simpa using e)
      exact ⟨v, by simpa using q1, q2⟩
theorem dpAll_get' {K : PySem.W.Frag} {H : Hp} : ∀ {ds : List PyData} {vs : List V} {i : Nat} {v : V}, DzAll K H vs ds → vs[i]? = some v → ∃ d, ds[i]? = some d ∧ Dz K H v d
  | [], _, _, _, h, e => by cases h; simp at e
  | d :: ds, _, 0, _, h, e => by
    cases h with
    | cons h1 h2 => simp at e; subst e; exact ⟨_, rfl, h1⟩
  | d :: ds, _, i + 1, _, h, e => by
    cases h with
    | cons h1 h2 =>
      obtain ⟨v, q1, q2⟩ := dpAll_get' (i := i) h2 (by simpa using e)
      exact ⟨v, by simpa using q1, q2⟩
theorem dpAll_append {K : PySem.W.Frag} {H : Hp} : ∀ {ds es : List PyData} {vs us : List V}, DzAll K H vs ds → DzAll K H us es → DzAll K H (vs ++ us) (ds ++ es)
  | [], _, _, _, h, h' => by cases h; exact h'
  | d :: ds, _, _, _, h, h' => by
    cases h with
    | cons h1 h2 => exact .cons h1 (dpAll_append h2 h')
theorem dpAll_take {K : PySem.W.Frag} {H : Hp} : ∀ {ds : List PyData} {vs : List V} (n : Nat), DzAll K H vs ds → DzAll K H (vs.take n) (ds.take n)
  | _, _, 0, _ => by rw [List.take_zero, List.take_zero]; exact .nil
  | [], _, n + 1, h => by cases h; exact .nil
  | d :: ds, _, n + 1, h => by
    cases h with
    | cons h1 h2 => exact .cons h1 (dpAll_take n h2)
theorem dpAll_drop {K : PySem.W.Frag} {H : Hp} : ∀ {ds : List PyData} {vs : List V} (n : Nat), DzAll K H vs ds → DzAll K H (vs.drop n) (ds.drop n)
  | _, _, 0, h => h
  | [], _, n + 1, h => by cases h; exact .nil
  | d :: ds, _, n + 1, h => by
    cases h with
    | cons h1 h2 => exact dpAll_drop n h2
theorem dpAll_set {K : PySem.W.Frag} {H : Hp} {v : V} {d : PyData} (hv : Dz K H v d) : ∀ {ds : List PyData} {vs : List V} (n : Nat), DzAll K H vs ds → DzAll K H (vs.set n v) (ds.set n d)
  | [], _, _, h => by cases h; exact .nil
  | d :: ds, _, 0, h => by
    cases h with
    | cons h1 h2 => exact .cons hv h2
  | d :: ds, _, n + 1, h => by
    cases h with
    | cons h1 h2 => exact .cons h1 (dpAll_set hv n h2)

abbrev KvR (K : PySem.W.Frag) (F : Hp) {κ : Type} : List (κ × V) → List (κ × PyData) → Prop := Paired fun p q => p.1 = q.1 ∧ Dz K F p.2 q.2
theorem kvR_mono {K : PySem.W.Frag} {F F' : Hp} {κ : Type} (e : Same F F') : ∀ {ps : List (κ × V)} {qs : List (κ × PyData)}, KvR K F ps qs → KvR K F' ps qs
  | _, _, .nil => .nil
  | _, _, .cons h t => .cons ⟨h.1, dp_mono e _ _ h.2⟩ (kvR_mono e t)

def WRep (K : PySem.W.Frag) (G : Gh) : W → V → Prop
  | .d x, v => Dz K G.F v x
  | .m k, v => ∃ a, G.rho[k]? = some a ∧ v = .ref a
  | .s ns, v => ∃ a, v = .ref a ∧ SqL K G.F a (ns.map V.int)
def MoRep (K : PySem.W.Frag) (F H : Hp) (a : Addr) : MO → Prop
  | .lst xs => ∃ vs, H a = some (.lst vs) ∧ DzAll K F vs xs
  | .dict kvs => ∃ ps : List (L2.Key × V), H a = some (.dK ps) ∧ KvR K F ps kvs
theorem MoRep.some {K : PySem.W.Frag} {F H : Hp} {a : Addr} {o : MO} (h : MoRep K F H a o) : ∃ u, H a = some u := by
  cases o with
  | lst xs => obtain ⟨vs, e, _⟩ := h; exact ⟨_, e⟩
  | dict kvs => obtain ⟨vs, e, _⟩ := h; exact ⟨_, e⟩
theorem MoRep.mono {K : PySem.W.Frag} {F F' H H' : Hp} {a : Addr} {o : MO} (h : MoRep K F H a o) (e : Same F F') (k : H' a = H a) : MoRep K F' H' a o := by
  cases o with
  | lst xs => obtain ⟨vs, q, r⟩ := h; exact ⟨vs, k.trans q, dpAll_mono e _ _ r⟩
  | dict kvs => obtain ⟨vs, q, r⟩ := h; exact ⟨vs, k.trans q, kvR_mono e r⟩
structure Ok (K : PySem.W.Frag) (G : Gh) (μ : Mu) (H : Hp) : Prop where
  fz : Same G.F H
  len : G.rho.length = μ.length
  nd : G.rho.Nodup
  mo : ∀ (k : Nat) (o : MO) (a : Addr), μ[k]? = some o → G.rho[k]? = some a → G.F a = none ∧ MoRep K G.F H a o
theorem Ok.at {K : PySem.W.Frag} {G : Gh} {μ : Mu} {H : Hp} (ok : Ok K G μ H) {k : Nat} {a : Addr} (h : G.rho[k]? = some a) : ∃ o, μ[k]? = some o ∧ G.F a = none ∧ MoRep K G.F H a o := by
  have hk : k < μ.length := by rw [← ok.len]; exact (List.getElem?_eq_some_iff.mp h).1
  exact ⟨μ[k], by simp [hk], ok.mo k _ a (by simp [hk]) h⟩
theorem Ok.rhoSome {K : PySem.W.Frag} {G : Gh} {μ : Mu} {H : Hp} (ok : Ok K G μ H) {a : Addr} (h : a ∈ G.rho) : ∃ u, H a = some u := by
  obtain ⟨k, hk, e⟩ := List.getElem_of_mem h
  obtain ⟨o, _, _, r⟩ := ok.at (k := k) (a := a) (by simp [hk, e])
  exact r.some
theorem Ok.rhoF {K : PySem.W.Frag} {G : Gh} {μ : Mu} {H : Hp} (ok : Ok K G μ H) {a : Addr} (h : a ∈ G.rho) : G.F a = none := by
  obtain ⟨k, hk, e⟩ := List.getElem_of_mem h
  obtain ⟨o, _, f, r⟩ := ok.at (k := k) (a := a) (by simp [hk, e])
  exact f
structure Step (G : Gh) (H : Hp) (G' : Gh) (H' : Hp) : Prop where
  sub : Same G.F G'.F
  pre : ∃ more, G'.rho = G.rho ++ more
  keep : ∀ a o, H a = some o → a ∉ G.rho → H' a = some o
  there : ∀ a, H' a = none → H a = none
  newF : ∀ a, G'.F a ≠ none → G.F a ≠ none ∨ H a = none
  newR : ∀ a ∈ G'.rho, a ∈ G.rho ∨ H a = none
theorem Step.refl (G : Gh) (H : Hp) : Step G H G H := ⟨fun _ _ h => h, ⟨[], by simp⟩, fun _ _ h _ => h, fun _ h => h, fun _ h => .inl h, fun _ h => .inl h⟩
theorem Step.trans {G G1 G2 : Gh} {H H1 H2 : Hp} (s : Step G H G1 H1) (t : Step G1 H1 G2 H2) : Step G H G2 H2 := by
  obtain ⟨m1, e1⟩ := s.pre
  obtain ⟨m2, e2⟩ := t.pre
  refine ⟨s.sub.trans t.sub, ⟨m1 ++ m2, by rw [e2, e1, List.append_assoc]⟩, fun a o h n => ?_, fun a h => s.there a (t.there a h), fun a h => ?_, fun a h => ?_⟩
  · refine t.keep a o (s.keep a o h n) fun z => ?_
    rcases s.newR a z with z | z
    · exact n z
    · rw [h] at z; cases z
  · rcases t.newF a h with z | z
    · exact s.newF a z
    · exact .inr (s.there a z)
  · rcases t.newR a h with z | z
    · exact s.newR a z
    · exact .inr (s.there a z)
theorem WRep.step {K : PySem.W.Frag} {G G' : Gh} {H H' : Hp} {w : W} {v : V} (h : WRep K G w v) (st : Step G H G' H') : WRep K G' w v := by
  cases w with
  | d x => exact dp_mono st.sub x v h
  | m k =>
    obtain ⟨a, e, r⟩ := h
    obtain ⟨m, em⟩ := st.pre
    exact ⟨a, by rw [em, List.getElem?_append_left (List.getElem?_eq_some_iff.mp e).1]; exact e, r⟩
  | s ns =>
    obtain ⟨a, e, q⟩ := h
    exact ⟨a, e, st.sub.seq q⟩
abbrev WAll (K : PySem.W.Frag) (G : Gh) : List W → List V → Prop := Paired (WRep K G)
theorem WAll.step {K : PySem.W.Frag} {G G' : Gh} {H H' : Hp} (s : Step G H G' H') : ∀ {ws : List W} {vs : List V}, WAll K G ws vs → WAll K G' ws vs
  | _, _, .nil => .nil
  | _, _, .cons h t => .cons (h.step s) (WAll.step s t)

/-! ### the slots -/
structure EvOk (K : PySem.W.Frag) (G : Gh) (env : Ev) (σ : L2.St) (H : Hp) : Prop where
  len : σ.length = env.length
  w : ∀ (i : Nat) (x : W), env[i]? = some (some (.w x)) → ∃ v, σ[i]? = some (some v) ∧ WRep K G x v
  own : ∀ (i : Nat) (xs : List PyData), env[i]? = some (some (.own xs)) → ∃ l vs, σ[i]? = some (some (.ref l)) ∧ H l = some (.lst vs) ∧ DzAll K G.F vs xs ∧ G.F l = none ∧ l ∉ G.rho
  one : ∀ (i j : Nat) (xs ys : List PyData) (l : Addr), env[i]? = some (some (.own xs)) → env[j]? = some (some (.own ys)) → σ[i]? = some (some (.ref l)) → σ[j]? = some (some (.ref l)) → i = j
theorem EvOk.step {K : PySem.W.Frag} {G G' : Gh} {env : Ev} {σ : L2.St} {H H' : Hp} (e : EvOk K G env σ H) (s : Step G H G' H') : EvOk K G' env σ H' := by
  refine ⟨e.len, fun i x h => ?_, fun i xs h => ?_, e.one⟩
  · obtain ⟨v, q, r⟩ := e.w i x h
    exact ⟨v, q, r.step s⟩
  · obtain ⟨l, vs, q, hl, r, f, n⟩ := e.own i xs h
    refine ⟨l, vs, q, s.keep l _ hl n, dpAll_mono s.sub _ _ r, ?_, fun z => ?_⟩
    · cases z : G'.F l with
      | none => rfl
      | some o =>
        rcases s.newF l (by rw [z]; simp) with z | z
        · exact absurd f z
        · rw [hl] at z; cases z
    · rcases s.newR l z with z | z
      · exact n z
      · rw [hl] at z; cases z
/-- the owned lists are new since H0 -/
def New (H0 : Hp) (env : Ev) (σ : L2.St) : Prop := ∀ (i : Nat) (xs : List PyData) (l : Addr), env[i]? = some (some (.own xs)) → σ[i]? = some (some (.ref l)) → H0 l = none

/-! ### what is wanted behind -/
def ExRep (K : PySem.W.Frag) (C : Str → Option Addr) (G : Gh) (x : Exc) (cls : Value) (d : Option Addr) : Prop :=
  ∃ c dd ps, C x.cls = some c ∧ cls = .ref c ∧ d = some dd ∧ G.F dd = some (.xd ps) ∧ KvR K G.F ps x.fs
structure Ctx where
  K : PySem.W.Frag
  C : Str → Option Addr
  W : WX
section
variable (Γ : Ctx)
def Post (σ : L2.St) {α β : Type} (rep : Gh → α → β → Prop) (r : R α) (G : Gh) (H : Hp) (Q : β → Hp → Prop) : Prop :=
  match r with
  | .ok a μ => ∀ G' b H', Step G H G' H' → Ok Γ.K G' μ H' → rep G' a b → Q b H'
  | .exc x μ => ∀ G' cls d H', Step G H G' H' → Ok Γ.K G' μ H' → ExRep Γ.K Γ.C G' x cls d → Γ.W cls d σ H'
  | .bad => False
def tz {α β : Type} (rep : Gh → α → β → Prop) (f : Ev → Mu → R α) : L2.St → Hp → (β → Hp → Prop) → Prop := fun σ H Q =>
  ∃ G μ env, Ok Γ.K G μ H ∧ EvOk Γ.K G env σ H ∧ Post Γ σ rep (f env μ) G H Q
end
variable {Γ : Ctx} {σ : L2.St}
theorem Post.step {α β : Type} {rep : Gh → α → β → Prop} {r : R α} {G G1 : Gh} {H H1 : Hp} {Q : β → Hp → Prop} (p : Post Γ σ rep r G H Q) (s : Step G H G1 H1) : Post Γ σ rep r G1 H1 Q := by
  cases r with
  | ok a μ => exact fun G' b H' t => p G' b H' (s.trans t)
  | exc x μ => exact fun G' c d H' t => p G' c d H' (s.trans t)
  | bad => exact p
theorem Post.mono {α β : Type} {rep : Gh → α → β → Prop} {r : R α} {G : Gh} {H : Hp} {Q Q' : β → Hp → Prop} (p : Post Γ σ rep r G H Q) (h : ∀ b H', Q b H' → Q' b H') : Post Γ σ rep r G H Q' := by
  cases r with
  | ok a μ => exact fun G' b H' s o r => h _ _ (p G' b H' s o r)
  | exc x μ => exact p
  | bad => exact p
/-- the first part's end, from which the second goes on -/
theorem Post.bind {α β γ δ : Type} {rep : Gh → α → β → Prop} {rep' : Gh → γ → δ → Prop} {r : R α} {k : α → Mu → R γ} {G : Gh} {H : Hp} {Q : δ → Hp → Prop} (p : Post Γ σ rep' (r.bind k) G H Q) :
    Post Γ σ rep r G H fun b H1 => ∃ G1 a μ1, Step G H G1 H1 ∧ Ok Γ.K G1 μ1 H1 ∧ rep G1 a b ∧ Post Γ σ rep' (k a μ1) G1 H1 Q := by
  cases r with
  | ok a μ => exact fun G' b H' s o r => ⟨G', a, μ, s, o, r, p.step s⟩
  | exc x μ => exact p
  | bad => exact p
theorem Post.val {β α : Type} {rep : Gh → α → β → Prop} {a : α} {b : β} {μ : Mu} {G : Gh} {H : Hp} {Q : β → Hp → Prop} (p : Post Γ σ rep (.ok a μ) G H Q) (ok : Ok Γ.K G μ H) (r : rep G a b) : Q b H := p G b H (Step.refl G H) ok r
abbrev Zw (Γ : Ctx) (σ : L2.St) := Post Γ σ (WRep Γ.K)

/-! ### new objects -/
theorem free_of {K : PySem.W.Frag} {G : Gh} {μ : Mu} {H : Hp} (ok : Ok K G μ H) {p : Addr} (n : H p = none) : G.F p = none ∧ p ∉ G.rho := by
  refine ⟨?_, fun z => ?_⟩
  · cases e : G.F p with
    | none => rfl
    | some o => rw [ok.fz p o e] at n; cases n
  · obtain ⟨u, e⟩ := ok.rhoSome z
    rw [n] at e; cases e
theorem same_upd {F : Hp} {p : Addr} {o : HO} (n : F p = none) : Same F (upd F p o) := fun b u q => by rw [upd_ne (ne_of_none q n)]; exact q
/-- something new, frozen -/
theorem laid_f {K : PySem.W.Frag} {G : Gh} {μ : Mu} {H : Hp} (ok : Ok K G μ H) {p : Addr} (n : H p = none) (o : HO) :
    Step G H ⟨upd G.F p o, G.rho⟩ (upd H p o) ∧ Ok K ⟨upd G.F p o, G.rho⟩ μ (upd H p o) := by
  obtain ⟨nF, nR⟩ := free_of ok n
  refine ⟨⟨same_upd nF, ⟨[], by simp⟩, fun a u h _ => ?_, fun a h => ?_, fun a h => ?_, fun a h => .inl h⟩, ⟨fun a u h => ?_, ok.len, ok.nd, fun k u a h1 h2 => ?_⟩⟩
  · rw [upd_ne (ne_of_none h n)]; exact h
  · by_cases z : a = p
    · subst z; exact n
    · rw [upd_ne z] at h; exact h
  · by_cases z : a = p
    · subst z; exact .inr n
    · refine .inl ?_
      show G.F a ≠ none
      have h' : upd G.F p o a ≠ none := h
      rw [upd_ne z] at h'; exact h'
  · have h' : upd G.F p o a = some u := h
    by_cases z : a = p
    · subst z; rw [upd_same] at h' ⊢; exact h'
    · rw [upd_ne z] at h' ⊢; exact ok.fz a u h'
  · obtain ⟨f, r⟩ := ok.mo k u a h1 h2
    have za : a ≠ p := fun z => nR (z ▸ List.mem_of_getElem? h2)
    refine ⟨?_, r.mono (same_upd nF) (upd_ne za)⟩
    show upd G.F p o a = none
    rw [upd_ne za]; exact f
theorem Post.newL {ds : List PyData} {vs : List V} {μ : Mu} {G : Gh} {H : Hp} {Q : V → Hp → Prop} (p : Zw Γ σ (.ok (.d (.list ds)) μ) G H Q) (ok : Ok Γ.K G μ H) (r : DzAll Γ.K G.F vs ds) {l : Addr} (n : H l = none) : Q (.ref l) (upd H l (.lst vs)) := by
  obtain ⟨s, o⟩ := laid_f ok n (.lst vs)
  exact p _ _ _ s o (.lst (by show upd G.F l _ l = _; exact upd_same) (dpAll_mono s.sub _ _ r))
theorem Post.newT {ds : List PyData} {vs : List V} {μ : Mu} {G : Gh} {H : Hp} {Q : V → Hp → Prop} (p : Zw Γ σ (.ok (.d (.tuple ds)) μ) G H Q) (ok : Ok Γ.K G μ H) (r : DzAll Γ.K G.F vs ds) {l : Addr} (n : H l = none) : Q (.ref l) (upd H l (.tup vs)) := by
  obtain ⟨s, o⟩ := laid_f ok n (.tup vs)
  exact p _ _ _ s o (.tup (SqT.of (by show upd G.F l _ l = _; exact upd_same)) (dpAll_mono s.sub _ _ r))
/-- a new mutable object -/
theorem laid_m {K : PySem.W.Frag} {G : Gh} {μ : Mu} {H : Hp} (ok : Ok K G μ H) {p : Addr} (n : H p = none) (o : HO) (mo : MO) (h : ∀ H', H' p = some o → MoRep K G.F H' p mo) :
    Step G H ⟨G.F, G.rho ++ [p]⟩ (upd H p o) ∧ Ok K ⟨G.F, G.rho ++ [p]⟩ (μ ++ [mo]) (upd H p o) := by
  obtain ⟨nF, nR⟩ := free_of ok n
  refine ⟨⟨fun _ _ h => h, ⟨[p], rfl⟩, fun a u h _ => ?_, fun a h => ?_, fun a h => .inl h, fun a h => ?_⟩, ⟨fun a u h => ?_, ?_, ?_, fun k u a h1 h2 => ?_⟩⟩
  · rw [upd_ne (ne_of_none h n)]; exact h
  · by_cases z : a = p
    · subst z; exact n
    · rw [upd_ne z] at h; exact h
  · rcases List.mem_append.mp h with h | h
    · exact .inl h
    · have e : a = p := by simpa using h
      subst e; exact .inr n
  · have h' : G.F a = some u := h
    rw [upd_ne (ne_of_none h' nF)]
    exact ok.fz a u h
  · show (G.rho ++ [p]).length = (μ ++ [mo]).length
    rw [List.length_append, List.length_append, ok.len]; rfl
  · show (G.rho ++ [p]).Nodup
    refine List.nodup_append.mpr ⟨ok.nd, by simp, fun a ha b hb => ?_⟩
    have e : b = p := by simpa using hb
    intro z
    rw [z, e] at ha
    exact nR ha
  · have h2' : (G.rho ++ [p])[k]? = some a := h2
    by_cases hk : k < μ.length
    · rw [List.getElem?_append_left hk] at h1
      rw [List.getElem?_append_left (by rw [ok.len]; exact hk)] at h2'
      obtain ⟨f, r⟩ := ok.mo k u a h1 h2'
      have za : a ≠ p := fun z => nR (z ▸ List.mem_of_getElem? h2')
      exact ⟨f, r.mono (fun _ _ h => h) (upd_ne za)⟩
    · have hk' : k = μ.length := by
        have := (List.getElem?_eq_some_iff.mp h1).1
        rw [List.length_append] at this
        simp at this; omega
      subst hk'
      have e1 : mo = u := by simpa using h1
      have e2 : p = a := by
        rw [← ok.len] at h2'
        simpa using h2'
      subst e1 e2
      exact ⟨nF, h _ upd_same⟩
/-- a mutable object changed -/
theorem write_m {K : PySem.W.Frag} {G : Gh} {μ : Mu} {H : Hp} (ok : Ok K G μ H) {k : Nat} {p : Addr} (hk : G.rho[k]? = some p) (o : HO) (mo : MO) (h : ∀ H', H' p = some o → MoRep K G.F H' p mo) :
    Step G H G (upd H p o) ∧ Ok K G (μ.set k mo) (upd H p o) := by
  have hp : p ∈ G.rho := List.mem_of_getElem? hk
  have nF := ok.rhoF hp
  obtain ⟨u0, hu0⟩ := ok.rhoSome hp
  refine ⟨⟨fun _ _ h => h, ⟨[], by simp⟩, fun a u h hn => ?_, fun a h => ?_, fun a h => .inl h, fun a h => .inl h⟩, ⟨fun a u h => ?_, by rw [List.length_set]; exact ok.len, ok.nd, fun j u a h1 h2 => ?_⟩⟩
  · rw [upd_ne (show a ≠ p from fun z => hn (by rw [z]; exact hp))]; exact h
  · by_cases z : a = p
    · subst z; rw [upd_same] at h; cases h
    · rw [upd_ne z] at h; exact h
  · rw [upd_ne (ne_of_none h nF)]; exact ok.fz a u h
  · by_cases hj : j = k
    · subst hj
      rw [hk] at h2
      have e2 : p = a := Option.some.inj h2
      subst e2
      have hj' : j < μ.length := by rw [← ok.len]; exact (List.getElem?_eq_some_iff.mp hk).1
      rw [List.getElem?_set_self hj'] at h1
      have e1 : mo = u := Option.some.inj h1
      subst e1
      exact ⟨nF, h _ upd_same⟩
    · rw [List.getElem?_set_ne (Ne.symm hj)] at h1
      obtain ⟨f, r⟩ := ok.mo j u a h1 h2
      have za : a ≠ p := fun z => by
        subst z
        obtain ⟨hj1, e1⟩ := List.getElem?_eq_some_iff.mp h2
        obtain ⟨hk1, e2⟩ := List.getElem?_eq_some_iff.mp hk
        exact hj ((List.getElem_inj ok.nd).mp (e1.trans e2.symm))
      exact ⟨f, r.mono (fun _ _ h => h) (upd_ne za)⟩
end Zed

/-! defs with their promises, where no repr is under way -/
namespace Zed
open PySem PySem.Spec PyProof.Rows L2
structure FnG (P : Program) (w : World) (K : PySem.W.Frag) (mg : Str → Option Value) (base : Heap) (k : Nat) (f : Addr) (fd : FuncData) (ps : List Str) (sp : Sp) : Prop where
  len : ∀ vs H Q E, sp vs H Q E → vs.length = ps.length
  run : ∀ (A : Around) (outer : List Env) (s : Shared) (H : Hp) (args : Args) (us : List Value) (vs : List V) (Q : VK) (E : XK), A.guards = some [] → Room k A → Env0 P w K mg base A outer s H →
    BindsTo s fd args (ps.zip us) → Vals vs us → sp vs H Q E → codeAny (model P w) A (.call (.ref f) args) (CR (L2.CX P w) outer P w H s Q E) s
theorem FnG.mono {P : Program} {w : World} {K : PySem.W.Frag} {mg : Str → Option Value} {base : Heap} {j k : Nat} {f : Addr} {fd : FuncData} {ps : List Str} {sp : Sp} (F : FnG P w K mg base j f fd ps sp) (h : j ≤ k) : FnG P w K mg base k f fd ps sp :=
  ⟨F.len, fun A outer s H args us vs Q E hg hr => F.run A outer s H args us vs Q E hg (hr.mono h)⟩
section
variable {P : Program} {w : World} {K : PySem.W.Frag} {mg : Str → Option Value} {base : Heap}
theorem fnG_of {x qual : Str} {st : Stmt} {f : Addr} {fd : FuncData} {N ps : List Str} {k : Nat} {sp : Sp} (F : Fun K x qual st f fd) (S : FnScope N ps (defScope st))
    (len : ∀ vs H Q E, sp vs H Q E → vs.length = ps.length)
    (hbody : ∀ (cdv : Value) (A : Around) (outer : List Env) (s : Shared) (H : Hp) (vs : List V) (Q : VK) (E : XK), A.guards = some [] → Room k (A.deeper (envOfC qual (defScope st) s.heap.objs.size f cdv)) → sp vs H Q E →
      ∃ t, PSs (cxOf (L2.CX P w) P w K mg base N qual (defScope st) f cdv A outer s H E) (defBody st) t ∧ t { nx := fun _ H' => Q .non H', rt := Q } (start N vs) H) : FnG P w K mg base (k + 1) f fd ps sp := by
  obtain ⟨oc, od, kV, doc, pm, an, cdv, ct, osl, rfl, lk, hcd⟩ := F.ex
  refine ⟨len, fun A outer s H args us vs Q E hgd hr e0 hb r hsp => ?_⟩
  have hl := len vs H Q E hsp
  have inK : K.In s.heap := e0.mod.kin.keeps fun b o q => (e0.bs b o q).1
  have lim : s.heap.NoLimit := e0.mod.nolimit.keeps fun b o q => (e0.bs b o q).1
  have par : ∀ y ∈ ps.zip us, (defScope st).names.lookup y.1 = some .local ∨
      ((defScope st).names.lookup y.1 = some .cell ∧ ((cellsFrom (s.heap.objs.size + 1) (defScope st).names []).lookup y.1).isSome = true) := by
    rintro ⟨n, v⟩ hy
    cases S.par n (List.of_mem_zip hy).1 with
    | inl q => exact .inl q
    | inr q => exact .inr ⟨q, PySem.W.cellsFrom_some _ _ _ (.inl q)⟩
  refine codeAny_call_function hr.depth (inK _ _ lk) rfl S.co S.gen rfl (PySem.W.codeRec_of inK hcd) (hb _ _ _ _ ?_)
  refine wpAny_newFunctionEnv_cells S.kind par fun env he s1 x => ?_
  subst he
  refine ⟨lim.keeps x.toInCall.keep, codeAny_func ?_⟩
  obtain ⟨t, ht, hq⟩ := hbody cdv A outer s H vs Q E hgd (hr.deeper _) hsp
  have I0 := inv_start (CX := L2.CX P w) (E := E) (cd := cdv) (qual := qual) (f := f) S hr.hd e0 hl r x
  refine wpAny_mono (ht.run [] s1 (start N vs) H _ I0 hq) (fun fl s' hs => ?_) fun e s' hs => hs
  cases fl with
  | ret u =>
    obtain ⟨v, σ', H', J, rv, q⟩ := hs
    exact ⟨v, H', J.os, J.bare, J.base, J.hok, rv, q⟩
  | next =>
    obtain ⟨σ', H', J, q⟩ := hs
    exact ⟨V.non, H', J.os, J.bare, J.base, J.hok, rfl, q⟩
  | brk => exact (show False from hs.elim fun _ z => z.elim fun _ z => z.2).elim
  | cont => exact (show False from hs.elim fun _ z => z.elim fun _ z => z.2).elim
end
section
variable {X : Cx} {k : Nat} {f : Addr} {fd : FuncData} {ps : List Str} {sp : Sp} {ds : List Value} {dvs : List V} {W : WX} {x : Str} {p pos : Pos} {e : Expr} {es : List Expr} {t : TA}
theorem run_fnG {pins : List (Addr × Obj)} {σ : L2.St} {H : Hp} {s : Shared} {Q : VK} {us : List Value} {vs : List V} (F : FnG X.prog X.w X.K X.mg X.base k f fd ps sp) (hgd : X.A.guards = some []) (hr : Room k X.A) (hb : Binds X.K fd ps ds) (hd : Vals dvs ds) (tk : Takes X W)
    (I : Inv X pins σ H s) (r : Vals vs us) (h : sp (vs ++ dvs) H Q (fun c d H' => W c d σ H')) : wpAny (model X.prog X.w) X.A (call (.ref f) us) (EP X pins σ Q) X.xe s := by
  have rr : Vals (vs ++ dvs) (us ++ ds) := r.append hd
  have hl : (us ++ ds).length = ps.length := by rw [← rr.length]; exact F.len _ _ _ _ h
  refine wpAny_call (codeAny_mono (F.run X.A X.stack s H ⟨us, []⟩ (us ++ ds) (vs ++ dvs) Q (fun c d H' => W c d σ H') hgd hr I.env0 (hb s us I.kIn hl) rr h) fun r s' hq => ?_)
  cases r with
  | error e => exact tk e s' (XE.of_call I (fun _ _ _ z => z) hq)
  | ok fl =>
    cases fl with
    | ret u => exact I.after hq
    | next => exact hq.elim
    | brk => exact hq.elim
    | cont => exact hq.elim
def tCallG (sp : Sp) (dvs : List V) (W : WX) (t : TA) : TE := fun σ H Q => t σ H fun vs H1 => sp (vs ++ dvs) H1 Q (fun c d H' => W c d σ H')
theorem pe_callG (F : FnG X.prog X.w X.K X.mg X.base k f fd ps sp) (hgd : X.A.guards = some []) (hr : Room k X.A) (hg : Gl X x) (hm : X.mg x = some (.ref f)) (hk : PySem.W.keepIn X.K (.ref f) = true) (hb : Binds X.K fd ps ds) (hd : Vals dvs ds) (tk : Takes X W)
    (ha : PA X (e :: es) t) (hdb : (x == ("__debug__" : Str)) = false := by decide) (he : starEach (e :: es) X.env = (false, eval e X.env) :: starEach es X.env := by rfl) (hpl : (backTo pos (starEach es X.env)).any (·.1) = false := by rfl) :
    PE X (.Call (.Name x p) (e :: es) [] pos) (tCallG sp dvs W t) := ⟨fun pins s σ H Q I h =>
  wpAny_Call_Name_kw (ld_glob I hg hm (PySem.W.callWith_K (h₀ := X.base) I.ok.mod.kin hk (thn (ha.run pos pins s σ H _ I h) fun us s1 ⟨vs, H1, I1, r, q⟩ => ⟨I1.kIn, run_fnG F hgd hr hb hd tk I1 r q⟩) he hpl) hdb)⟩
theorem pe_callG0 (F : FnG X.prog X.w X.K X.mg X.base k f fd ps sp) (hgd : X.A.guards = some []) (hr : Room k X.A) (hg : Gl X x) (hm : X.mg x = some (.ref f)) (hk : PySem.W.keepIn X.K (.ref f) = true) (hb : Binds X.K fd ps ds) (hd : Vals dvs ds) (tk : Takes X W)
    (hdb : (x == ("__debug__" : Str)) = false := by decide) : PE X (.Call (.Name x p) [] [] pos) (tCallG sp dvs W tNil) := ⟨fun pins s σ H Q I h =>
  wpAny_Call_Name_kw (ld_glob I hg hm (PySem.W.callWith_K0 I.kIn hk (run_fnG (us := []) F hgd hr hb hd tk I .nil h)) hdb)⟩
end

/-! ### the law's end -/
section
variable {P : Program} {w : World} {K : PySem.W.Frag} {mg mb : Str → Option Value} {k : Nat} {fa a : Addr} {fd : FuncData} {x : Str} {sp : Sp} {s1 : Shared} {vs : List Value} {ns : List Int}
abbrev wTrue : VK := fun v _ => v = .bl true
abbrev wNo : XK := fun _ _ _ => False
theorem lawG_core (KX : K.In s1.heap) (hns : s1.heap.Ns mainGlobals mg) (hb : s1.heap.Ns builtinsNs mb) (hbb : ∀ x : Str, x ≠ "__name__" → mb x = bootBuiltins x) (hlim : s1.heap.NoLimit) (hg : s1.gens = #[])
    (ha : s1.heap.get? a = some { cls := .type "list", data := .seq vs.toArray }) (hr : Room k callerA) (F : ∀ base : Heap, K.In base → base.Ns mainGlobals mg → FnG P w K mg base k fa fd [x] sp)
    (hbind : ∀ (s : Shared) (u : Value), BindsTo s fd ⟨[u], []⟩ [(x, u)]) (H : Hp) (hO : Only H) (hsp : sp [.ref a] H wTrue wNo) (hok : HOk P w H s1.heap) (hA : ∀ b, H b ≠ none → b = a) (hK : H a ≠ none → K.lookup a = none) :
    codeAny (model P w) callerA (.call (.ref fa) ⟨[.ref a], []⟩) (fun r s' => r = .ok (.ret (.bool true)) ∧ OldK s1.heap s'.heap ∧ s'.os = s1.os ∧ AllBare s'.gens) s1 := by
  have isA : ∀ {b : Addr} {u : HO}, H b = some u → b = a := fun {b u} q => hA b (by rw [q]; exact Option.some_ne_none u)
  have noD : ∀ {b : Addr} {o : Obj} {es : Array DictEntry} {ep : Nat}, s1.heap.get? b = some o → o.data = .dict es ep → H b = none := by
    intro b o es ep e d
    cases q : H b with
    | none => rfl
    | some u =>
      have eb := isA q
      rw [eb, ha] at e
      rw [← Option.some.inj e] at d
      exact nomatch d
  have nsH : ∀ {b : Addr} {m : Str → Option Value}, s1.heap.Ns b m → (hidT s1.heap H).Ns b m := fun {b m} ⟨o, es, ep, e, d, r⟩ => ⟨o, es, ep, hidT_get e (noD e d), d, r⟩
  have kB : K.In (hidT s1.heap H) := by
    intro b o e
    refine hidT_get (KX b o e) ?_
    cases q : H b with
    | none => rfl
    | some u =>
      have eb := isA q
      subst eb
      rw [hK (by rw [q]; exact Option.some_ne_none u)] at e
      cases e
  have md : Mod K mg (hidT s1.heap H) := ⟨kB, nsH hns, ⟨mb, nsH hb, hbb⟩, let ⟨mc, h1, h2⟩ := hlim; ⟨mc, nsH h1, h2⟩⟩
  have nil : ∀ {b : Addr}, b ∉ frs [] := fun {b} z => absurd (show b ∈ ([] : List Addr) from z) (by simp)
  have e0 : Env0 P w K mg (hidT s1.heap H) callerA [] s1 H := ⟨rfl, md, fun b o e => of_hidT e, Nat.le_of_eq (hidT_size _ _), trivial, fun b hb => absurd hb nil, hok, .of_eq hg⟩
  refine codeAny_mono ((F _ kB (nsH hns)).run callerA [] s1 H ⟨[.ref a], []⟩ [.ref a] [.ref a] wTrue wNo rfl hr e0 (hbind s1 (.ref a)) (.cons rfl .nil) hsp) fun r s' h => ?_
  cases r with
  | error e => exact h.elim fun _ h => h.elim fun _ h => h.elim fun _ h => h.elim fun _ h => h.elim fun _ h => h.2.2.2.2.2.2.2.elim
  | ok fl =>
    cases fl with
    | next => exact h.elim
    | brk => exact h.elim
    | cont => exact h.elim
    | ret u =>
      obtain ⟨v, H', os, bare, un, hok', rv, q⟩ := h
      have q' : v = .bl true := q
      rw [q'] at rv
      obtain rfl : u = Value.bool true := rv
      refine ⟨rfl, OldK.of_keep fun b o e => ?_, os, bare⟩
      rcases hO b with z | ⟨ob, xs, z⟩
      · exact un.keep b o e z nil (by simp)
      · obtain ⟨e1, _⟩ := hok b _ z
        obtain ⟨e2, _⟩ := hok' b _ (un.frzs b ob _ z)
        rw [e2, ← e1, e]
theorem lawG_call (KX : K.In s1.heap) (hns : s1.heap.Ns mainGlobals mg) (hb : s1.heap.Ns builtinsNs mb) (hbb : ∀ x : Str, x ≠ "__name__" → mb x = bootBuiltins x) (hlim : s1.heap.NoLimit) (hg : s1.gens = #[])
    (ha : s1.heap.get? a = some { cls := .type "list", data := .seq vs.toArray }) (hi : IntsAre vs ns) (hl : ns.length ≤ sizeLine) (hr : Room k callerA) (F : ∀ base : Heap, K.In base → base.Ns mainGlobals mg → FnG P w K mg base k fa fd [x] sp)
    (hbind : ∀ (s : Shared) (u : Value), BindsTo s fd ⟨[u], []⟩ [(x, u)]) (hsp : ∀ H : Hp, Only H → SqL K H a (ns.map V.int) → sp [.ref a] H wTrue wNo) :
    codeAny (model P w) callerA (.call (.ref fa) ⟨[.ref a], []⟩) (fun r s' => r = .ok (.ret (.bool true)) ∧ OldK s1.heap s'.heap ∧ s'.os = s1.os ∧ AllBare s'.gens) s1 := by
  have rv := vals_ints hi
  have hlen : vs.length ≤ sizeLine := by rw [hi.length]; exact hl
  cases hk : K.lookup a with
  | some o =>
    have e := KX a o hk
    rw [ha] at e
    have eo := Option.some.inj e
    have hS : SqL K (fun _ => none) a (ns.map V.int) := .inr ⟨o, vs.toArray, _, hk, by rw [← eo], by rw [← eo], by rw [← eo], by rw [List.size_toArray]; exact hlen, by simpa using rv⟩
    have hO : Only fun _ => none := fun _ => .inl rfl
    exact lawG_core KX hns hb hbb hlim hg ha hr F hbind (fun _ => none) hO (hsp _ hO hS) (fun b u z => nomatch z) (fun b z => absurd rfl z) fun z => absurd rfl z
  | none =>
    have at_a : ∀ {b : Addr} {u : HO}, (if b = a then some (HO.frz { cls := .type "list", data := .seq vs.toArray } (.lst (ns.map V.int))) else none) = some u → b = a ∧ u = HO.frz { cls := .type "list", data := .seq vs.toArray } (.lst (ns.map V.int)) := by
      intro b u z
      by_cases e : b = a
      · rw [if_pos e] at z
        exact ⟨e, (Option.some.inj z).symm⟩
      · rw [if_neg e] at z
        cases z
    have hO : Only fun b => if b = a then some (HO.frz { cls := .type "list", data := .seq vs.toArray } (.lst (ns.map V.int))) else none := by
      intro b
      by_cases e : b = a
      · exact .inr ⟨_, _, if_pos e⟩
      · exact .inl (if_neg e)
    refine lawG_core KX hns hb hbb hlim hg ha hr F hbind _ hO (hsp _ hO (.inl (.inr ⟨_, if_pos rfl⟩))) (fun b u z => ?_) (fun b z => ?_) fun _ => hk
    · obtain ⟨e1, e2⟩ := at_a z
      subst e1 e2
      exact ⟨ha, by rw [List.length_map]; exact hl, vs, _, rv, ha⟩
    · by_cases e : b = a
      · exact e
      · exact absurd (if_neg e) z
end
theorem walkG_of {l : PySem.W.OpenLaw} {n k : Nat} {q : Program} {loose : List Str} {XP : (Str → Option Value) → Heap → Prop} {YP : World → Heap → Prop} {d : DefRec} {K : Params → PySem.W.Frag} {sp : PySem.W.Frag → Sp} {x : Str}
    (hn : l.most = some n) (hn2 : n ≤ sizeLine) (hdf : d.params.defaults = []) (hr : Room k callerA) (hY : ∀ (w : World) (h : Heap), YP w h → (K w.params).In h)
    (F : ∀ (w : World) (mg : Str → Option Value) (fa : Addr) (h : Heap), (K w.params).In h → h.Ns mainGlobals mg → mg d.name = some (.ref fa) → ∃ fd : FuncData, (∀ (s : Shared) (u : Value), BindsTo s fd ⟨[u], []⟩ [(x, u)]) ∧
      ∀ base : Heap, (K w.params).In base → base.Ns mainGlobals mg → FnG l.prog w (K w.params) mg base k fa fd [x] (sp (K w.params)))
    (hsp : ∀ (K : PySem.W.Frag) (H : Hp) (a : Addr) (ns : List Int), ns.length ≤ n → Only H → SqL K H a (ns.map V.int) → sp K [.ref a] H wTrue wNo) : PySem.W.WalkO q loose XP YP l.row.toRowW d [] (fun f vs => PySem.call f vs) := by
  refine Att.attach_call hn hdf fun w s0 s1 mg mb fa o pm cd doc a vs ns G Y ho hd hcd hmg hobj hints hlen hg => ?_
  obtain ⟨fd, hb, hF⟩ := F w mg fa _ (hY w _ Y) G.T.g hmg
  exact lawG_call (hY w _ Y) G.T.g G.T.b G.T.builtins G.T.nolimit hg hobj hints (Nat.le_trans hlen hn2) hr hF hb fun H hO hS => hsp _ H a ns hlen hO hS
end Zed

/-! expressions: what they are worth as data, and that the text is worth it -/
namespace Zed
open PySem PySem.Spec PyProof.Rows L2

abbrev EM := Ev → Mu → R W
abbrev TM := Ev → Mu → R Bool
abbrev AM := Ev → Mu → R (List W)
abbrev szl : Nat := 16777216
theorem szl_eq : sizeLine = szl := rfl

abbrev cx (X : Cx) (C : Str → Option Addr) (W : WX) : Ctx := ⟨X.K, C, W⟩
/-- an expression, a test, arguments: the data that they are worth -/
abbrev ZE (X : Cx) (C : Str → Option Addr) (Wx : WX) (e : Expr) (f : EM) : Prop := PE X e (tz (cx X C Wx) (WRep X.K) f)
abbrev bRep : Gh → Bool → Bool → Prop := fun _ a b => a = b
abbrev ZT (X : Cx) (C : Str → Option Addr) (Wx : WX) (e : Expr) (f : TM) : Prop := PT X e (tz (cx X C Wx) bRep f)
abbrev ZP (X : Cx) (C : Str → Option Addr) (Wx : WX) (e : Expr) (f : TM) : Prop := PW X e (tz (cx X C Wx) bRep f)
abbrev ZA (X : Cx) (C : Str → Option Addr) (Wx : WX) (es : List Expr) (f : AM) : Prop := PA X es (tz (cx X C Wx) (WAll X.K) f)

theorem pe_imp {X : Cx} {e : Expr} {t t' : TE} (h : PE X e t) (i : ∀ σ H Q, t' σ H Q → t σ H Q) : PE X e t' := ⟨fun pins s σ H Q I hw => h.run pins s σ H Q I (i σ H Q hw)⟩
theorem pt_imp {X : Cx} {e : Expr} {t t' : TT} (h : PT X e t) (i : ∀ σ H Q, t' σ H Q → t σ H Q) : PT X e t' := ⟨fun pins s σ H Q I hw => h.run pins s σ H Q I (i σ H Q hw)⟩
theorem pw_imp {X : Cx} {e : Expr} {t t' : TT} (h : PW X e t) (i : ∀ σ H Q, t' σ H Q → t σ H Q) : PW X e t' := ⟨fun wh pins s σ H Q I hw => h.run wh pins s σ H Q I (i σ H Q hw)⟩
theorem pa_imp {X : Cx} {es : List Expr} {t t' : TA} (h : PA X es t) (i : ∀ σ H Q, t' σ H Q → t σ H Q) : PA X es t' := ⟨fun pos pins s σ H Q I hw => h.run pos pins s σ H Q I (i σ H Q hw)⟩

section
variable {X : Cx} {C : Str → Option Addr} {Wx : WX}
/-- first a part, then what hangs on it -/
theorem tz_bind {α β γ δ : Type} {rep : Gh → α → β → Prop} {rep' : Gh → γ → δ → Prop} {f : Ev → Mu → R α} {k : Ev → α → Mu → R γ} {Γ : Ctx} {σ : L2.St} {H : Hp} {Q : δ → Hp → Prop} {q : β → Hp → Prop}
    (h : tz Γ rep' (fun env μ => (f env μ).bind (k env)) σ H Q)
    (i : ∀ G env a μ b H1, Ok Γ.K G μ H1 → EvOk Γ.K G env σ H1 → rep G a b → Post Γ σ rep' (k env a μ) G H1 Q → q b H1) : tz Γ rep f σ H q := by
  obtain ⟨G, μ, env, ok, eo, p⟩ := h
  refine ⟨G, μ, env, ok, eo, p.bind.mono ?_⟩
  rintro b H1 ⟨G1, a, μ1, st, ok1, rp, p1⟩
  exact i G1 env a μ1 b H1 ok1 (eo.step st) rp p1
theorem tz_pure {α β : Type} {rep : Gh → α → β → Prop} {f : Ev → Mu → R α} {Γ : Ctx} {σ : L2.St} {H : Hp} {Q : β → Hp → Prop} {q : Prop}
    (h : tz Γ rep f σ H Q) (i : ∀ G env μ, Ok Γ.K G μ H → EvOk Γ.K G env σ H → Post Γ σ rep (f env μ) G H Q → q) : q := by
  obtain ⟨G, μ, env, ok, eo, p⟩ := h
  exact i G env μ ok eo p

/-! ### constants and names -/
def e_c (x : PyData) : EM := fun _ μ => .ok (.d x) μ
theorem ze_int {i j pos} : ZE X C Wx (.Constant (.int i) j pos) (e_c (.int i)) := pe_imp pe_int fun _ _ _ h => tz_pure h fun _ _ _ ok _ p => p.val ok (.int i)
theorem ze_bl {b j pos} : ZE X C Wx (.Constant (.bool b) j pos) (e_c (.bool b)) := pe_imp pe_bl fun _ _ _ h => tz_pure h fun _ _ _ ok _ p => p.val ok (.bl b)
theorem ze_non {j pos} : ZE X C Wx (.Constant .none j pos) (e_c .none) := pe_imp pe_non fun _ _ _ h => tz_pure h fun _ _ _ ok _ p => p.val ok .non
theorem ze_str {x j pos} : ZE X C Wx (.Constant (.str x) j pos) (e_c (.str x)) := pe_imp pe_str fun _ _ _ h => tz_pure h fun _ _ _ ok _ p => p.val ok (.str x)
def e_v (i : Nat) : EM := fun env μ => match env[i]? with
  | some (some (.w x)) => .ok x μ
  | _ => .bad
theorem ze_v {i : Nat} {x : Expr} (h : PE X x (tVar i)) : ZE X C Wx x (e_v i) := pe_imp h fun _ _ _ h => tz_pure h fun G env μ ok eo p => by
  unfold e_v at p
  split at p
  · rename_i x e
    obtain ⟨v, q, r⟩ := eo.w i x e
    exact ⟨v, q, p.val ok r⟩
  · exact p.elim
/-- a constant of the module's top -/
theorem ze_glob {x : Str} {d : PyData} {v : V} {u : Value} {pos : Pos} (hg : Gl X x) (hm : X.mg x = some u) (r : RelV v u) (hd : ∀ F, Dz X.K F v d) (hdb : (x == ("__debug__" : Str)) = false := by decide) : ZE X C Wx (.Name x pos) (e_c d) :=
  pe_imp (pe_glob hg hm r hdb) fun _ _ _ h => tz_pure h fun G _ _ ok _ p => p.val ok (hd G.F)

/-! ### operators -/
def e_op (g : W → W → Mu → R W) (fa fb : EM) : EM := fun env μ => (fa env μ).bind fun x μ => (fb env μ).bind fun y μ => g x y μ
def Sem2 (X : Cx) (C : Str → Option Addr) (Wx : WX) (r : R2) (g : W → W → Mu → R W) : Prop :=
  ∀ (σ : L2.St) G μ H x y v u Q, Ok X.K G μ H → WRep X.K G x v → WRep X.K G y u → Zw (cx X C Wx) σ (g x y μ) G H Q → r v u H Q
theorem tz_op {r : R2} {g : W → W → Mu → R W} (hg : Sem2 X C Wx r g) {fa fb : EM} {σ : L2.St} {H : Hp} {Q : VK} (h : tz (cx X C Wx) (WRep X.K) (e_op g fa fb) σ H Q) :
    tOp r (tz (cx X C Wx) (WRep X.K) fa) (tz (cx X C Wx) (WRep X.K) fb) σ H Q := by
  refine tz_bind (rep := WRep X.K) (k := fun env x μ => (fb env μ).bind fun y μ => g x y μ) h fun G env x μ v H1 ok1 eo1 rx p1 => ?_
  refine ⟨G, μ, env, ok1, eo1, p1.bind.mono ?_⟩
  rintro u H2 ⟨G2, y, μ2, st, ok2, ry, p2⟩
  exact hg σ G2 μ2 H2 x y v u Q ok2 (rx.step st) ry p2
theorem ze_op {op : Operator} {r : R2} {g : W → W → Mu → R W} {a b : Expr} {fa fb : EM} {pos : Pos} (ho : OpR X (binaryOp op) r) (hg : Sem2 X C Wx r g) (ha : ZE X C Wx a fa) (hb : ZE X C Wx b fb) :
    ZE X C Wx (.BinOp a op b pos) (e_op g fa fb) := pe_imp (pe_op ho ha hb) fun _ _ _ h => tz_op hg h
theorem ze_cmp {op : CmpOp} {r : R2} {g : W → W → Mu → R W} {a b : Expr} {fa fb : EM} {pos : Pos} (ho : OpR X (compareOp op) r) (hg : Sem2 X C Wx r g) (ha : ZE X C Wx a fa) (hb : ZE X C Wx b fb) (hm : behindInMarks op b = false) :
    ZE X C Wx (.Compare a [op] [b] pos) (e_op g fa fb) := pe_imp (pe_cmpR ho ha hb hm) fun _ _ _ h => tz_op hg h
/-- a value that is True or False, as a test -/
def asB (x : W) (μ : Mu) : R Bool := match x with
  | .d (.bool b) => .ok b μ
  | _ => .bad
def t_v (fa : EM) : TM := fun env μ => (fa env μ).bind asB
theorem asB_rep {σ : L2.St} {K : PySem.W.Frag} {C : Str → Option Addr} {Wx : WX} {G : Gh} {μ : Mu} {H : Hp} {x : W} {v : V} {Q : Bool → Hp → Prop} (ok : Ok K G μ H) (rx : WRep K G x v) (p : Post ⟨K, C, Wx⟩ σ bRep (asB x μ) G H Q) : ∃ b, v = .bl b ∧ Q b H := by
  unfold asB at p
  split at p
  · cases rx
    exact ⟨_, rfl, p.val ok rfl⟩
  · exact p.elim
theorem zt_val {e : Expr} {fa : EM} (h : ZE X C Wx e fa) (he : ∀ whole, isTrue e X.env whole = (do let v ← whole; standAt e.pos; holding [v] (truthy v)) := by intro _; rfl) : ZT X C Wx e (t_v fa) :=
  pt_imp (pt_val h he) fun _ _ _ h => tz_bind h fun _ _ _ _ _ _ ok1 _ rx p1 => asB_rep ok1 rx p1
theorem zt_cmp {op : CmpOp} {r : R2} {g : W → W → Mu → R W} {a b : Expr} {fa fb : EM} {pos : Pos} (ho : OpR X (compareOp op) r) (hg : Sem2 X C Wx r g) (ha : ZE X C Wx a fa) (hb : ZE X C Wx b fb) (hm : behindInMarks op b = false) :
    ZT X C Wx (.Compare a [op] [b] pos) (t_v (e_op g fa fb)) := pt_imp (pt_cmpR ho ha hb hm) fun σ H Q h => by
  refine tz_op hg ?_
  obtain ⟨G, μ, env, ok, eo, p⟩ := h
  refine ⟨G, μ, env, ok, eo, p.bind.mono ?_⟩
  rintro v H1 ⟨G1, x, μ1, st, ok1, rx, p1⟩
  exact asB_rep ok1 rx p1
def e_un (g : W → Mu → R W) (fa : EM) : EM := fun env μ => (fa env μ).bind g
def Sem1 (X : Cx) (C : Str → Option Addr) (Wx : WX) (r : V → Hp → VK → Prop) (g : W → Mu → R W) : Prop :=
  ∀ (σ : L2.St) G μ H x v Q, Ok X.K G μ H → WRep X.K G x v → Zw (cx X C Wx) σ (g x μ) G H Q → r v H Q
theorem ze_un {op : UnaryOp} {r : V → Hp → VK → Prop} {g : W → Mu → R W} {a : Expr} {fa : EM} {pos : Pos} (ho : UnR X (unaryOp op) r) (hg : Sem1 X C Wx r g) (ha : ZE X C Wx a fa) : ZE X C Wx (.UnaryOp op a pos) (e_un g fa) :=
  pe_imp (pe_un ho ha) fun σ _ Q h => tz_bind h fun G _ x μ v H1 ok1 _ rx p1 => hg σ G μ H1 x v Q ok1 rx p1

/-! ### and, or, not, if -/
def t_and (fa fb : TM) : TM := fun env μ => (fa env μ).bind fun b μ => if b = true then fb env μ else .ok false μ
def t_or (fa fb : TM) : TM := fun env μ => (fa env μ).bind fun b μ => if b = true then .ok true μ else fb env μ
def t_not (fa : TM) : TM := fun env μ => (fa env μ).bind fun b μ => .ok (!b) μ
theorem zp_and1 {a : Expr} {fa : TM} {pos : Pos} (ha : ZT X C Wx a fa) : ZP X C Wx (.BoolOp .And [a] pos) fa := pw_and1 ha
theorem zp_or1 {a : Expr} {fa : TM} {pos : Pos} (ha : ZT X C Wx a fa) : ZP X C Wx (.BoolOp .Or [a] pos) fa := pw_or1 ha
theorem zp_and {a b : Expr} {r : List Expr} {fa fb : TM} {pos : Pos} (ha : ZT X C Wx a fa) (hb : ZP X C Wx (.BoolOp .And (b :: r) pos) fb) : ZP X C Wx (.BoolOp .And (a :: b :: r) pos) (t_and fa fb) :=
  pw_imp (pw_and ha hb) fun σ H Q h => tz_bind h fun G env b μ b' H1 ok1 eo1 rx p1 => by
    cases rx
    cases b with
    | true => exact ⟨G, μ, env, ok1, eo1, p1⟩
    | false => exact p1.val ok1 rfl
theorem zp_or {a b : Expr} {r : List Expr} {fa fb : TM} {pos : Pos} (ha : ZT X C Wx a fa) (hb : ZP X C Wx (.BoolOp .Or (b :: r) pos) fb) : ZP X C Wx (.BoolOp .Or (a :: b :: r) pos) (t_or fa fb) :=
  pw_imp (pw_or ha hb) fun σ H Q h => tz_bind h fun G env b μ b' H1 ok1 eo1 rx p1 => by
    cases rx
    cases b with
    | true => exact p1.val ok1 rfl
    | false => exact ⟨G, μ, env, ok1, eo1, p1⟩
theorem zp_t {e : Expr} {f : TM} (h : ZP X C Wx e f) : ZT X C Wx e f := PW.pt h
theorem zt_not {a : Expr} {fa : TM} {pos : Pos} (ha : ZT X C Wx a fa) : ZT X C Wx (.UnaryOp .Not a pos) (t_not fa) :=
  pt_imp (pt_not ha) fun σ H Q h => tz_bind h fun G env b μ b' H1 ok1 eo1 rx p1 => by
    cases rx
    exact p1.val ok1 rfl
def e_if (ft : TM) (fa fb : EM) : EM := fun env μ => (ft env μ).bind fun b μ => if b = true then fa env μ else fb env μ
theorem ze_if {c a b : Expr} {ft : TM} {fa fb : EM} {pos : Pos} (hc : ZT X C Wx c ft) (ha : ZE X C Wx a fa) (hb : ZE X C Wx b fb) : ZE X C Wx (.IfExp c a b pos) (e_if ft fa fb) :=
  pe_imp (pe_ifExp hc ha hb) fun σ H Q h => tz_bind h fun G env b μ b' H1 ok1 eo1 rx p1 => by
    cases rx
    cases b with
    | true => exact ⟨G, μ, env, ok1, eo1, p1⟩
    | false => exact ⟨G, μ, env, ok1, eo1, p1⟩
/-- as values: all but the last True or False -/
def e_and (fa fb : EM) : EM := fun env μ => (t_v fa env μ).bind fun b μ => if b = true then fb env μ else .ok (.d (.bool false)) μ
def e_or (fa fb : EM) : EM := fun env μ => (t_v fa env μ).bind fun b μ => if b = true then .ok (.d (.bool true)) μ else fb env μ
def e_not (fa : EM) : EM := fun env μ => (t_v fa env μ).bind fun b μ => .ok (.d (.bool (!b))) μ
theorem R.bind_assoc {α β γ : Type} (r : R α) (f : α → Mu → R β) (g : β → Mu → R γ) : (r.bind f).bind g = r.bind fun a μ => (f a μ).bind g := by
  cases r <;> rfl
theorem tz_asB {β γ : Type} {rep : Gh → γ → β → Prop} {fa : EM} {k : Ev → Bool → Mu → R γ} {σ : L2.St} {H : Hp} {Q : β → Hp → Prop} {q : V → Hp → Prop} (h : tz (cx X C Wx) rep (fun env μ => (t_v fa env μ).bind (k env)) σ H Q)
    (i : ∀ G env b μ H1, Ok X.K G μ H1 → EvOk X.K G env σ H1 → Post (cx X C Wx) σ rep (k env b μ) G H1 Q → q (.bl b) H1) : tz (cx X C Wx) (WRep X.K) fa σ H q := by
  have h' : tz (cx X C Wx) rep (fun env μ => (fa env μ).bind fun x μ => (asB x μ).bind (k env)) σ H Q := by
    have e : (fun env μ => (t_v fa env μ).bind (k env)) = (fun (env : Ev) (μ : Mu) => (fa env μ).bind fun x μ => (asB x μ).bind (k env)) := by
      funext env μ
      exact R.bind_assoc _ _ _
    rw [← e]
    exact h
  refine tz_bind (k := fun env x μ => (asB x μ).bind (k env)) h' fun G env x μ v H1 ok1 eo1 rx p1 => ?_
  unfold asB at p1
  split at p1
  · cases rx
    exact i G env _ μ H1 ok1 eo1 p1
  · exact p1.elim
theorem ze_one {op} {a : Expr} {fa : EM} {pos : Pos} (ha : ZE X C Wx a fa) : ZE X C Wx (.BoolOp op [a] pos) fa := pe_one ha
theorem ze_and {a b : Expr} {r : List Expr} {fa fb : EM} {pos : Pos} (ha : ZE X C Wx a fa) (hb : ZE X C Wx (.BoolOp .And (b :: r) pos) fb) : ZE X C Wx (.BoolOp .And (a :: b :: r) pos) (e_and fa fb) :=
  pe_imp (pe_and ha hb) fun σ H Q h => tz_asB h fun G env b μ H1 ok1 eo1 p1 => by
    refine ⟨b, rfl, ?_⟩
    cases b with
    | true => exact ⟨G, μ, env, ok1, eo1, p1⟩
    | false => exact p1.val ok1 (.bl false)
theorem ze_or {a b : Expr} {r : List Expr} {fa fb : EM} {pos : Pos} (ha : ZE X C Wx a fa) (hb : ZE X C Wx (.BoolOp .Or (b :: r) pos) fb) : ZE X C Wx (.BoolOp .Or (a :: b :: r) pos) (e_or fa fb) :=
  pe_imp (pe_or ha hb) fun σ H Q h => tz_asB h fun G env b μ H1 ok1 eo1 p1 => by
    refine ⟨b, rfl, ?_⟩
    cases b with
    | true => exact p1.val ok1 (.bl true)
    | false => exact ⟨G, μ, env, ok1, eo1, p1⟩
theorem ze_not {a : Expr} {fa : EM} {pos : Pos} (ha : ZE X C Wx a fa) : ZE X C Wx (.UnaryOp .Not a pos) (e_not fa) :=
  pe_imp (pe_not ha) fun σ H Q h => tz_asB h fun G env b μ H1 ok1 eo1 p1 => ⟨b, rfl, p1.val ok1 (.bl _)⟩

/-! ### arguments, displays -/
def a_nil : AM := fun _ μ => .ok [] μ
def a_cons (fa : EM) (fr : AM) : AM := fun env μ => (fa env μ).bind fun x μ => (fr env μ).bind fun xs μ => .ok (x :: xs) μ
theorem za_nil : ZA X C Wx [] a_nil := pa_imp pa_nil fun _ _ _ h => tz_pure h fun _ _ _ ok _ p => p.val ok .nil
theorem za_cons {e : Expr} {es : List Expr} {fa : EM} {fr : AM} (ha : ZE X C Wx e fa) (hr : ZA X C Wx es fr) (hs : starEach (e :: es) X.env = (false, eval e X.env) :: starEach es X.env := by rfl) : ZA X C Wx (e :: es) (a_cons fa fr) :=
  pa_imp (pa_cons ha hr hs) fun σ H Q h => by
    refine tz_bind (rep := WRep X.K) (k := fun env x μ => (fr env μ).bind fun xs μ => .ok (x :: xs) μ) h fun G env x μ v H1 ok1 eo1 rx p1 => ?_
    refine ⟨G, μ, env, ok1, eo1, p1.bind.mono ?_⟩
    rintro vs H2 ⟨G2, xs, μ2, st, ok2, rxs, p2⟩
    exact p2.val ok2 (.cons (rx.step st) rxs)
def pures : List W → Option (List PyData)
  | [] => some []
  | .d x :: r => (pures r).map (x :: ·)
  | _ :: _ => none
theorem pures_rep {K : PySem.W.Frag} {G : Gh} : ∀ {ws : List W} {vs : List V} {ds : List PyData}, WAll K G ws vs → pures ws = some ds → DzAll K G.F vs ds
  | [], _, ds, h, e => by
    cases h
    cases e
    exact .nil
  | .d x :: r, _, ds, h, e => by
    cases h with
    | cons h1 h2 =>
      unfold pures at e
      cases q : pures r with
      | none => rw [q] at e; cases e
      | some es =>
        rw [q] at e
        cases e
        exact .cons h1 (pures_rep h2 q)
  | .m k :: r, _, ds, h, e => by cases e
  | .s k :: r, _, ds, h, e => by cases e
def mkL (ws : List W) (μ : Mu) : R W := match pures ws with
  | some ds => if ds.length ≤ szl then .ok (.d (.list ds)) μ else .bad
  | none => .bad
def mkT (ws : List W) (μ : Mu) : R W := match pures ws with
  | some ds => if ds.length ≤ szl then .ok (.d (.tuple ds)) μ else .bad
  | none => .bad
def e_lst (fa : AM) : EM := fun env μ => (fa env μ).bind mkL
def e_tup (fa : AM) : EM := fun env μ => (fa env μ).bind mkT
theorem ze_lst {es : List Expr} {fa : AM} {pos : Pos} (h : ZA X C Wx es fa) : ZE X C Wx (.List es pos) (e_lst fa) :=
  pe_imp (pe_lst h) fun σ H Q h => tz_bind h fun G env ws μ vs H1 ok1 eo1 rx p1 => by
    unfold mkL at p1
    split at p1
    · rename_i ds e
      have r := pures_rep rx e
      split at p1
      · rename_i hl
        exact ⟨by rw [dpAll_len r]; exact hl, fun l hn => p1.newL ok1 r hn⟩
      · exact p1.elim
    · exact p1.elim
theorem ze_tup {es : List Expr} {fa : AM} {pos : Pos} {x1} (h : ZA X C Wx es fa) : ZE X C Wx (.Tuple es x1 pos) (e_tup fa) :=
  pe_imp (pe_tup h) fun σ H Q h => tz_bind h fun G env ws μ vs H1 ok1 eo1 rx p1 => by
    unfold mkT at p1
    split at p1
    · rename_i ds e
      have r := pures_rep rx e
      split at p1
      · rename_i hl
        exact ⟨by rw [dpAll_len r]; exact hl, fun l hn => p1.newT ok1 r hn⟩
      · exact p1.elim
    · exact p1.elim

/-! ### calls -/
def e_fn (F : List W → Mu → R W) (fa : AM) : EM := fun env μ => (fa env μ).bind F
/-- what a def promises: it does as F says -/
def spZ (C : Str → Option Addr) (F : List W → Mu → R W) (n : Nat) (K : PySem.W.Frag) : Sp := fun vs H Q E => vs.length = n ∧ ∃ G μ ws, Ok K G μ H ∧ WAll K G ws vs ∧ Zw ⟨K, C, fun c d _ H' => E c d H'⟩ [] (F ws μ) G H Q
theorem Zw.ctx {K : PySem.W.Frag} {C : Str → Option Addr} {W1 W2 : WX} {σ1 σ2 : L2.St} {r : R W} {G : Gh} {H : Hp} {Q : VK} (h : Zw ⟨K, C, W1⟩ σ1 r G H Q) (e : ∀ c d H', W1 c d σ1 H' → W2 c d σ2 H') : Zw ⟨K, C, W2⟩ σ2 r G H Q := by
  cases r with
  | ok a μ => exact h
  | exc x μ => exact fun G' c d H' s o r => e _ _ _ (h G' c d H' s o r)
  | bad => exact h
theorem WAll.len {K : PySem.W.Frag} {G : Gh} : ∀ {ws : List W} {vs : List V}, WAll K G ws vs → ws.length = vs.length
  | _, _, .nil => rfl
  | _, _, .cons _ t => by rw [List.length_cons, List.length_cons, WAll.len t]
/-- how many arguments a list of expressions has -/
theorem ze_call {F : List W → Mu → R W} {k n : Nat} {f : Addr} {fd : FuncData} {ps : List Str} {x : Str} {p pos : Pos} {e : Expr} {es : List Expr} {fa : AM} (hF : FnG X.prog X.w X.K X.mg X.base k f fd ps (spZ C F n X.K)) (hgd : X.A.guards = some []) (hr : Room k X.A) (hg : Gl X x) (hm : X.mg x = some (.ref f))
    (hk : PySem.W.keepIn X.K (.ref f) = true) (hb : Binds X.K fd ps []) (tk : Takes X Wx) (ha : ZA X C Wx (e :: es) fa) (hn : ∀ env μ ws μ', fa env μ = .ok ws μ' → ws.length = n)
    (hdb : (x == ("__debug__" : Str)) = false := by decide) (he : starEach (e :: es) X.env = (false, eval e X.env) :: starEach es X.env := by rfl) (hpl : (backTo pos (starEach es X.env)).any (·.1) = false := by rfl) :
    ZE X C Wx (.Call (.Name x p) (e :: es) [] pos) (e_fn F fa) :=
  pe_imp (pe_callG hF hgd hr hg hm hk hb .nil tk ha hdb he hpl) fun σ H Q h => by
    obtain ⟨G, μ, env, ok, eo, pp⟩ := h
    refine ⟨G, μ, env, ok, eo, ?_⟩
    have pb := pp.bind (rep := WAll X.K)
    cases q : fa env μ with
    | bad => rw [q] at pb; exact pb
    | exc x m => rw [q] at pb; exact pb
    | ok ws m =>
      rw [q] at pb
      refine fun G1 vs H1 s1 o1 r1 => ?_
      have hl : vs.length = n := by rw [← hn _ _ _ _ q]; exact r1.len.symm
      obtain ⟨G2, ws2, μ2, st, ok2, rx, p2⟩ := pb G1 vs H1 s1 o1 r1
      refine ⟨by rw [List.append_nil]; exact hl, G1, m, ws, o1, by rw [List.append_nil]; exact r1, ?_⟩
      have p3 : Zw (cx X C Wx) σ (F ws m) G H Q := by
        have e1 : (fa env μ).bind F = F ws m := by rw [q]; rfl
        have pp' : Zw (cx X C Wx) σ ((fa env μ).bind F) G H Q := pp
        rw [e1] at pp'
        exact pp'
      exact Zw.ctx (p3.step s1) fun _ _ _ z => z
end
end Zed

/-! operators and built-in functions on data -/
namespace Zed
open PySem PySem.Spec PyProof.Rows L2
section
variable {X : Cx} {C : Str → Option Addr} {Wx : WX}

/-! ### arithmetic -/
/-- list + list, any two that stand in the heap -/
theorem dz_lst {K : PySem.W.Frag} {G : Gh} {μ : Mu} {H : Hp} {ds : List PyData} {v : V} (ok : Ok K G μ H) (h : Dz K G.F v (.list ds)) : ∃ a vs, v = .ref a ∧ H a = some (.lst vs) ∧ DzAll K G.F vs ds := by
  cases h with
  | lst e r => exact ⟨_, _, rfl, ok.fz _ _ e, r⟩
theorem dz_tup {K : PySem.W.Frag} {G : Gh} {μ : Mu} {H : Hp} {ds : List PyData} {v : V} (ok : Ok K G μ H) (h : Dz K G.F v (.tuple ds)) : ∃ a vs, v = .ref a ∧ SqT K H a vs ∧ DzAll K G.F vs ds := by
  cases h with
  | tup e r => exact ⟨_, _, rfl, Same.seqT ok.fz e, r⟩
theorem dz_nil {K : PySem.W.Frag} {F : Hp} {vs : List V} {ds : List PyData} (h : DzAll K F vs ds) : vs = [] ↔ ds = [] := by
  cases h <;> simp
def addW (x y : W) (μ : Mu) : R W := match x, y with
  | .d (.int a), .d (.int b) => .ok (.d (.int (a + b))) μ
  | .d (.list a), .d (.list b) => if a.length + b.length ≤ szl then .ok (.d (.list (a ++ b))) μ else .bad
  | .d (.tuple a), .d (.tuple b) => if a.length + b.length ≤ szl then .ok (.d (.tuple (a ++ b))) μ else .bad
  | .d (.str a), .d (.str b) => if a.length + b.length ≤ szl then .ok (.d (.str (a ++ b))) μ else .bad
  | _, _ => .bad
def rAddZ (K : PySem.W.Frag) : R2 := fun x y H Q => rI0 (fun i j => .int (i + j)) x y H Q ∨ rCat x y H Q ∨ rCatA K x y H Q ∨ ∃ i j, x = .str i ∧ y = .str j ∧ i.length + j.length ≤ sizeLine ∧ Q (.str (i ++ j)) H
theorem op_addZ : OpR X (binaryOp .Add) (rAddZ X.K) := OpR.or op_add (OpR.or op_cat (OpR.or op_catA op_add_str))
theorem sem_add : Sem2 X C Wx (rAddZ X.K) addW := by
  intro σ G μ H x y v u Q ok rx ry p
  unfold addW at p
  split at p
  · cases rx; cases ry
    exact .inl ⟨_, _, rfl, rfl, p.val ok (.int _)⟩
  · split at p
    · rename_i hl
      obtain ⟨a, vs, rfl, ha, ra⟩ := dz_lst ok rx
      obtain ⟨b, us, rfl, hb, rb⟩ := dz_lst ok ry
      refine .inr (.inl ⟨a, b, vs, us, rfl, rfl, ha, hb, ?_, fun l hn => p.newL ok (dpAll_append ra rb) hn⟩)
      rw [dpAll_len ra, dpAll_len rb]
      exact hl
    · exact p.elim
  · split at p
    · rename_i xs ys hl
      obtain ⟨a, vs, rfl, ha, ra⟩ := dz_tup ok rx
      obtain ⟨b, us, rfl, hb, rb⟩ := dz_tup ok ry
      refine .inr (.inr (.inl ⟨a, b, vs, us, rfl, rfl, ha, hb, ?_, fun e => ?_, fun _ e => ?_, fun _ _ l hn => p.newT ok (dpAll_append ra rb) hn⟩))
      · rw [dpAll_len ra, dpAll_len rb]
        exact hl
      · rw [dz_nil ra] at e
        subst e
        exact p.val ok ry
      · rw [dz_nil rb] at e
        subst e
        rw [List.append_nil] at p
        exact p.val ok rx
    · exact p.elim
  · split at p
    · rename_i hl
      cases rx; cases ry
      exact .inr (.inr (.inr ⟨_, _, rfl, rfl, hl, p.val ok (.str _)⟩))
    · exact p.elim
  · exact p.elim
/-- two ints -/
def iiW (c : Int → Int → Bool) (g : Int → Int → PyData) (x y : W) (μ : Mu) : R W := match x, y with
  | .d (.int a), .d (.int b) => if c a b = true then .ok (.d (g a b)) μ else .bad
  | _, _ => .bad
theorem iiW_inv {σ : L2.St} {K : PySem.W.Frag} {c : Int → Int → Bool} {g : Int → Int → PyData} {G : Gh} {μ : Mu} {H : Hp} {x y : W} {v u : V} {Q : VK} (p : Zw ⟨K, C, Wx⟩ σ (iiW c g x y μ) G H Q) (rx : WRep K G x v) (ry : WRep K G y u) :
    ∃ a b, v = .int a ∧ u = .int b ∧ c a b = true ∧ Zw ⟨K, C, Wx⟩ σ (.ok (.d (g a b)) μ) G H Q := by
  unfold iiW at p
  split at p
  · cases rx; cases ry
    split at p
    · rename_i a b h
      exact ⟨_, _, rfl, rfl, h, p⟩
    · exact p.elim
  · exact p.elim
def subW : W → W → Mu → R W := iiW (fun _ _ => true) fun a b => .int (a - b)
def mulI : W → W → Mu → R W := iiW (fun a b => decide ((-(2 ^ 64) < a ∧ a < 2 ^ 64) ∨ (-(2 ^ 64) < b ∧ b < 2 ^ 64))) fun a b => .int (a * b)
def modW : W → W → Mu → R W := iiW (fun _ b => decide (0 < b)) fun a b => .int (a % b)
def fdivW : W → W → Mu → R W := iiW (fun _ b => decide (0 < b ∧ b < 1073741824)) fun a b => .int (a / b)
def powW : W → W → Mu → R W := iiW (fun a b => decide (0 ≤ b ∧ b ≤ 1000000 ∧ a.natAbs < 2 ^ 64)) fun a b => .int (a ^ b.toNat)
theorem sem_sub : Sem2 X C Wx (rI0 fun i j => .int (i - j)) subW := by
  intro σ G μ H x y v u Q ok rx ry p
  obtain ⟨a, b, rfl, rfl, _, p⟩ := iiW_inv p rx ry
  exact ⟨a, b, rfl, rfl, p.val ok (.int _)⟩
theorem sem_mod : Sem2 X C Wx (rI (fun _ j => 0 < j) fun i j => .int (i % j)) modW := by
  intro σ G μ H x y v u Q ok rx ry p
  obtain ⟨a, b, rfl, rfl, h, p⟩ := iiW_inv p rx ry
  exact ⟨a, b, rfl, rfl, of_decide_eq_true h, p.val ok (.int _)⟩
theorem sem_fdiv : Sem2 X C Wx (rI CDiv fun i j => .int (i / j)) fdivW := by
  intro σ G μ H x y v u Q ok rx ry p
  obtain ⟨a, b, rfl, rfl, h, p⟩ := iiW_inv p rx ry
  have h' := of_decide_eq_true h
  exact ⟨a, b, rfl, rfl, h', p.val ok (.int _)⟩
theorem sem_pow : Sem2 X C Wx (rI CPow fun i j => .int (i ^ j.toNat)) powW := by
  intro σ G μ H x y v u Q ok rx ry p
  obtain ⟨a, b, rfl, rfl, h, p⟩ := iiW_inv p rx ry
  have h' := of_decide_eq_true h
  exact ⟨a, b, rfl, rfl, h', p.val ok (.int _)⟩
def repD (n : Nat) (xs : List PyData) : List PyData := (List.replicate n xs).flatten
theorem dz_rep {K : PySem.W.Frag} {F : Hp} {vs : List V} {ds : List PyData} (h : DzAll K F vs ds) : ∀ n : Nat, DzAll K F (List.replicate n vs).flatten (repD n ds)
  | 0 => .nil
  | n + 1 => by
    unfold repD
    rw [List.replicate_succ, List.replicate_succ, List.flatten_cons, List.flatten_cons]
    exact dpAll_append h (dz_rep h n)
def mulW (x y : W) (μ : Mu) : R W := match x, y with
  | .d (.int a), .d (.int b) => mulI (.d (.int a)) (.d (.int b)) μ
  | .d (.list a), .d (.int k) => if -(2 ^ 63) ≤ k ∧ k < 2 ^ 63 ∧ a.length * k.toNat ≤ szl then .ok (.d (.list (repD k.toNat a))) μ else .bad
  | .d (.tuple a), .d (.int k) => if a ≠ [] ∧ 2 ≤ k ∧ k ≤ 1000 ∧ a.length ≤ 1000 then .ok (.d (.tuple (repD k.toNat a))) μ else .bad
  | _, _ => .bad
def rMulZ (K : PySem.W.Frag) : R2 := fun x y H Q => rI CMul (fun i j => .int (i * j)) x y H Q ∨ rRep x y H Q ∨ rRepT K x y H Q
theorem op_mulZ : OpR X (binaryOp .Mult) (rMulZ X.K) := OpR.or op_mul (OpR.or op_rep op_repT)
theorem sem_mul : Sem2 X C Wx (rMulZ X.K) mulW := by
  intro σ G μ H x y v u Q ok rx ry p
  unfold mulW at p
  split at p
  · obtain ⟨a, b, rfl, rfl, h, p⟩ := iiW_inv p rx ry
    have h' := of_decide_eq_true h
    exact .inl ⟨a, b, rfl, rfl, h', p.val ok (.int _)⟩
  · split at p
    · rename_i hl
      obtain ⟨a, vs, rfl, ha, ra⟩ := dz_lst ok rx
      cases ry
      refine .inr (.inl ⟨a, _, vs, rfl, rfl, ha, hl.1, hl.2.1, ?_, fun l hn => p.newL ok (dz_rep ra _) hn⟩)
      rw [dpAll_len ra]
      exact hl.2.2
    · exact p.elim
  · split at p
    · rename_i hl
      obtain ⟨a, vs, rfl, ha, ra⟩ := dz_tup ok rx
      cases ry
      refine .inr (.inr ⟨a, _, vs, rfl, rfl, ha, fun e => hl.1 ((dz_nil ra).mp e), hl.2.1, hl.2.2.1, ?_, fun l hn => p.newT ok (dz_rep ra _) hn⟩)
      rw [dpAll_len ra]
      exact hl.2.2.2
    · exact p.elim
  · exact p.elim
def negW (x : W) (μ : Mu) : R W := match x with
  | .d (.int a) => .ok (.d (.int (-a))) μ
  | _ => .bad
theorem sem_neg : Sem1 X C Wx (rU fun i => .int (-i)) negW := by
  intro σ G μ H x v Q ok rx p
  unfold negW at p
  split at p
  · cases rx
    exact ⟨_, rfl, p.val ok (.int _)⟩
  · exact p.elim

/-! ### comparisons -/
def ltW : W → W → Mu → R W := iiW (fun _ _ => true) fun a b => .bool (decide (a < b))
def leW : W → W → Mu → R W := iiW (fun _ _ => true) fun a b => .bool (decide (a ≤ b))
def gtW : W → W → Mu → R W := iiW (fun _ _ => true) fun a b => .bool (decide (b < a))
def geW : W → W → Mu → R W := iiW (fun _ _ => true) fun a b => .bool (decide (b ≤ a))
theorem sem_lt : Sem2 X C Wx (rI0 fun i j => .bl (decide (i < j))) ltW := by
  intro σ G μ H x y v u Q ok rx ry p
  obtain ⟨a, b, rfl, rfl, _, p⟩ := iiW_inv p rx ry
  exact ⟨a, b, rfl, rfl, p.val ok (.bl _)⟩
theorem sem_le : Sem2 X C Wx (rI0 fun i j => .bl (decide (i ≤ j))) leW := by
  intro σ G μ H x y v u Q ok rx ry p
  obtain ⟨a, b, rfl, rfl, _, p⟩ := iiW_inv p rx ry
  exact ⟨a, b, rfl, rfl, p.val ok (.bl _)⟩
theorem sem_gt : Sem2 X C Wx (rI0 fun i j => .bl (decide (j < i))) gtW := by
  intro σ G μ H x y v u Q ok rx ry p
  obtain ⟨a, b, rfl, rfl, _, p⟩ := iiW_inv p rx ry
  exact ⟨a, b, rfl, rfl, p.val ok (.bl _)⟩
theorem sem_ge : Sem2 X C Wx (rI0 fun i j => .bl (decide (j ≤ i))) geW := by
  intro σ G μ H x y v u Q ok rx ry p
  obtain ⟨a, b, rfl, rfl, _, p⟩ := iiW_inv p rx ry
  exact ⟨a, b, rfl, rfl, p.val ok (.bl _)⟩
/-- where both are ints nothing is asked of their form -/
def eqD (x y : PyData) : Option Bool := match x, y with
  | .int a, .int b => some (decide (a = b))
  | .none, .none => some true
  | .none, .int _ => some false
  | .int _, .none => some false
  | .str a, .str b => some (decide (a = b))
  | .bool a, .bool b => some (decide (a = b))
  | .none, .str _ => some false
  | .str _, .none => some false
  | .none, .bool _ => some false
  | .bool _, .none => some false
  | .int _, .str _ => some false
  | .str _, .int _ => some false
  | x, y => if SeqAt.shaped x && SeqAt.shaped y then some (PyData.eqv x y) else none
def eqW (x y : W) (μ : Mu) : R W := match x, y with
  | .d x, .d y => match eqD x y with
    | some b => .ok (.d (.bool b)) μ
    | none => .bad
  | _, _ => .bad
def neW (x y : W) (μ : Mu) : R W := match x, y with
  | .d x, .d y => match eqD x y with
    | some b => .ok (.d (.bool (!b))) μ
    | none => .bad
  | _, _ => .bad
def rEqZ (K : PySem.W.Frag) (neg : Bool) : R2 := fun x y H Q => (scal x y = true ∧ Q (.bl (if neg then !decide (x = y) else decide (x = y))) H) ∨
  (∃ d e, Dp K H x d ∧ Dp K H y e ∧ SeqAt.shaped d = true ∧ SeqAt.shaped e = true ∧ Q (.bl (if neg then !PyData.eqv d e else PyData.eqv d e)) H)
theorem op_eqZ (hu : X.A.units + 64 < cLine) : OpR X (compareOp .Eq) (rEqZ X.K false) := OpR.or op_eq (op_eqD hu)
theorem op_neZ (hu : X.A.units + 64 < cLine) : OpR X (compareOp .NotEq) (rEqZ X.K true) := OpR.or op_ne (op_neD hu)
theorem eqD_rep {G : Gh} {μ : Mu} {H : Hp} {x y : PyData} {v u : V} {b : Bool} (ok : Ok X.K G μ H) (rx : Dz X.K G.F v x) (ry : Dz X.K G.F u y) (e : eqD x y = some b) :
    (scal v u = true ∧ decide (v = u) = b) ∨ ∃ d e, Dp X.K H v d ∧ Dp X.K H u e ∧ SeqAt.shaped d = true ∧ SeqAt.shaped e = true ∧ PyData.eqv d e = b := by
  unfold eqD at e
  split at e
  · cases rx; cases ry
    refine .inl ⟨rfl, ?_⟩
    rw [← Option.some.inj e]
    simp
  · cases rx; cases ry
    exact .inl ⟨rfl, by rw [← Option.some.inj e]; simp⟩
  · cases rx; cases ry
    exact .inl ⟨rfl, by rw [← Option.some.inj e]; simp⟩
  · cases rx; cases ry
    exact .inl ⟨rfl, by rw [← Option.some.inj e]; simp⟩
  · cases rx; cases ry
    exact .inl ⟨rfl, by rw [← Option.some.inj e]; simp⟩
  · cases rx; cases ry
    exact .inl ⟨rfl, by rw [← Option.some.inj e]; simp⟩
  · cases rx; cases ry
    exact .inl ⟨rfl, by rw [← Option.some.inj e]; simp⟩
  · cases rx; cases ry
    exact .inl ⟨rfl, by rw [← Option.some.inj e]; simp⟩
  · cases rx; cases ry
    exact .inl ⟨rfl, by rw [← Option.some.inj e]; simp⟩
  · cases rx; cases ry
    exact .inl ⟨rfl, by rw [← Option.some.inj e]; simp⟩
  · cases rx; cases ry
    exact .inl ⟨rfl, by rw [← Option.some.inj e]; simp⟩
  · cases rx; cases ry
    exact .inl ⟨rfl, by rw [← Option.some.inj e]; simp⟩
  · split at e
    · rename_i hs
      rw [Bool.and_eq_true] at hs
      exact .inr ⟨x, y, Dz.dp _ _ (dp_mono ok.fz _ _ rx), Dz.dp _ _ (dp_mono ok.fz _ _ ry), hs.1, hs.2, Option.some.inj e⟩
    · cases e
theorem sem_eq : Sem2 X C Wx (rEqZ X.K false) eqW := by
  intro σ G μ H x y v u Q ok rx ry p
  unfold eqW at p
  split at p
  · split at p
    · rename_i b e
      rcases eqD_rep ok rx ry e with ⟨h1, h2⟩ | ⟨d, f, h1, h2, h3, h4, h5⟩
      · exact .inl ⟨h1, p.val ok (by rw [← h2]; exact .bl _)⟩
      · exact .inr ⟨d, f, h1, h2, h3, h4, p.val ok (by rw [← h5]; exact .bl _)⟩
    · exact p.elim
  · exact p.elim
theorem sem_ne : Sem2 X C Wx (rEqZ X.K true) neW := by
  intro σ G μ H x y v u Q ok rx ry p
  unfold neW at p
  split at p
  · split at p
    · rename_i b e
      rcases eqD_rep ok rx ry e with ⟨h1, h2⟩ | ⟨d, f, h1, h2, h3, h4, h5⟩
      · exact .inl ⟨h1, p.val ok (by rw [← h2]; exact .bl _)⟩
      · exact .inr ⟨d, f, h1, h2, h3, h4, p.val ok (by rw [← h5]; exact .bl _)⟩
    · exact p.elim
  · exact p.elim
def noneD : PyData → Bool
  | .none => true
  | _ => false
theorem noneD_rep {K : PySem.W.Frag} {F : Hp} {v : V} {x : PyData} (h : Dz K F v x) : decide (v = .non) = noneD x := by
  cases h <;> simp [noneD]
/-- is None, is not None: the right side is the constant -/
def isN (neg : Bool) (x y : W) (μ : Mu) : R W := match x, y with
  | .d x, .d .none => .ok (.d (.bool (if neg then !noneD x else noneD x))) μ
  | .m _, .d .none => .ok (.d (.bool neg)) μ
  | _, _ => .bad
theorem sem_is : Sem2 X C Wx (fun x y H Q => y = .non ∧ Q (.bl (decide (x = .non))) H) (isN false) := by
  intro σ G μ H x y v u Q ok rx ry p
  unfold isN at p
  split at p
  · cases ry
    exact ⟨rfl, p.val ok (by rw [noneD_rep rx]; exact .bl _)⟩
  · cases ry
    obtain ⟨a, _, rfl⟩ := rx
    exact ⟨rfl, p.val ok (by rw [decide_eq_false (by simp)]; exact .bl _)⟩
  · exact p.elim
theorem sem_isnot : Sem2 X C Wx (fun x y H Q => y = .non ∧ Q (.bl (!decide (x = .non))) H) (isN true) := by
  intro σ G μ H x y v u Q ok rx ry p
  unfold isN at p
  split at p
  · cases ry
    exact ⟨rfl, p.val ok (by rw [noneD_rep rx]; exact .bl _)⟩
  · cases ry
    obtain ⟨a, _, rfl⟩ := rx
    exact ⟨rfl, p.val ok (by rw [decide_eq_false (by simp)]; exact .bl _)⟩
  · exact p.elim
/-! in, not in: flat items -/
def flatD : PyData → Bool
  | .none | .bool _ | .int _ | .str _ => true
  | _ => false
theorem flat_rep {K : PySem.W.Frag} {F : Hp} {v : V} {x : PyData} (h : Dz K F v x) (f : flatD x = true) : flatV v = true := by
  cases h <;> first | rfl | cases f
theorem eqv_rep {K : PySem.W.Frag} {F : Hp} {v u : V} {x y : PyData} (h : Dz K F v x) (k : Dz K F u y) (fx : flatD x = true) (fy : flatD y = true) : eqV v u = PyData.eqv x y := by
  cases h with
  | lst _ _ => cases fx
  | tup _ _ => cases fx
  | non => cases k <;> first | rfl | (simp [eqV, PyData.eqv]; done) | (cases fy; done)
  | bl b => cases k <;> first | rfl | (simp [eqV, PyData.eqv]; done) | (cases fy; done)
  | int b => cases k <;> first | rfl | (simp [eqV, PyData.eqv]; done) | (cases fy; done)
  | str b => cases k <;> first | rfl | (simp [eqV, PyData.eqv]; done) | (cases fy; done)
def inD (x : PyData) (xs : List PyData) : Bool := xs.any fun y => PyData.eqv y x
theorem inD_rep {K : PySem.W.Frag} {F : Hp} {v : V} {x : PyData} (h : Dz K F v x) (fx : flatD x = true) : ∀ {vs : List V} {ds : List PyData}, DzAll K F vs ds → ds.all flatD = true → vs.all flatV = true ∧ inV v vs = inD x ds
  | _, [], r, _ => by
    cases r
    exact ⟨rfl, rfl⟩
  | _, d :: ds, r, f => by
    cases r with
    | cons r1 r2 =>
      rw [List.all_cons, Bool.and_eq_true] at f
      obtain ⟨q1, q2⟩ := inD_rep h fx r2 f.2
      unfold inV inD at *
      rw [List.all_cons, List.any_cons, List.any_cons, q1, q2, flat_rep r1 f.1, eqv_rep r1 h f.1 fx]
      exact ⟨rfl, rfl⟩
def seqD : PyData → Option (List PyData)
  | .list xs => some xs
  | .tuple xs => some xs
  | _ => none
theorem seq_rep {K : PySem.W.Frag} {G : Gh} {μ : Mu} {H : Hp} {v : V} {x : PyData} {ds : List PyData} (ok : Ok K G μ H) (h : Dz K G.F v x) (e : seqD x = some ds) : ∃ a vs, v = .ref a ∧ (SqL K H a vs ∨ SqT K H a vs) ∧ DzAll K G.F vs ds := by
  cases h with
  | lst h r => cases e; exact ⟨_, _, rfl, .inl (SqL.of (ok.fz _ _ h)), r⟩
  | tup h r => cases e; exact ⟨_, _, rfl, .inr (Same.seqT ok.fz h), r⟩
  | _ => cases e
def inW (neg : Bool) (x y : W) (μ : Mu) : R W := match x, y with
  | .d x, .d y => match seqD y with
    | some xs => if flatD x = true ∧ xs.all flatD = true then .ok (.d (.bool (if neg then !inD x xs else inD x xs))) μ else .bad
    | none => .bad
  | _, _ => .bad
theorem sem_in {neg : Bool} : Sem2 X C Wx (rIn X.K neg) (inW neg) := by
  intro σ G μ H x y v u Q ok rx ry p
  unfold inW at p
  split at p
  · split at p
    · rename_i xs e
      split at p
      · rename_i hf
        obtain ⟨a, vs, rfl, hs, r⟩ := seq_rep ok ry e
        obtain ⟨h1, h2⟩ := inD_rep rx hf.1 r hf.2
        exact ⟨a, vs, rfl, hs, flat_rep rx hf.1, h1, p.val ok (by rw [h2]; exact .bl _)⟩
      · exact p.elim
    · exact p.elim
  · exact p.elim

/-! ### items and slices -/
theorem dz_atI {K : PySem.W.Frag} {F : Hp} {vs : List V} {ds : List PyData} {i : Int} {d : PyData} (r : DzAll K F vs ds) (e : atI ds i = some d) : ∃ v, atI vs i = some v ∧ Dz K F v d := by
  unfold atI at e ⊢
  rw [dpAll_len r]
  cases q : ixN ds.length i with
  | none => rw [q] at e; cases e
  | some j =>
    rw [q] at e
    exact dpAll_get r e
def ixW (x y : W) (μ : Mu) : R W := match x, y with
  | .d x, .d (.int i) => match seqD x with
    | some xs => match atI xs i with
      | some d => .ok (.d d) μ
      | none => .bad
    | none => .bad
  | .m k, .d (.int i) => match μ[k]? with
    | some (.lst xs) => match atI xs i with
      | some d => .ok (.d d) μ
      | none => .bad
    | _ => .bad
  | _, _ => .bad
def rIxZ (K : PySem.W.Frag) : R2 := fun x y H Q => rIxL K x y H Q ∨ rIxT K x y H Q
theorem ix_Z : IxR X (rIxZ X.K) := IxR.or ix_list ix_tup
theorem sem_ix : Sem2 X C Wx (rIxZ X.K) ixW := by
  intro σ G μ H x y v u Q ok rx ry p
  unfold ixW at p
  split at p
  · split at p
    · rename_i xs e
      split at p
      · rename_i d ed
        obtain ⟨a, vs, rfl, hs, r⟩ := seq_rep ok rx e
        obtain ⟨z, hz, rz⟩ := dz_atI r ed
        cases ry
        rcases hs with hs | hs
        · exact .inl ⟨a, vs, _, z, rfl, rfl, hs, hz, p.val ok rz⟩
        · exact .inr ⟨a, vs, _, z, rfl, rfl, hs, hz, p.val ok rz⟩
      · exact p.elim
    · exact p.elim
  · split at p
    · rename_i xs e
      split at p
      · rename_i d ed
        obtain ⟨a, ea, rfl⟩ := rx
        obtain ⟨_, vs, hv, r⟩ := ok.mo _ _ a e ea
        obtain ⟨z, hz, rz⟩ := dz_atI r ed
        cases ry
        exact .inl ⟨a, vs, _, z, rfl, rfl, SqL.of hv, hz, p.val ok rz⟩
      · exact p.elim
    · exact p.elim
  · exact p.elim
theorem ze_ix {a b : Expr} {fa fb : EM} {pos : Pos} (ha : ZE X C Wx a fa) (hb : ZE X C Wx b fb) (hs : PlainIx b) : ZE X C Wx (.Subscript a b pos) (e_op ixW fa fb) :=
  pe_imp (pe_ix ix_Z ha hb hs) fun _ _ _ h => tz_op sem_ix h
abbrev PM := Ev → Mu → R (Option Int)
abbrev ZO (X : Cx) (C : Str → Option Addr) (Wx : WX) (e : Option Expr) (f : PM) : Prop := PO X e (tz (cx X C Wx) (fun _ (a b : Option Int) => a = b) f)
theorem po_imp {e : Option Expr} {t t' : TO} (h : PO X e t) (i : ∀ σ H Q, t' σ H Q → t σ H Q) : PO X e t' := ⟨fun pins s σ H Q I hw => h.run pins s σ H Q I (i σ H Q hw)⟩
def p_none : PM := fun _ μ => .ok none μ
def asI (x : W) (μ : Mu) : R (Option Int) := match x with
  | .d (.int i) => .ok (some i) μ
  | _ => .bad
def p_some (fa : EM) : PM := fun env μ => (fa env μ).bind asI
theorem zo_none : ZO X C Wx none p_none := po_imp po_none fun _ _ _ h => tz_pure h fun _ _ _ ok _ p => p.val ok rfl
theorem zo_some {e : Expr} {fa : EM} (h : ZE X C Wx e fa) : ZO X C Wx (some e) (p_some fa) := po_imp (po_some h) fun _ _ _ h => tz_bind h fun _ _ _ _ _ _ ok1 _ rx p1 => by
  unfold asI at p1
  split at p1
  · cases rx
    exact ⟨_, rfl, p1.val ok1 rfl⟩
  · exact p1.elim
def cutD (xs : List PyData) (lo hi : Option Int) : List PyData := (xs.drop (HT.sIx xs.length 0 lo)).take (HT.sIx xs.length xs.length hi - HT.sIx xs.length 0 lo)
theorem dz_cut {K : PySem.W.Frag} {F : Hp} {vs : List V} {ds : List PyData} (r : DzAll K F vs ds) (lo hi : Option Int) : DzAll K F (cutV vs lo hi) (cutD ds lo hi) := by
  unfold cutV cutD
  rw [dpAll_len r]
  exact dpAll_take _ (dpAll_drop _ r)
theorem dz_ints {K : PySem.W.Frag} {F : Hp} : ∀ ns : List Int, DzAll K F (ns.map V.int) (ns.map PyData.int)
  | [] => .nil
  | n :: ns => .cons (.int n) (dz_ints ns)
def slW (x : W) (lo hi : Option Int) (μ : Mu) : R W := match x with
  | .d (.list xs) => .ok (.d (.list (cutD xs lo hi))) μ
  | .d (.tuple xs) => .ok (.d (.tuple (cutD xs lo hi))) μ
  | .s ns => .ok (.d (.list (cutD (ns.map PyData.int) lo hi))) μ
  | _ => .bad
def e_sl (fa : EM) (fl fh : PM) : EM := fun env μ => (fa env μ).bind fun x μ => (fl env μ).bind fun lo μ => (fh env μ).bind fun hi μ => slW x lo hi μ
def rSlZ (K : PySem.W.Frag) : V → Option Int → Option Int → Hp → VK → Prop := fun x lo hi H Q => rSlL K x lo hi H Q ∨ rSlA K x lo hi H Q
theorem sl_Z : SlR X (rSlZ X.K) := SlR.or sl_list sl_tupA
theorem sIx_le (n d : Nat) (o : Option Int) (h : d ≤ n) : HT.sIx n d o ≤ n := by
  cases o with
  | none => exact h
  | some i => unfold HT.sIx; simp only; split <;> omega
theorem sem_sl {σ : L2.St} {G : Gh} {μ : Mu} {H : Hp} {x : W} {v : V} {lo hi : Option Int} {Q : VK} (ok : Ok X.K G μ H) (rx : WRep X.K G x v) (p : Zw (cx X C Wx) σ (slW x lo hi μ) G H Q) : rSlZ X.K v lo hi H Q := by
  unfold slW at p
  split at p
  · obtain ⟨a, vs, rfl, ha, ra⟩ := dz_lst ok rx
    exact .inl ⟨a, vs, rfl, SqL.of ha, fun l hn => p.newL ok (dz_cut ra lo hi) hn⟩
  · rename_i xs
    obtain ⟨a, vs, rfl, ha, ra⟩ := dz_tup ok rx
    refine .inr ⟨a, vs, rfl, ha, fun e => ?_, fun _ l hn => p.newT ok (dz_cut ra lo hi) hn⟩
    have e' : cutD xs lo hi = xs := by
      unfold cutD
      rw [← dpAll_len ra, e.1, e.2, List.drop_zero, Nat.sub_zero, dpAll_len ra, List.take_length]
    rw [e'] at p
    exact p.val ok rx
  · rename_i ns
    obtain ⟨a, rfl, ha⟩ := rx
    refine .inl ⟨a, _, rfl, ok.fz.seq ha, fun l hn => p.newL ok (dz_cut (dz_ints ns) lo hi) hn⟩
  · exact p.elim
theorem ze_sl {a : Expr} {lo hi : Option Expr} {fa : EM} {fl fh : PM} {pos p2 : Pos} (ha : ZE X C Wx a fa) (hl : ZO X C Wx lo fl) (hh : ZO X C Wx hi fh) : ZE X C Wx (.Subscript a (.Slice lo hi none p2) pos) (e_sl fa fl fh) :=
  pe_imp (pe_slice sl_Z ha hl hh) fun σ H Q h => by
    refine tz_bind (rep := WRep X.K) (k := fun env x μ => (fl env μ).bind fun lo μ => (fh env μ).bind fun hi μ => slW x lo hi μ) h fun G env x μ v H1 ok1 eo1 rx p1 => ?_
    refine ⟨G, μ, env, ok1, eo1, p1.bind.mono ?_⟩
    rintro l H2 ⟨G2, l', μ2, st, ok2, el, p2⟩
    have el' : l' = l := el
    subst el'
    refine ⟨G2, μ2, env, ok2, eo1.step st, p2.bind.mono ?_⟩
    rintro u H3 ⟨G3, u', μ3, st3, ok3, eu, p3⟩
    have eu' : u' = u := eu
    subst eu'
    exact sem_sl ok3 ((rx.step st).step st3) p3

/-! ### built-in functions -/
def SemC (X : Cx) (C : Str → Option Addr) (Wx : WX) (r : List V → Hp → VK → Prop) (g : List W → Mu → R W) : Prop :=
  ∀ (σ : L2.St) G μ H xs vs Q, Ok X.K G μ H → WAll X.K G xs vs → Zw (cx X C Wx) σ (g xs μ) G H Q → r vs H Q
theorem ze_bi {r : List V → Hp → VK → Prop} {g : List W → Mu → R W} {id : String} {x : Str} {p pos : Pos} {e : Expr} {es : List Expr} {fa : AM} (hc : CallR X (.builtin id) r) (hs : SemC X C Wx r g) (hg : Gl X x) (hm : X.mg x = none) (hv : bootBuiltins x = some (.builtin id)) (ha : ZA X C Wx (e :: es) fa)
    (hn : x ≠ "__name__" := by decide) (hdb : (x == ("__debug__" : Str)) = false := by decide) (he : starEach (e :: es) X.env = (false, eval e X.env) :: starEach es X.env := by rfl) (hpl : (backTo pos (starEach es X.env)).any (·.1) = false := by rfl) :
    ZE X C Wx (.Call (.Name x p) (e :: es) [] pos) (e_fn g fa) :=
  pe_imp (pe_callB hc hg hm hv ha hn hdb he hpl) fun σ _ Q h => tz_bind h fun G _ ws μ vs H1 ok1 _ rx p1 => hs σ G μ H1 ws vs Q ok1 rx p1
theorem ze_ty {r : List V → Hp → VK → Prop} {g : List W → Mu → R W} {T : String} {x : Str} {p pos : Pos} {e : Expr} {es : List Expr} {fa : AM} (hc : CallR X (.type T) r) (hs : SemC X C Wx r g) (hg : Gl X x) (hm : X.mg x = none) (hv : bootBuiltins x = some (.type T)) (ha : ZA X C Wx (e :: es) fa)
    (hn : x ≠ "__name__" := by decide) (hdb : (x == ("__debug__" : Str)) = false := by decide) (he : starEach (e :: es) X.env = (false, eval e X.env) :: starEach es X.env := by rfl) (hpl : (backTo pos (starEach es X.env)).any (·.1) = false := by rfl) :
    ZE X C Wx (.Call (.Name x p) (e :: es) [] pos) (e_fn g fa) :=
  pe_imp (pe_callTy hc hg hm hv ha hn hdb he hpl) fun σ _ Q h => tz_bind h fun G _ ws μ vs H1 ok1 _ rx p1 => hs σ G μ H1 ws vs Q ok1 rx p1
def lenW (xs : List W) (μ : Mu) : R W := match xs with
  | [.d x] => match seqD x with
    | some l => .ok (.d (.int l.length)) μ
    | none => .bad
  | _ => .bad
theorem wall1 {K : PySem.W.Frag} {G : Gh} {x : W} {vs : List V} (h : WAll K G [x] vs) : ∃ v, vs = [v] ∧ WRep K G x v := by
  cases h with
  | cons h t => cases t; exact ⟨_, rfl, h⟩
theorem wall2 {K : PySem.W.Frag} {G : Gh} {x y : W} {vs : List V} (h : WAll K G [x, y] vs) : ∃ v u, vs = [v, u] ∧ WRep K G x v ∧ WRep K G y u := by
  cases h with
  | cons h t =>
    obtain ⟨u, rfl, r⟩ := wall1 t
    exact ⟨_, u, rfl, h, r⟩
theorem sem_len : SemC X C Wx (fun xs H Q => ∃ p ys, xs = [.ref p] ∧ (SqL X.K H p ys ∨ SqT X.K H p ys) ∧ Q (.int ys.length) H) lenW := by
  intro σ G μ H xs vs Q ok rx p
  unfold lenW at p
  split at p
  · split at p
    · rename_i l e
      obtain ⟨v, rfl, r⟩ := wall1 rx
      obtain ⟨a, ys, rfl, hs, ra⟩ := seq_rep ok r e
      exact ⟨a, ys, rfl, hs, p.val ok (by rw [dpAll_len ra]; exact .int _)⟩
    · exact p.elim
  · exact p.elim
def intW (xs : List W) (μ : Mu) : R W := match xs with
  | [.d (.int i)] => .ok (.d (.int i)) μ
  | [.d (.bool b)] => .ok (.d (.int (if b then 1 else 0))) μ
  | _ => .bad
theorem sem_int : SemC X C Wx (fun xs H Q => (∃ i, xs = [.int i] ∧ Q (.int i) H) ∨ ∃ k, xs = [.bl k] ∧ Q (.int (if k then 1 else 0)) H) intW := by
  intro σ G μ H xs vs Q ok rx p
  unfold intW at p
  split at p
  · obtain ⟨v, rfl, r⟩ := wall1 rx
    cases r
    exact .inl ⟨_, rfl, p.val ok (.int _)⟩
  · obtain ⟨v, rfl, r⟩ := wall1 rx
    cases r
    exact .inr ⟨_, rfl, p.val ok (.int _)⟩
  · exact p.elim
def tupleW (xs : List W) (μ : Mu) : R W := match xs with
  | [.d (.list l)] => .ok (.d (.tuple l)) μ
  | [.d (.tuple l)] => .ok (.d (.tuple l)) μ
  | _ => .bad
theorem sem_tuple : SemC X C Wx (fun xs H Q => ∃ p ys, xs = [.ref p] ∧ ((SqL X.K H p ys ∧ ∀ l, H l = none → Q (.ref l) (upd H l (.tup ys))) ∨ (SqT X.K H p ys ∧ Q (.ref p) H))) tupleW := by
  intro σ G μ H xs vs Q ok rx p
  unfold tupleW at p
  split at p
  · obtain ⟨v, rfl, r⟩ := wall1 rx
    obtain ⟨a, ys, rfl, ha, ra⟩ := dz_lst ok r
    exact ⟨a, ys, rfl, .inl ⟨SqL.of ha, fun l hn => p.newT ok ra hn⟩⟩
  · obtain ⟨v, rfl, r⟩ := wall1 rx
    obtain ⟨a, ys, rfl, ha, ra⟩ := dz_tup ok r
    exact ⟨a, ys, rfl, .inr ⟨ha, p.val ok r⟩⟩
  · exact p.elim
def listW (xs : List W) (μ : Mu) : R W := match xs with
  | [.d x] => match seqD x with
    | some l => .ok (.d (.list l)) μ
    | none => .bad
  | _ => .bad
theorem sem_list : SemC X C Wx (fun xs H Q => ∃ p ys, xs = [.ref p] ∧ (SqL X.K H p ys ∨ SqT X.K H p ys) ∧ ∀ l, H l = none → Q (.ref l) (upd H l (.lst ys))) listW := by
  intro σ G μ H xs vs Q ok rx p
  unfold listW at p
  split at p
  · split at p
    · rename_i l e
      obtain ⟨v, rfl, r⟩ := wall1 rx
      obtain ⟨a, ys, rfl, hs, ra⟩ := seq_rep ok r e
      exact ⟨a, ys, rfl, hs, fun l hn => p.newL ok ra hn⟩
    · exact p.elim
  · exact p.elim
/-! all, any of a list of bools -/
def boolsD : List PyData → Option (List Bool)
  | [] => some []
  | .bool b :: r => (boolsD r).map (b :: ·)
  | _ :: _ => none
theorem bools_rep {K : PySem.W.Frag} {F : Hp} : ∀ {ds : List PyData} {vs : List V} {bs : List Bool}, DzAll K F vs ds → boolsD ds = some bs → vs = bs.map V.bl
  | [], _, bs, h, e => by
    cases h
    cases e
    rfl
  | .bool b :: r, _, bs, h, e => by
    cases h with
    | cons h1 h2 =>
      unfold boolsD at e
      cases q : boolsD r with
      | none => rw [q] at e; cases e
      | some l =>
        rw [q] at e
        cases e
        cases h1
        rw [bools_rep h2 q]
        rfl
  | .none :: r, _, bs, h, e => by cases e
  | .int i :: r, _, bs, h, e => by cases e
  | .str i :: r, _, bs, h, e => by cases e
  | .list i :: r, _, bs, h, e => by cases e
  | .tuple i :: r, _, bs, h, e => by cases e
  | .dict i :: r, _, bs, h, e => by cases e
def allW (xs : List W) (μ : Mu) : R W := match xs with
  | [.d (.list l)] => match boolsD l with
    | some bs => .ok (.d (.bool (bs.all id))) μ
    | none => .bad
  | _ => .bad
def anyW (xs : List W) (μ : Mu) : R W := match xs with
  | [.d (.list l)] => match boolsD l with
    | some bs => .ok (.d (.bool (bs.any id))) μ
    | none => .bad
  | _ => .bad
theorem sem_all : SemC X C Wx (rAll X.K) allW := by
  intro σ G μ H xs vs Q ok rx p
  unfold allW at p
  split at p
  · split at p
    · rename_i bs e
      obtain ⟨v, rfl, r⟩ := wall1 rx
      obtain ⟨a, ys, rfl, ha, ra⟩ := dz_lst ok r
      exact ⟨a, bs, rfl, by rw [← bools_rep ra e]; exact SqL.of ha, p.val ok (.bl _)⟩
    · exact p.elim
  · exact p.elim
theorem sem_any : SemC X C Wx (rAny X.K) anyW := by
  intro σ G μ H xs vs Q ok rx p
  unfold anyW at p
  split at p
  · split at p
    · rename_i bs e
      obtain ⟨v, rfl, r⟩ := wall1 rx
      obtain ⟨a, ys, rfl, ha, ra⟩ := dz_lst ok r
      exact ⟨a, bs, rfl, by rw [← bools_rep ra e]; exact SqL.of ha, p.val ok (.bl _)⟩
    · exact p.elim
  · exact p.elim
/-! isinstance with a built-in class -/
def tyD : PyData → String
  | .none => "NoneType"
  | .bool _ => "bool"
  | .int _ => "int"
  | .str _ => "str"
  | .list _ => "list"
  | .tuple _ => "tuple"
  | .dict _ => "dict"
/-- the class stands as a text in the place of the second argument -/
def isiD (x : PyData) (T : String) : Option Bool := kitB (tyD x) T
theorem sqT_ty {K : PySem.W.Frag} {H : Hp} {a : Addr} {vs : List V} (h : SqT K H a vs) : TyX K H (.ref a) (.type "tuple") := by
  rcases h with (h | ⟨o, h⟩) | ⟨o, its, n, h1, h2, _⟩
  · exact .base (.tup h)
  · exact .fTuple h
  · exact .kTuple h1 h2
theorem ty_rep {K : PySem.W.Frag} {G : Gh} {μ : Mu} {H : Hp} {v : V} {x : PyData} (ok : Ok K G μ H) (h : Dz K G.F v x) : TyX K H v (.type (tyD x)) := by
  cases h with
  | non => exact .base .non
  | bl b => exact .base (.bl b)
  | int i => exact .base (.int i)
  | str s => exact .base (.str s)
  | lst e r => exact .base (.lst (ok.fz _ _ e))
  | tup e r => exact sqT_ty (Same.seqT ok.fz e)
def isiW (T : String) (xs : List W) (μ : Mu) : R W := match xs with
  | [.d x] => match isiD x T with
    | some b => .ok (.d (.bool b)) μ
    | none => .bad
  | _ => .bad
/-- isinstance(e, T) -/
theorem ze_isi {T : String} {x : Str} {e : Expr} {fa : EM} {p p2 pos : Pos} (hgi : Gl X "isinstance") (hmi : X.mg "isinstance" = none) (hg : Gl X x) (hm : X.mg x = none) (hv : bootBuiltins x = some (.type T)) (ha : ZE X C Wx e fa)
    (hn : x ≠ "__name__" := by decide) (hdb : (x == ("__debug__" : Str)) = false := by decide) (h1 : starEach [e, .Name x p2] X.env = (false, eval e X.env) :: starEach [.Name x p2] X.env := by rfl) (hpl : (backTo pos (starEach [.Name x p2] X.env)).any (·.1) = false := by rfl) :
    ZE X C Wx (.Call (.Name "isinstance" p) [e, .Name x p2] [] pos) (e_fn (isiW T) (a_cons fa a_nil)) :=
  pe_imp (pe_callB call_isi hgi hmi (by decide +kernel) (pa_cons ha (pa_cons (pe_bltn (v := .ty T) hg hm hv rfl hn hdb) pa_nil (by rfl)) h1) (by decide) (by decide) h1 hpl) fun σ H Q h => by
    have h' : tz (cx X C Wx) (WRep X.K) (fun env μ => (fa env μ).bind fun x μ => isiW T [x] μ) σ H Q := by
      have e : (e_fn (isiW T) (a_cons fa a_nil)) = (fun (env : Ev) (μ : Mu) => (fa env μ).bind fun x μ => isiW T [x] μ) := by
        funext env μ
        unfold e_fn a_cons a_nil
        cases fa env μ <;> rfl
      rw [← e]
      exact h
    refine tz_bind (rep := WRep X.K) (k := fun _ x μ => isiW T [x] μ) h' fun G env x μ v H1 ok1 eo1 rx p1 => ?_
    show rIsi X.K [v, .ty T] H1 Q
    unfold isiW at p1
    split at p1
    · rename_i w d e
      split at p1
      · rename_i b eb
        cases e
        exact ⟨v, .ty T, _, _, b, rfl, .ty T, ty_rep ok1 rx, kit_ty eb, p1.val ok1 (.bl _)⟩
      · exact p1.elim
    · exact p1.elim
/-! repr -/
def reprD (x : PyData) : Option Str := if x.showable && (!x.hasDict && (decide (x.depth ≤ 60) && decide (x.shown.length ≤ szl))) then some x.shown else none
def reprW (xs : List W) (μ : Mu) : R W := match xs with
  | [.d x] => match reprD x with
    | some t => .ok (.d (.str t)) μ
    | none => .bad
  | _ => .bad
/-- how many signs a written value has at most -/
theorem reprD_inv {x : PyData} {t : Str} (h : reprD x = some t) : x.showable = true ∧ x.hasDict = false ∧ x.depth ≤ 60 ∧ x.shown.length ≤ szl ∧ t = x.shown := by
  unfold reprD at h
  split at h
  · rename_i c
    simp only [Bool.and_eq_true, Bool.not_eq_true', decide_eq_true_eq] at c
    exact ⟨c.1, c.2.1, c.2.2.1, c.2.2.2, (Option.some.inj h).symm⟩
  · cases h
theorem sem_repr (hgd : X.A.guards = some []) (hu : X.A.units + 64 < cLine) : CallR X (.builtin "repr") (fun xs H Q => ∃ x v t, xs = [v] ∧ Dp X.K H v x ∧ reprD x = some t ∧ Q (.str t) H) := by
  intro pins s σ H xs us Q I r h
  obtain ⟨x, v, t, rfl, hx, ht, q⟩ := h
  obtain ⟨u, rfl, ru⟩ := vals1 r
  obtain ⟨h1, h2, h3, h4, rfl⟩ := reprD_inv ht
  have fin : ∀ (tk tk' : Tok), EP X pins σ Q (.str x.shown tk) { s with toks := tk' } := fun tk tk' => ⟨.str _, H, I.tok _, ⟨_, rfl⟩, q⟩
  cases hx with
  | non => cases ru; exact PySem.P.repr_of_none (fin _ _)
  | bl b =>
    cases ru
    refine PySem.P.repr_of_bool ?_
    have e : PyData.shown (.bool b) = if b then (Str.ofString "True") else (Str.ofString "False") := by cases b <;> simp [PyData.shown]
    rw [← e]
    exact fin _ _
  | int i =>
    obtain ⟨tk, rfl⟩ := ru
    have e : PyData.shown (.int i) = toString i := by simp only [PyData.shown]
    refine PySem.P.repr_of_int (by simpa [PyData.showable] using h1) ?_
    rw [← e]
    exact fin _ _
  | str y =>
    obtain ⟨tk, rfl⟩ := ru
    have e : PyData.shown (.str y) = reprText y := by simp only [PyData.shown]
    rw [e] at h4
    refine PySem.P.repr_of_str ?_ h4
    rw [← e]
    exact fin _ _
  | lst hs ha =>
    cases ru
    obtain ⟨as, rd⟩ := Dp.reads I _ _ _ (.lst hs ha) rfl
    exact repr_of_reads' rd h1 (PyData.noDict_hsm h2) hgd (by omega) (fun _ _ z => z) (fun h' w tk k => ⟨.str _, H, I.kept k, ⟨_, rfl⟩, q⟩) h4
  | tup hs ha =>
    cases ru
    obtain ⟨as, rd⟩ := Dp.reads I _ _ _ (.tup hs ha) rfl
    exact repr_of_reads' rd h1 (PyData.noDict_hsm h2) hgd (by omega) (fun _ _ z => z) (fun h' w tk k => ⟨.str _, H, I.kept k, ⟨_, rfl⟩, q⟩) h4
theorem semc_repr : SemC X C Wx (fun xs H Q => ∃ x v t, xs = [v] ∧ Dp X.K H v x ∧ reprD x = some t ∧ Q (.str t) H) reprW := by
  intro σ G μ H xs vs Q ok rx p
  unfold reprW at p
  split at p
  · split at p
    · rename_i t e
      obtain ⟨v, rfl, r⟩ := wall1 rx
      exact ⟨_, v, t, rfl, Dz.dp _ _ (dp_mono ok.fz _ _ r), e, p.val ok (.str _)⟩
    · exact p.elim
  · exact p.elim
/-! ### dicts as mutable objects -/
def lookD (kvs : List (L2.Key × PyData)) (k : L2.Key) : Option PyData := (kvs.find? fun kv => decide (kv.1 = k)).map (·.2)
def putD (kvs : List (L2.Key × PyData)) (k : L2.Key) (d : PyData) : List (L2.Key × PyData) :=
  if (kvs.any fun kv => decide (kv.1 = k)) = true then kvs.map (fun kv => if kv.1 = k then (kv.1, d) else kv) else kvs ++ [(k, d)]
theorem kv_look {K : PySem.W.Frag} {F : Hp} {k : L2.Key} {d : PyData} : ∀ {ps : List (L2.Key × V)} {kvs : List (L2.Key × PyData)}, KvR K F ps kvs → lookD kvs k = some d → ∃ v, valV ps k = some v ∧ Dz K F v d
  | _, _, .nil, e => by cases e
  | p :: ps, q :: qs, .cons h t, e => by
    by_cases z : q.1 = k
    · have e1 : lookD (q :: qs) k = some q.2 := by simp [lookD, List.find?_cons, z]
      rw [e1] at e
      cases e
      exact ⟨p.2, valV_pos (h.1.trans z), h.2⟩
    · have e1 : lookD (q :: qs) k = lookD qs k := by simp [lookD, List.find?_cons, z]
      rw [e1] at e
      obtain ⟨v, q1, q2⟩ := kv_look t e
      exact ⟨v, (valV_neg (fun w => z (h.1.symm.trans w))).trans q1, q2⟩
theorem kv_any {K : PySem.W.Frag} {F : Hp} {k : L2.Key} : ∀ {ps : List (L2.Key × V)} {kvs : List (L2.Key × PyData)}, KvR K F ps kvs → (ps.any fun kv => decide (kv.1 = k)) = kvs.any fun kv => decide (kv.1 = k)
  | _, _, .nil => rfl
  | p :: ps, q :: qs, .cons h t => by rw [List.any_cons, List.any_cons, kv_any t, h.1]
theorem kv_map {K : PySem.W.Frag} {F : Hp} {k : L2.Key} {v : V} {d : PyData} (r : Dz K F v d) : ∀ {ps : List (L2.Key × V)} {kvs : List (L2.Key × PyData)}, KvR K F ps kvs →
    KvR K F (ps.map fun kv => if kv.1 = k then (kv.1, v) else kv) (kvs.map fun kv => if kv.1 = k then (kv.1, d) else kv)
  | _, _, .nil => .nil
  | p :: ps, q :: qs, .cons h t => by
    refine .cons ?_ (kv_map r t)
    dsimp only
    by_cases z : q.1 = k
    · rw [if_pos z, if_pos (h.1.trans z)]
      exact ⟨h.1, r⟩
    · rw [if_neg z, if_neg (fun w => z (h.1.symm.trans w))]
      exact h
theorem kv_app {K : PySem.W.Frag} {F : Hp} : ∀ {ps ps' : List (L2.Key × V)} {kvs kvs' : List (L2.Key × PyData)}, KvR K F ps kvs → KvR K F ps' kvs' → KvR K F (ps ++ ps') (kvs ++ kvs')
  | _, _, _, _, .nil, h => h
  | _, _, _, _, .cons h t, h' => .cons h (kv_app t h')
theorem kv_put {K : PySem.W.Frag} {F : Hp} {k : L2.Key} {v : V} {d : PyData} (r : Dz K F v d) {ps : List (L2.Key × V)} {kvs : List (L2.Key × PyData)} (h : KvR K F ps kvs) : KvR K F (putK ps k v) (putD kvs k d) := by
  unfold putK putD
  rw [kv_any h]
  split
  · exact kv_map r h
  · exact kv_app h (.cons ⟨rfl, r⟩ .nil)
theorem kv_len {K : PySem.W.Frag} {F : Hp} : ∀ {ps : List (L2.Key × V)} {kvs : List (L2.Key × PyData)}, KvR K F ps kvs → ps.length = kvs.length
  | _, _, .nil => rfl
  | _, _, .cons _ t => by rw [List.length_cons, List.length_cons, kv_len t]
def keyD : PyData → Option L2.Key
  | .int i => some (.inl i)
  | .str x => some (.inr x)
  | _ => none
theorem key_rep {K : PySem.W.Frag} {F : Hp} {v : V} {x : PyData} {k : L2.Key} (h : Dz K F v x) (e : keyD x = some k) : v = kV k := by
  cases h <;> first | (cases e; done) | (cases e; rfl)
/-- d[k], d a dict -/
def getW (x y : W) (μ : Mu) : R W := match x, y with
  | .m j, .d y => match μ[j]?, keyD y with
    | some (.dict kvs), some k => match lookD kvs k with
      | some d => .ok (.d d) μ
      | none => .bad
    | _, _ => .bad
  | _, _ => .bad
theorem ze_dget {o i : Expr} {fo fi : EM} {pos : Pos} (hu : X.A.units + 1 < cLine) (ho : ZE X C Wx o fo) (hi : ZE X C Wx i fi) (hs : NoSl i) : ZE X C Wx (.Subscript o i pos) (e_op getW fo fi) :=
  pe_imp (pe_dget hu ho hi hs) fun σ H Q h => by
    have h2 : tOp (fun x y H2 Q => ∃ a v, x = .ref a ∧ DGet H2 a y (some v) ∧ Q v H2) (tz (cx X C Wx) (WRep X.K) fo) (tz (cx X C Wx) (WRep X.K) fi) σ H Q := by
      refine tz_op (g := getW) ?_ h
      intro σ G μ H x y v u Q ok rx ry p
      unfold getW at p
      split at p
      · split at p
        · rename_i e1 e2
          split at p
          · rename_i d ed
            obtain ⟨a, ea, rfl⟩ := rx
            obtain ⟨_, ps, hp, r⟩ := ok.mo _ _ a e1 ea
            obtain ⟨z, hz, rz⟩ := kv_look r ed
            refine ⟨a, z, rfl, ?_, p.val ok rz⟩
            rw [key_rep ry e2, ← hz]
            exact DGet.k hp
          · exact p.elim
        · exact p.elim
      · exact p.elim
    exact h2
end
end Zed

/-! statements -/
namespace Zed
open PySem PySem.Spec PyProof.Rows L2

inductive SR where
  | nx (env : Ev) (μ : Mu)
  | rt (w : W) (μ : Mu)
  | bk (env : Ev) (μ : Mu)
  | ct (env : Ev) (μ : Mu)
  | xc (x : Exc) (env : Ev) (μ : Mu)
  | bad
abbrev SM := Ev → Mu → SR

/-- the whole state of a body that was entered at (G0, H0) -/
structure Sto (K : PySem.W.Frag) (G0 : Gh) (H0 : Hp) (G : Gh) (env : Ev) (μ : Mu) (σ : L2.St) (H : Hp) : Prop where
  st : Step G0 H0 G H
  ok : Ok K G μ H
  eo : EvOk K G env σ H
  nw : New H0 env σ
/-- Fc: what is frozen already -/
def PostS (Γ : Ctx) (G0 : Gh) (H0 Fc : Hp) (D : Ends) (r : SR) : Prop :=
  match r with
  | .nx env μ => ∀ G σ H, Sto Γ.K G0 H0 G env μ σ H → Same Fc G.F → D.nx σ H
  | .bk env μ => ∀ G σ H, Sto Γ.K G0 H0 G env μ σ H → Same Fc G.F → D.bk σ H
  | .ct env μ => ∀ G σ H, Sto Γ.K G0 H0 G env μ σ H → Same Fc G.F → D.ct σ H
  | .rt w μ => ∀ G v H, Step G0 H0 G H → Ok Γ.K G μ H → WRep Γ.K G w v → D.rt v H
  | .xc x env μ => ∀ G cls d σ H, Sto Γ.K G0 H0 G env μ σ H → Same Fc G.F → ExRep Γ.K Γ.C G x cls d → Γ.W cls d σ H
  | .bad => False
theorem PostS.mono {Γ : Ctx} {G0 : Gh} {H0 Fc Fc' : Hp} {D : Ends} {r : SR} (p : PostS Γ G0 H0 Fc D r) (s : Same Fc Fc') : PostS Γ G0 H0 Fc' D r := by
  cases r with
  | nx env μ => exact fun G σ H S h => p G σ H S (s.trans h)
  | bk env μ => exact fun G σ H S h => p G σ H S (s.trans h)
  | ct env μ => exact fun G σ H S h => p G σ H S (s.trans h)
  | rt w μ => exact p
  | xc x env μ => exact fun G c d σ H S h => p G c d σ H S (s.trans h)
  | bad => exact p
abbrev rf (F : Hp) : Same F F := Same.refl F
def tzS (Γ : Ctx) (g : SM) : TS := fun D σ H => ∃ G0 H0 G env μ, Sto Γ.K G0 H0 G env μ σ H ∧ PostS Γ G0 H0 G.F D (g env μ)
abbrev ZSt (X : Cx) (C : Str → Option Addr) (Wx : WX) (st : Stmt) (g : SM) : Prop := PS X st (tzS (cx X C Wx) g)
abbrev ZSs (X : Cx) (C : Str → Option Addr) (Wx : WX) (st : List Stmt) (g : SM) : Prop := PSs X st (tzS (cx X C Wx) g)
theorem ps_imp {X : Cx} {st : Stmt} {t t' : TS} (h : PS X st t) (i : ∀ D σ H, t' D σ H → t D σ H) : PS X st t' := ⟨fun pins s σ H D I hw => h.run pins s σ H D I (i D σ H hw)⟩
theorem pss_imp {X : Cx} {st : List Stmt} {t t' : TS} (h : PSs X st t) (i : ∀ D σ H, t' D σ H → t D σ H) : PSs X st t' := ⟨fun pins s σ H D I hw => h.run pins s σ H D I (i D σ H hw)⟩
theorem ps_or {X : Cx} {st : Stmt} {t t' : TS} (h : PS X st t) (h' : PS X st t') : PS X st (fun D σ H => t D σ H ∨ t' D σ H) := ⟨fun pins s σ H D I hw => hw.elim (h.run pins s σ H D I) (h'.run pins s σ H D I)⟩
theorem pe_or {X : Cx} {e : Expr} {t t' : TE} (h : PE X e t) (h' : PE X e t') : PE X e (fun σ H Q => t σ H Q ∨ t' σ H Q) := ⟨fun pins s σ H Q I hw => hw.elim (h.run pins s σ H Q I) (h'.run pins s σ H Q I)⟩

section
variable {K : PySem.W.Frag} {G0 G G1 : Gh} {H0 H H1 : Hp} {env : Ev} {μ μ1 : Mu} {σ : L2.St}
theorem New.step (n : New H0 env σ) : New H0 env σ := n
theorem Sto.step (S : Sto K G0 H0 G env μ σ H) (s : Step G H G1 H1) (o : Ok K G1 μ1 H1) : Sto K G0 H0 G1 env μ1 σ H1 := ⟨S.st.trans s, o, S.eo.step s, S.nw⟩
theorem get_set {α : Type} {l : List α} {i j : Nat} {a b : α} (h : (l.set i a)[j]? = some b) : (j = i ∧ b = a ∧ i < l.length) ∨ (j ≠ i ∧ l[j]? = some b) := by
  by_cases e : j = i
  · subst e
    rw [List.getElem?_set] at h
    simp only [if_true] at h
    split at h
    · rename_i hl
      exact .inl ⟨rfl, (Option.some.inj h).symm, hl⟩
    · cases h
  · rw [List.getElem?_set_ne (Ne.symm e)] at h
    exact .inr ⟨e, h⟩
theorem Sto.setW (S : Sto K G0 H0 G env μ σ H) {i : Nat} {x : W} {v : V} (r : WRep K G x v) : Sto K G0 H0 G (env.set i (some (.w x))) μ (σ.set i (some v)) H := by
  have hlen := S.eo.len
  refine ⟨S.st, S.ok, ⟨by rw [List.length_set, List.length_set]; exact S.eo.len, fun j y h => ?_, fun j xs h => ?_, fun j k xs ys l h1 h2 h3 h4 => ?_⟩, fun j xs l h1 h2 => ?_⟩
  · rcases get_set h with ⟨rfl, e, hl⟩ | ⟨hj, e⟩
    · cases e
      exact ⟨v, by rw [List.getElem?_set_self (by omega)], r⟩
    · obtain ⟨u, q, rr⟩ := S.eo.w j y e
      exact ⟨u, by rw [List.getElem?_set_ne (Ne.symm hj)]; exact q, rr⟩
  · rcases get_set h with ⟨rfl, e, hl⟩ | ⟨hj, e⟩
    · cases e
    · obtain ⟨l, vs, q, rest⟩ := S.eo.own j xs e
      exact ⟨l, vs, by rw [List.getElem?_set_ne (Ne.symm hj)]; exact q, rest⟩
  · rcases get_set h1 with ⟨rfl, e, hl⟩ | ⟨hj, e⟩
    · cases e
    · rcases get_set h2 with ⟨rfl, e2, hl⟩ | ⟨hk, e2⟩
      · cases e2
      · rw [List.getElem?_set_ne (Ne.symm hj)] at h3
        rw [List.getElem?_set_ne (Ne.symm hk)] at h4
        exact S.eo.one j k xs ys l e e2 h3 h4
  · rcases get_set h1 with ⟨rfl, e, hl⟩ | ⟨hj, e⟩
    · cases e
    · rw [List.getElem?_set_ne (Ne.symm hj)] at h2
      exact S.nw j xs l e h2
/-- a new list that nothing knows yet -/
theorem Sto.fresh (S : Sto K G0 H0 G env μ σ H) {l : Addr} (vs : List V) (n : H l = none) : Sto K G0 H0 G env μ σ (upd H l (.lst vs)) ∧ G.F l = none ∧ l ∉ G.rho ∧ H0 l = none ∧
    ∀ (j : Nat) (ys : List PyData), env[j]? = some (some (.own ys)) → σ[j]? ≠ some (some (.ref l)) := by
  obtain ⟨nF, nR⟩ := free_of S.ok n
  have s1 : Step G H G (upd H l (.lst vs)) := by
    refine ⟨fun _ _ h => h, ⟨[], by simp⟩, fun a o h _ => by rw [upd_ne (ne_of_none h n)]; exact h, fun a h => ?_, fun _ h => .inl h, fun _ h => .inl h⟩
    by_cases z : a = l
    · rw [z]; exact n
    · rw [upd_ne z] at h; exact h
  have o1 : Ok K G μ (upd H l (.lst vs)) := by
    refine ⟨fun a o h => by rw [upd_ne (ne_of_none h nF)]; exact S.ok.fz a o h, S.ok.len, S.ok.nd, fun k u a h1 h2 => ?_⟩
    obtain ⟨f, rr⟩ := S.ok.mo k u a h1 h2
    exact ⟨f, rr.mono (fun _ _ h => h) (upd_ne (show a ≠ l from fun z => nR (z ▸ List.mem_of_getElem? h2)))⟩
  refine ⟨S.step s1 o1, nF, nR, S.st.there l n, fun j ys e q => ?_⟩
  obtain ⟨l', vs', q', hl', _⟩ := S.eo.own j ys e
  rw [q] at q'
  cases q'
  rw [n] at hl'
  cases hl'
/-- a list that nothing knows is given to a slot -/
theorem Sto.give (S : Sto K G0 H0 G env μ σ H) {i : Nat} {xs : List PyData} {vs : List V} {l : Addr} (r : DzAll K G.F vs xs) (hH : H l = some (.lst vs)) (nF : G.F l = none) (nR : l ∉ G.rho) (n0 : H0 l = none)
    (newl : ∀ (j : Nat) (ys : List PyData), env[j]? = some (some (.own ys)) → σ[j]? ≠ some (some (.ref l))) : Sto K G0 H0 G (env.set i (some (.own xs))) μ (σ.set i (some (.ref l))) H := by
  have hlen := S.eo.len
  refine ⟨S.st, S.ok, ⟨by rw [List.length_set, List.length_set]; exact S.eo.len, fun j y h => ?_, fun j ys h => ?_, fun j k ys zs l' h1 h2 h3 h4 => ?_⟩, fun j ys l' h1 h2 => ?_⟩
  · rcases get_set h with ⟨rfl, e, hl⟩ | ⟨hj, e⟩
    · cases e
    · obtain ⟨u, q, rr⟩ := S.eo.w j y e
      exact ⟨u, by rw [List.getElem?_set_ne (Ne.symm hj)]; exact q, rr⟩
  · rcases get_set h with ⟨rfl, e, hl⟩ | ⟨hj, e⟩
    · cases e
      exact ⟨l, vs, by rw [List.getElem?_set_self (by omega)], hH, r, nF, nR⟩
    · obtain ⟨l', vs', q, rest⟩ := S.eo.own j ys e
      exact ⟨l', vs', by rw [List.getElem?_set_ne (Ne.symm hj)]; exact q, rest⟩
  · rcases get_set h1 with ⟨ej, e, hl⟩ | ⟨hj, e⟩
    · rcases get_set h2 with ⟨ek, e2, hl⟩ | ⟨hk, e2⟩
      · rw [ej, ek]
      · subst ej
        rw [List.getElem?_set_self (by omega)] at h3
        cases h3
        rw [List.getElem?_set_ne (Ne.symm hk)] at h4
        exact absurd h4 (newl _ _ e2)
    · rcases get_set h2 with ⟨ek, e2, hl⟩ | ⟨hk, e2⟩
      · subst ek
        rw [List.getElem?_set_self (by omega)] at h4
        cases h4
        rw [List.getElem?_set_ne (Ne.symm hj)] at h3
        exact absurd h3 (newl _ _ e)
      · rw [List.getElem?_set_ne (Ne.symm hj)] at h3
        rw [List.getElem?_set_ne (Ne.symm hk)] at h4
        exact S.eo.one j k ys zs l' e e2 h3 h4
  · rcases get_set h1 with ⟨rfl, e, hl⟩ | ⟨hj, e⟩
    · rw [List.getElem?_set_self (by omega)] at h2
      cases h2
      exact n0
    · rw [List.getElem?_set_ne (Ne.symm hj)] at h2
      exact S.nw j ys l' e h2
/-- a new list, owned by a slot -/
theorem Sto.setOwn (S : Sto K G0 H0 G env μ σ H) {i : Nat} {xs : List PyData} {vs : List V} {l : Addr} (r : DzAll K G.F vs xs) (n : H l = none) : Sto K G0 H0 G (env.set i (some (.own xs))) μ (σ.set i (some (.ref l))) (upd H l (.lst vs)) := by
  obtain ⟨S1, nF, nR, n0, nl⟩ := S.fresh vs n
  exact S1.give r upd_same nF nR n0 nl
/-- an owned list grows -/
theorem Sto.grow (S : Sto K G0 H0 G env μ σ H) {i : Nat} {xs ys : List PyData} {vs : List V} {l : Addr} (e : env[i]? = some (some (.own xs))) (q : σ[i]? = some (some (.ref l))) (r : DzAll K G.F vs ys) : Sto K G0 H0 G (env.set i (some (.own ys))) μ σ (upd H l (.lst vs)) := by
  have hlen := S.eo.len
  obtain ⟨l', vs', q', hl', r', nF, nR⟩ := S.eo.own i xs e
  rw [q] at q'
  cases q'
  have n0 : H0 l = none := S.nw i xs l e q
  have hi : i < env.length := (List.getElem?_eq_some_iff.mp e).1
  have s1 : Step G0 H0 G (upd H l (.lst vs)) := by
    refine ⟨S.st.sub, S.st.pre, fun a o h hn => ?_, fun a h => ?_, S.st.newF, S.st.newR⟩
    · rw [upd_ne (ne_of_none h n0)]
      exact S.st.keep a o h hn
    · by_cases z : a = l
      · rw [z]; exact n0
      · rw [upd_ne z] at h; exact S.st.there a h
  have o1 : Ok K G μ (upd H l (.lst vs)) := by
    refine ⟨fun a o h => by rw [upd_ne (ne_of_none h nF)]; exact S.ok.fz a o h, S.ok.len, S.ok.nd, fun k u a h1 h2 => ?_⟩
    obtain ⟨f, rr⟩ := S.ok.mo k u a h1 h2
    exact ⟨f, rr.mono (fun _ _ h => h) (upd_ne fun z => nR (z ▸ List.mem_of_getElem? h2))⟩
  refine ⟨s1, o1, ⟨by rw [List.length_set]; exact S.eo.len, fun j y h => ?_, fun j zs h => ?_, fun j k zs ws l' h1 h2 h3 h4 => ?_⟩, fun j zs l' h1 h2 => ?_⟩
  · rcases get_set h with ⟨rfl, e, hl⟩ | ⟨hj, e⟩
    · cases e
    · exact S.eo.w j y e
  · rcases get_set h with ⟨rfl, e2, hl⟩ | ⟨hj, e2⟩
    · cases e2
      exact ⟨l, vs, q, upd_same, r, nF, nR⟩
    · obtain ⟨l2, vs2, q2, hl2, rest⟩ := S.eo.own j zs e2
      refine ⟨l2, vs2, q2, ?_, rest⟩
      rw [upd_ne]
      · exact hl2
      · intro z
        rw [z] at q2
        exact hj (S.eo.one j i zs xs l e2 e q2 q)
  · have own : ∀ {j : Nat} {zs : List PyData}, (env.set i (some (.own ys)))[j]? = some (some (.own zs)) → ∃ ws, env[j]? = some (some (.own ws)) := fun {j zs} h => by
      rcases get_set h with ⟨rfl, e2, hl⟩ | ⟨hj, e2⟩
      · exact ⟨xs, e⟩
      · exact ⟨zs, e2⟩
    obtain ⟨a, ea⟩ := own h1
    obtain ⟨b, eb⟩ := own h2
    exact S.eo.one j k a b l' ea eb h3 h4
  · rcases get_set h1 with ⟨rfl, e2, hl⟩ | ⟨hj, e2⟩
    · exact S.nw _ xs l' e h2
    · exact S.nw j zs l' e2 h2
/-- an owned list is frozen -/
theorem Sto.freeze (S : Sto K G0 H0 G env μ σ H) {i : Nat} {xs : List PyData} (e : env[i]? = some (some (.own xs))) : ∃ G1, Same G.F G1.F ∧ Sto K G0 H0 G1 (env.set i (some (.w (.d (.list xs))))) μ σ H := by
  obtain ⟨l, vs, q, hl, r, nF, nR⟩ := S.eo.own i xs e
  have n0 : H0 l = none := S.nw i xs l e q
  have sm : Same G.F (upd G.F l (.lst vs)) := same_upd nF
  refine ⟨⟨upd G.F l (.lst vs), G.rho⟩, sm, ⟨S.st.sub.trans sm, S.st.pre, S.st.keep, S.st.there, fun a h => ?_, S.st.newR⟩, ⟨fun a o h => ?_, S.ok.len, S.ok.nd, fun k u a h1 h2 => ?_⟩,
    ⟨by rw [List.length_set]; exact S.eo.len, fun j y h => ?_, fun j zs h => ?_, fun j k zs ws l' h1 h2 h3 h4 => ?_⟩, fun j zs l' h1 h2 => ?_⟩
  · by_cases z : a = l
    · rw [z]; exact .inr n0
    · have h' : upd G.F l (.lst vs) a ≠ none := h
      rw [upd_ne z] at h'
      exact S.st.newF a h'
  · have h' : upd G.F l (.lst vs) a = some o := h
    by_cases z : a = l
    · rw [z, upd_same] at h'
      rw [z, hl]
      exact h'
    · rw [upd_ne z] at h'
      exact S.ok.fz a o h'
  · obtain ⟨f, rr⟩ := S.ok.mo k u a h1 h2
    refine ⟨?_, rr.mono sm rfl⟩
    show upd G.F l _ a = none
    rw [upd_ne (show a ≠ l from fun z => nR (z ▸ List.mem_of_getElem? h2))]
    exact f
  · rcases get_set h with ⟨rfl, e2, hlt⟩ | ⟨hj, e2⟩
    · cases e2
      exact ⟨.ref l, q, .lst (show upd G.F l _ l = _ from upd_same) (dpAll_mono sm _ _ r)⟩
    · obtain ⟨u, qu, ru⟩ := S.eo.w j y e2
      refine ⟨u, qu, ?_⟩
      cases y with
      | d x => exact dp_mono sm _ _ ru
      | m k => exact ru
      | s ns =>
        obtain ⟨a, ea, hs⟩ := ru
        exact ⟨a, ea, sm.seq hs⟩
  · rcases get_set h with ⟨rfl, e2, hlt⟩ | ⟨hj, e2⟩
    · cases e2
    · obtain ⟨l2, vs2, q2, hl2, r2, f2, n2⟩ := S.eo.own j zs e2
      refine ⟨l2, vs2, q2, hl2, dpAll_mono sm _ _ r2, ?_, n2⟩
      show upd G.F l _ l2 = none
      rw [upd_ne]
      · exact f2
      · intro z
        rw [z] at q2
        exact hj (S.eo.one j i zs xs l e2 e q2 q)
  · rcases get_set h1 with ⟨rfl, e2, hlt⟩ | ⟨hj, e2⟩
    · cases e2
    · rcases get_set h2 with ⟨rfl, e3, hlt⟩ | ⟨hk, e3⟩
      · cases e3
      · exact S.eo.one j k zs ws l' e2 e3 h3 h4
  · rcases get_set h1 with ⟨rfl, e2, hlt⟩ | ⟨hj, e2⟩
    · cases e2
    · exact S.nw j zs l' e2 h2
end

section
variable {X : Cx} {C : Str → Option Addr} {Wx : WX}
/-- an expression's outcome, for a statement -/
def R.st (r : R α) (env : Ev) (k : α → Mu → SR) : SR := match r with
  | .ok a μ => k a μ
  | .exc x μ => .xc x env μ
  | .bad => .bad
/-- an expression within a statement -/
theorem tzS_bind {α β : Type} {rep : Gh → α → β → Prop} {f : Ev → Mu → R α} {k : Ev → α → Mu → SR} {Γ : Ctx} {D : Ends} {σ : L2.St} {H : Hp} {q : β → Hp → Prop} (h : tzS Γ (fun env μ => (f env μ).st env (k env)) D σ H)
    (i : ∀ G0 H0 G env a μ b H1, Sto Γ.K G0 H0 G env μ σ H1 → rep G a b → PostS Γ G0 H0 G.F D (k env a μ) → q b H1) : tz Γ rep f σ H q := by
  obtain ⟨G0, H0, G, env, μ, S, p'⟩ := h
  have p : PostS Γ G0 H0 G.F D ((f env μ).st env (k env)) := p'
  refine ⟨G, μ, env, S.ok, S.eo, ?_⟩
  cases e : f env μ with
  | bad => rw [e] at p; exact p
  | exc x m =>
    rw [e] at p
    exact fun G1 cls d H1 s o r => p G1 cls d σ H1 (S.step s o) s.sub r
  | ok a m =>
    rw [e] at p
    exact fun G1 b H1 s o r => i G0 H0 G1 env a m b H1 (S.step s o) r (p.mono s.sub)

/-! ### blocks -/
def s_nil : SM := fun env μ => .nx env μ
def s_seq (g1 g2 : SM) : SM := fun env μ => match g1 env μ with
  | .nx env μ => g2 env μ
  | r => r
theorem zs_nil : ZSs X C Wx [] s_nil := pss_imp pss_nil fun D σ H h => by
  obtain ⟨G0, H0, G, env, μ, S, p⟩ := h
  exact p G σ H S (rf _)
theorem tzS_seq {Γ : Ctx} {g1 g2 : SM} {D : Ends} {σ : L2.St} {H : Hp} (h : tzS Γ (s_seq g1 g2) D σ H) : tzS Γ g1 { D with nx := tzS Γ g2 D } σ H := by
  obtain ⟨G0, H0, G, env, μ, S, p⟩ := h
  refine ⟨G0, H0, G, env, μ, S, ?_⟩
  unfold s_seq at p
  cases e : g1 env μ with
  | nx env' μ' =>
    rw [e] at p
    exact fun G' σ' H' S' sm => ⟨G0, H0, G', env', μ', S', p.mono sm⟩
  | _ => rw [e] at p; exact p
theorem zs_cons {st : Stmt} {r : List Stmt} {g1 g2 : SM} (h1 : ZSt X C Wx st g1) (h2 : ZSs X C Wx r g2) : ZSs X C Wx (st :: r) (s_seq g1 g2) := pss_imp (pss_cons h1 h2) fun D σ H h => tzS_seq h
theorem zs_one {st : Stmt} {g1 : SM} (h1 : ZSt X C Wx st g1) : ZSs X C Wx [st] g1 := pss_one h1
/-- a ghost step: the list of a slot is frozen -/
def s_frz (i : Nat) : SM := fun env μ => match env[i]? with
  | some (some (.own xs)) => .nx (env.set i (some (.w (.d (.list xs))))) μ
  | _ => .bad
theorem zs_frz {i : Nat} {r : List Stmt} {g : SM} (h : ZSs X C Wx r g) : ZSs X C Wx r (s_seq (s_frz i) g) := pss_imp h fun D σ H h => by
  obtain ⟨G0, H0, G, env, μ, S, p⟩ := h
  unfold s_seq s_frz at p
  split at p
  · rename_i env' μ' e
    split at e
    · rename_i xs e2
      cases e
      obtain ⟨G1, sm, S1⟩ := S.freeze e2
      exact ⟨G0, H0, G1, _, μ, S1, p.mono sm⟩
    · cases e
  · rename_i e
    split at p
    · rename_i xs e2
      rw [e2] at e
      exact absurd rfl (e _ _)
    · exact p.elim
/-! ### small statements -/
def s_set (i : Nat) (f : EM) : SM := fun env μ => (f env μ).st env fun x μ => .nx (env.set i (some (.w x))) μ
theorem zs_set {i : Nat} {st : Stmt} {f : EM} (h : PS X st (tAsg (tz (cx X C Wx) (WRep X.K) f) (gName i))) : ZSt X C Wx st (s_set i f) := ps_imp h fun D σ H h =>
  tzS_bind h fun G0 H0 G env x μ v H1 S r p => p G _ H1 (S.setW r) (rf _)
def s_own (i : Nat) (f : AM) : SM := fun env μ => (f env μ).st env fun xs μ => match pures xs with
  | some ds => if ds.length ≤ szl then .nx (env.set i (some (.own ds))) μ else .bad
  | none => .bad
theorem zs_own {i : Nat} {st : Stmt} {f : AM} (h : PS X st (tAsg (tLst (tz (cx X C Wx) (WAll X.K) f)) (gName i))) : ZSt X C Wx st (s_own i f) := ps_imp h fun D σ H h =>
  tzS_bind (rep := WAll X.K) h fun G0 H0 G env xs μ vs H1 S r p => by
    split at p
    · rename_i ds e
      have rr := pures_rep r e
      split at p
      · rename_i hl
        exact ⟨by rw [dpAll_len rr]; exact hl, fun l hn => p G _ _ (S.setOwn rr hn) (rf _)⟩
      · exact p.elim
    · exact p.elim
def s_ret (f : EM) : SM := fun env μ => (f env μ).st env fun x μ => .rt x μ
theorem zs_ret {e : Expr} {f : EM} {pos : Pos} (h : ZE X C Wx e f) : ZSt X C Wx (.Return (some e) pos) (s_ret f) := ps_imp (ps_ret h) fun D σ H h =>
  tzS_bind h fun G0 H0 G env x μ v H1 S r p => p G v H1 S.st S.ok r
def s_ex (f : EM) : SM := fun env μ => (f env μ).st env fun _ μ => .nx env μ
theorem zs_ex {st : Stmt} {f : EM} (h : PS X st (tDrop (tz (cx X C Wx) (WRep X.K) f))) : ZSt X C Wx st (s_ex f) := ps_imp h fun D σ H h =>
  tzS_bind h fun G0 H0 G env x μ v H1 S r p => p G σ H1 S (rf _)
def s_pass : SM := fun env μ => .nx env μ
theorem zs_pass {pos : Pos} : ZSt X C Wx (.Pass pos) s_pass := ps_imp ps_pass fun D σ H h => by
  obtain ⟨G0, H0, G, env, μ, S, p⟩ := h
  exact p G σ H S (rf _)
def s_break : SM := fun env μ => .bk env μ
theorem zs_break {pos : Pos} : ZSt X C Wx (.Break pos) s_break := ps_imp ps_break fun D σ H h => by
  obtain ⟨G0, H0, G, env, μ, S, p⟩ := h
  exact p G σ H S (rf _)
def s_cont : SM := fun env μ => .ct env μ
theorem zs_cont {pos : Pos} : ZSt X C Wx (.Continue pos) s_cont := ps_imp ps_continue fun D σ H h => by
  obtain ⟨G0, H0, G, env, μ, S, p⟩ := h
  exact p G σ H S (rf _)
def s_if (ft : TM) (g1 g2 : SM) : SM := fun env μ => (ft env μ).st env fun b μ => if b = true then g1 env μ else g2 env μ
theorem zs_if {c : Expr} {a b : List Stmt} {ft : TM} {g1 g2 : SM} {pos : Pos} (hc : ZT X C Wx c ft) (ha : ZSs X C Wx a g1) (hb : ZSs X C Wx b g2) : ZSt X C Wx (.If c a b pos) (s_if ft g1 g2) := ps_imp (ps_if hc ha hb) fun D σ H h =>
  tzS_bind (rep := bRep) h fun G0 H0 G env b μ b' H1 S r p => by
    cases r
    cases b with
    | true => exact ⟨G0, H0, G, env, μ, S, p⟩
    | false => exact ⟨G0, H0, G, env, μ, S, p⟩
/-- x, y = e1, e2 -/
def s_par (i j : Nat) (f : AM) : SM := fun env μ => (f env μ).st env fun xs μ => match xs with
  | [x, y] => .nx ((env.set i (some (.w x))).set j (some (.w y))) μ
  | _ => .bad
theorem zs_par {i j : Nat} {st : Stmt} {f : AM} (h : PS X st (tPar i j (tz (cx X C Wx) (WAll X.K) f))) : ZSt X C Wx st (s_par i j f) := ps_imp h fun D σ H h =>
  tzS_bind (rep := WAll X.K) h fun G0 H0 G env xs μ vs H1 S r p => by
    split at p
    · obtain ⟨v, u, rfl, r1, r2⟩ := wall2 r
      exact ⟨v, u, rfl, p G _ H1 ((S.setW r1).setW r2) (rf _)⟩
    · exact p.elim
/-- x, y = [], e: the first one is a list that x owns -/
def s_parO (i j : Nat) (f : EM) : SM := fun env μ => (f env μ).st env fun y μ => .nx ((env.set i (some (.own []))).set j (some (.w y))) μ
theorem zs_parO {i j : Nat} {st : Stmt} {f : EM} (hij : i ≠ j) (h : PS X st (tPar i j (tCons (tLst tNil) (tCons (tz (cx X C Wx) (WRep X.K) f) tNil)))) : ZSt X C Wx st (s_parO i j f) := ps_imp h fun D σ H h => by
  obtain ⟨G0, H0, G, env, μ, S, p'⟩ := h
  have p : PostS (cx X C Wx) G0 H0 G.F D ((f env μ).st env fun y μ => .nx ((env.set i (some (.own []))).set j (some (.w y))) μ) := p'
  refine ⟨Nat.zero_le _, fun l hn => ?_⟩
  obtain ⟨S1, nF, nR, n0, nl⟩ := S.fresh [] hn
  refine ⟨G, μ, env, S1.ok, S1.eo, ?_⟩
  cases e : f env μ with
  | bad => rw [e] at p; exact p
  | exc x m =>
    rw [e] at p
    exact fun G1 cls d H1 s o r => p G1 cls d σ H1 (S1.step s o) s.sub r
  | ok a m =>
    rw [e] at p
    intro G1 b H1 s o r
    have hl : H1 l = some (.lst []) := s.keep l _ upd_same nR
    have nF1 : G1.F l = none := by
      cases z : G1.F l with
      | none => rfl
      | some u =>
        rcases s.newF l (by rw [z]; exact Option.some_ne_none u) with z | z
        · exact absurd nF z
        · rw [upd_same] at z; cases z
    have nR1 : l ∉ G1.rho := fun z => by
      rcases s.newR l z with z | z
      · exact nR z
      · rw [upd_same] at z; cases z
    refine ⟨_, _, rfl, ?_⟩
    have S2 := (S1.step s o).give (i := i) .nil hl nF1 nR1 n0 nl
    exact p G1 _ H1 (S2.setW r) s.sub
/-! ### an owned list -/
def appK (i : Nat) (xs : List PyData) (env : Ev) (x : W) (μ : Mu) : SR := match x with
  | .d d => if xs.length < szl then .nx (env.set i (some (.own (xs ++ [d])))) μ else .bad
  | _ => .bad
def s_app (i : Nat) (f : EM) : SM := fun env μ => match env[i]? with
  | some (some (.own xs)) => (f env μ).st env (appK i xs env)
  | _ => .bad
theorem zs_app {i : Nat} {x : Str} {o : Expr} {e : Expr} {f : EM} {apos cpos pos : Pos} (ho : PE X o (tVar i)) (he : ZE X C Wx e f)
    (hbase : attributeBase o "append" X.env (eval o X.env) = eval o X.env := by rfl)
    (hfew : ((backTo cpos (starEach [e] X.env)).all (fun x => !x.1) && (backToKw cpos (keywordEach [] X.env)).all (fun x => x.1.isSome)
      && decide ([e].length + ([] : List Keyword).length + (if ([] : List Keyword).isEmpty then 0 else 1) < 30)) = true := by rfl)
    (hline : (apos.endLine == cpos.line) = true := by rfl) (hs : starEach [e] X.env = (false, eval e X.env) :: starEach [] X.env := by rfl) (hplain : (backTo cpos (starEach [] X.env)).any (·.1) = false := by rfl)
    (hsw : swapsWith (.Call (.Attribute o "append" apos) [e] [] cpos) none pos.line X.env = pure false := by rfl) :
    ZSt X C Wx (.Expr (.Call (.Attribute o "append" apos) [e] [] cpos) pos) (s_app i f) :=
  ps_imp (ps_expr (pe_bm PySem.F.plainAttrs_list PySem.F.slot_list_append PySem.F.type_list_append mt_append ho (pa_cons he pa_nil hs) hbase hfew hline hs hplain) hsw) fun D σ H h => by
    obtain ⟨G0, H0, G, env, μ, S, p⟩ := h
    unfold s_app at p
    split at p
    · rename_i xs e0
      obtain ⟨l, vs, q, hl, r, nF, nR⟩ := S.eo.own i xs e0
      refine ⟨.ref l, q, .inl ⟨rfl, vs, SqL.of hl⟩, G, μ, env, S.ok, S.eo, ?_⟩
      cases e1 : f env μ with
      | bad => rw [e1] at p; exact p
      | exc x m =>
        rw [e1] at p
        exact fun G1 cls d H1 s o rx => p G1 cls d σ H1 (S.step s o) s.sub rx
      | ok a m =>
        rw [e1] at p
        intro G1 b H1 s o rb
        have hl1 : H1 l = some (.lst vs) := s.keep l _ hl nR
        have p1 : PostS (cx X C Wx) G0 H0 G.F D (appK i xs env a m) := p
        unfold appK at p1
        split at p1
        · rename_i d
          split at p1
          · rename_i hlen
            refine ⟨l, vs, b, rfl, rfl, hl1, by rw [dpAll_len r]; exact hlen, ?_⟩
            have S1 := S.step s o
            obtain ⟨l2, vs2, q2, hl2, r2, _⟩ := S1.eo.own i xs e0
            rw [q] at q2
            cases q2
            rw [hl1] at hl2
            cases hl2
            exact p1 G1 σ _ (S1.grow e0 q (dpAll_append r2 (.cons rb .nil))) s.sub
          · exact p1.elim
        · exact p1.elim
    · exact p.elim
end
end Zed

/-! loops -/
namespace Zed
open PySem PySem.Spec PyProof.Rows L2
abbrev BM := PyData → Ev → Option Ev
/-- but for these slots they are the same -/
def Wiped (is : List Nat) (σ σ' : L2.St) : Prop := σ'.length = σ.length ∧ ∀ k, k ∉ is → σ'[k]? = σ[k]?
theorem Wiped.refl (σ : L2.St) {is : List Nat} : Wiped is σ σ := ⟨rfl, fun _ _ => rfl⟩
theorem Wiped.trans {is js : List Nat} {σ σ1 σ2 : L2.St} (a : Wiped is σ σ1) (b : Wiped js σ1 σ2) : Wiped (is ++ js) σ σ2 :=
  ⟨b.1.trans a.1, fun k h => (b.2 k fun z => h (List.mem_append_right _ z)).trans (a.2 k fun z => h (List.mem_append_left _ z))⟩
theorem wipe_get {σ : L2.St} {k : Nat} : ∀ vs : List Nat, (L2.wipe σ vs)[k]? = if k ∈ vs then (σ[k]?).map (fun _ => none) else σ[k]?
  | [] => by simp [L2.wipe]
  | v :: vs => by
    show ((L2.wipe σ vs).set v none)[k]? = _
    by_cases e : k = v
    · subst e
      rw [if_pos (by simp)]
      rw [List.getElem?_set, if_pos rfl, wipe_length]
      by_cases hl : k < σ.length
      · rw [if_pos hl, List.getElem?_eq_getElem hl]
        rfl
      · rw [if_neg hl, List.getElem?_eq_none (Nat.le_of_not_lt hl)]
        rfl
    · rw [List.getElem?_set_ne (Ne.symm e), wipe_get vs]
      by_cases m : k ∈ vs
      · rw [if_pos m, if_pos (by simp [m])]
      · rw [if_neg m, if_neg (by simp [m, e])]
theorem Wiped.wipe {is vs : List Nat} {σ σ' : L2.St} (w : Wiped is σ σ') (h : ∀ i ∈ is, i ∈ vs) : L2.wipe σ' vs = L2.wipe σ vs := by
  refine List.ext_getElem? fun k => ?_
  rw [wipe_get, wipe_get]
  by_cases m : k ∈ vs
  · rw [if_pos m, if_pos m]
    by_cases hl : k < σ.length
    · rw [List.getElem?_eq_getElem hl, List.getElem?_eq_getElem (by rw [w.1]; exact hl)]
      rfl
    · rw [List.getElem?_eq_none (Nat.le_of_not_lt hl), List.getElem?_eq_none (by rw [w.1]; exact Nat.le_of_not_lt hl)]
  · rw [if_neg m, if_neg m]
    exact w.2 k fun z => m (h k z)
theorem wipe_wipe {vs : List Nat} {σ : L2.St} : L2.wipe (L2.wipe σ vs) vs = L2.wipe σ vs := by
  refine List.ext_getElem? fun k => ?_
  rw [wipe_get, wipe_get]
  by_cases m : k ∈ vs
  · rw [if_pos m, if_pos m]
    cases σ[k]? <;> rfl
  · rw [if_neg m, if_neg m]
/-- a target takes a value -/
def SemG (K : PySem.W.Frag) (is : List Nat) (g : TG) (b : BM) : Prop := ∀ (G0 : Gh) (H0 : Hp) (G : Gh) (env : Ev) (μ : Mu) (σ : L2.St) (H : Hp) (v : V) (d : PyData) (env' : Ev) (Q : L2.St → Hp → Prop),
  Sto K G0 H0 G env μ σ H → Dz K G.F v d → b d env = some env' → (∀ σ', Sto K G0 H0 G env' μ σ' H → Wiped is σ σ' → Q σ' H) → g v σ H Q
def SemGs (K : PySem.W.Frag) (is : List Nat) (g : TGs) (b : List PyData → Ev → Option Ev) : Prop := ∀ (G0 : Gh) (H0 : Hp) (G : Gh) (env : Ev) (μ : Mu) (σ : L2.St) (H : Hp) (vs : List V) (ds : List PyData) (env' : Ev) (Q : L2.St → Hp → Prop),
  Sto K G0 H0 G env μ σ H → DzAll K G.F vs ds → b ds env = some env' → (∀ σ', Sto K G0 H0 G env' μ σ' H → Wiped is σ σ' → Q σ' H) → g vs σ H Q
def b_n (i : Nat) : BM := fun d env => some (env.set i (some (.w (.d d))))
def b_nil : List PyData → Ev → Option Ev := fun ds env => match ds with
  | [] => some env
  | _ => none
def b_cons (b : BM) (r : List PyData → Ev → Option Ev) : List PyData → Ev → Option Ev := fun ds env => match ds with
  | d :: ds => match b d env with
    | some env => r ds env
    | none => none
  | [] => none
def b_tup (n : Nat) (r : List PyData → Ev → Option Ev) : BM := fun d env => match d with
  | .tuple ds => if ds.length = n then r ds env else none
  | _ => none
section
variable {K : PySem.W.Frag}
theorem sg_n {i : Nat} : SemG K [i] (gName i) (b_n i) := by
  intro G0 H0 G env μ σ H v d env' Q S r e q
  cases e
  exact q _ (S.setW r) ⟨by rw [List.length_set], fun k h => List.getElem?_set_ne (fun z => h (by simp [z]))⟩
theorem sgs_nil : SemGs K [] gNil b_nil := by
  intro G0 H0 G env μ σ H vs ds env' Q S r e q
  cases r with
  | nil =>
    cases e
    exact ⟨rfl, q _ S (.refl _)⟩
  | cons h t => cases e
theorem sgs_cons {g : TG} {gs : TGs} {b : BM} {r : List PyData → Ev → Option Ev} {is js : List Nat} (h1 : SemG K is g b) (h2 : SemGs K js gs r) : SemGs K (is ++ js) (gCons g gs) (b_cons b r) := by
  intro G0 H0 G env μ σ H vs ds env' Q S rr e q
  cases rr with
  | nil => cases e
  | cons h t =>
    unfold b_cons at e
    dsimp only at e
    split at e
    · rename_i env1 e1
      exact ⟨_, _, rfl, h1 G0 H0 G env μ σ H _ _ env1 _ S h e1 fun σ1 S1 w1 => h2 G0 H0 G env1 μ σ1 H _ _ env' Q S1 t e fun σ2 S2 w2 => q σ2 S2 (w1.trans w2)⟩
    · cases e
theorem sg_tup {gs : TGs} {n : Nat} {r : List PyData → Ev → Option Ev} {is : List Nat} (h : SemGs K is gs r) : SemG K is (gTup K n gs) (b_tup n r) := by
  intro G0 H0 G env μ σ H v d env' Q S rr e q
  unfold b_tup at e
  split at e
  · obtain ⟨a, vs, rfl, ha, ra⟩ := dz_tup S.ok rr
    split at e
    · rename_i hl
      exact ⟨a, vs, rfl, ha, by rw [dpAll_len ra]; exact hl, h G0 H0 G env μ σ H vs _ env' Q S ra e q⟩
    · cases e
  · cases e
end
/-- x, y, .. = e -/
def s_asg (b : BM) (f : EM) : SM := fun env μ => (f env μ).st env fun x μ => match x with
  | .d d => match b d env with
    | some env => .nx env μ
    | none => .bad
  | _ => .bad

/-! ### for -/
def forL (b : BM) (body : SM) : List PyData → SM
  | [] => fun env μ => .nx env μ
  | d :: ds => fun env μ => match b d env with
    | none => .bad
    | some env => match body env μ with
      | .nx env μ => forL b body ds env μ
      | .ct env μ => forL b body ds env μ
      | .bk env μ => .nx env μ
      | r => r
def forK (b : BM) (body : SM) (env : Ev) (x : W) (μ : Mu) : SR := match x with
  | .d x => match seqD x with
    | some ds => forL b body ds env μ
    | none => .bad
  | _ => .bad
def s_for (b : BM) (f : EM) (body : SM) : SM := fun env μ => (f env μ).st env (forK b body env)
section
variable {X : Cx} {C : Str → Option Addr} {Wx : WX}
theorem zs_asg {tg e : Expr} {f : EM} {g : TG} {b : BM} {pos : Pos} {is : List Nat} (hb : SemG X.K is g b) (he : ZE X C Wx e f) (hg : PG X tg g) (hs : swapsWithSole [tg] e pos.line X.env = pure false := by rfl) (hw : swappedStores [tg] e X.env = pure none := by rfl)
    (h1 : (assignEach [tg] X.env).map (·.2) = [assign tg X.env] := by rfl) : ZSt X C Wx (.Assign [tg] e pos) (s_asg b f) := ps_imp (ps_asg he hg hs hw h1) fun D σ H h =>
  tzS_bind (rep := WRep X.K) h fun G0 H0 G env x μ v H1 S r p => by
    split at p
    · split at p
      · rename_i env' e
        exact hb G0 H0 G env μ σ H1 v _ env' _ S r e fun σ' S' _ => p G σ' H1 S' (rf _)
      · exact p.elim
    · exact p.elim
/-- one turn -/
theorem for_turn {Γ : Ctx} {b : BM} {body : SM} {D : Ends} {G0 G : Gh} {H0 H : Hp} {env : Ev} {μ : Mu} {σ : L2.St} {d : PyData} {ds : List PyData} {g : TG} {v : V} {N : L2.St → Hp → Prop} {is : List Nat} (hb : SemG Γ.K is g b) (S : Sto Γ.K G0 H0 G env μ σ H) (r : Dz Γ.K G.F v d)
    (p : PostS Γ G0 H0 G.F D (forL b body (d :: ds) env μ)) (hN : ∀ G' env' μ' σ' H', Sto Γ.K G0 H0 G' env' μ' σ' H' → Same G.F G'.F → PostS Γ G0 H0 G'.F D (forL b body ds env' μ') → N σ' H') :
    g v σ H fun σ2 H2 => tzS Γ body { D with nx := N, ct := N, bk := D.nx } σ2 H2 := by
  unfold forL at p
  split at p
  · exact p.elim
  · rename_i env1 e1
    refine hb G0 H0 G env μ σ H v d env1 _ S r e1 fun σ1 S1 _ => ⟨G0, H0, G, env1, μ, S1, ?_⟩
    cases e : body env1 μ with
    | nx e2 m2 => rw [e] at p; exact fun G' σ' H' S' sm => hN G' e2 m2 σ' H' S' sm (p.mono sm)
    | ct e2 m2 => rw [e] at p; exact fun G' σ' H' S' sm => hN G' e2 m2 σ' H' S' sm (p.mono sm)
    | bk e2 m2 => rw [e] at p; exact p
    | rt w m2 => rw [e] at p; exact p
    | xc x e2 m2 => rw [e] at p; exact p
    | bad => rw [e] at p; exact p
theorem drop_cons {α : Type} {l : List α} {i : Nat} {x : α} (h : l[i]? = some x) : l.drop i = x :: l.drop (i + 1) := by
  obtain ⟨hi, e⟩ := List.getElem?_eq_some_iff.mp h
  rw [List.drop_eq_getElem_cons hi, e]
/-- what stands before turn i of a walk over ds, whose values are vs -/
def ForPv (Γ : Ctx) (b : BM) (body : SM) (D : Ends) (G0 : Gh) (H0 : Hp) (ds : List PyData) (still : Gh → Prop) (i : Nat) (σ : L2.St) (H : Hp) : Prop :=
  ∃ G env μ, Sto Γ.K G0 H0 G env μ σ H ∧ still G ∧ PostS Γ G0 H0 G.F D (forL b body (ds.drop i) env μ)
theorem zs_for {tg iter : Expr} {body : List Stmt} {f : EM} {g : TG} {b : BM} {gb : SM} {pos : Pos} (hp : PassesOwn (model X.prog X.w) X.A X.env X.xe) (hc : X.calm = true) {is : List Nat} (hb : SemG X.K is g b) (hi : ZE X C Wx iter f) (hg : PG X tg g) (hbody : ZSs X C Wx body gb)
    (hs : ∀ x, foldedSetIterable iter X.env x = pure x := by intro _; rfl) : ZSt X C Wx (.For tg iter body [] pos) (s_for b f gb) :=
  ps_imp (ps_or (ps_for hp hc (pi_list hi) hg hbody hs) (ps_for hp hc (pi_tup hi) hg hbody hs)) fun D σ H h => by
    obtain ⟨G0, H0, G, env, μ, S, p'⟩ := h
    have p : PostS (cx X C Wx) G0 H0 G.F D ((f env μ).st env (forK b gb env)) := p'
    cases e : f env μ with
    | bad => rw [e] at p; exact p.elim
    | exc x m =>
      rw [e] at p
      refine .inl ⟨G, μ, env, S.ok, S.eo, ?_⟩
      rw [e]
      exact fun G1 cls d H1 s o r => p G1 cls d σ H1 (S.step s o) s.sub r
    | ok a m =>
      rw [e] at p
      have p1 : PostS (cx X C Wx) G0 H0 G.F D (forK b gb env a m) := p
      unfold forK at p1
      split at p1
      · rename_i x
        cases x with
        | list ds =>
          refine .inl ⟨G, μ, env, S.ok, S.eo, ?_⟩
          rw [e]
          intro G1 v H1 s o r
          cases r with
          | lst ha ra =>
            rename_i a vs
            refine ⟨a, rfl, ⟨vs, SqL.of (o.fz _ _ ha)⟩, for_list (K := X.K) (a := a) (xs := vs) (ForPv (cx X C Wx) b gb D G0 H0 ds fun G => G.F a = some (.lst vs) ∧ DzAll X.K G.F vs ds) ⟨G1, env, m, S.step s o, ⟨ha, ra⟩, p1.mono s.sub⟩ ?_ ?_ ?_⟩
            · rintro i σ2 H2 _ ⟨G2, env2, μ2, S2, ⟨ha2, _⟩, _⟩
              exact SqL.of (S2.ok.fz _ _ ha2)
            · rintro i x σ2 H2 hx ⟨G2, env2, μ2, S2, ⟨ha2, ra2⟩, p2⟩
              obtain ⟨d, hd, rd⟩ := dpAll_get' ra2 hx
              rw [drop_cons hd] at p2
              exact for_turn hb S2 rd p2 fun G' env' μ' σ' H' S' sm p' => ⟨G', env', μ', S', ⟨sm _ _ ha2, dpAll_mono sm _ _ ra2⟩, p'⟩
            · rintro σ2 H2 ⟨G2, env2, μ2, S2, ⟨ha2, ra2⟩, p2⟩
              rw [dpAll_len ra2, List.drop_length] at p2
              exact p2 G2 σ2 H2 S2 (rf _)
        | tuple ds =>
          refine .inr ⟨G, μ, env, S.ok, S.eo, ?_⟩
          rw [e]
          intro G1 v H1 s o r
          cases r with
          | tup ha ra =>
            rename_i a vs
            refine ⟨a, rfl, ⟨vs, Same.seqT o.fz ha⟩, for_tup (K := X.K) (a := a) (xs := vs) (ForPv (cx X C Wx) b gb D G0 H0 ds fun G => SqT X.K G.F a vs ∧ DzAll X.K G.F vs ds) ⟨G1, env, m, S.step s o, ⟨ha, ra⟩, p1.mono s.sub⟩ ?_ ?_ ?_⟩
            · rintro i σ2 H2 _ ⟨G2, env2, μ2, S2, ⟨ha2, _⟩, _⟩
              exact Same.seqT S2.ok.fz ha2
            · rintro i x σ2 H2 hx ⟨G2, env2, μ2, S2, ⟨ha2, ra2⟩, p2⟩
              obtain ⟨d, hd, rd⟩ := dpAll_get' ra2 hx
              rw [drop_cons hd] at p2
              exact for_turn hb S2 rd p2 fun G' env' μ' σ' H' S' sm p' => ⟨G', env', μ', S', ⟨Same.seqT sm ha2, dpAll_mono sm _ _ ra2⟩, p'⟩
            · rintro σ2 H2 ⟨G2, env2, μ2, S2, ⟨ha2, ra2⟩, p2⟩
              rw [dpAll_len ra2, List.drop_length] at p2
              exact p2 G2 σ2 H2 S2 (rf _)
        | _ => exact p1.elim
      · exact p1.elim
/-! ### for over a range -/
def rangeD (lo hi : Int) : List PyData := (List.range (hi - lo).toNat).map fun k => PyData.int (lo + (k : Nat))
def asR1 (ws : List W) (μ : Mu) : R (Int × Int) := match ws with
  | [.d (.int n)] => if -(2 ^ 62) ≤ n ∧ n < 2 ^ 62 then .ok (0, n) μ else .bad
  | _ => .bad
def asR2 (ws : List W) (μ : Mu) : R (Int × Int) := match ws with
  | [.d (.int a), .d (.int b)] => if -(2 ^ 62) ≤ a ∧ a < 2 ^ 62 ∧ -(2 ^ 62) ≤ b ∧ b < 2 ^ 62 then .ok (a, b) μ else .bad
  | _ => .bad
abbrev RM := Ev → Mu → R (Int × Int)
def f_r1 (fa : AM) : RM := fun env μ => (fa env μ).bind asR1
def f_r2 (fa : AM) : RM := fun env μ => (fa env μ).bind asR2
/-- something that is walked as the range lo .. hi -/
def s_forR (b : BM) (f : Ev → Mu → R (Int × Int)) (body : SM) : SM := fun env μ => (f env μ).st env fun x μ => forL b body (rangeD x.1 x.2) env μ
theorem rangeD_get {lo hi : Int} {i : Nat} (h : i < (hi - lo).toNat) : (rangeD lo hi)[i]? = some (.int (lo + (i : Nat))) := by
  unfold rangeD
  rw [List.getElem?_map, List.getElem?_range h]
  rfl
theorem rangeD_len {lo hi : Int} : (rangeD lo hi).length = (hi - lo).toNat := by
  unfold rangeD
  rw [List.length_map, List.length_range]
abbrev iRep : Gh → Int × Int → Int × Int → Prop := fun _ a b => a = b
/-- a walked thing that is a range -/
def iRgZ (Γ : Ctx) (f : Ev → Mu → R (Int × Int)) : TI := fun σ H R => tz Γ iRep f σ H fun x H1 => R (Itr x.1 (x.2 - x.1).toNat) H1
theorem pi_imp {tg iter : Expr} {t t' : TI} (h : PI X tg iter t) (i : ∀ σ H R, t' σ H R → t σ H R) : PI X tg iter t' := ⟨fun pins s σ H R I hw => h.run pins s σ H R I (i σ H R hw)⟩
theorem pi_orZ {tg iter : Expr} {t t' : TI} (h : PI X tg iter t) (h' : PI X tg iter t') : PI X tg iter (fun σ H R => t σ H R ∨ t' σ H R) := ⟨fun pins s σ H R I hw => hw.elim (h.run pins s σ H R I) (h'.run pins s σ H R I)⟩
theorem zi_range1 {tg a : Expr} {fa : AM} {p pos : Pos} (hg : Gl X "range") (hm : X.mg "range" = none) (ha : ZA X C Wx [a] fa) (hs : starEach [a] X.env = [(false, eval a X.env)] := by rfl) :
    PI X tg (.Call (.Name "range" p) [a] [] pos) (iRgZ (cx X C Wx) (f_r1 fa)) := pi_imp (pi_range1 hg hm ha hs) fun σ H R h =>
  tz_bind (rep := WAll X.K) (k := fun _ => asR1) h fun G env ws μ vs H1 ok eo rx p => by
    unfold asR1 at p
    split at p
    · obtain ⟨v, rfl, r⟩ := wall1 rx
      split at p
      · rename_i hb
        cases r
        have p2 := p.val ok rfl
        rw [Int.sub_zero] at p2
        exact ⟨_, rfl, hb.1, hb.2, p2⟩
      · exact p.elim
    · exact p.elim
theorem zi_range2 {tg a b : Expr} {fa : AM} {p pos : Pos} (hg : Gl X "range") (hm : X.mg "range" = none) (ha : ZA X C Wx [a, b] fa) (hs : starEach [a, b] X.env = [(false, eval a X.env), (false, eval b X.env)] := by rfl) (hs2 : starEach [b] X.env = [(false, eval b X.env)] := by rfl) :
    PI X tg (.Call (.Name "range" p) [a, b] [] pos) (iRgZ (cx X C Wx) (f_r2 fa)) := pi_imp (pi_range2 hg hm ha hs hs2) fun σ H R h =>
  tz_bind (rep := WAll X.K) (k := fun _ => asR2) h fun G env ws μ vs H1 ok eo rx p => by
    unfold asR2 at p
    split at p
    · obtain ⟨v, u, rfl, r1, r2⟩ := wall2 rx
      split at p
      · rename_i hb
        cases r1
        cases r2
        exact ⟨_, _, rfl, hb, p.val ok rfl⟩
      · exact p.elim
    · exact p.elim
theorem zs_forR {tg iter : Expr} {body : List Stmt} {f : RM} {g : TG} {b : BM} {gb : SM} {pos : Pos} {is : List Nat} (hp : PassesOwn (model X.prog X.w) X.A X.env X.xe) (hc : X.calm = true) (hb : SemG X.K is g b) (hi : PI X tg iter (iRgZ (cx X C Wx) f)) (hg : PG X tg g) (hbody : ZSs X C Wx body gb)
    (hs : ∀ x, foldedSetIterable iter X.env x = pure x := by intro _; rfl) : ZSt X C Wx (.For tg iter body [] pos) (s_forR b f gb) :=
  ps_imp (ps_for hp hc hi hg hbody hs) fun D σ H h => tzS_bind (rep := iRep) h fun G0 H0 G env x μ x' H1 S r p => by
    cases r
    obtain ⟨lo, hi⟩ := x
    refine for_range (lo := lo) (n := (hi - lo).toNat) (ForPv (cx X C Wx) b gb D G0 H0 (rangeD lo hi) fun _ => True) ⟨G, env, μ, S, True.intro, p⟩ ?_ ?_
    · rintro i σ2 H2 hx ⟨G2, env2, μ2, S2, _, p2⟩
      rw [drop_cons (rangeD_get hx)] at p2
      exact for_turn hb S2 (.int _) p2 fun G' env' μ' σ' H' S' sm p' => ⟨G', env', μ', S', True.intro, p'⟩
    · rintro σ2 H2 ⟨G2, env2, μ2, S2, _, p2⟩
      rw [← rangeD_len, List.drop_length] at p2
      exact p2 G2 σ2 H2 S2 (rf _)

/-! ### while, by fuel -/
def s_while (ft : TM) (body : SM) : Nat → SM
  | 0 => fun _ _ => .bad
  | n + 1 => fun env μ => (ft env μ).st env fun b μ => if b = true then (match body env μ with
      | .nx env μ => s_while ft body n env μ
      | .ct env μ => s_while ft body n env μ
      | .bk env μ => .nx env μ
      | r => r) else .nx env μ
theorem zs_while {c : Expr} {body : List Stmt} {ft : TM} {gb : SM} {pos : Pos} (n : Nat) (hp : PassesOwn (model X.prog X.w) X.A X.env X.xe) (hc : ZT X C Wx c ft) (hb : ZSs X C Wx body gb) : ZSt X C Wx (.While c body [] pos) (s_while ft gb n) :=
  ps_imp (ps_while hp hc hb) fun D σ H h => by
    refine ⟨fun m σ H => tzS (cx X C Wx) (s_while ft gb m) D σ H, ⟨n, h⟩, fun m σ H h => ?_⟩
    cases m with
    | zero =>
      obtain ⟨G0, H0, G, env, μ, S, p⟩ := h
      exact p.elim
    | succ m =>
      refine tzS_bind (rep := bRep) (k := fun env b μ => if b = true then (match gb env μ with
        | .nx env μ => s_while ft gb m env μ
        | .ct env μ => s_while ft gb m env μ
        | .bk env μ => .nx env μ
        | r => r) else .nx env μ) h fun G0 H0 G env b μ b' H1 S r p => ?_
      cases r
      cases b with
      | false => exact p G σ H1 S (rf _)
      | true =>
        refine ⟨fun σ' H' => tzS (cx X C Wx) (s_while ft gb m) D σ' H', fun σ' H' h' => ⟨m, Nat.lt_succ_self m, h'⟩, G0, H0, G, env, μ, S, ?_⟩
        rw [if_pos rfl] at p
        cases e : gb env μ with
        | nx e2 m2 => rw [e] at p; exact fun G' σ' H' S' sm => ⟨G0, H0, G', e2, m2, S', p.mono sm⟩
        | ct e2 m2 => rw [e] at p; exact fun G' σ' H' S' sm => ⟨G0, H0, G', e2, m2, S', p.mono sm⟩
        | bk e2 m2 => rw [e] at p; exact p
        | rt w m2 => rw [e] at p; exact p
        | xc x e2 m2 => rw [e] at p; exact p
        | bad => rw [e] at p; exact p
end
end Zed

/-! list comprehensions; stores; defs -/
namespace Zed
open PySem PySem.Spec PyProof.Rows L2
/-- nothing is let out -/
abbrev W0 : WX := fun _ _ _ _ => False
def wipeE (env : Ev) : List Nat → Ev
  | [] => env
  | v :: vs => (wipeE env vs).set v none
def R.nox {α : Type} (r : R α) : R α := match r with
  | .exc _ _ => .bad
  | r => r
def lcK (env1 : Ev) (acc : List PyData) (k : List PyData → Mu → R (List PyData)) (w : W) (μ : Mu) : R (List PyData) := match w with
  | .d y => if acc.length < szl then k (acc ++ [y]) μ else .bad
  | _ => .bad
def lcL (b : BM) (ft : TM) (fe : EM) : List PyData → List PyData → Ev → Mu → R (List PyData)
  | [], acc, _, μ => .ok acc μ
  | d :: ds, acc, env, μ => match b d env with
    | none => .bad
    | some env1 => (ft env1 μ).nox.bind fun t μ => if t = true then (fe env1 μ).nox.bind (lcK env1 acc fun a μ => lcL b ft fe ds a env μ) else lcL b ft fe ds acc env μ
/-- what is walked, as data -/
abbrev LM := Ev → Mu → R (List PyData)
def asSeq (x : W) (μ : Mu) : R (List PyData) := match x with
  | .d x => match seqD x with
    | some ds => .ok ds μ
    | none => .bad
  | _ => .bad
def l_s (f : EM) : LM := fun env μ => (f env μ).bind asSeq
def l_r (f : RM) : LM := fun env μ => (f env μ).bind fun x μ => .ok (rangeD x.1 x.2) μ
def e_lc (vs : List Nat) (b : BM) (ft : TM) (fe : EM) (fi : LM) : EM := fun env μ => (fi env μ).bind fun ds μ => (lcL b ft fe ds [] (wipeE env vs) μ).bind fun l μ => .ok (.d (.list l)) μ
section
variable {K : PySem.W.Frag}
theorem ev_wipe {G : Gh} {env : Ev} {σ : L2.St} {H : Hp} (e : EvOk K G env σ H) : ∀ vs : List Nat, EvOk K G (wipeE env vs) (L2.wipe σ vs) H
  | [] => e
  | v :: vs => by
    have e1 := ev_wipe e vs
    have ek : ∀ {j : Nat} {s : Sl}, ((wipeE env vs).set v none)[j]? = some (some s) → (wipeE env vs)[j]? = some (some s) ∧ j ≠ v := fun {j s} h => by
      rcases get_set h with ⟨rfl, q, _⟩ | ⟨hj, q⟩
      · cases q
      · exact ⟨q, hj⟩
    have sk : ∀ {j : Nat} {x : V}, j ≠ v → ((L2.wipe σ vs).set v none)[j]? = (L2.wipe σ vs)[j]? := fun {j x} hj => List.getElem?_set_ne (Ne.symm hj)
    refine ⟨by show ((L2.wipe σ vs).set v none).length = ((wipeE env vs).set v none).length; rw [List.length_set, List.length_set]; exact e1.len, fun i x h => ?_, fun i xs h => ?_, fun i j xs ys l h1 h2 h3 h4 => ?_⟩
    · obtain ⟨q, hj⟩ := ek h
      obtain ⟨u, a, r⟩ := e1.w i x q
      exact ⟨u, (List.getElem?_set_ne (Ne.symm hj)).trans a, r⟩
    · obtain ⟨q, hj⟩ := ek h
      obtain ⟨l, us, a, r⟩ := e1.own i xs q
      exact ⟨l, us, (List.getElem?_set_ne (Ne.symm hj)).trans a, r⟩
    · obtain ⟨q1, hi⟩ := ek h1
      obtain ⟨q2, hj⟩ := ek h2
      exact e1.one i j xs ys l q1 q2 ((List.getElem?_set_ne (Ne.symm hi)).symm.trans h3) ((List.getElem?_set_ne (Ne.symm hj)).symm.trans h4)
/-- any state is one of a body entered at nothing -/
theorem sto_any {G : Gh} {env : Ev} {μ : Mu} {σ : L2.St} {H : Hp} (o : Ok K G μ H) (e : EvOk K G env σ H) : Sto K ⟨fun _ => none, []⟩ (fun _ => none) G env μ σ H :=
  ⟨⟨fun _ _ h => (nomatch h), ⟨G.rho, by simp⟩, fun _ _ h => (nomatch h), fun _ _ => rfl, fun _ _ => .inr rfl, fun _ _ => .inr rfl⟩, o, e, fun _ _ _ _ _ => rfl⟩
end
section
variable {X : Cx} {C : Str → Option Addr} {Wx : WX}
/-- a tests' list -/
def tY : TM := fun _ μ => .ok true μ
theorem zts_nil {X : Cx} {C : Str → Option Addr} {Wx : WX} : PTs X [] (tz (cx X C Wx) bRep tY) := ⟨fun pins s σ H Q I hw => pts_nil.run pins s σ H Q I (tz_pure hw fun _ _ _ ok _ p => p.val ok rfl)⟩
theorem zts_one {X : Cx} {C : Str → Option Addr} {Wx : WX} {c : Expr} {f : TM} (h : ZT X C Wx c f) : PTs X [c] (tz (cx X C Wx) bRep f) := pts_one h
/-- before turn i: D holds what is made so far -/
def LcPv (K : PySem.W.Frag) (C : Str → Option Addr) (Wx : WX) (b : BM) (ft : TM) (fe : EM) (σ : L2.St) (env : Ev) (Gs : Gh) (Hs : Hp) (D : Addr) (Q : VK) (ds : List PyData) (still : Gh → Prop) (i : Nat) (H : Hp) : Prop :=
  ∃ G μ acc va, Step Gs Hs G H ∧ Ok K G μ H ∧ H D = some (.lst va) ∧ DzAll K G.F va acc ∧ G.F D = none ∧ D ∉ G.rho ∧ still G ∧ Zw ⟨K, C, Wx⟩ σ ((lcL b ft fe (ds.drop i) acc env μ).bind fun l μ => .ok (.d (.list l)) μ) Gs Hs Q
theorem R.nox_ok {α : Type} {r : R α} {a : α} {m : Mu} (e : r.nox = .ok a m) : r = .ok a m := by
  cases r with
  | ok b n => exact e
  | exc x n => cases e
  | bad => cases e
theorem tz_nox {α β : Type} {rep : Gh → α → β → Prop} {r : R α} {K : PySem.W.Frag} {C : Str → Option Addr} {σ : L2.St} {G : Gh} {H : Hp} {q : β → Hp → Prop} (hb : r.nox ≠ .bad) (i : ∀ a m, r = .ok a m → Post ⟨K, C, W0⟩ σ rep (.ok a m) G H q) : Post ⟨K, C, W0⟩ σ rep r G H q := by
  cases r with
  | ok a m => exact i a m rfl
  | exc x m => exact absurd rfl hb
  | bad => exact absurd rfl hb
/-- one turn -/
theorem lc_turn {K : PySem.W.Frag} {g : TG} {b : BM} {is vs : List Nat} {ft : TM} {fe : EM} {σ : L2.St} {env : Ev} {Gs : Gh} {Hs H : Hp} {D : Addr} {Q : VK} {ds : List PyData} {still : Gh → Prop} {i : Nat} {v : V} {d : PyData}
    (hb : SemG K is g b) (hv : ∀ k ∈ is, k ∈ vs) (hD : Hs D = none) (eo : EvOk K Gs (wipeE env vs) (L2.wipe σ vs) Hs) (mono : ∀ G G', Same G.F G'.F → still G → still G') (hd : ds[i]? = some d)
    (p : LcPv K C Wx b ft fe σ (wipeE env vs) Gs Hs D Q ds still i H) (hx : ∀ G, still G → Dz K G.F v d) :
    g v (L2.wipe σ vs) H fun σ2 H2 => L2.wipe σ2 vs = L2.wipe σ vs ∧ tz ⟨K, C, W0⟩ bRep ft σ2 H2 fun t H3 =>
      if t = true then tz ⟨K, C, W0⟩ (WRep K) fe σ2 H3 fun y H4 => ∃ acc, H4 D = some (.lst acc) ∧ acc.length < sizeLine ∧ LcPv K C Wx b ft fe σ (wipeE env vs) Gs Hs D Q ds still (i + 1) (upd H4 D (.lst (acc ++ [y])))
      else LcPv K C Wx b ft fe σ (wipeE env vs) Gs Hs D Q ds still (i + 1) H3 := by
  obtain ⟨G, μ, acc, va, st, ok, hl, r, nF, nR, sti, p⟩ := p
  rw [drop_cons hd] at p
  unfold lcL at p
  -- the new list stays apart
  have apart : ∀ {G' : Gh} {H' : Hp}, Step G H G' H' → H' D = some (.lst va) ∧ G'.F D = none ∧ D ∉ G'.rho ∧ DzAll K G'.F va acc := fun {G' H'} s => by
    refine ⟨s.keep D _ hl nR, ?_, fun z => ?_, dpAll_mono s.sub _ _ r⟩
    · cases z : G'.F D with
      | none => rfl
      | some u =>
        rcases s.newF D (by rw [z]; exact Option.some_ne_none u) with z | z
        · exact absurd nF z
        · rw [hl] at z; cases z
    · rcases s.newR D z with z | z
      · exact nR z
      · rw [hl] at z; cases z
  cases e1 : b d (wipeE env vs) with
  | none => rw [e1] at p; exact p.elim
  | some env1 =>
    rw [e1] at p
    refine hb _ _ G (wipeE env vs) μ (L2.wipe σ vs) H v d env1 _ (sto_any ok (eo.step st)) (hx G sti) e1 fun σ2 S2 w2 => ⟨(w2.wipe hv).trans wipe_wipe, G, μ, env1, ok, S2.eo, ?_⟩
    dsimp only at p
    refine tz_nox (fun z => ?_) fun t m e2 => ?_
    · rw [z] at p
      exact p
    · rw [e2] at p
      intro G1 t' H1 s1 o1 rt
      cases rt
      obtain ⟨hl1, nF1, nR1, r1⟩ := apart s1
      have p1 : Zw ⟨K, C, Wx⟩ σ ((if t = true then (fe env1 m).nox.bind (lcK env1 acc fun a μ => lcL b ft fe (ds.drop (i + 1)) a (wipeE env vs) μ) else lcL b ft fe (ds.drop (i + 1)) acc (wipeE env vs) m).bind fun l μ => .ok (.d (.list l)) μ) Gs Hs Q := p
      cases t with
      | false => exact ⟨G1, m, acc, va, st.trans s1, o1, hl1, r1, nF1, nR1, mono _ _ s1.sub sti, p1⟩
      | true =>
        rw [if_pos rfl] at p1
        refine ⟨G1, m, env1, o1, S2.eo.step s1, ?_⟩
        refine tz_nox (fun z => ?_) fun w m2 e3 => ?_
        · rw [z] at p1
          exact p1
        · rw [e3] at p1
          intro G2 y H2 s2 o2 rw2
          obtain ⟨hl2, nF2, nR2, r2⟩ := apart (s1.trans s2)
          have p2 : Zw ⟨K, C, Wx⟩ σ ((lcK env1 acc (fun a μ => lcL b ft fe (ds.drop (i + 1)) a (wipeE env vs) μ) w m2).bind fun l μ => .ok (.d (.list l)) μ) Gs Hs Q := p1
          unfold lcK at p2
          split at p2
          · rename_i yd
            split at p2
            · rename_i hlen
              refine ⟨va, hl2, by rw [dpAll_len r2]; exact hlen, G2, m2, acc ++ [yd], va ++ [y], ?_, ?_, upd_same, dpAll_append r2 (.cons rw2 .nil), nF2, nR2, mono _ _ (s1.trans s2).sub sti, p2⟩
              · have s3 := (st.trans s1).trans s2
                refine ⟨s3.sub, s3.pre, fun a o h hn => ?_, fun a h => ?_, s3.newF, s3.newR⟩
                · rw [upd_ne (ne_of_none h hD)]
                  exact s3.keep a o h hn
                · by_cases z : a = D
                  · rw [z]; exact hD
                  · rw [upd_ne z] at h; exact s3.there a h
              · refine ⟨fun a o h => by rw [upd_ne (ne_of_none h nF2)]; exact o2.fz a o h, o2.len, o2.nd, fun k u a h1 h2 => ?_⟩
                obtain ⟨f, rr⟩ := o2.mo k u a h1 h2
                exact ⟨f, rr.mono (fun _ _ h => h) (upd_ne (show a ≠ D from fun z => nR2 (z ▸ List.mem_of_getElem? h2)))⟩
            · exact p2.elim
          · exact p2.elim
/-- at the start -/
theorem lc_start {K : PySem.W.Frag} {b : BM} {ft : TM} {fe : EM} {σ : L2.St} {env : Ev} {Gs : Gh} {Hs : Hp} {D : Addr} {Q : VK} {ds : List PyData} {still : Gh → Prop} {μ : Mu} (ok : Ok K Gs μ Hs) (hD : Hs D = none) (sti : still Gs)
    (p : Zw ⟨K, C, Wx⟩ σ ((lcL b ft fe ds [] env μ).bind fun l μ => .ok (.d (.list l)) μ) Gs Hs Q) : LcPv K C Wx b ft fe σ env Gs Hs D Q ds still 0 (upd Hs D (.lst [])) := by
  obtain ⟨nF, nR⟩ := free_of ok hD
  refine ⟨Gs, μ, [], [], ⟨fun _ _ h => h, ⟨[], by simp⟩, fun a o h _ => by rw [upd_ne (ne_of_none h hD)]; exact h, fun a h => ?_, fun _ h => .inl h, fun _ h => .inl h⟩, ⟨fun a o h => by rw [upd_ne (ne_of_none h nF)]; exact ok.fz a o h, ok.len, ok.nd, fun k u a h1 h2 => ?_⟩, upd_same, .nil, nF, nR, sti, p⟩
  · by_cases z : a = D
    · rw [z]; exact hD
    · rw [upd_ne z] at h; exact h
  · obtain ⟨f, rr⟩ := ok.mo k u a h1 h2
    exact ⟨f, rr.mono (fun _ _ h => h) (upd_ne (show a ≠ D from fun z => nR (z ▸ List.mem_of_getElem? h2)))⟩
/-- at the end -/
theorem lc_end {K : PySem.W.Frag} {b : BM} {ft : TM} {fe : EM} {σ : L2.St} {env : Ev} {Gs : Gh} {Hs H : Hp} {D : Addr} {Q : VK} {ds : List PyData} {still : Gh → Prop} (hD : Hs D = none) (p : LcPv K C Wx b ft fe σ env Gs Hs D Q ds still ds.length H) : Q (.ref D) H := by
  obtain ⟨G, μ, acc, va, st, ok, hl, r, nF, nR, sti, p⟩ := p
  rw [List.drop_length] at p
  have sm : Same G.F (upd G.F D (.lst va)) := same_upd nF
  refine p ⟨upd G.F D (.lst va), G.rho⟩ (.ref D) H ⟨st.sub.trans sm, st.pre, st.keep, st.there, fun a h => ?_, st.newR⟩ ⟨fun a o h => ?_, ok.len, ok.nd, fun k u a h1 h2 => ?_⟩ (.lst (show upd G.F D _ D = _ from upd_same) (dpAll_mono sm _ _ r))
  · by_cases z : a = D
    · rw [z]; exact .inr hD
    · have h' : upd G.F D (.lst va) a ≠ none := h
      rw [upd_ne z] at h'
      exact st.newF a h'
  · have h' : upd G.F D (.lst va) a = some o := h
    by_cases z : a = D
    · rw [z, upd_same] at h'
      rw [z, hl]
      exact h'
    · rw [upd_ne z] at h'
      exact ok.fz a o h'
  · obtain ⟨f, rr⟩ := ok.mo k u a h1 h2
    refine ⟨?_, rr.mono sm rfl⟩
    show upd G.F D _ a = none
    rw [upd_ne (show a ≠ D from fun z => nR (z ▸ List.mem_of_getElem? h2))]
    exact f
/-- what a comprehension reads, over a list or a tuple -/
theorem tlc_seq {g : TG} {b : BM} {is vs : List Nat} {ft : TM} {fe : EM} {f : EM} {σ : L2.St} {H : Hp} {Q : VK} (hb : SemG X.K is g b) (hv : ∀ k ∈ is, k ∈ vs) (h : tz (cx X C Wx) (WRep X.K) (e_lc vs b ft fe (l_s f)) σ H Q) :
    tLc (iList X.K (tz (cx X C Wx) (WRep X.K) f)) g (tz ⟨X.K, C, W0⟩ bRep ft) (tz ⟨X.K, C, W0⟩ (WRep X.K) fe) vs σ H Q ∨ tLc (iTup X.K (tz (cx X C Wx) (WRep X.K) f)) g (tz ⟨X.K, C, W0⟩ bRep ft) (tz ⟨X.K, C, W0⟩ (WRep X.K) fe) vs σ H Q := by
  obtain ⟨G, μ, env, ok, eo, p'⟩ := h
  have p : Zw (cx X C Wx) σ (((f env μ).bind asSeq).bind fun ds μ => (lcL b ft fe ds [] (wipeE env vs) μ).bind fun l μ => .ok (.d (.list l)) μ) G H Q := p'
  cases e : f env μ with
  | bad => rw [e] at p; exact p.elim
  | exc x m =>
    rw [e] at p
    refine .inl ⟨G, μ, env, ok, eo, ?_⟩
    rw [e]
    exact p
  | ok a m =>
    rw [e] at p
    have p1 : Zw (cx X C Wx) σ ((asSeq a m).bind fun ds μ => (lcL b ft fe ds [] (wipeE env vs) μ).bind fun l μ => .ok (.d (.list l)) μ) G H Q := p
    unfold asSeq at p1
    split at p1
    · rename_i x
      cases x with
      | list ds =>
        refine .inl ⟨G, μ, env, ok, eo, ?_⟩
        rw [e]
        intro G1 v H1 s o r
        cases r with
        | lst ha ra =>
          rename_i a us
          refine ⟨a, rfl, ⟨us, SqL.of (o.fz _ _ ha)⟩, fun D hD => lc_list (K := X.K) (a := a) (xs := us) (LcPv X.K C Wx b ft fe σ (wipeE env vs) G1 H1 D Q ds fun G => G.F a = some (.lst us) ∧ DzAll X.K G.F us ds) (lc_start o hD ⟨ha, ra⟩ (p1.step s)) ?_ ?_ ?_⟩
          · rintro i H2 _ ⟨G2, μ2, acc, va, st, o2, _, _, _, _, ⟨ha2, _⟩, _⟩
            exact SqL.of (o2.fz _ _ ha2)
          · intro i x H2 hx q
            obtain ⟨d, hd, rd⟩ := dpAll_get' ra hx
            exact lc_turn hb hv hD (ev_wipe (eo.step s) vs) (fun _ _ sm z => ⟨sm _ _ z.1, dpAll_mono sm _ _ z.2⟩) hd q fun G z => by
              obtain ⟨d', hd', rd'⟩ := dpAll_get' z.2 hx
              rw [hd] at hd'
              cases hd'
              exact rd'
          · intro H2 q
            rw [dpAll_len ra] at q
            exact lc_end hD q
      | tuple ds =>
        refine .inr ⟨G, μ, env, ok, eo, ?_⟩
        rw [e]
        intro G1 v H1 s o r
        cases r with
        | tup ha ra =>
          rename_i a us
          refine ⟨a, rfl, ⟨us, Same.seqT o.fz ha⟩, fun D hD => lc_tup (K := X.K) (a := a) (xs := us) (LcPv X.K C Wx b ft fe σ (wipeE env vs) G1 H1 D Q ds fun G => SqT X.K G.F a us ∧ DzAll X.K G.F us ds) (lc_start o hD ⟨ha, ra⟩ (p1.step s)) ?_ ?_ ?_⟩
          · rintro i H2 _ ⟨G2, μ2, acc, va, st, o2, _, _, _, _, ⟨ha2, _⟩, _⟩
            exact Same.seqT o2.fz ha2
          · intro i x H2 hx q
            obtain ⟨d, hd, rd⟩ := dpAll_get' ra hx
            exact lc_turn hb hv hD (ev_wipe (eo.step s) vs) (fun _ _ sm z => ⟨Same.seqT sm z.1, dpAll_mono sm _ _ z.2⟩) hd q fun G z => by
              obtain ⟨d', hd', rd'⟩ := dpAll_get' z.2 hx
              rw [hd] at hd'
              cases hd'
              exact rd'
          · intro H2 q
            rw [dpAll_len ra] at q
            exact lc_end hD q
      | _ => exact p1.elim
    · exact p1.elim
theorem tlc_rng {g : TG} {b : BM} {is vs : List Nat} {ft : TM} {fe : EM} {f : RM} {σ : L2.St} {H : Hp} {Q : VK} (hb : SemG X.K is g b) (hv : ∀ k ∈ is, k ∈ vs) (h : tz (cx X C Wx) (WRep X.K) (e_lc vs b ft fe (l_r f)) σ H Q) :
    tLc (iRgZ (cx X C Wx) f) g (tz ⟨X.K, C, W0⟩ bRep ft) (tz ⟨X.K, C, W0⟩ (WRep X.K) fe) vs σ H Q := by
  obtain ⟨G, μ, env, ok, eo, p'⟩ := h
  have p : Zw (cx X C Wx) σ (((f env μ).bind fun x μ => R.ok (rangeD x.1 x.2) μ).bind fun ds μ => (lcL b ft fe ds [] (wipeE env vs) μ).bind fun l μ => .ok (.d (.list l)) μ) G H Q := p'
  refine ⟨G, μ, env, ok, eo, ?_⟩
  cases e : f env μ with
  | bad => rw [e] at p; exact p.elim
  | exc x m => rw [e] at p; exact p
  | ok a m =>
    rw [e] at p
    intro G1 v H1 s o r D hD
    cases r
    obtain ⟨lo, hi⟩ := a
    refine lc_range (lo := lo) (n := (hi - lo).toNat) (LcPv X.K C Wx b ft fe σ (wipeE env vs) G1 H1 D Q (rangeD lo hi) fun G => True) (lc_start o hD True.intro (p.step s)) ?_ ?_
    · intro i H2 hx q
      exact lc_turn hb hv hD (ev_wipe (eo.step s) vs) (fun _ _ _ z => z) (rangeD_get hx) q fun G _ => .int _
    · intro H2 q
      rw [← rangeD_len] at q
      exact lc_end hD q
theorem ze_lc {elt tg iter : Expr} {ifs : List Expr} {scope : Scope} {own : List (Str × Nat)} {pos : Pos} {f : EM} {g : TG} {b : BM} {is : List Nat} {ft : TM} {fe : EM} (hc : X.calm = true) (hN : X.N.Nodup) (hi : ZE X C Wx iter f) (ok : BlkOk X.N X.env.scope scope own) (hb : SemG X.K is g b) (hv : ∀ k ∈ is, k ∈ own.map (·.2))
    (hg : ∀ (s : Shared) (H : Hp) (C : Addr) (cl : List (Str × Addr)) (fp : List Addr), PG (X.blk s H scope (compEnvC scope cl C X.env) fp) tg g)
    (ht : ∀ (s : Shared) (H : Hp) (C' : Addr) (cl : List (Str × Addr)) (fp : List Addr), PTs (X.blk s H scope (compEnvC scope cl C' X.env) fp) ifs (tz ⟨X.K, C, W0⟩ bRep ft))
    (he : ∀ (s : Shared) (H : Hp) (C' : Addr) (cl : List (Str × Addr)) (fp : List Addr), PE (X.blk s H scope (compEnvC scope cl C' X.env) fp) elt (tz ⟨X.K, C, W0⟩ (WRep X.K) fe)) (hs : ∀ x, foldedSetIterable iter X.env x = pure x := by intro _; rfl) :
    ZE X C Wx (.ListComp elt [⟨tg, iter, ifs, 0⟩] scope pos) (e_lc (own.map (·.2)) b ft fe (l_s f)) :=
  pe_imp (pe_or (pe_lc hc hN (pi_list hi) ok hg ht he hs) (pe_lc hc hN (pi_tup hi) ok hg ht he hs)) fun σ H Q h => tlc_seq hb hv h
theorem ze_lcR {elt tg iter : Expr} {ifs : List Expr} {scope : Scope} {own : List (Str × Nat)} {pos : Pos} {f : RM} {g : TG} {b : BM} {is : List Nat} {ft : TM} {fe : EM} (hc : X.calm = true) (hN : X.N.Nodup) (hi : PI X tg iter (iRgZ (cx X C Wx) f)) (ok : BlkOk X.N X.env.scope scope own) (hb : SemG X.K is g b) (hv : ∀ k ∈ is, k ∈ own.map (·.2))
    (hg : ∀ (s : Shared) (H : Hp) (C : Addr) (cl : List (Str × Addr)) (fp : List Addr), PG (X.blk s H scope (compEnvC scope cl C X.env) fp) tg g)
    (ht : ∀ (s : Shared) (H : Hp) (C' : Addr) (cl : List (Str × Addr)) (fp : List Addr), PTs (X.blk s H scope (compEnvC scope cl C' X.env) fp) ifs (tz ⟨X.K, C, W0⟩ bRep ft))
    (he : ∀ (s : Shared) (H : Hp) (C' : Addr) (cl : List (Str × Addr)) (fp : List Addr), PE (X.blk s H scope (compEnvC scope cl C' X.env) fp) elt (tz ⟨X.K, C, W0⟩ (WRep X.K) fe)) (hs : ∀ x, foldedSetIterable iter X.env x = pure x := by intro _; rfl) :
    ZE X C Wx (.ListComp elt [⟨tg, iter, ifs, 0⟩] scope pos) (e_lc (own.map (·.2)) b ft fe (l_r f)) :=
  pe_imp (pe_lc hc hN hi ok hg ht he hs) fun σ H Q h => tlc_rng hb hv h
end
end Zed

/-! defs; stores into mutable objects -/
namespace Zed
open PySem PySem.Spec PyProof.Rows L2
def startE (n : Nat) (ws : List W) : Ev := ws.map (fun x => some (.w x)) ++ List.replicate (n - ws.length) none
/-- what a def does, by its body -/
def runF (g : SM) (n : Nat) (ws : List W) (μ : Mu) : R W := match g (startE n ws) μ with
  | .nx _ μ => .ok (.d .none) μ
  | .rt w μ => .ok w μ
  | .xc x _ μ => .exc x μ
  | _ => .bad
section
variable {K : PySem.W.Frag} {G : Gh} {H : Hp}
theorem wall_get : ∀ {ws : List W} {vs : List V} {i : Nat} {x : W}, WAll K G ws vs → ws[i]? = some x → ∃ v, vs[i]? = some v ∧ WRep K G x v
  | _, _, _, _, .nil, e => by simp at e
  | _, _, 0, _, .cons h _, e => by
    simp at e
    subst e
    exact ⟨_, rfl, h⟩
  | _, _, i + 1, _, .cons _ t, e => by
    obtain ⟨v, q, r⟩ := wall_get (i := i) t (by simpa using e)
    exact ⟨v, by simpa using q, r⟩
theorem ev_start {N : List Str} {ws : List W} {vs : List V} (h : WAll K G ws vs) : EvOk K G (startE N.length ws) (L2.start N vs) H := by
  have hl : ws.length = vs.length := h.len
  have noOwn : ∀ {i : Nat} {xs : List PyData}, (startE N.length ws)[i]? ≠ some (some (.own xs)) := fun {i xs} e => by
    unfold startE at e
    by_cases hi : i < ws.length
    · rw [List.getElem?_append_left (by simpa using hi), List.getElem?_map, List.getElem?_eq_getElem hi] at e
      cases e
    · rw [List.getElem?_append_right (by simpa using Nat.le_of_not_lt hi), List.getElem?_replicate] at e
      split at e <;> cases e
  refine ⟨?_, fun i x e => ?_, fun i xs e => absurd e noOwn, fun i j xs ys l e => absurd e noOwn⟩
  · unfold startE L2.start
    simp only [List.length_append, List.length_map, List.length_replicate]
    omega
  · unfold startE at e
    by_cases hi : i < ws.length
    · rw [List.getElem?_append_left (by simpa using hi), List.getElem?_map, List.getElem?_eq_getElem hi] at e
      have e' : ws[i] = x := by
        cases e
        rfl
      obtain ⟨v, q, r⟩ := wall_get h (show ws[i]? = some x by rw [List.getElem?_eq_getElem hi, e'])
      refine ⟨v, ?_, r⟩
      unfold L2.start
      rw [List.getElem?_append_left (by simp; omega), List.getElem?_map, q]
      rfl
    · rw [List.getElem?_append_right (by simpa using Nat.le_of_not_lt hi), List.getElem?_replicate] at e
      split at e <;> cases e
end
section
variable {P : Program} {w : World} {K : PySem.W.Frag} {mg : Str → Option Value} {base : Heap} {C : Str → Option Addr}
abbrev cxZ (P : Program) (w : World) (K : PySem.W.Frag) (mg : Str → Option Value) (base : Heap) (N : List Str) (qual : Str) (st : Stmt) (f : Addr) (cdv : Value) (A : Around) (outer : List Env) (s : Shared) (H : Hp) (E : XK) : Cx :=
  cxOf (L2.CX P w) P w K mg base N qual (defScope st) f cdv A outer s H E
abbrev wE (E : XK) : WX := fun c d _ H => E c d H
theorem fnZ {x qual : Str} {st : Stmt} {f : Addr} {fd : FuncData} {N ps : List Str} {k : Nat} {g : SM} (F : Fun K x qual st f fd) (S : FnScope N ps (defScope st))
    (hbody : ∀ (cdv : Value) (A : Around) (outer : List Env) (s : Shared) (H : Hp) (E : XK), A.guards = some [] → Room k (A.deeper (envOfC qual (defScope st) s.heap.objs.size f cdv)) →
      ZSs (cxZ P w K mg base N qual st f cdv A outer s H E) C (wE E) (defBody st) g) : FnG P w K mg base (k + 1) f fd ps (spZ C (runF g N.length) ps.length K) :=
  fnG_of F S (fun vs H Q E h => h.1) fun cdv A outer s H vs Q E hg hr h => by
    obtain ⟨hl, G, μ, ws, ok, wa, p⟩ := h
    refine ⟨_, hbody cdv A outer s H E hg hr, G, H, G, startE N.length ws, μ, ⟨.refl G H, ok, ev_start wa, fun i xs l e q => ?_⟩, ?_⟩
    · -- nothing is owned at the start
      obtain ⟨l', vs', q', hl', _⟩ := (ev_start (N := N) (H := H) wa).own i xs e
      exfalso
      unfold startE at e
      by_cases hi : i < ws.length
      · rw [List.getElem?_append_left (by simpa using hi), List.getElem?_map, List.getElem?_eq_getElem hi] at e
        cases e
      · rw [List.getElem?_append_right (by simpa using Nat.le_of_not_lt hi), List.getElem?_replicate] at e
        split at e <;> cases e
    · unfold runF at p
      split at p
      · rename_i e1 μ1 eg
        rw [eg]
        exact fun G' σ' H' S' _ => p G' .non H' S'.st S'.ok .non
      · rename_i w1 μ1 eg
        rw [eg]
        exact fun G' v H' st ok' r => p G' v H' st ok' r
      · rename_i x1 e1 μ1 eg
        rw [eg]
        exact fun G' cls d σ' H' S' _ r => p G' cls d H' S'.st S'.ok r
      · exact p.elim
end
section
variable {X : Cx} {C : Str → Option Addr} {Wx : WX}
/-! ### stores -/
/-- d[i] = v, d a mutable dict -/
def putDW (o i v : W) (μ : Mu) : R Unit := match o, i, v with
  | .m k, .d i, .d v => match μ[k]?, keyD i with
    | some (.dict kvs), some key => if kvs.length < szl then .ok () (μ.set k (.dict (putD kvs key v))) else .bad
    | _, _ => .bad
  | _, _, _ => .bad
/-- l[i] = v, l a mutable list -/
def putLW (o i v : W) (μ : Mu) : R Unit := match o, i, v with
  | .m k, .d (.int j), .d v => match μ[k]? with
    | some (.lst xs) => match ixN xs.length j with
      | some n => .ok () (μ.set k (.lst (xs.set n v)))
      | none => .bad
    | _ => .bad
  | _, _, _ => .bad
def x_put (g : W → W → W → Mu → R Unit) (fo fi fv : EM) : Ev → Mu → R Unit := fun env μ => (fv env μ).bind fun v μ => (fo env μ).bind fun o μ => (fi env μ).bind fun i μ => g o i v μ
def s_put (g : W → W → W → Mu → R Unit) (fo fi fv : EM) : SM := fun env μ => (x_put g fo fi fv env μ).st env fun _ μ => .nx env μ
abbrev uRep : Gh → Unit → Unit → Prop := fun _ _ _ => True
/-- what a store asks, by its parts -/
theorem tz_put {g : W → W → W → Mu → R Unit} {fo fi fv : EM} {σ : L2.St} {H : Hp} {q : Hp → Prop} {r : V → V → V → Hp → Prop} (h : tz (cx X C Wx) uRep (x_put g fo fi fv) σ H fun (_ : Unit) H1 => q H1)
    (i : ∀ G μ H o i v ov iv vv, Ok X.K G μ H → WRep X.K G o ov → WRep X.K G i iv → WRep X.K G v vv → Post (cx X C Wx) σ uRep (g o i v μ) G H (fun (_ : Unit) H1 => q H1) → r ov iv vv H) :
    tz (cx X C Wx) (WRep X.K) fv σ H fun v H1 => tz (cx X C Wx) (WRep X.K) fo σ H1 fun o H2 => tz (cx X C Wx) (WRep X.K) fi σ H2 fun i H3 => r o i v H3 := by
  refine tz_bind (rep := WRep X.K) (k := fun env v μ => (fo env μ).bind fun o μ => (fi env μ).bind fun i μ => g o i v μ) h fun G env v μ vv H1 ok1 eo1 rv p1 => ?_
  refine ⟨G, μ, env, ok1, eo1, p1.bind.mono ?_⟩
  rintro ov H2 ⟨G2, o, μ2, s2, ok2, ro, p2⟩
  refine ⟨G2, μ2, env, ok2, eo1.step s2, p2.bind.mono ?_⟩
  rintro iv H3 ⟨G3, i', μ3, s3, ok3, ri, p3⟩
  exact i G3 μ3 H3 o i' v ov iv vv ok3 (ro.step s3) ri ((rv.step s2).step s3) p3
theorem tzS_unit {f : Ev → Mu → R Unit} {D : Ends} {σ : L2.St} {H : Hp} (h : tzS (cx X C Wx) (fun env μ => (f env μ).st env fun _ μ => .nx env μ) D σ H) : tz (cx X C Wx) uRep f σ H fun (_ : Unit) H1 => D.nx σ H1 :=
  tzS_bind (rep := uRep) (k := fun env _ μ => .nx env μ) h fun G0 H0 G env a μ b H1 S _ p => p G σ H1 S (rf _)
theorem zs_putD {o i value : Expr} {fo fi fv : EM} {pos pos' : Pos} (hu : X.A.units + 1 < cLine) (ho : ZE X C Wx o fo) (hi : ZE X C Wx i fi) (hv : ZE X C Wx value fv) (hs : swapsWith value (some (.Subscript o i pos')) pos.line X.env = pure false := by rfl) :
    ZSt X C Wx (.Assign [.Subscript o i pos'] value pos) (s_put putDW fo fi fv) := ps_imp (ps_dput hu ho hi hv hs) fun D σ H h =>
  tz_put (r := fun x y v H3 => ∃ a H4, x = .ref a ∧ DPut H3 a y v H4 ∧ D.nx σ H4) (tzS_unit h) fun G μ H o i v ov iv vv ok ro ri rv p => by
    unfold putDW at p
    split at p
    · split at p
      · rename_i kvs key e1 e2
        split at p
        · rename_i hl
          obtain ⟨a, ea, rfl⟩ := ro
          obtain ⟨_, ps, hps, r⟩ := ok.mo _ _ a e1 ea
          obtain ⟨s, o'⟩ := write_m ok ea (.dK (putK ps key vv)) (.dict (putD kvs key _)) fun H' e => ⟨_, e, kv_put rv r⟩
          refine ⟨a, _, rfl, ?_, p G () _ s o' True.intro⟩
          rw [key_rep ri e2]
          exact DPut.k hps (by rw [kv_len r]; exact hl)
        · exact p.elim
      · exact p.elim
    · exact p.elim
theorem zs_putL {o i value : Expr} {fo fi fv : EM} {pos pos' : Pos} (ho : ZE X C Wx o fo) (hi : ZE X C Wx i fi) (hv : ZE X C Wx value fv)
    (ha : ∀ v, assign (.Subscript o i pos') X.env v = (do
      let ov ← holding [v] (eval o X.env)
      let iv ← holding [v, ov] (eval i X.env)
      standAt pos'
      holding [v, ov, iv] (setItem ov iv v)
      release [v, ov, iv] []) := by intro _; rfl)
    (hs : swapsWithSole [.Subscript o i pos'] value pos.line X.env = pure false := by rfl) (hw : swappedStores [.Subscript o i pos'] value X.env = pure none := by rfl)
    (h1 : (assignEach [.Subscript o i pos'] X.env).map (·.2) = [assign (.Subscript o i pos') X.env] := by rfl) :
    ZSt X C Wx (.Assign [.Subscript o i pos'] value pos) (s_put putLW fo fi fv) := ps_imp (ps_asg hv (pg_sub ho hi set_list ha) hs hw h1) fun D σ H h =>
  tz_put (r := fun x y v H3 => rSetL x y v H3 fun H4 => D.nx σ H4) (tzS_unit h) fun G μ H o i v ov iv vv ok ro ri rv p => by
    unfold putLW at p
    split at p
    · split at p
      · rename_i xs e1
        split at p
        · rename_i n e2
          obtain ⟨a, ea, rfl⟩ := ro
          obtain ⟨_, us, hus, r⟩ := ok.mo _ _ a e1 ea
          obtain ⟨s, o'⟩ := write_m ok ea (.lst (us.set n vv)) (.lst (xs.set n _)) fun H' e => ⟨_, e, dpAll_set rv n r⟩
          cases ri
          exact ⟨a, us, _, n, rfl, rfl, hus, by rw [dpAll_len r]; exact e2, p G () _ s o' True.intro⟩
        · exact p.elim
      · exact p.elim
    · exact p.elim

/-! ### new mutable objects -/
def mkLm (ws : List W) (μ : Mu) : R W := match pures ws with
  | some ds => if ds.length ≤ szl then .ok (.m μ.length) (μ ++ [.lst ds]) else .bad
  | none => .bad
def e_lstM (fa : AM) : EM := fun env μ => (fa env μ).bind mkLm
theorem ze_lstM {es : List Expr} {fa : AM} {pos : Pos} (h : ZA X C Wx es fa) : ZE X C Wx (.List es pos) (e_lstM fa) :=
  pe_imp (pe_lst h) fun σ H Q h => tz_bind h fun G env ws μ vs H1 ok1 eo1 rx p1 => by
    unfold mkLm at p1
    split at p1
    · rename_i ds e
      have r := pures_rep rx e
      split at p1
      · rename_i hl
        refine ⟨by rw [dpAll_len r]; exact hl, fun l hn => ?_⟩
        obtain ⟨s, o⟩ := laid_m ok1 hn (.lst vs) (.lst ds) fun H' e => ⟨vs, e, r⟩
        exact p1 _ _ _ s o ⟨l, by show (G.rho ++ [l])[μ.length]? = some l; rw [← ok1.len]; simp, rfl⟩
      · exact p1.elim
    · exact p1.elim
end
end Zed

/-! dict displays, owned lists that are looked at, enumerate of a tuple -/
namespace Zed
open PySem PySem.Spec PyProof.Rows L2
section
variable {K : PySem.W.Frag} {Gs G : Gh} {Hs H : Hp} {μ : Mu} {p : Addr}
/-- something that nothing knows is laid, or changed -/
theorem step_off (st : Step Gs Hs G H) (hs : Hs p = none) (o : HO) : Step Gs Hs G (upd H p o) := by
  refine ⟨st.sub, st.pre, fun a u h hn => ?_, fun a h => ?_, st.newF, st.newR⟩
  · rw [upd_ne (ne_of_none h hs)]
    exact st.keep a u h hn
  · by_cases z : a = p
    · rw [z]; exact hs
    · rw [upd_ne z] at h; exact st.there a h
theorem ok_off (ok : Ok K G μ H) (nF : G.F p = none) (nR : p ∉ G.rho) (o : HO) : Ok K G μ (upd H p o) := by
  refine ⟨fun a u h => by rw [upd_ne (ne_of_none h nF)]; exact ok.fz a u h, ok.len, ok.nd, fun k u a h1 h2 => ?_⟩
  obtain ⟨f, rr⟩ := ok.mo k u a h1 h2
  exact ⟨f, rr.mono (fun _ _ h => h) (upd_ne (show a ≠ p from fun z => nR (z ▸ List.mem_of_getElem? h2)))⟩
/-- what nothing knows stays so -/
theorem off_keep {G' : Gh} {H' : Hp} {o : HO} (s : Step G H G' H') (hH : H p = some o) (nF : G.F p = none) (nR : p ∉ G.rho) : H' p = some o ∧ G'.F p = none ∧ p ∉ G'.rho := by
  refine ⟨s.keep p _ hH nR, ?_, fun z => ?_⟩
  · cases z : G'.F p with
    | none => rfl
    | some u =>
      rcases s.newF p (by rw [z]; exact Option.some_ne_none u) with z | z
      · exact absurd nF z
      · rw [hH] at z; cases z
  · rcases s.newR p z with z | z
    · exact nR z
    · rw [hH] at z; cases z
/-- .. becomes a mutable object -/
theorem adopt (st : Step Gs Hs G H) (ok : Ok K G μ H) (hs : Hs p = none) (nF : G.F p = none) (nR : p ∉ G.rho) (o : HO) (mo : MO) (h : ∀ H', H' p = some o → MoRep K G.F H' p mo) :
    Step Gs Hs ⟨G.F, G.rho ++ [p]⟩ (upd H p o) ∧ Ok K ⟨G.F, G.rho ++ [p]⟩ (μ ++ [mo]) (upd H p o) := by
  have s1 := step_off st hs o
  have o1 := ok_off ok nF nR o
  obtain ⟨m, em⟩ := s1.pre
  refine ⟨⟨s1.sub, ⟨m ++ [p], by show G.rho ++ [p] = _; rw [em, List.append_assoc]⟩, s1.keep, s1.there, s1.newF, fun a h => ?_⟩, ⟨o1.fz, ?_, ?_, fun k u a h1 h2 => ?_⟩⟩
  · rcases List.mem_append.mp h with h | h
    · exact s1.newR a h
    · have e : a = p := by simpa using h
      rw [e]
      exact .inr hs
  · show (G.rho ++ [p]).length = (μ ++ [mo]).length
    rw [List.length_append, List.length_append, ok.len]
    rfl
  · show (G.rho ++ [p]).Nodup
    refine List.nodup_append.mpr ⟨ok.nd, by simp, fun a ha b hb => ?_⟩
    have e : b = p := by simpa using hb
    intro z
    rw [z, e] at ha
    exact nR ha
  · have h2' : (G.rho ++ [p])[k]? = some a := h2
    by_cases hk : k < μ.length
    · rw [List.getElem?_append_left hk] at h1
      rw [List.getElem?_append_left (by rw [ok.len]; exact hk)] at h2'
      exact o1.mo k u a h1 h2'
    · have hk' : k = μ.length := by
        have q := (List.getElem?_eq_some_iff.mp h1).1
        rw [List.length_append] at q
        simp at q
        omega
      subst hk'
      have e1 : mo = u := by simpa using h1
      have e2 : p = a := by
        rw [← ok.len] at h2'
        simpa using h2'
      subst e1 e2
      exact ⟨nF, h _ upd_same⟩
end
def mergeD (kvs : List (L2.Key × PyData)) : List (L2.Key × PyData) := kvs.foldl (fun acc kv => putD acc kv.1 kv.2) []
theorem kv_merge {K : PySem.W.Frag} {F : Hp} {ps : List (L2.Key × V)} {kvs : List (L2.Key × PyData)} (h : KvR K F ps kvs) : KvR K F (mergeK [] ps) (mergeD kvs) := by
  have gen : ∀ {ps : List (L2.Key × V)} {kvs : List (L2.Key × PyData)}, KvR K F ps kvs → ∀ {as : List (L2.Key × V)} {bs : List (L2.Key × PyData)}, KvR K F as bs →
      KvR K F (ps.foldl (fun acc kv => putK acc kv.1 kv.2) as) (kvs.foldl (fun acc kv => putD acc kv.1 kv.2) bs) := by
    intro ps kvs r
    induction r with
    | nil => intro as bs h; exact h
    | @cons p q ps qs h t ih =>
      intro as bs h0
      rw [List.foldl_cons, List.foldl_cons]
      refine ih ?_
      have e := kv_put (k := p.1) h.2 h0
      rw [h.1] at e ⊢
      exact e
  exact gen h .nil
/-- the entries' keys are written -/
def mkDm (ks : List L2.Key) (ws : List W) (μ : Mu) : R W := match pures ws with
  | some ds => if ds.length = ks.length ∧ ks.length ≤ 15 then .ok (.m μ.length) (μ ++ [.dict (mergeD (ks.zip ds))]) else .bad
  | none => .bad
def e_dictM (ks : List L2.Key) (fa : AM) : EM := fun env μ => (fa env μ).bind (mkDm ks)
section
variable {X : Cx} {C : Str → Option Addr} {Wx : WX}
/-- the pairs of a display, the values by fs -/
def trsOf (X : Cx) (C : Str → Option Addr) (Wx : WX) : List L2.Key → List EM → List (TE × TE)
  | k :: ks, f :: fs => (tC (kV k), tz (cx X C Wx) (WRep X.K) f) :: trsOf X C Wx ks fs
  | _, _ => []
def a_of : List EM → AM
  | [] => a_nil
  | f :: fs => a_cons f (a_of fs)
theorem tz_pairs {σ : L2.St} {env : Ev} : ∀ (ks : List L2.Key) (fs : List EM) (G : Gh) (μ : Mu) (H : Hp) (Q : List (V × V) → Hp → Prop), ks.length = fs.length → Ok X.K G μ H → EvOk X.K G env σ H →
    Post (cx X C Wx) σ (WAll X.K) (a_of fs env μ) G H (fun vs H' => Q ((ks.map kV).zip vs) H') → tPairs (trsOf X C Wx ks fs) σ H Q
  | [], [], G, μ, H, Q, _, ok, eo, p => by
    have p' := Post.val (b := ([] : List V)) p ok .nil
    exact p'
  | [], _ :: _, _, _, _, _, h, _, _, _ => by cases h
  | _ :: _, [], _, _, _, _, h, _, _, _ => by cases h
  | k :: ks, f :: fs, G, μ, H, Q, hl, ok, eo, p => by
    have p0 : Post (cx X C Wx) σ (WAll X.K) ((f env μ).bind fun x μ => (a_of fs env μ).bind fun xs μ => .ok (x :: xs) μ) G H (fun vs H' => Q (((k :: ks).map kV).zip vs) H') := p
    refine ⟨G, μ, env, ok, eo, (p0.bind (rep := WRep X.K)).mono ?_⟩
    rintro v H1 ⟨G1, x, μ1, st, ok1, rx, p1⟩
    refine tz_pairs ks fs G1 μ1 H1 _ (by simpa using hl) ok1 (eo.step st) ((p1.bind (rep := WAll X.K)).mono ?_)
    rintro vs H2 ⟨G2, xs, μ2, st2, ok2, rxs, p2⟩
    exact p2.val (b := v :: vs) ok2 (.cons (rx.step st2) rxs)
theorem zip_kv {K : PySem.W.Frag} {F : Hp} : ∀ {ks : List L2.Key} {vs : List V} {ds : List PyData}, DzAll K F vs ds → KvR K F (ks.zip vs) (ks.zip ds)
  | [], _, _, _ => .nil
  | _ :: _, _, _, .nil => .nil
  | k :: ks, _, _, .cons h t => .cons ⟨rfl, h⟩ (zip_kv t)
theorem ze_dictM {keys : List (Option Expr)} {values : List Expr} {ks : List L2.Key} {fs : List EM} {pos : Pos} (h : PPs X pos keys values (trsOf X C Wx ks fs)) (hlen : ks.length = fs.length) (hall : keys.all (·.isSome) = true) (hl : keys.length = values.length) (h0 : keys ≠ [])
    (h15 : keys.length ≤ 15) : ZE X C Wx (.Dict keys values pos) (e_dictM ks (a_of fs)) := pe_imp (pe_disp h hall hl h0 h15) fun σ H Q hz => by
  obtain ⟨G, μ, env, ok, eo, p'⟩ := hz
  have p : Zw (cx X C Wx) σ ((a_of fs env μ).bind (mkDm ks)) G H Q := p'
  intro a hn
  obtain ⟨nF, nR⟩ := free_of ok hn
  have st0 := step_off (Step.refl G H) hn (.dK [])
  have ok0 := ok_off ok nF nR (.dK [])
  refine tz_pairs ks fs G μ _ _ hlen ok0 (eo.step st0) ?_
  cases e : a_of fs env μ with
  | bad => rw [e] at p; exact p
  | exc x m => rw [e] at p; exact Post.step (rep := WRep X.K) (r := .exc x m) p st0
  | ok ws m =>
    rw [e] at p
    have p1 : Zw (cx X C Wx) σ (mkDm ks ws m) G H Q := p
    intro G1 vs H1 st ok1 rx
    obtain ⟨hp1, nF1, nR1⟩ := off_keep st upd_same nF nR
    refine ⟨hp1, ?_⟩
    unfold mkDm at p1
    split at p1
    · rename_i ds e
      have r := pures_rep rx e
      split at p1
      · rename_i hk
        refine ⟨ks.zip vs, ?_, ?_, ?_⟩
        · rw [List.zip_map_left]
          refine List.map_congr_left ?_
          rintro ⟨x, y⟩ _
          rfl
        · rw [List.length_zip]
          omega
        · obtain ⟨s2, o2⟩ := adopt (st0.trans st) ok1 (p := a) hn nF1 nR1 (.dK (mergeK [] (ks.zip vs))) (.dict (mergeD (ks.zip ds))) fun H' e => ⟨_, e, kv_merge (zip_kv r)⟩
          exact p1 _ _ _ s2 o2 ⟨a, by show (G1.rho ++ [a])[m.length]? = some a; rw [← ok1.len]; simp, rfl⟩
      · exact p1.elim
    · exact p1.elim
end
end Zed

/-! enumerate of a list or a tuple -/
namespace Zed
open PySem PySem.Spec PyProof.Rows L2
section
open PySem.AutoSeq1 (wpAny_loadPart')
theorem meets_enumT (l : Addr) (items : Array Value) (n : Nat) (dct : Option Addr) (sl : Array (Option Value)) :
    Meets (Builtin.«enumerate.__new__» ⟨[.type "enumerate", .ref l], []⟩) (fun _ R s => s.heap.get? l = some { cls := .type "tuple", dict := dct, data := .seq items n, slots := sl } ∧
      R (.ok (.ret (.ref (s.heap.push { cls := .type "tuple_iterator", data := .fields #[.ref l, .int 0 0] }).objs.size)))
        { s with heap := (s.heap.push { cls := .type "tuple_iterator", data := .fields #[.ref l, .int 0 0] }).push { cls := .type "enumerate", data := .fields #[.none, .bool false, .ref s.heap.objs.size, rawInt 0, .none, .none] } }) :=
  .of_wp fun prog w A R s hyp => by
    obtain ⟨hp, g, d, tk, os⟩ := s
    obtain ⟨hl, hq⟩ := hyp
    have sube := sub_enumerate
    have isT : Heap.IsTuple (Shared.heap ⟨hp, g, d, tk, os⟩) l items := ⟨_, hl, rfl, n, rfl⟩
    wp_walk using wpAny_loadPart' hl
    refine wpAny_stack_any fun st => wpAny_pure ?_
    split
    · rename_i c _ _ _ _ _
      cases (c == Value.type "enumerate") <;> (wp_walk using wpAny_loadPart' hl, wpAny_pyIter_tuple isT; exact ⟨_, rfl, hq⟩)
    · wp_walk using wpAny_loadPart' hl, wpAny_pyIter_tuple isT
      exact ⟨_, rfl, hq⟩
end
section
variable {prog : Program} {w : World} {A : Around} {E : Value → Shared → Prop} {s : Shared}
theorem call_enumT {l : Addr} {items : Array Value} {Q : Value → Shared → Prop} (isT : s.heap.IsTuple l items)
    (h : ∀ h', IsEnum h' (s.heap.objs.size + 1) s.heap.objs.size 0 .none → h'.IsTupleIter s.heap.objs.size l 0 → h'.objs.size = s.heap.objs.size + 2 →
      (∀ b o, s.heap.get? b = some o → h'.get? b = some o) → Q (.ref (s.heap.objs.size + 1)) { s with heap := h' }) : wpAny (model prog w) A (call (.type "enumerate") [.ref l]) Q E s := by
  obtain ⟨⟨c, dct, dt, sl⟩, hl, hc, n, hd⟩ := isT
  obtain rfl : c = .type "tuple" := hc
  obtain rfl : dt = .seq items n := hd
  refine callType_new F.called_enumerate (by decide) (F.typeCall_enumerate_1 _) (F.newCall_enumerate_1 _) (fun obj => F.args_object_init_2 obj _) F.entry_enumerate_new (meets_enumT l items n dct sl) ⟨hl, ?_⟩
  have hz : (s.heap.push { cls := .type "tuple_iterator", data := .fields #[.ref l, .int 0 0] }).objs.size = s.heap.objs.size + 1 := Heap.size_push ..
  show _ ∧ _
  rw [hz]
  have he : IsEnum ((s.heap.push { cls := .type "tuple_iterator", data := .fields #[.ref l, .int 0 0] }).push
      { cls := .type "enumerate", data := .fields #[.none, .bool false, .ref s.heap.objs.size, rawInt 0, .none, .none] }) (s.heap.objs.size + 1) s.heap.objs.size 0 .none := by
    have q := Heap.get?_push_size (s.heap.push { cls := .type "tuple_iterator", data := .fields #[.ref l, .int 0 0] })
      (o := { cls := .type "enumerate", data := .fields #[.none, .bool false, .ref s.heap.objs.size, rawInt 0, .none, .none] }) rfl
    rw [hz] at q
    exact q
  exact ⟨⟨_, he, rfl⟩, h _ he ⟨_, Heap.get?_push_of_some _ (Heap.get?_push_size _ rfl), rfl, rfl⟩ (by rw [Heap.size_push, hz]) fun b o x => Heap.get?_push_of_some _ (Heap.get?_push_of_some _ x)⟩
end
/-- the tuple at a, each item in a new pair -/
def IteT (K : PySem.W.Frag) (a : Addr) : It :=
  ⟨fun i H => ∃ (xs : List V) (x : V), SqT K H a xs ∧ xs[i]? = some x, fun i H v H' => ∃ T x, v = .ref T ∧ H T = none ∧ H' = upd H T (.tup [.int (i : Nat), x]) ∧ ∀ xs, SqT K H a xs → xs[i]? = some x, fun i H => ∃ xs : List V, SqT K H a xs ∧ xs.length = i⟩
theorem turn_enumT {P : Program} {w : World} {K : PySem.W.Frag} {elts : List Expr} {kk : Nat} {tpos : Pos} (a e it : Addr) :
    Turn P w K (.Tuple elts kk tpos) (IteT K a) [e, it] e (fun i h => (∃ old, IsEnum h e it ((i : Nat) : Int) old) ∧ h.IsTupleIter it a i ∧ e ≠ it ∧ a ≠ it ∧ a ≠ e) where
  mem := by simp
  obj := fun i h st b hb => by
    obtain ⟨⟨old, he⟩, ⟨o, ho, hc, hd⟩, _⟩ := st
    have e' : b = e ∨ b = it := by simpa using hb
    rcases e' with z | z
    · rw [z]
      exact ⟨_, he, fun v q => nomatch q⟩
    · rw [z]
      exact ⟨o, ho, fun v q => by rw [hd] at q; cases q⟩
  keep := fun i h h' st k => let ⟨⟨old, he⟩, hi, hne⟩ := st; ⟨⟨old, k e (by simp) _ he⟩, hi.at fun o q => k it (by simp) o q, hne⟩
  item := by
    intro X hP hw hK hc i pins s σ H E I hf st hg
    subst hP hw hK
    obtain ⟨⟨old, he⟩, hit, hne, nai, nae⟩ := st
    obtain ⟨xs, x, hq, hx⟩ := hg
    obtain ⟨its, rv, p, hz⟩ := I.tuple hq
    obtain ⟨u, hu, ru⟩ := rv.get hx
    have hel : e < s.heap.objs.size := Heap.lt_size he
    have hil : it < s.heap.objs.size := by
      obtain ⟨_, q, _⟩ := hit
      exact Heap.lt_size q
    have hlt : i < its.toArray.size := by
      rw [List.size_toArray]
      exact (List.getElem?_eq_some_iff.mp hu).1
    have Dr := Draws.tuple (prog := X.prog) (w := X.w) (A := X.A.in1) (I.ok.hd hc) it a nai its.toArray
    refine wpAny_pyNext_enum_itemD Dr he ⟨hit, p⟩ hlt hne (by simp [hne, Ne.symm nae]) fun v h' tk hv ho hst hT hsz hk => ?_
    have ev : v = u := by
      rw [List.getElem?_toArray] at hv
      rw [hu] at hv
      exact (Option.some.inj hv).symm
    subst ev
    refine ⟨_, rfl, wpAny_letOwnedTupleGo_enum (s := { s with heap := h', toks := tk + 1 }) ho fun h'' he' sb => ?_⟩
    have hT2 : h''.get? s.heap.objs.size = some { cls := .type "tuple", data := .seq #[.int i tk, v] } := (sb.2 _ (Nat.ne_of_gt hel)).trans hT
    have new : ObjOk X.prog X.w (upd H s.heap.objs.size (.tup [.int (i : Nat), x])) h'' s.heap.objs.size (.tup [.int (i : Nat), x]) :=
      ⟨by show 2 ≤ sizeLine; decide, [.int i tk, v], .cons ⟨_, rfl⟩ (.cons ru .nil), ⟨_, hT2, rfl, _, rfl⟩⟩
    have I1 : Inv X pins σ (upd H s.heap.objs.size (.tup [.int (i : Nat), x])) { s with heap := h'', toks := tk + 1 } :=
      I.turnedNew (ch := [e, it]) (fun b ob hb q => (sb.2 b (fun z => hb (by simp [z]))).trans (hk b ob (fun z => hb (by simp [z])) (fun z => hb (by simp [z])) q)) hf (Nat.le_refl _) new
    refine ⟨.ref s.heap.objs.size, _, I1, rfl, ⟨_, x, rfl, I.hok.fresh (Nat.le_refl _), rfl, fun ys hy => by rw [I.tuple_inj hy hq]; exact hx⟩, ⟨⟨v, ?_⟩, hst.1.at fun o q => (sb.2 it (Ne.symm hne)).trans q, hne, nai, nae⟩, fun b hb => ?_⟩
    · have e1 : ((i + 1 : Nat) : Int) = (i : Int) + 1 := by omega
      rw [e1]
      exact he'
    · have hb' : b < s.heap.objs.size := by
        have e' : b = e ∨ b = it := by simpa using hb
        rcases e' with z | z
        · rw [z]; exact hel
        · rw [z]; exact hil
      rw [upd_ne (Nat.ne_of_lt hb')]
      exact (hf b hb).1
  done := by
    intro X hP hw hK hc i pins s σ H E I hf st hg
    subst hP hw hK
    obtain ⟨⟨old, he⟩, hit, hne, nai, nae⟩ := st
    obtain ⟨xs, hq, hx⟩ := hg
    obtain ⟨its, rv, p, hz⟩ := I.tuple hq
    obtain ⟨f0, f1, f2, f3, f4, f5⟩ := hf it (by simp)
    have hl : its.toArray.size = i := by
      rw [List.size_toArray, ← rv.length, hx]
    subst hl
    have Dr := Draws.tuple (prog := X.prog) (w := X.w) (A := X.A.in1) (I.ok.hd hc) it a nai its.toArray
    exact wpAny_pyNext_enum_endD Dr he ⟨hit, p⟩ fun h' eb => ⟨rfl, I.turned (t' := s.toks) (fun b o hb q => eb b o hb q) f0 f1 f3 f4 f5⟩
  self := fun A i s Q E st h => let ⟨⟨_, he⟩, _⟩ := st; wpAny_pyIter_enum he h
theorem walk_enumT {K : PySem.W.Frag} {a : Addr} {xs : List V} : Walk (IteT K a) xs.length (fun H => SqT K H a xs) (YPair (fun i => some (.int (i : Nat))) (fun i => xs[i]?)) := by
  refine ⟨fun i _ hi q => ⟨xs, xs[i], q, by simp [hi]⟩, fun _ q => ⟨xs, q, rfl⟩, fun i H v H' _ q y => ?_⟩
  obtain ⟨T, x, h1, h2, h3, h4⟩ := y
  exact ⟨T, .int (i : Nat), x, h1, h2, h3, rfl, h4 xs q⟩
def iEnumT (K : PySem.W.Frag) (ta : TA) : TI := fun σ H R => ta σ H fun vs H1 => ∃ a xs, vs = [.ref a] ∧ SqT K H1 a xs ∧ R (IteT K a) H1
theorem pi_enumT {X : Cx} {e : Expr} {ta : TA} {p pos tpos : Pos} {elts : List Expr} {kk : Nat} (hg : Gl X "enumerate") (hm : X.mg "enumerate" = none) (ha : PA X [e] ta) (hs : starEach [e] X.env = [(false, eval e X.env)] := by rfl) :
    PI X (.Tuple elts kk tpos) (.Call (.Name "enumerate" p) [e] [] pos) (iEnumT X.K ta) := by
  refine ⟨fun pins s σ H R I h => Call_ (ld_blt I hg hm boot_enumerate (PyProof.Rows.callWith_type1 (thn (ha.run pos pins s σ H _ I h) fun us s1 ⟨vs, H1, I1, r1, a, xs, ex, hq, q⟩ => ?_) hs rfl))⟩
  subst ex
  obtain ⟨u, rfl, ru⟩ := vals1 r1
  cases ru
  obtain ⟨its, rv, p', hz⟩ := I1.tuple hq
  have hal : a < s1.heap.objs.size := p'.lt
  refine call_enumT p' fun h' he hit hsz hk => wpAny_pyIter_enum he ?_
  have I2 : Inv X pins σ H1 { s1 with heap := h' } := I1.kept (t' := s1.toks) hk
  refine ⟨s1.heap.objs.size + 1, [s1.heap.objs.size + 1, s1.heap.objs.size], _, _, H1, rfl, I2, turn_enumT a (s1.heap.objs.size + 1) s1.heap.objs.size, ⟨⟨.none, he⟩, hit, Nat.succ_ne_self _, Nat.ne_of_lt hal, Nat.ne_of_lt (Nat.lt_succ_of_lt hal)⟩, fun b hb => ?_, q⟩
  have hle : s1.heap.objs.size ≤ b := by
    have e' : b = s1.heap.objs.size + 1 ∨ b = s1.heap.objs.size := by simpa using hb
    rcases e' with z | z
    · rw [z]; exact Nat.le_add_right _ _
    · rw [z]; exact Nat.le_refl _
  exact I1.fpOk hle (I1.hok.fresh hle)
/-- the pairs that enumerate makes -/
def enumFrom (k : Nat) : List PyData → List PyData
  | [] => []
  | d :: ds => .tuple [.int (k : Nat), d] :: enumFrom (k + 1) ds
theorem enumFrom_get : ∀ {ds : List PyData} {k i : Nat} {d : PyData}, ds[i]? = some d → (enumFrom k ds)[i]? = some (.tuple [.int ((k + i : Nat) : Int), d])
  | [], _, _, _, e => by simp at e
  | d :: ds, k, 0, _, e => by
    simp at e
    subst e
    rfl
  | d :: ds, k, i + 1, x, e => by
    have q := enumFrom_get (ds := ds) (k := k + 1) (i := i) (by simpa using e)
    show (enumFrom (k + 1) ds)[i]? = _
    rw [q]
    have z : k + 1 + i = k + (i + 1) := by omega
    rw [z]
theorem enumFrom_len : ∀ {ds : List PyData} {k : Nat}, (enumFrom k ds).length = ds.length
  | [], _ => rfl
  | d :: ds, k => by
    show (enumFrom (k + 1) ds).length + 1 = _
    rw [enumFrom_len]
    rfl
def asEnum (ws : List W) (μ : Mu) : R (List PyData) := match ws with
  | [.d x] => match seqD x with
    | some ds => .ok (enumFrom 0 ds) μ
    | none => .bad
  | _ => .bad
def l_e (fa : AM) : LM := fun env μ => (fa env μ).bind asEnum
/-- for over things told as data -/
def s_forL (b : BM) (f : LM) (body : SM) : SM := fun env μ => (f env μ).st env fun ds μ => forL b body ds env μ
section
variable {X : Cx} {C : Str → Option Addr} {Wx : WX}
/-- a new pair at T -/
theorem pair_laid {K : PySem.W.Frag} {G0 G : Gh} {H0 H : Hp} {env : Ev} {μ : Mu} {σ : L2.St} {T : Addr} {i : Nat} {x : V} {d : PyData} (S : Sto K G0 H0 G env μ σ H) (n : H T = none) (r : Dz K G.F x d) :
    ∃ G1, Same G.F G1.F ∧ Sto K G0 H0 G1 env μ σ (upd H T (.tup [.int (i : Nat), x])) ∧ Dz K G1.F (.ref T) (.tuple [.int (i : Nat), d]) := by
  obtain ⟨s, o⟩ := laid_f S.ok n (.tup [.int (i : Nat), x])
  exact ⟨_, s.sub, S.step s o, .tup (SqT.of (by show upd G.F T _ T = _; exact upd_same)) (.cons (.int _) (.cons (dp_mono s.sub _ _ r) .nil))⟩
theorem zs_forE {e : Expr} {elts : List Expr} {kk : Nat} {body : List Stmt} {fa : AM} {g : TG} {b : BM} {gb : SM} {pos tpos p cpos : Pos} {is : List Nat} (hp : PassesOwn (model X.prog X.w) X.A X.env X.xe) (hc : X.calm = true) (hb : SemG X.K is g b) (hge : Gl X "enumerate") (hme : X.mg "enumerate" = none)
    (ha : ZA X C Wx [e] fa) (hg : PG X (.Tuple elts kk tpos) g) (hbody : ZSs X C Wx body gb) (hse : starEach [e] X.env = [(false, eval e X.env)] := by rfl) (hs : ∀ x, foldedSetIterable (.Call (.Name "enumerate" p) [e] [] cpos) X.env x = pure x := by intro _; rfl) :
    ZSt X C Wx (.For (.Tuple elts kk tpos) (.Call (.Name "enumerate" p) [e] [] cpos) body [] pos) (s_forL b (l_e fa) gb) :=
  ps_imp (ps_or (ps_for hp hc (pi_enum hge hme ha hse) hg hbody hs) (ps_for hp hc (pi_enumT hge hme ha hse) hg hbody hs)) fun D σ H h => by
    obtain ⟨G0, H0, G, env, μ, S, p'⟩ := h
    have p : PostS (cx X C Wx) G0 H0 G.F D (((fa env μ).bind asEnum).st env fun ds μ => forL b gb ds env μ) := p'
    cases q : fa env μ with
    | bad => rw [q] at p; exact p.elim
    | exc x m =>
      rw [q] at p
      refine .inl ⟨G, μ, env, S.ok, S.eo, ?_⟩
      rw [q]
      exact fun G1 cls d H1 s o r => p G1 cls d σ H1 (S.step s o) s.sub r
    | ok ws m =>
      rw [q] at p
      have p1 : PostS (cx X C Wx) G0 H0 G.F D ((asEnum ws m).st env fun ds μ => forL b gb ds env μ) := p
      unfold asEnum at p1
      split at p1
      · rename_i x
        cases x with
        | list ds =>
          refine .inl ⟨G, μ, env, S.ok, S.eo, ?_⟩
          rw [q]
          intro G1 vs H1 s o r
          obtain ⟨v, rfl, rv⟩ := wall1 r
          cases rv with
          | lst ha ra =>
            rename_i a us
            have p2 : PostS (cx X C Wx) G0 H0 G.F D (forL b gb (enumFrom 0 ds) env m) := p1
            refine ⟨a, us, rfl, SqL.of (o.fz _ _ ha), for_it (walk_enum (xs := us)) (ForPv (cx X C Wx) b gb D G0 H0 (enumFrom 0 ds) fun G => G.F a = some (.lst us) ∧ DzAll X.K G.F us ds) ⟨G1, env, m, S.step s o, ⟨ha, ra⟩, p2.mono s.sub⟩ ?_ ?_ ?_⟩
            · rintro i σ2 H2 _ ⟨G2, env2, μ2, S2, ⟨ha2, _⟩, _⟩
              exact SqL.of (S2.ok.fz _ _ ha2)
            · rintro i v σ2 H2 H3 hi ⟨G2, env2, μ2, S2, ⟨ha2, ra2⟩, p3⟩ ⟨T, x, y, rfl, hT, rfl, e1, e2⟩
              cases e1
              obtain ⟨d, hd, rd⟩ := dpAll_get' ra2 e2
              obtain ⟨G3, sm, S3, rT⟩ := pair_laid (i := i) S2 hT rd
              have hg := enumFrom_get (k := 0) hd
              rw [Nat.zero_add] at hg
              rw [drop_cons hg] at p3
              exact for_turn hb S3 rT (p3.mono sm) fun G' env' μ' σ' H' S' sm' p' => ⟨G', env', μ', S', ⟨sm' _ _ (sm _ _ ha2), dpAll_mono (sm.trans sm') _ _ ra2⟩, p'⟩
            · rintro σ2 H2 ⟨G2, env2, μ2, S2, ⟨ha2, ra2⟩, p3⟩
              rw [dpAll_len ra2, ← enumFrom_len (k := 0), List.drop_length] at p3
              exact p3 G2 σ2 H2 S2 (rf _)
        | tuple ds =>
          refine .inr ⟨G, μ, env, S.ok, S.eo, ?_⟩
          rw [q]
          intro G1 vs H1 s o r
          obtain ⟨v, rfl, rv⟩ := wall1 r
          cases rv with
          | tup ha ra =>
            rename_i a us
            have p2 : PostS (cx X C Wx) G0 H0 G.F D (forL b gb (enumFrom 0 ds) env m) := p1
            refine ⟨a, us, rfl, Same.seqT o.fz ha, for_it (walk_enumT (xs := us)) (ForPv (cx X C Wx) b gb D G0 H0 (enumFrom 0 ds) fun G => SqT X.K G.F a us ∧ DzAll X.K G.F us ds) ⟨G1, env, m, S.step s o, ⟨ha, ra⟩, p2.mono s.sub⟩ ?_ ?_ ?_⟩
            · rintro i σ2 H2 _ ⟨G2, env2, μ2, S2, ⟨ha2, _⟩, _⟩
              exact Same.seqT S2.ok.fz ha2
            · rintro i v σ2 H2 H3 hi ⟨G2, env2, μ2, S2, ⟨ha2, ra2⟩, p3⟩ ⟨T, x, y, rfl, hT, rfl, e1, e2⟩
              cases e1
              obtain ⟨d, hd, rd⟩ := dpAll_get' ra2 e2
              obtain ⟨G3, sm, S3, rT⟩ := pair_laid (i := i) S2 hT rd
              have hg := enumFrom_get (k := 0) hd
              rw [Nat.zero_add] at hg
              rw [drop_cons hg] at p3
              exact for_turn hb S3 rT (p3.mono sm) fun G' env' μ' σ' H' S' sm' p' => ⟨G', env', μ', S', ⟨Same.seqT sm' (Same.seqT sm ha2), dpAll_mono (sm.trans sm') _ _ ra2⟩, p'⟩
            · rintro σ2 H2 ⟨G2, env2, μ2, S2, ⟨ha2, ra2⟩, p3⟩
              rw [dpAll_len ra2, ← enumFrom_len (k := 0), List.drop_length] at p3
              exact p3 G2 σ2 H2 S2 (rf _)
        | _ => exact p1.elim
      · exact p1.elim
end
end Zed

/-! defs as they are called; short forms -/
namespace Zed
open PySem PySem.Spec PyProof.Rows L2
/-- a def that stands under its name and does as F says -/
def Def (P : Program) (w : World) (K : PySem.W.Frag) (mg : Str → Option Value) (base : Heap) (C : Str → Option Addr) (x : Str) (ps : List Str) (k : Nat) (F : List W → Mu → R W) : Prop :=
  ∃ (f : Addr) (fd : FuncData), mg x = some (.ref f) ∧ PySem.W.keepIn K (.ref f) = true ∧ Binds K fd ps [] ∧ FnG P w K mg base k f fd ps (spZ C F ps.length K)
section
variable {P : Program} {w : World} {K : PySem.W.Frag} {mg : Str → Option Value} {base : Heap} {C : Str → Option Addr}
/-- what the top's text says of a def -/
structure DefAt (K : PySem.W.Frag) (mg : Str → Option Value) (x : Str) (st : Stmt) (ps : List Str) : Prop where
  ex : ∃ (f : Addr) (fd : FuncData), mg x = some (.ref f) ∧ Fun K x x st f fd ∧ Binds K fd ps []
theorem defZ {x : Str} {st : Stmt} {N ps : List Str} {k : Nat} {g : SM} (D : DefAt K mg x st ps) (S : FnScope N ps (defScope st))
    (hbody : ∀ (f : Addr) (cdv : Value) (A : Around) (outer : List Env) (s : Shared) (H : Hp) (E : XK), A.guards = some [] → Room k (A.deeper (envOfC x (defScope st) s.heap.objs.size f cdv)) →
      ZSs (cxZ P w K mg base N x st f cdv A outer s H E) C (wE E) (defBody st) g) : Def P w K mg base C x ps (k + 1) (runF g N.length) := by
  obtain ⟨f, fd, hm, hF, hb⟩ := D.ex
  exact ⟨f, fd, hm, hF.kp, hb, fnZ hF S fun cdv A outer s H E hg hr => hbody f cdv A outer s H E hg hr⟩
theorem Def.mono {x : Str} {ps : List Str} {j k : Nat} {F : List W → Mu → R W} (D : Def P w K mg base C x ps j F) (h : j ≤ k) : Def P w K mg base C x ps k F := by
  obtain ⟨f, fd, a, b, c, d⟩ := D
  exact ⟨f, fd, a, b, c, d.mono h⟩
end
theorem alen_nil : ∀ env μ ws μ', a_nil env μ = R.ok ws μ' → ws.length = 0 := fun env μ ws μ' h => by
  cases h
  rfl
theorem alen_cons {fa : EM} {fr : AM} {n : Nat} (h : ∀ env μ ws μ', fr env μ = R.ok ws μ' → ws.length = n) : ∀ env μ ws μ', a_cons fa fr env μ = R.ok ws μ' → ws.length = n + 1 := fun env μ ws μ' e => by
  unfold a_cons at e
  cases q : fa env μ with
  | bad => rw [q] at e; cases e
  | exc x m => rw [q] at e; cases e
  | ok x m =>
    rw [q] at e
    have e1 : ((fr env m).bind fun xs μ => R.ok (x :: xs) μ) = .ok ws μ' := e
    cases q2 : fr env m with
    | bad => rw [q2] at e1; cases e1
    | exc x m => rw [q2] at e1; cases e1
    | ok xs m2 =>
      rw [q2] at e1
      cases e1
      rw [List.length_cons, h env m xs _ q2]
section
variable {X : Cx} {C : Str → Option Addr} {Wx : WX}
theorem ze_callD {F : List W → Mu → R W} {k j : Nat} {ps : List Str} {x : Str} {p pos : Pos} {e : Expr} {es : List Expr} {fa : AM} (D : Def X.prog X.w X.K X.mg X.base C x ps k F) (hgd : X.A.guards = some []) (hr : Room j X.A) (hj : k ≤ j) (hg : Gl X x) (tk : Takes X Wx) (ha : ZA X C Wx (e :: es) fa)
    (hn : ∀ env μ ws μ', fa env μ = .ok ws μ' → ws.length = ps.length)
    (hdb : (x == ("__debug__" : Str)) = false := by decide) (he : starEach (e :: es) X.env = (false, eval e X.env) :: starEach es X.env := by rfl) (hpl : (backTo pos (starEach es X.env)).any (·.1) = false := by rfl) :
    ZE X C Wx (.Call (.Name x p) (e :: es) [] pos) (e_fn F fa) := by
  obtain ⟨f, fd, hm, hk, hb, hF⟩ := D
  exact ze_call hF hgd (hr.mono hj) hg hm hk hb tk ha hn hdb he hpl
theorem ze_callD0 {F : List W → Mu → R W} {k j : Nat} {x : Str} {p pos : Pos} (D : Def X.prog X.w X.K X.mg X.base C x [] k F) (hgd : X.A.guards = some []) (hr : Room j X.A) (hj : k ≤ j) (hg : Gl X x) (tk : Takes X Wx) (hdb : (x == ("__debug__" : Str)) = false := by decide) :
    ZE X C Wx (.Call (.Name x p) [] [] pos) (e_fn F a_nil) := by
  obtain ⟨f, fd, hm, hk, hb, hF⟩ := D
  refine pe_imp (pe_callG0 hF hgd (hr.mono hj) hg hm hk hb .nil tk hdb) fun σ H Q h => ?_
  obtain ⟨G, μ, env, ok, eo, pp⟩ := h
  exact ⟨rfl, G, μ, [], ok, .nil, Zw.ctx pp fun _ _ _ z => z⟩
/-- y = [..] -/
theorem zs_setLc {i : Nat} {y : Str} {py : Pos} {elt tg iter : Expr} {ifs : List Expr} {scope : Scope} {own : List (Str × Nat)} {pos spos : Pos} {f : EM} {g : TG} {b : BM} {is : List Nat} {ft : TM} {fe : EM} (hc : X.calm = true) (hN : X.N.Nodup) (hy : X.N[i]? = some y) (hyl : X.env.scope.names.lookup y = some .local)
    (hsw : swapsWith (.ListComp elt [⟨tg, iter, ifs, 0⟩] scope pos) (some (.Name y py)) spos.line X.env = pure true) (hi : ZE X C Wx iter f) (ok : BlkOk X.N X.env.scope scope own) (hb : SemG X.K is g b) (hv : ∀ k ∈ is, k ∈ own.map (·.2))
    (hg : ∀ (s : Shared) (H : Hp) (C : Addr) (cl : List (Str × Addr)) (fp : List Addr), PG (X.blk s H scope (compEnvC scope cl C X.env) fp) tg g)
    (ht : ∀ (s : Shared) (H : Hp) (C' : Addr) (cl : List (Str × Addr)) (fp : List Addr), PTs (X.blk s H scope (compEnvC scope cl C' X.env) fp) ifs (tz ⟨X.K, C, W0⟩ bRep ft))
    (he : ∀ (s : Shared) (H : Hp) (C' : Addr) (cl : List (Str × Addr)) (fp : List Addr), PE (X.blk s H scope (compEnvC scope cl C' X.env) fp) elt (tz ⟨X.K, C, W0⟩ (WRep X.K) fe)) (hs : ∀ x, foldedSetIterable iter X.env x = pure x := by intro _; rfl) :
    ZSt X C Wx (.Assign [.Name y py] (.ListComp elt [⟨tg, iter, ifs, 0⟩] scope pos) spos) (s_set i (e_lc (own.map (·.2)) b ft fe (l_s f))) :=
  ps_imp (ps_or (ps_setLc hc hN hy hyl hsw (pi_list hi) ok hg ht he hs) (ps_setLc hc hN hy hyl hsw (pi_tup hi) ok hg ht he hs)) fun D σ H h =>
    tlc_seq hb hv (tzS_bind (rep := WRep X.K) h fun G0 H0 G env x μ v H1 S r p => p G _ H1 (S.setW r) (rf _))
theorem zs_setLcR {i : Nat} {y : Str} {py : Pos} {elt tg iter : Expr} {ifs : List Expr} {scope : Scope} {own : List (Str × Nat)} {pos spos : Pos} {f : RM} {g : TG} {b : BM} {is : List Nat} {ft : TM} {fe : EM} (hc : X.calm = true) (hN : X.N.Nodup) (hy : X.N[i]? = some y) (hyl : X.env.scope.names.lookup y = some .local)
    (hsw : swapsWith (.ListComp elt [⟨tg, iter, ifs, 0⟩] scope pos) (some (.Name y py)) spos.line X.env = pure true) (hi : PI X tg iter (iRgZ (cx X C Wx) f)) (ok : BlkOk X.N X.env.scope scope own) (hb : SemG X.K is g b) (hv : ∀ k ∈ is, k ∈ own.map (·.2))
    (hg : ∀ (s : Shared) (H : Hp) (C : Addr) (cl : List (Str × Addr)) (fp : List Addr), PG (X.blk s H scope (compEnvC scope cl C X.env) fp) tg g)
    (ht : ∀ (s : Shared) (H : Hp) (C' : Addr) (cl : List (Str × Addr)) (fp : List Addr), PTs (X.blk s H scope (compEnvC scope cl C' X.env) fp) ifs (tz ⟨X.K, C, W0⟩ bRep ft))
    (he : ∀ (s : Shared) (H : Hp) (C' : Addr) (cl : List (Str × Addr)) (fp : List Addr), PE (X.blk s H scope (compEnvC scope cl C' X.env) fp) elt (tz ⟨X.K, C, W0⟩ (WRep X.K) fe)) (hs : ∀ x, foldedSetIterable iter X.env x = pure x := by intro _; rfl) :
    ZSt X C Wx (.Assign [.Name y py] (.ListComp elt [⟨tg, iter, ifs, 0⟩] scope pos) spos) (s_set i (e_lc (own.map (·.2)) b ft fe (l_r f))) :=
  ps_imp (ps_setLc hc hN hy hyl hsw hi ok hg ht he hs) fun D σ H h =>
    tlc_rng hb hv (tzS_bind (rep := WRep X.K) h fun G0 H0 G env x μ v H1 S r p => p G _ H1 (S.setW r) (rf _))
/-- what the proof never comes to -/
def s_bad : SM := fun _ _ => .bad
theorem zs_bad {st : Stmt} : ZSt X C Wx st s_bad := ps_imp ps_never fun D σ H h => by
  obtain ⟨G0, H0, G, env, μ, S, p⟩ := h
  exact p
/-- a constant of the top -/
def KAt (K : PySem.W.Frag) (mg : Str → Option Value) (x : Str) (d : PyData) : Prop := ∃ (v : V) (u : Value), mg x = some u ∧ RelV v u ∧ ∀ F, Dz K F v d
theorem ze_k {x : Str} {d : PyData} {pos : Pos} (h : KAt X.K X.mg x d) (hg : Gl X x) (hdb : (x == ("__debug__" : Str)) = false := by decide) : ZE X C Wx (.Name x pos) (e_c d) := by
  obtain ⟨v, u, hm, r, hd⟩ := h
  exact ze_glob hg hm r hd hdb
/-- a tuple of texts of the top -/
theorem kat_strs {K : PySem.W.Frag} {mg : Str → Option Value} {x : Str} {a : Addr} {o : Obj} {its : Array Value} {n : Nat} (ts : List Str) (hm : mg x = some (.ref a)) (hl : K.lookup a = some o) (hc : o.cls = .type "tuple") (hd : o.data = .seq its n) (hz : its.size ≤ sizeLine)
    (hv : Vals (ts.map V.str) its.toList) : KAt K mg x (.tuple (ts.map PyData.str)) := by
  refine ⟨.ref a, .ref a, hm, rfl, fun F => .tup (.inr ⟨o, its, n, hl, hc, hd, hz, hv⟩) ?_⟩
  clear hv
  induction ts with
  | nil => exact .nil
  | cons t ts ih => exact .cons (.str t) ih
/-! an owned list is looked at -/
def e_ixO (i : Nat) (fb : EM) : EM := fun env μ => match env[i]? with
  | some (some (.own xs)) => (fb env μ).bind fun y μ => ixW (.d (.list xs)) y μ
  | _ => .bad
theorem ze_ixO {i : Nat} {a b : Expr} {fb : EM} {pos : Pos} (ha : PE X a (tVar i)) (hb : ZE X C Wx b fb) (hs : PlainIx b) : ZE X C Wx (.Subscript a b pos) (e_ixO i fb) := pe_imp (pe_ix ix_list ha hb hs) fun σ H Q h => by
  obtain ⟨G, μ, env, ok, eo, p⟩ := h
  unfold e_ixO at p
  split at p
  · rename_i xs e0
    obtain ⟨l, vs, q, hl, r, nF, nR⟩ := eo.own i xs e0
    refine ⟨.ref l, q, G, μ, env, ok, eo, p.bind.mono ?_⟩
    rintro u H1 ⟨G1, y, μ1, st, ok1, ry, p1⟩
    unfold ixW at p1
    split at p1
    · rename_i x i' e1
      have ex := W.d.inj e1
      subst ex
      split at p1
      · rename_i ds e2
        cases e2
        split at p1
        · rename_i d ed
          obtain ⟨z, hz, rz⟩ := dz_atI (dpAll_mono st.sub _ _ r) ed
          cases ry
          exact ⟨l, vs, _, z, rfl, rfl, SqL.of (st.keep l _ hl nR), hz, p1.val ok1 rz⟩
        · exact p1.elim
      · exact p1.elim
    · rename_i e1
      cases e1
    · exact p1.elim
  · exact p.elim
end
/-- the law's end, where what it does on data is told -/
theorem law_end {C : Str → Option Addr} {K : PySem.W.Frag} {H : Hp} {a : Addr} {ns : List Int} (F : List W → Mu → R W) (math : ∃ μ, F [.s ns] [] = .ok (.d (.bool true)) μ) (hO : Only H) (hS : SqL K H a (ns.map V.int)) : spZ C F 1 K [.ref a] H wTrue wNo := by
  obtain ⟨μ, e⟩ := math
  refine ⟨rfl, ⟨H, []⟩, [], [.s ns], ⟨Same.refl H, rfl, .nil, fun k o a h => by simp at h⟩, .cons ⟨a, rfl, hS⟩ .nil, ?_⟩
  rw [e]
  intro G' v H' s o r
  cases r
  rfl
end Zed

/-! reckoning with what defs do; the law's feed -/
namespace Zed
open PySem PySem.Spec PyProof.Rows L2
def getS (o : Option (Option Sl)) (μ : Mu) : R W := match o with
  | some (some (.w x)) => .ok x μ
  | _ => .bad
def SR.then (r : SR) (k : Ev → Mu → SR) : SR := match r with
  | .nx e m => k e m
  | r => r
def SR.out (r : SR) : R W := match r with
  | .nx _ μ => .ok (.d .none) μ
  | .rt w μ => .ok w μ
  | .xc x _ μ => .exc x μ
  | _ => .bad
section
variable {env : Ev} {μ μ' : Mu}
theorem q_bind {α β : Type} {a : α} {k : α → Mu → R β} : (R.ok a μ).bind k = k a μ := rfl
theorem q_bindx {α β : Type} {x : Exc} {k : α → Mu → R β} : (R.exc x μ).bind k = .exc x μ := rfl
theorem q_st {α : Type} {a : α} {k : α → Mu → SR} : (R.ok a μ).st env k = k a μ := rfl
theorem q_stx {α : Type} {x : Exc} {k : α → Mu → SR} : (R.exc x μ).st env k = .xc x env μ := rfl
theorem q_c {x : PyData} : e_c x env μ = .ok (.d x) μ := rfl
theorem q_v {i : Nat} : e_v i env μ = getS (env[i]?) μ := rfl
theorem q_getS {x : W} : getS (some (some (.w x))) μ = .ok x μ := rfl
theorem q_op {g : W → W → Mu → R W} {a b : EM} : e_op g a b env μ = (a env μ).bind fun x μ => (b env μ).bind fun y μ => g x y μ := rfl
theorem q_un {g : W → Mu → R W} {a : EM} : e_un g a env μ = (a env μ).bind g := rfl
theorem q_tv {a : EM} : t_v a env μ = (a env μ).bind asB := rfl
theorem q_asB {b : Bool} : asB (.d (.bool b)) μ = .ok b μ := rfl
theorem q_tand {a b : TM} : t_and a b env μ = (a env μ).bind fun x μ => if x = true then b env μ else .ok false μ := rfl
theorem q_tor {a b : TM} : t_or a b env μ = (a env μ).bind fun x μ => if x = true then .ok true μ else b env μ := rfl
theorem q_tnot {a : TM} : t_not a env μ = (a env μ).bind fun x μ => .ok (!x) μ := rfl
theorem q_if {t : TM} {a b : EM} : e_if t a b env μ = (t env μ).bind fun x μ => if x = true then a env μ else b env μ := rfl
theorem q_and {a b : EM} : e_and a b env μ = (t_v a env μ).bind fun x μ => if x = true then b env μ else .ok (.d (.bool false)) μ := rfl
theorem q_or {a b : EM} : e_or a b env μ = (t_v a env μ).bind fun x μ => if x = true then .ok (.d (.bool true)) μ else b env μ := rfl
theorem q_not {a : EM} : e_not a env μ = (t_v a env μ).bind fun x μ => .ok (.d (.bool (!x))) μ := rfl
theorem q_tY : tY env μ = .ok true μ := rfl
theorem q_anil : a_nil env μ = .ok [] μ := rfl
theorem q_acons {a : EM} {r : AM} : a_cons a r env μ = (a env μ).bind fun x μ => (r env μ).bind fun xs μ => .ok (x :: xs) μ := rfl
theorem q_lst {a : AM} : e_lst a env μ = (a env μ).bind mkL := rfl
theorem q_tup {a : AM} : e_tup a env μ = (a env μ).bind mkT := rfl
theorem q_fn {F : List W → Mu → R W} {a : AM} : e_fn F a env μ = (a env μ).bind F := rfl
theorem q_sl {a : EM} {l h : PM} : e_sl a l h env μ = (a env μ).bind fun x μ => (l env μ).bind fun lo μ => (h env μ).bind fun hi μ => slW x lo hi μ := rfl
theorem q_pnone : p_none env μ = .ok none μ := rfl
theorem q_psome {a : EM} : p_some a env μ = (a env μ).bind asI := rfl
theorem q_asI {i : Int} : asI (.d (.int i)) μ = .ok (some i) μ := rfl
theorem q_lc {vs : List Nat} {b : BM} {t : TM} {f : EM} {l : LM} : e_lc vs b t f l env μ = (l env μ).bind fun ds μ => (lcL b t f ds [] (wipeE env vs) μ).bind fun l μ => .ok (.d (.list l)) μ := rfl
theorem q_ls {f : EM} : l_s f env μ = (f env μ).bind asSeq := rfl
theorem q_lr {f : RM} : l_r f env μ = (f env μ).bind fun x μ => .ok (rangeD x.1 x.2) μ := rfl
theorem q_le {f : AM} : l_e f env μ = (f env μ).bind asEnum := rfl
theorem q_seqL {xs : List PyData} : asSeq (.d (.list xs)) μ = .ok xs μ := rfl
theorem q_seqT {xs : List PyData} : asSeq (.d (.tuple xs)) μ = .ok xs μ := rfl
theorem q_enumL {xs : List PyData} : asEnum [.d (.list xs)] μ = .ok (enumFrom 0 xs) μ := rfl
theorem q_enumT {xs : List PyData} : asEnum [.d (.tuple xs)] μ = .ok (enumFrom 0 xs) μ := rfl
theorem q_r1 {a : AM} : f_r1 a env μ = (a env μ).bind asR1 := rfl
theorem q_r2 {a : AM} : f_r2 a env μ = (a env μ).bind asR2 := rfl
theorem q_nil : s_nil env μ = .nx env μ := rfl
theorem q_seq {g1 g2 : SM} : s_seq g1 g2 env μ = (g1 env μ).then g2 := by
  unfold s_seq SR.then
  cases g1 env μ <;> rfl
theorem q_nx {k : SM} : (SR.nx env μ).then k = k env μ := rfl
theorem q_rt {k : SM} {w : W} : (SR.rt w μ).then k = .rt w μ := rfl
theorem q_bk {k : SM} : (SR.bk env μ).then k = .bk env μ := rfl
theorem q_ct {k : SM} : (SR.ct env μ).then k = .ct env μ := rfl
theorem q_xc {k : SM} {x : Exc} : (SR.xc x env μ).then k = .xc x env μ := rfl
theorem q_run {g : SM} {n : Nat} {ws : List W} : runF g n ws μ = (g (startE n ws) μ).out := by
  unfold runF SR.out
  cases g (startE n ws) μ <;> rfl
theorem q_onx : (SR.nx env μ).out = .ok (.d .none) μ := rfl
theorem q_ort {w : W} : (SR.rt w μ).out = .ok w μ := rfl
theorem q_oxc {x : Exc} : (SR.xc x env μ).out = .exc x μ := rfl
theorem q_set {i : Nat} {f : EM} : s_set i f env μ = (f env μ).st env fun x μ => .nx (env.set i (some (.w x))) μ := rfl
theorem q_ret {f : EM} : s_ret f env μ = (f env μ).st env fun x μ => .rt x μ := rfl
theorem q_ex {f : EM} : s_ex f env μ = (f env μ).st env fun _ μ => .nx env μ := rfl
theorem q_pass : s_pass env μ = .nx env μ := rfl
theorem q_break : s_break env μ = .bk env μ := rfl
theorem q_cont : s_cont env μ = .ct env μ := rfl
theorem q_sif {t : TM} {a b : SM} : s_if t a b env μ = (t env μ).st env fun x μ => if x = true then a env μ else b env μ := rfl
def par2 (i j : Nat) (env : Ev) (xs : List W) (μ : Mu) : SR := match xs with
  | [x, y] => .nx ((env.set i (some (.w x))).set j (some (.w y))) μ
  | _ => .bad
theorem q_par {i j : Nat} {f : AM} : s_par i j f env μ = (f env μ).st env (par2 i j env) := rfl
theorem q_par2 {i j : Nat} {x y : W} : par2 i j env [x, y] μ = .nx ((env.set i (some (.w x))).set j (some (.w y))) μ := rfl
theorem q_parO {i j : Nat} {f : EM} : s_parO i j f env μ = (f env μ).st env fun y μ => .nx ((env.set i (some (.own []))).set j (some (.w y))) μ := rfl
def frzK (i : Nat) (o : Option (Option Sl)) (env : Ev) (μ : Mu) : SR := match o with
  | some (some (.own xs)) => .nx (env.set i (some (.w (.d (.list xs))))) μ
  | _ => .bad
theorem q_frz {i : Nat} : s_frz i env μ = frzK i (env[i]?) env μ := rfl
theorem q_frzK {i : Nat} {xs : List PyData} : frzK i (some (some (.own xs))) env μ = .nx (env.set i (some (.w (.d (.list xs))))) μ := rfl
def appG (i : Nat) (f : EM) (o : Option (Option Sl)) (env : Ev) (μ : Mu) : SR := match o with
  | some (some (.own xs)) => (f env μ).st env (appK i xs env)
  | _ => .bad
theorem q_app {i : Nat} {f : EM} : s_app i f env μ = appG i f (env[i]?) env μ := rfl
theorem q_appG {i : Nat} {f : EM} {xs : List PyData} : appG i f (some (some (.own xs))) env μ = (f env μ).st env (appK i xs env) := rfl
theorem q_appK {i : Nat} {xs : List PyData} {d : PyData} : appK i xs env (.d d) μ = if xs.length < szl then .nx (env.set i (some (.own (xs ++ [d])))) μ else .bad := rfl
def ownK (i : Nat) (env : Ev) (xs : List W) (μ : Mu) : SR := match pures xs with
  | some ds => if ds.length ≤ szl then .nx (env.set i (some (.own ds))) μ else .bad
  | none => .bad
theorem q_own {i : Nat} {f : AM} : s_own i f env μ = (f env μ).st env (ownK i env) := rfl
theorem q_ownK {i : Nat} {ws : List W} : ownK i env ws μ = match pures ws with
  | some ds => if ds.length ≤ szl then .nx (env.set i (some (.own ds))) μ else .bad
  | none => .bad := rfl
def asgK (b : BM) (env : Ev) (x : W) (μ : Mu) : SR := match x with
  | .d d => match b d env with
    | some env => .nx env μ
    | none => .bad
  | _ => .bad
theorem q_asg {b : BM} {f : EM} : s_asg b f env μ = (f env μ).st env (asgK b env) := rfl
theorem q_asgK {b : BM} {d : PyData} {env' : Ev} (h : b d env = some env') : asgK b env (.d d) μ = .nx env' μ := by
  unfold asgK
  simp only [h]
theorem q_put {g : W → W → W → Mu → R Unit} {o i v : EM} : s_put g o i v env μ = ((v env μ).bind fun v μ => (o env μ).bind fun o μ => (i env μ).bind fun i μ => g o i v μ).st env fun _ μ => .nx env μ := rfl
theorem q_for {b : BM} {f : EM} {g : SM} : s_for b f g env μ = (f env μ).st env (forK b g env) := rfl
theorem q_forKL {b : BM} {g : SM} {xs : List PyData} : forK b g env (.d (.list xs)) μ = forL b g xs env μ := rfl
theorem q_forKT {b : BM} {g : SM} {xs : List PyData} : forK b g env (.d (.tuple xs)) μ = forL b g xs env μ := rfl
theorem q_forR {b : BM} {f : RM} {g : SM} : s_forR b f g env μ = (f env μ).st env fun x μ => forL b g (rangeD x.1 x.2) env μ := rfl
theorem q_forl {b : BM} {f : LM} {g : SM} : s_forL b f g env μ = (f env μ).st env fun ds μ => forL b g ds env μ := rfl
theorem q_fornil {b : BM} {g : SM} : forL b g [] env μ = .nx env μ := rfl
def loopK (b : BM) (g : SM) (ds : List PyData) (r : SR) : SR := match r with
  | .nx env μ => forL b g ds env μ
  | .ct env μ => forL b g ds env μ
  | .bk env μ => .nx env μ
  | r => r
theorem q_forcons {b : BM} {g : SM} {d : PyData} {ds : List PyData} {env1 : Ev} (h : b d env = some env1) : forL b g (d :: ds) env μ = loopK b g ds (g env1 μ) := by
  show (match b d env with | none => _ | some env => _) = _
  rw [h]
  unfold loopK
  first
    | rfl
    | (dsimp only; cases g env1 μ <;> rfl)
theorem q_lnx {b : BM} {g : SM} {ds : List PyData} : loopK b g ds (.nx env μ) = forL b g ds env μ := rfl
theorem q_lct {b : BM} {g : SM} {ds : List PyData} : loopK b g ds (.ct env μ) = forL b g ds env μ := rfl
theorem q_lbk {b : BM} {g : SM} {ds : List PyData} : loopK b g ds (.bk env μ) = .nx env μ := rfl
theorem q_lrt {b : BM} {g : SM} {ds : List PyData} {w : W} : loopK b g ds (.rt w μ) = .rt w μ := rfl
/-- a loop that keeps J, turn by turn -/
theorem for_inv {b : BM} {g : SM} (J : Nat → Ev → Mu → Prop) : ∀ (ds : List PyData) (n : Nat) (env : Ev) (μ : Mu),
    (∀ i d env μ, ds[i]? = some d → J (n + i) env μ → ∃ env1 env' μ', b d env = some env1 ∧ (g env1 μ = .nx env' μ' ∨ g env1 μ = .ct env' μ') ∧ J (n + i + 1) env' μ') → J n env μ →
    ∃ env' μ', forL b g ds env μ = .nx env' μ' ∧ J (n + ds.length) env' μ'
  | [], n, env, μ, _, h => ⟨env, μ, rfl, h⟩
  | d :: ds, n, env, μ, hs, h => by
    obtain ⟨env1, env', μ', hb, hg, hj⟩ := hs 0 d env μ rfl h
    have e : forL b g (d :: ds) env μ = forL b g ds env' μ' := by
      rw [q_forcons hb]
      rcases hg with hg | hg <;> rw [hg] <;> rfl
    obtain ⟨e2, m2, h1, h2⟩ := for_inv J ds (n + 1) env' μ' (fun i d env μ hi hJ => by
      obtain ⟨a1, a2, a3, x, y, z⟩ := hs (i + 1) d env μ (by simpa using hi) (by rw [show n + (i + 1) = n + 1 + i by omega]; exact hJ)
      exact ⟨a1, a2, a3, x, y, by rw [show n + 1 + i + 1 = n + (i + 1) + 1 by omega]; exact z⟩) hj
    exact ⟨e2, m2, by rw [e]; exact h1, by rw [show n + (d :: ds).length = n + 1 + ds.length by simp; omega]; exact h2⟩
/-- a comprehension whose parts are known -/
theorem lc_map {b : BM} {t : TM} {f : EM} {p : PyData → Bool} {h : PyData → PyData} : ∀ (ds acc : List PyData),
    (∀ d ∈ ds, ∃ env1, b d env = some env1 ∧ t env1 μ = .ok (p d) μ ∧ (p d = true → f env1 μ = .ok (.d (h d)) μ)) → acc.length + ds.length ≤ szl →
    lcL b t f ds acc env μ = .ok (acc ++ (ds.filter p).map h) μ
  | [], acc, _, _ => by simp [lcL]
  | d :: ds, acc, hs, hl => by
    obtain ⟨env1, hb, ht, hf⟩ := hs d (by simp)
    unfold lcL
    rw [hb]
    simp only [ht, R.nox, q_bind]
    have hl' : acc.length + (ds.length + 1) ≤ szl := by simpa using hl
    cases hp : p d with
    | true =>
      simp only [hf hp, if_true, q_bind, lcK]
      rw [if_pos (by omega), lc_map ds _ (fun d hd => hs d (List.mem_cons_of_mem _ hd)) (by simp; omega)]
      simp [List.filter_cons, hp]
    | false =>
      rw [if_neg (by simp), lc_map ds acc (fun d hd => hs d (List.mem_cons_of_mem _ hd)) (by omega)]
      simp [List.filter_cons, hp]
/-- operators on data -/
theorem o_add {a b : Int} : addW (.d (.int a)) (.d (.int b)) μ = .ok (.d (.int (a + b))) μ := rfl
theorem o_sub {a b : Int} : subW (.d (.int a)) (.d (.int b)) μ = .ok (.d (.int (a - b))) μ := rfl
theorem o_mul {a b : Int} (h : (-(2 ^ 64) < a ∧ a < 2 ^ 64) ∨ (-(2 ^ 64) < b ∧ b < 2 ^ 64)) : mulW (.d (.int a)) (.d (.int b)) μ = .ok (.d (.int (a * b))) μ := by
  show (if decide _ = true then _ else _) = _
  rw [if_pos (by simpa using h)]
theorem o_mod {a b : Int} (h : 0 < b) : modW (.d (.int a)) (.d (.int b)) μ = .ok (.d (.int (a % b))) μ := by
  show (if decide _ = true then _ else _) = _
  rw [if_pos (by simpa using h)]
theorem o_fdiv {a b : Int} (h : 0 < b ∧ b < 1073741824) : fdivW (.d (.int a)) (.d (.int b)) μ = .ok (.d (.int (a / b))) μ := by
  show (if decide _ = true then _ else _) = _
  rw [if_pos (by simpa using h)]
theorem o_pow {a b : Int} (h : 0 ≤ b ∧ b ≤ 1000000 ∧ a.natAbs < 2 ^ 64) : powW (.d (.int a)) (.d (.int b)) μ = .ok (.d (.int (a ^ b.toNat))) μ := by
  show (if decide _ = true then _ else _) = _
  rw [if_pos (by simpa using h)]
theorem o_neg {a : Int} : negW (.d (.int a)) μ = .ok (.d (.int (-a))) μ := rfl
theorem o_lt {a b : Int} : ltW (.d (.int a)) (.d (.int b)) μ = .ok (.d (.bool (decide (a < b)))) μ := rfl
theorem o_le {a b : Int} : leW (.d (.int a)) (.d (.int b)) μ = .ok (.d (.bool (decide (a ≤ b)))) μ := rfl
theorem o_gt {a b : Int} : gtW (.d (.int a)) (.d (.int b)) μ = .ok (.d (.bool (decide (b < a)))) μ := rfl
theorem o_ge {a b : Int} : geW (.d (.int a)) (.d (.int b)) μ = .ok (.d (.bool (decide (b ≤ a)))) μ := rfl
theorem o_int {i : Int} : intW [.d (.int i)] μ = .ok (.d (.int i)) μ := rfl
theorem o_intb {b : Bool} : intW [.d (.bool b)] μ = .ok (.d (.int (if b = true then 1 else 0))) μ := rfl
theorem o_lenL {xs : List PyData} : lenW [.d (.list xs)] μ = .ok (.d (.int xs.length)) μ := rfl
theorem o_lenT {xs : List PyData} : lenW [.d (.tuple xs)] μ = .ok (.d (.int xs.length)) μ := rfl
theorem o_is {x : PyData} : isN false (.d x) (.d .none) μ = .ok (.d (.bool (noneD x))) μ := rfl
theorem o_isnot {x : PyData} : isN true (.d x) (.d .none) μ = .ok (.d (.bool (!noneD x))) μ := rfl
theorem o_eqi {a b : Int} : eqW (.d (.int a)) (.d (.int b)) μ = .ok (.d (.bool (decide (a = b)))) μ := rfl
theorem o_nei {a b : Int} : neW (.d (.int a)) (.d (.int b)) μ = .ok (.d (.bool (!decide (a = b)))) μ := rfl
theorem o_eqs {a b : Str} : eqW (.d (.str a)) (.d (.str b)) μ = .ok (.d (.bool (decide (a = b)))) μ := rfl
theorem o_nes {a b : Str} : neW (.d (.str a)) (.d (.str b)) μ = .ok (.d (.bool (!decide (a = b)))) μ := rfl
theorem o_tupL {xs : List PyData} : tupleW [.d (.list xs)] μ = .ok (.d (.tuple xs)) μ := rfl
theorem o_repr {x : PyData} {t : Str} (h : reprD x = some t) : reprW [.d x] μ = .ok (.d (.str t)) μ := by
  unfold reprW
  simp only [h]
theorem o_ix {x : PyData} {xs : List PyData} {i : Int} {d : PyData} (h : seqD x = some xs) (h2 : atI xs i = some d) : ixW (.d x) (.d (.int i)) μ = .ok (.d d) μ := by
  unfold ixW
  simp only [h, h2]
theorem o_mkL {ws : List W} {ds : List PyData} (h : pures ws = some ds) (h2 : ds.length ≤ szl) : mkL ws μ = .ok (.d (.list ds)) μ := by
  unfold mkL
  simp only [h, if_pos h2]
theorem o_mkT {ws : List W} {ds : List PyData} (h : pures ws = some ds) (h2 : ds.length ≤ szl) : mkT ws μ = .ok (.d (.tuple ds)) μ := by
  unfold mkT
  simp only [h, if_pos h2]
theorem o_mkL0 : mkL [] μ = .ok (.d (.list [])) μ := rfl
theorem o_mkT0 : mkT [] μ = .ok (.d (.tuple [])) μ := rfl
theorem o_mkL1 {a0 : PyData} : mkL [.d a0] μ = .ok (.d (.list [a0])) μ := rfl
theorem o_mkT1 {a0 : PyData} : mkT [.d a0] μ = .ok (.d (.tuple [a0])) μ := rfl
theorem o_mkL2 {a0 a1 : PyData} : mkL [.d a0, .d a1] μ = .ok (.d (.list [a0, a1])) μ := rfl
theorem o_mkT2 {a0 a1 : PyData} : mkT [.d a0, .d a1] μ = .ok (.d (.tuple [a0, a1])) μ := rfl
theorem o_mkL3 {a0 a1 a2 : PyData} : mkL [.d a0, .d a1, .d a2] μ = .ok (.d (.list [a0, a1, a2])) μ := rfl
theorem o_mkT3 {a0 a1 a2 : PyData} : mkT [.d a0, .d a1, .d a2] μ = .ok (.d (.tuple [a0, a1, a2])) μ := rfl
theorem o_mkL4 {a0 a1 a2 a3 : PyData} : mkL [.d a0, .d a1, .d a2, .d a3] μ = .ok (.d (.list [a0, a1, a2, a3])) μ := rfl
theorem o_mkT4 {a0 a1 a2 a3 : PyData} : mkT [.d a0, .d a1, .d a2, .d a3] μ = .ok (.d (.tuple [a0, a1, a2, a3])) μ := rfl
theorem o_mkL5 {a0 a1 a2 a3 a4 : PyData} : mkL [.d a0, .d a1, .d a2, .d a3, .d a4] μ = .ok (.d (.list [a0, a1, a2, a3, a4])) μ := rfl
theorem o_mkT5 {a0 a1 a2 a3 a4 : PyData} : mkT [.d a0, .d a1, .d a2, .d a3, .d a4] μ = .ok (.d (.tuple [a0, a1, a2, a3, a4])) μ := rfl
theorem o_mkL6 {a0 a1 a2 a3 a4 a5 : PyData} : mkL [.d a0, .d a1, .d a2, .d a3, .d a4, .d a5] μ = .ok (.d (.list [a0, a1, a2, a3, a4, a5])) μ := rfl
theorem o_mkT6 {a0 a1 a2 a3 a4 a5 : PyData} : mkT [.d a0, .d a1, .d a2, .d a3, .d a4, .d a5] μ = .ok (.d (.tuple [a0, a1, a2, a3, a4, a5])) μ := rfl
theorem o_mulr {a b : Int} (h : -(2 ^ 64) < b ∧ b < 2 ^ 64) : mulW (.d (.int a)) (.d (.int b)) μ = .ok (.d (.int (a * b))) μ := o_mul (.inr h)
theorem o_mull {a b : Int} (h : -(2 ^ 64) < a ∧ a < 2 ^ 64) : mulW (.d (.int a)) (.d (.int b)) μ = .ok (.d (.int (a * b))) μ := o_mul (.inl h)
theorem o_mulm {x n b : Int} (h : 0 < n ∧ n < 2 ^ 64) : mulW (.d (.int (x % n))) (.d (.int b)) μ = .ok (.d (.int (x % n * b))) μ := o_mul (.inl ⟨by have := Int.emod_nonneg x (b := n) (by omega); omega, by have := Int.emod_lt_of_pos x h.1; omega⟩)
theorem ifok {α : Type} {c : Prop} [Decidable c] {x y : α} : (if c then R.ok x μ else R.ok y μ) = R.ok (if c then x else y) μ := by split <;> rfl
theorem modlt {x b : Int} (h : 0 < b) : 0 ≤ x % b ∧ x % b < b := ⟨Int.emod_nonneg _ (by omega), Int.emod_lt_of_pos _ h⟩
theorem o_r1 {n : Int} (h : -(2 ^ 62) ≤ n ∧ n < 2 ^ 62) : asR1 [.d (.int n)] μ = .ok (0, n) μ := by
  show (if _ then _ else _) = _
  rw [if_pos h]
theorem o_r2 {a b : Int} (h : (-(2 ^ 62) ≤ a ∧ a < 2 ^ 62) ∧ -(2 ^ 62) ≤ b ∧ b < 2 ^ 62) : asR2 [.d (.int a), .d (.int b)] μ = .ok (a, b) μ := by
  show (if _ then _ else _) = _
  rw [if_pos (by omega)]
def whK (t : TM) (g : SM) (n : Nat) (r : SR) : SR := match r with
  | .nx env μ => s_while t g n env μ
  | .ct env μ => s_while t g n env μ
  | .bk env μ => .nx env μ
  | r => r
theorem while_eq {t : TM} {g : SM} {n : Nat} : s_while t g (n + 1) env μ = (t env μ).st env fun b μ => if b = true then whK t g n (g env μ) else .nx env μ := by
  show (t env μ).st env _ = _
  congr 1
theorem q_wnx {t : TM} {g : SM} {n : Nat} : whK t g n (.nx env μ) = s_while t g n env μ := rfl
theorem q_wct {t : TM} {g : SM} {n : Nat} : whK t g n (.ct env μ) = s_while t g n env μ := rfl
theorem q_wbk {t : TM} {g : SM} {n : Nat} : whK t g n (.bk env μ) = .nx env μ := rfl
theorem q_wrt {t : TM} {g : SM} {n : Nat} {w : W} : whK t g n (.rt w μ) = .rt w μ := rfl
end
end Zed

/-! lists of zis as data; how long a written value is -/
namespace Zed
open PySem PySem.Spec PyProof.Rows L2
mutual
/-- no written value is longer -/
def lenD : PyData → Nat
  | .none => 4
  | .bool _ => 5
  | .int _ => 1921
  | .str x => (reprText x).length
  | .list xs => lenDs xs + 2
  | .tuple xs => lenDs xs + 3
  | .dict _ => 0
def lenDs : List PyData → Nat
  | [] => 0
  | x :: xs => lenD x + 2 + lenDs xs
end
theorem textFrom_le : ∀ (ts : List Str) (k : Nat) (acc : Str), (textFrom k acc ts).length ≤ acc.length + piled ts
  | [], k, acc => by show acc.length ≤ _; omega
  | t :: ts, k, acc => by
    show (textFrom (k + 1) _ ts).length ≤ _
    refine Nat.le_trans (textFrom_le ts _ _) ?_
    rw [piled_cons, strLen_append, strLen_append]
    have : ((if k > 0 then ", " else "" : String) : Str).length ≤ 2 := by split <;> decide
    omega
theorem join_le (ts : List Str) : (Str.join ", " ts).length ≤ piled ts := by
  by_cases h : ts = []
  · subst h; decide
  · have := join_length_add ts h
    omega
mutual
theorem shown_le : ∀ d : PyData, d.showable = true → d.hasDict = false → d.shown.length ≤ lenD d
  | .none, _, _ => by simp only [PyData.shown, lenD]; decide
  | .bool b, _, _ => by cases b <;> simp only [PyData.shown, lenD] <;> decide
  | .int i, h, _ => by
    simp only [PyData.shown, lenD]
    exact int_text_len_1921 (by simpa [PyData.showable] using h)
  | .str x, _, _ => by simp only [PyData.shown, lenD]; omega
  | .list xs, h, k => by
    have h1 := shownAll_le xs (by simpa [PyData.showable] using h) (by simpa [PyData.hasDict] using k)
    simp only [PyData.shown, lenD, listText]
    rw [strLen_append]
    have h2 := textFrom_le (PyData.shownAll xs) 0 "["
    have h3 : (("[" : String) : Str).length = 1 := rfl
    have h4 : (("]" : String) : Str).length = 1 := rfl
    omega
  | .tuple xs, h, k => by
    have h1 := shownAll_le xs (by simpa [PyData.showable] using h) (by simpa [PyData.hasDict] using k)
    simp only [PyData.shown, lenD, tupleText]
    rw [strLen_append, strLen_append]
    have h2 := join_le (PyData.shownAll xs)
    have h3 : (("(" : String) : Str).length = 1 := rfl
    have h4 : ((if (PyData.shownAll xs).length == 1 then ",)" else ")" : String) : Str).length ≤ 2 := by split <;> decide
    omega
  | .dict _, _, k => by simp [PyData.hasDict] at k
theorem shownAll_le : ∀ ds : List PyData, PyData.showableAll ds = true → PyData.hasDictAll ds = false → piled (PyData.shownAll ds) ≤ lenDs ds
  | [], _, _ => by simp [PyData.shownAll, piled, lenDs]
  | d :: ds, h, k => by
    simp only [PyData.showableAll, Bool.and_eq_true] at h
    simp only [PyData.hasDictAll, Bool.or_eq_false_iff] at k
    have h1 := shown_le d h.1 k.1
    have h2 := shownAll_le ds h.2 k.2
    simp only [PyData.shownAll, lenDs, piled_cons]
    omega
end
theorem reprD_ok {d : PyData} (h1 : d.showable = true) (h2 : d.hasDict = false) (h3 : d.depth ≤ 60) (h4 : lenD d ≤ szl) : reprD d = some d.shown := by
  unfold reprD
  rw [if_pos]
  simp only [h1, h2, Bool.true_and, Bool.and_eq_true, decide_eq_true_eq, Bool.not_false]
  exact ⟨h3, Nat.le_trans (shown_le d h1 h2) h4⟩
/-! ### lists of zis -/
abbrev zis (xs : List Int) : List PyData := xs.map PyData.int
theorem canLay_ints : ∀ xs : List Int, PyData.canLayAll0 (zis xs) = true
  | [] => rfl
  | x :: xs => by simp [zis, PyData.canLayAll0, PyData.canLay0]; exact canLay_ints xs
theorem depth_ints : ∀ xs : List Int, PyData.depthAll (zis xs) = 0
  | [] => rfl
  | x :: xs => by simp [zis, PyData.depthAll, PyData.depth]; exact depth_ints xs
theorem shaped_intsL (xs : List Int) : SeqAt.shaped (.list (zis xs)) = true := by
  simp [SeqAt.shaped, PyData.canLay0, PyData.depth, canLay_ints, depth_ints]
theorem shaped_intsT (xs : List Int) : SeqAt.shaped (.tuple (zis xs)) = true := by
  simp [SeqAt.shaped, PyData.canLay0, PyData.depth, canLay_ints, depth_ints]
theorem eqv_ints : ∀ xs ys : List Int, PyData.eqvAll (zis xs) (zis ys) = decide (xs = ys)
  | [], [] => rfl
  | [], _ :: _ => by simp [zis, PyData.eqvAll]
  | _ :: _, [] => by simp [zis, PyData.eqvAll]
  | x :: xs, y :: ys => by
    have := eqv_ints xs ys
    simp only [zis] at this
    simp only [zis, List.map_cons, PyData.eqvAll, PyData.eqv, this]
    by_cases h : x = y <;> simp [h]
theorem eqD_L (xs ys : List Int) : eqD (.list (zis xs)) (.list (zis ys)) = some (decide (xs = ys)) := by
  show (if _ then some (PyData.eqvAll _ _) else none) = _
  rw [shaped_intsL, shaped_intsL, eqv_ints]
  rfl
theorem eqD_T (xs ys : List Int) : eqD (.tuple (zis xs)) (.tuple (zis ys)) = some (decide (xs = ys)) := by
  show (if _ then some (PyData.eqvAll _ _) else none) = _
  rw [shaped_intsT, shaped_intsT, eqv_ints]
  rfl
section
variable {μ : Mu}
theorem o_eqL {xs ys : List Int} : eqW (.d (.list (zis xs))) (.d (.list (zis ys))) μ = .ok (.d (.bool (decide (xs = ys)))) μ := by
  unfold eqW
  simp only [eqD_L]
theorem o_neL {xs ys : List Int} : neW (.d (.list (zis xs))) (.d (.list (zis ys))) μ = .ok (.d (.bool (!decide (xs = ys)))) μ := by
  unfold neW
  simp only [eqD_L]
theorem o_eqT {xs ys : List Int} : eqW (.d (.tuple (zis xs))) (.d (.tuple (zis ys))) μ = .ok (.d (.bool (decide (xs = ys)))) μ := by
  unfold eqW
  simp only [eqD_T]
theorem o_neT {xs ys : List Int} : neW (.d (.tuple (zis xs))) (.d (.tuple (zis ys))) μ = .ok (.d (.bool (!decide (xs = ys)))) μ := by
  unfold neW
  simp only [eqD_T]
theorem o_neL0 {xs : List Int} : neW (.d (.list (zis xs))) (.d (.list [])) μ = .ok (.d (.bool (!decide (xs = [])))) μ := o_neL (ys := [])
theorem o_eqL0 {xs : List Int} : eqW (.d (.list (zis xs))) (.d (.list [])) μ = .ok (.d (.bool (decide (xs = [])))) μ := o_eqL (ys := [])
theorem o_neT0 {xs : List Int} : neW (.d (.tuple (zis xs))) (.d (.tuple [])) μ = .ok (.d (.bool (!decide (xs = [])))) μ := o_neT (ys := [])
theorem o_eqT0 {xs : List Int} : eqW (.d (.tuple (zis xs))) (.d (.tuple [])) μ = .ok (.d (.bool (decide (xs = [])))) μ := o_eqT (ys := [])
theorem o_eqL1 {xs : List Int} {i : Int} : eqW (.d (.list (zis xs))) (.d (.list [.int i])) μ = .ok (.d (.bool (decide (xs = [i])))) μ := o_eqL (ys := [i])
theorem flat_ints (xs : List Int) : (zis xs).all flatD = true := by simp [zis, flatD]
theorem inD_ints (i : Int) (xs : List Int) : inD (.int i) (zis xs) = decide (i ∈ xs) := by
  unfold inD zis
  rw [List.any_map]
  by_cases h : i ∈ xs
  · rw [decide_eq_true h]
    exact List.any_eq_true.mpr ⟨i, h, by simp [PyData.eqv]⟩
  · rw [decide_eq_false h]
    refine List.any_eq_false.mpr fun x hx => ?_
    simp only [Function.comp, PyData.eqv, beq_iff_eq]
    rintro rfl
    exact h hx
theorem o_inT {i : Int} {xs : List Int} : inW false (.d (.int i)) (.d (.tuple (zis xs))) μ = .ok (.d (.bool (decide (i ∈ xs)))) μ := by
  unfold inW
  simp only [seqD, flat_ints, inD_ints]
  rfl
theorem o_inL {i : Int} {xs : List Int} : inW false (.d (.int i)) (.d (.list (zis xs))) μ = .ok (.d (.bool (decide (i ∈ xs)))) μ := by
  unfold inW
  simp only [seqD, flat_ints, inD_ints]
  rfl
end
theorem atI_nat {α : Type} {xs : List α} {i : Int} {x : α} (h0 : 0 ≤ i) (h : xs[i.toNat]? = some x) : atI xs i = some x := by
  have hl := (List.getElem?_eq_some_iff.mp h).1
  unfold atI ixN
  rw [if_pos h0, if_pos (by omega)]
  exact h
theorem atI_ex {α : Type} {xs : List α} {i : Int} (h0 : 0 ≤ i) (h1 : i < xs.length) : ∃ x ∈ xs, atI xs i = some x := by
  have hl : i.toNat < xs.length := by omega
  exact ⟨xs[i.toNat], List.getElem_mem hl, atI_nat h0 (List.getElem?_eq_getElem hl)⟩
/-- the int that stands at i -/
theorem atI_ints {xs : List Int} {i : Int} (h0 : 0 ≤ i) (h1 : i < xs.length) : ∃ x ∈ xs, atI (zis xs) i = some (.int x) := by
  have hl : i.toNat < xs.length := by omega
  exact ⟨xs[i.toNat], List.getElem_mem hl, atI_nat h0 (by rw [List.getElem?_map, List.getElem?_eq_getElem hl]; rfl)⟩
theorem atI_last {α : Type} {xs : List α} (h : xs ≠ []) : atI xs (-1) = some (xs.getLast h) := by
  have hl : 0 < xs.length := List.length_pos_iff.mpr h
  unfold atI ixN
  rw [if_neg (by decide), if_pos (by omega)]
  show xs[(-1 + (xs.length : Int)).toNat]? = _
  rw [show (-1 + (xs.length : Int)).toNat = xs.length - 1 by omega, ← List.getLast?_eq_getElem?, List.getLast?_eq_some_getLast h]
theorem up_last {ts : List Int} (h : ts.Pairwise (· < ·)) (hn : ts ≠ []) : ∀ t ∈ ts, t ≤ ts.getLast hn := by
  induction ts with
  | nil => exact absurd rfl hn
  | cons u us ih =>
    intro t ht
    by_cases hu : us = []
    · subst hu; simp_all
    · rw [List.getLast_cons hu]
      have ih := ih (List.pairwise_cons.mp h).2 hu
      rcases List.mem_cons.mp ht with rfl | ht
      · have := (List.pairwise_cons.mp h).1 _ (List.getLast_mem hu); omega
      · exact ih t ht
theorem up_head {t0 : Int} {ts : List Int} (h : (t0 :: ts).Pairwise (· < ·)) : ∀ t ∈ t0 :: ts, t0 ≤ t := by
  intro t ht
  rcases List.mem_cons.mp ht with rfl | ht
  · omega
  · have := (List.pairwise_cons.mp h).1 t ht; omega
end Zed

namespace K17
open PySem PySem.Spec PyProof.Rows L2 Zed
/-! ### the text -/
def top (i : Nat) : Stmt := PySem.Challenge.pw_endclimbs_k17_whole_rooms_by_counting.main.body.getD i (.Pass ⟨0, 0, 0, 0⟩)
abbrev st_require : Stmt := top 4
abbrev st_is_integer : Stmt := top 7
abbrev st_is_end : Stmt := top 8
abbrev st_is_less : Stmt := top 9
abbrev st_first_bad_mark : Stmt := top 10
abbrev st_is_marks : Stmt := top 11
abbrev st_many_at_most : Stmt := top 13
abbrev st_mark_above : Stmt := top 14
abbrev st_case_index : Stmt := top 15
abbrev st_gap_of : Stmt := top 16
abbrev st_upper_mark : Stmt := top 17
abbrev st_room_of : Stmt := top 18
abbrev st_case_of : Stmt := top 19
abbrev st__law_feed : Stmt := top 21
abbrev st__law_draw : Stmt := top 22
abbrev st__law_pick : Stmt := top 23
abbrev st__law_tops : Stmt := top 24
abbrev st__law_counted : Stmt := top 25
abbrev st__law_met : Stmt := top 26
abbrev st__law_are_right : Stmt := top 27
abbrev st_law : Stmt := top 28
theorem sc_require : FnScope ["holds", "word"] ["holds", "word"] (defScope st_require) := ⟨rfl, rfl, rfl, by decide +kernel, rfl, by decide +kernel, by decide +kernel⟩
theorem sc_is_integer : FnScope ["thing"] ["thing"] (defScope st_is_integer) := ⟨rfl, rfl, rfl, by decide +kernel, rfl, by decide +kernel, by decide +kernel⟩
theorem sc_is_end : FnScope ["thing"] ["thing"] (defScope st_is_end) := ⟨rfl, rfl, rfl, by decide +kernel, rfl, by decide +kernel, by decide +kernel⟩
theorem sc_is_less : FnScope ["end", "other"] ["end", "other"] (defScope st_is_less) := ⟨rfl, rfl, rfl, by decide +kernel, rfl, by decide +kernel, by decide +kernel⟩
theorem sc_first_bad_mark : FnScope ["marks", "k", "mark"] ["marks"] (defScope st_first_bad_mark) := ⟨rfl, rfl, rfl, by decide +kernel, rfl, by decide +kernel, by decide +kernel⟩
theorem sc_is_marks : FnScope ["thing"] ["thing"] (defScope st_is_marks) := ⟨rfl, rfl, rfl, by decide +kernel, rfl, by decide +kernel, by decide +kernel⟩
theorem sc_many_at_most : FnScope ["marks", "x", "mark"] ["marks", "x"] (defScope st_many_at_most) := ⟨rfl, rfl, rfl, by decide +kernel, rfl, by decide +kernel, by decide +kernel⟩
theorem sc_mark_above : FnScope ["marks", "x", "mark"] ["marks", "x"] (defScope st_mark_above) := ⟨rfl, rfl, rfl, by decide +kernel, rfl, by decide +kernel, by decide +kernel⟩
theorem sc_case_index : FnScope ["marks", "x", "y", "upper"] ["marks", "x", "y"] (defScope st_case_index) := ⟨rfl, rfl, rfl, by decide +kernel, rfl, by decide +kernel, by decide +kernel⟩
theorem sc_gap_of : FnScope ["marks", "x"] ["marks", "x"] (defScope st_gap_of) := ⟨rfl, rfl, rfl, by decide +kernel, rfl, by decide +kernel, by decide +kernel⟩
theorem sc_upper_mark : FnScope ["marks", "x"] ["marks", "x"] (defScope st_upper_mark) := ⟨rfl, rfl, rfl, by decide +kernel, rfl, by decide +kernel, by decide +kernel⟩
theorem sc_room_of : FnScope ["marks", "x", "upper"] ["marks", "x"] (defScope st_room_of) := ⟨rfl, rfl, rfl, by decide +kernel, rfl, by decide +kernel, by decide +kernel⟩
theorem sc_case_of : FnScope ["marks", "x", "y"] ["marks", "x", "y"] (defScope st_case_of) := ⟨rfl, rfl, rfl, by decide +kernel, rfl, by decide +kernel, by decide +kernel⟩
theorem sc__law_feed : FnScope ["script", "cell"] ["script"] (defScope st__law_feed) := ⟨rfl, rfl, rfl, by decide +kernel, rfl, by decide +kernel, by decide +kernel⟩
theorem sc__law_draw : FnScope ["feed", "size", "digit", "cells", "spot", "cell", "mixed"] ["feed", "size"] (defScope st__law_draw) := ⟨rfl, rfl, rfl, by decide +kernel, rfl, by decide +kernel, by decide +kernel⟩
theorem sc__law_pick : FnScope ["feed", "some"] ["feed", "some"] (defScope st__law_pick) := ⟨rfl, rfl, rfl, by decide +kernel, rfl, by decide +kernel, by decide +kernel⟩
theorem sc__law_tops : FnScope ["feed", "most", "wide", "found", "at", "lap"] ["feed", "most", "wide"] (defScope st__law_tops) := ⟨rfl, rfl, rfl, by decide +kernel, rfl, by decide +kernel, by decide +kernel⟩
theorem sc__law_counted : FnScope ["tops", "at", "far", "many", "spot"] ["tops", "at", "far"] (defScope st__law_counted) := ⟨rfl, rfl, rfl, by decide +kernel, rfl, by decide +kernel, by decide +kernel⟩
theorem sc__law_met : FnScope ["tops", "at", "late", "met", "spot"] ["tops", "at", "late"] (defScope st__law_met) := ⟨rfl, rfl, rfl, by decide +kernel, rfl, by decide +kernel, by decide +kernel⟩
theorem sc__law_are_right : FnScope ["tops", "by", "low", "high", "late_tops", "gap_now", "at", "many", "told", "late", "top"] ["tops", "by", "low", "high"] (defScope st__law_are_right) := ⟨rfl, rfl, rfl, by decide +kernel, rfl, by decide +kernel, by decide +kernel⟩
theorem sc_law : FnScope ["script", "feed", "tops", "by", "low", "high"] ["script"] (defScope st_law) := ⟨rfl, rfl, rfl, by decide +kernel, rfl, by decide +kernel, by decide +kernel⟩
/-! ### what the defs do, on data -/
def d_CASES : PyData := (.tuple [(.str "near"), (.str "at"), (.str "far")])
def g_require : SM :=
  (s_if (t_not (t_v (e_v 0))) s_bad s_nil)
def F_require : List W → Mu → R W := runF g_require 2
def g_is_integer : SM :=
  (s_ret (e_and (e_fn (isiW "int") (a_cons (e_v 0) a_nil)) (e_not (e_fn (isiW "bool") (a_cons (e_v 0) a_nil)))))
def F_is_integer : List W → Mu → R W := runF g_is_integer 1
def g_is_end : SM :=
  (s_ret (e_or (e_op (isN false) (e_v 0) (e_c .none)) (e_fn F_is_integer (a_cons (e_v 0) a_nil))))
def F_is_end : List W → Mu → R W := runF g_is_end 1
def g_is_less : SM :=
  (s_ret (e_and (e_op (isN true) (e_v 0) (e_c .none)) (e_or (e_op (isN false) (e_v 1) (e_c .none)) (e_op ltW (e_v 0) (e_v 1)))))
def F_is_less : List W → Mu → R W := runF g_is_less 2
def g_first_bad_mark : SM :=
  (s_seq (s_forL (b_tup 2 (b_cons (b_n 1) (b_cons (b_n 2) b_nil))) (l_e (a_cons (e_v 0) a_nil)) (s_if (t_or (t_not (t_v (e_fn F_is_integer (a_cons (e_v 2) a_nil)))) (t_and (t_v (e_op gtW (e_v 1) (e_c (.int 0)))) (t_v (e_op leW (e_v 2) (e_op ixW (e_v 0) (e_op subW (e_v 1) (e_c (.int 1)))))))) (s_ret (e_v 1)) s_nil)) (s_ret (e_c .none)))
def F_first_bad_mark : List W → Mu → R W := runF g_first_bad_mark 3
def g_is_marks : SM :=
  (s_ret (e_and (e_fn (isiW "tuple") (a_cons (e_v 0) a_nil)) (e_op (isN false) (e_fn F_first_bad_mark (a_cons (e_v 0) a_nil)) (e_c .none))))
def F_is_marks : List W → Mu → R W := runF g_is_marks 1
def g_many_at_most : SM :=
  (s_ret (e_fn lenW (a_cons (e_lc [2] (b_n 2) (t_v (e_op leW (e_v 2) (e_v 1))) (e_v 2) (l_s (e_v 0))) a_nil)))
def F_many_at_most : List W → Mu → R W := runF g_many_at_most 3
def g_mark_above : SM :=
  (s_seq (s_for (b_n 2) (e_v 0) (s_if (t_v (e_op gtW (e_v 2) (e_v 1))) (s_ret (e_v 2)) s_nil)) (s_ret (e_c .none)))
def F_mark_above : List W → Mu → R W := runF g_mark_above 3
def g_case_index : SM :=
  (s_seq (s_set 3 (e_fn F_mark_above (a_cons (e_v 0) (a_cons (e_v 1) a_nil)))) (s_seq (s_if (t_v (e_op (isN false) (e_v 3) (e_c .none))) (s_ret (e_if (t_v (e_op (isN false) (e_v 2) (e_c .none))) (e_c (.int 2)) (e_c (.int 0)))) s_nil) (s_seq (s_if (t_v (e_op eqW (e_v 2) (e_v 3))) (s_ret (e_c (.int 1))) s_nil) (s_ret (e_if (t_v (e_fn F_is_less (a_cons (e_v 2) (a_cons (e_v 3) a_nil)))) (e_c (.int 0)) (e_c (.int 2)))))))
def F_case_index : List W → Mu → R W := runF g_case_index 4
def g_gap_of : SM :=
  (s_seq (s_ex (e_fn F_require (a_cons (e_fn F_is_marks (a_cons (e_v 0) a_nil)) (a_cons (e_c (.str "marks")) a_nil)))) (s_seq (s_ex (e_fn F_require (a_cons (e_fn F_is_integer (a_cons (e_v 1) a_nil)) (a_cons (e_c (.str "x")) a_nil)))) (s_ret (e_fn F_many_at_most (a_cons (e_v 0) (a_cons (e_v 1) a_nil))))))
def F_gap_of : List W → Mu → R W := runF g_gap_of 2
def g_upper_mark : SM :=
  (s_seq (s_ex (e_fn F_require (a_cons (e_fn F_is_marks (a_cons (e_v 0) a_nil)) (a_cons (e_c (.str "marks")) a_nil)))) (s_seq (s_ex (e_fn F_require (a_cons (e_fn F_is_integer (a_cons (e_v 1) a_nil)) (a_cons (e_c (.str "x")) a_nil)))) (s_ret (e_fn F_mark_above (a_cons (e_v 0) (a_cons (e_v 1) a_nil))))))
def F_upper_mark : List W → Mu → R W := runF g_upper_mark 2
def g_room_of : SM :=
  (s_seq (s_set 2 (e_fn F_upper_mark (a_cons (e_v 0) (a_cons (e_v 1) a_nil)))) (s_ret (e_if (t_v (e_op (isN false) (e_v 2) (e_c .none))) (e_c .none) (e_op subW (e_op subW (e_v 2) (e_v 1)) (e_c (.int 1))))))
def F_room_of : List W → Mu → R W := runF g_room_of 3
def g_case_of : SM :=
  (s_seq (s_ex (e_fn F_require (a_cons (e_fn F_is_marks (a_cons (e_v 0) a_nil)) (a_cons (e_c (.str "marks")) a_nil)))) (s_seq (s_ex (e_fn F_require (a_cons (e_fn F_is_integer (a_cons (e_v 1) a_nil)) (a_cons (e_c (.str "x")) a_nil)))) (s_seq (s_ex (e_fn F_require (a_cons (e_fn F_is_end (a_cons (e_v 2) a_nil)) (a_cons (e_c (.str "y")) a_nil)))) (s_ret (e_if (t_v (e_fn F_is_less (a_cons (e_v 1) (a_cons (e_v 2) a_nil)))) (e_op ixW (e_c d_CASES) (e_fn F_case_index (a_cons (e_v 0) (a_cons (e_v 1) (a_cons (e_v 2) a_nil))))) (e_c .none))))))
def F_case_of : List W → Mu → R W := runF g_case_of 3
def g__law_feed : SM :=
  (s_ret (e_dictM [.inr "cells", .inr "spot", .inr "left", .inr "turns"] (a_of [(e_lc [1] (b_n 1) tY (e_fn intW (a_cons (e_v 1) a_nil)) (l_s (e_sl (e_v 0) p_none (p_some (e_c (.int 63)))))), (e_c (.int 0)), (e_c (.int 0)), (e_c (.int 0))])))
def F__law_feed : List W → Mu → R W := runF g__law_feed 2
def g__law_draw : SM :=
  (s_seq (s_put putDW (e_v 0) (e_c (.str "turns")) (e_op addW (e_op getW (e_v 0) (e_c (.str "turns"))) (e_c (.int 1)))) (s_seq (s_if (t_v (e_op gtW (e_op getW (e_v 0) (e_c (.str "left"))) (e_c (.int 0)))) (s_seq (s_set 2 (e_op modW (e_fn intW (a_cons (e_op getW (e_v 0) (e_c (.str "left"))) a_nil)) (e_v 1))) (s_seq (s_put putDW (e_v 0) (e_c (.str "left")) (e_op fdivW (e_op getW (e_v 0) (e_c (.str "left"))) (e_v 1))) (s_ret (e_v 2)))) s_nil) (s_seq (s_par 3 4 (a_cons (e_op getW (e_v 0) (e_c (.str "cells"))) (a_cons (e_op getW (e_v 0) (e_c (.str "spot"))) a_nil))) (s_seq (s_put putDW (e_v 0) (e_c (.str "spot")) (e_op addW (e_v 4) (e_c (.int 1)))) (s_seq (s_set 5 (e_if (t_v (e_op neW (e_v 3) (e_lst a_nil))) (e_op ixW (e_v 3) (e_op modW (e_fn intW (a_cons (e_v 4) a_nil)) (e_fn lenW (a_cons (e_v 3) a_nil)))) (e_c (.int 96017)))) (s_seq (s_if (t_and (t_v (e_op geW (e_v 5) (e_op powW (e_c (.int 10)) (e_c (.int 18))))) (t_v (e_op ltW (e_v 4) (e_fn lenW (a_cons (e_v 3) a_nil))))) (s_seq (s_put putDW (e_v 0) (e_c (.str "left")) (e_op fdivW (e_v 5) (e_v 1))) (s_ret (e_op modW (e_fn intW (a_cons (e_v 5) a_nil)) (e_v 1)))) s_nil) (s_seq (s_set 6 (e_op modW (e_fn intW (a_cons (e_op addW (e_op addW (e_op mulW (e_op modW (e_fn intW (a_cons (e_v 5) a_nil)) (e_c (.int 1000000409))) (e_c (.int 2311))) (e_op mulW (e_c (.int 92821)) (e_op getW (e_v 0) (e_c (.str "turns"))))) (e_c (.int 95))) a_nil)) (e_c (.int 2147483629)))) (s_seq (s_set 6 (e_op modW (e_fn intW (a_cons (e_op addW (e_op addW (e_op mulW (e_v 6) (e_v 6)) (e_op mulW (e_c (.int 6311)) (e_op getW (e_v 0) (e_c (.str "turns"))))) (e_c (.int 89))) a_nil)) (e_c (.int 2147483587)))) (s_ret (e_op modW (e_fn intW (a_cons (e_op fdivW (e_op modW (e_fn intW (a_cons (e_op addW (e_op mulW (e_v 6) (e_v 6)) (e_op mulW (e_c (.int 389)) (e_v 6))) a_nil)) (e_c (.int 2147483563))) (e_c (.int 64))) a_nil)) (e_v 1)))))))))))
def F__law_draw : List W → Mu → R W := runF g__law_draw 7
def g__law_pick : SM :=
  (s_ret (e_op ixW (e_v 1) (e_fn F__law_draw (a_cons (e_v 0) (a_cons (e_fn lenW (a_cons (e_v 1) a_nil)) a_nil)))))
def F__law_pick : List W → Mu → R W := runF g__law_pick 2
def g__law_tops : SM :=
  (s_seq (s_parO 3 4 (e_op subW (e_fn F__law_draw (a_cons (e_v 0) (a_cons (e_c (.int 9)) a_nil))) (e_c (.int 4)))) (s_seq (s_forR (b_n 5) (f_r1 (a_cons (e_fn F__law_draw (a_cons (e_v 0) (a_cons (e_op addW (e_v 1) (e_c (.int 1))) a_nil))) a_nil)) (s_seq (s_app 3 (e_v 4)) (s_set 4 (e_op addW (e_op addW (e_v 4) (e_c (.int 1))) (e_fn F__law_draw (a_cons (e_v 0) (a_cons (e_v 2) a_nil))))))) (s_seq (s_frz 3) (s_ret (e_fn tupleW (a_cons (e_v 3) a_nil))))))
def F__law_tops : List W → Mu → R W := runF g__law_tops 6
def g__law_counted : SM :=
  (s_seq (s_par 3 4 (a_cons (e_c (.int 0)) (a_cons (e_op addW (e_v 1) (e_c (.int 1))) a_nil))) (s_seq (s_while (t_v (e_op leW (e_v 4) (e_v 2))) (s_seq (s_if (t_v (e_op (inW false) (e_v 4) (e_v 0))) (s_ret (e_v 3)) s_nil) (s_par 3 4 (a_cons (e_op addW (e_v 3) (e_c (.int 1))) (a_cons (e_op addW (e_v 4) (e_c (.int 1))) a_nil)))) 1000) (s_ret (e_c .none))))
def F__law_counted : List W → Mu → R W := runF g__law_counted 5
def g__law_met : SM :=
  (s_seq (s_set 3 (e_lc [4] (b_n 4) (t_v (e_op (inW false) (e_v 4) (e_v 0))) (e_v 4) (l_r (f_r2 (a_cons (e_op addW (e_v 1) (e_c (.int 1))) (a_cons (e_op addW (e_v 2) (e_c (.int 1))) a_nil)))))) (s_seq (s_if (t_v (e_op leW (e_v 2) (e_v 1))) (s_ret (e_c .none)) s_nil) (s_seq (s_if (t_v (e_op eqW (e_v 3) (e_lst a_nil))) (s_ret (e_c (.str "near"))) s_nil) (s_ret (e_if (t_v (e_op eqW (e_v 3) (e_lst (a_cons (e_v 2) a_nil)))) (e_c (.str "at")) (e_c (.str "far")))))))
def F__law_met : List W → Mu → R W := runF g__law_met 5
def g__law_are_right : SM :=
  (s_seq (s_set 4 (e_fn tupleW (a_cons (e_lc [10] (b_n 10) tY (e_op addW (e_v 10) (e_v 1)) (l_s (e_v 0))) a_nil))) (s_seq (s_set 5 (e_c (.int 0))) (s_seq (s_forR (b_n 6) (f_r2 (a_cons (e_v 2) (a_cons (e_op addW (e_v 3) (e_c (.int 1))) a_nil))) (s_seq (s_set 5 (e_op addW (e_v 5) (e_fn intW (a_cons (e_op (inW false) (e_v 6) (e_v 0)) a_nil)))) (s_seq (s_set 7 (e_fn F__law_counted (a_cons (e_v 0) (a_cons (e_v 6) (a_cons (e_v 3) a_nil))))) (s_seq (s_set 8 (e_lst (a_cons (e_fn F_gap_of (a_cons (e_v 4) (a_cons (e_op addW (e_v 6) (e_v 1)) a_nil))) (a_cons (e_fn F_room_of (a_cons (e_v 4) (a_cons (e_op addW (e_v 6) (e_v 1)) a_nil))) (a_cons (e_fn F_upper_mark (a_cons (e_v 4) (a_cons (e_op addW (e_v 6) (e_v 1)) a_nil))) a_nil))))) (s_seq (s_if (t_v (e_op neW (e_fn reprW (a_cons (e_v 8) a_nil)) (e_fn reprW (a_cons (e_lst (a_cons (e_v 5) (a_cons (e_v 7) (a_cons (e_if (t_v (e_op (isN false) (e_v 7) (e_c .none))) (e_c .none) (e_op addW (e_op addW (e_op addW (e_v 6) (e_v 1)) (e_v 7)) (e_c (.int 1)))) a_nil)))) a_nil)))) (s_ret (e_c (.bool false))) s_nil) (s_seq (s_if (t_v (e_op neW (e_fn F_case_of (a_cons (e_v 4) (a_cons (e_op addW (e_v 6) (e_v 1)) (a_cons (e_c .none) a_nil)))) (e_c (.str "far")))) (s_ret (e_c (.bool false))) s_nil) (s_forR (b_n 9) (f_r2 (a_cons (e_v 2) (a_cons (e_op addW (e_v 3) (e_c (.int 1))) a_nil))) (s_if (t_v (e_op neW (e_fn reprW (a_cons (e_fn F_case_of (a_cons (e_v 4) (a_cons (e_op addW (e_v 6) (e_v 1)) (a_cons (e_op addW (e_v 9) (e_v 1)) a_nil)))) a_nil)) (e_fn reprW (a_cons (e_fn F__law_met (a_cons (e_v 0) (a_cons (e_v 6) (a_cons (e_v 9) a_nil)))) a_nil)))) (s_ret (e_c (.bool false))) s_nil)))))))) (s_ret (e_c (.bool true))))))
def F__law_are_right : List W → Mu → R W := runF g__law_are_right 11
def g_law : SM :=
  (s_seq (s_set 1 (e_fn F__law_feed (a_cons (e_v 0) a_nil))) (s_seq (s_set 2 (e_fn F__law_tops (a_cons (e_v 1) (a_cons (e_c (.int 4)) (a_cons (e_fn F__law_pick (a_cons (e_v 1) (a_cons (e_lst (a_cons (e_c (.int 1)) (a_cons (e_c (.int 3)) (a_cons (e_c (.int 5)) a_nil)))) a_nil))) a_nil))))) (s_seq (s_set 3 (e_fn F__law_pick (a_cons (e_v 1) (a_cons (e_lst (a_cons (e_c (.int 0)) (a_cons (e_c (.int 0)) (a_cons (e_un negW (e_c (.int 7))) (a_cons (e_op powW (e_c (.int 10)) (e_c (.int 30))) (a_cons (e_un negW (e_op powW (e_c (.int 10)) (e_c (.int 58)))) a_nil)))))) a_nil)))) (s_seq (s_asg (b_tup 2 (b_cons (b_n 4) (b_cons (b_n 5) b_nil))) (e_if (t_v (e_op neW (e_v 2) (e_tup a_nil))) (e_tup (a_cons (e_op subW (e_op ixW (e_v 2) (e_c (.int 0))) (e_c (.int 3))) (a_cons (e_op addW (e_op ixW (e_v 2) (e_un negW (e_c (.int 1)))) (e_c (.int 3))) a_nil))) (e_tup (a_cons (e_un negW (e_c (.int 4))) (a_cons (e_c (.int 4)) a_nil))))) (s_ret (e_and (e_fn F__law_are_right (a_cons (e_v 2) (a_cons (e_v 3) (a_cons (e_v 4) (a_cons (e_v 5) a_nil))))) (e_fn F__law_are_right (a_cons (e_tup a_nil) (a_cons (e_v 3) (a_cons (e_un negW (e_c (.int 2))) (a_cons (e_c (.int 2)) a_nil)))))))))))
def F_law : List W → Mu → R W := runF g_law 6
/-! ### that the text does it -/
structure Blt (K : PySem.W.Frag) (mg : Str → Option Value) : Prop where
  b_bool : mg "bool" = none
  b_enumerate : mg "enumerate" = none
  b_int : mg "int" = none
  b_isinstance : mg "isinstance" = none
  b_len : mg "len" = none
  b_range : mg "range" = none
  b_repr : mg "repr" = none
  b_tuple : mg "tuple" = none
  c_CASES : KAt K mg "CASES" d_CASES
section
variable {P : Program} {w : World} {K : PySem.W.Frag} {mg : Str → Option Value} {base : Heap} {C : Str → Option Addr}
theorem ok_require (T : Blt K mg) (D : DefAt K mg "require" st_require ["holds", "word"])  :
    Def P w K mg base C "require" ["holds", "word"] 1 F_require := defZ D sc_require fun f cdv A outer s H E hg hr =>
  (zs_one (zs_if (zt_not (zt_val (ze_v (pv 0)))) (zs_one zs_bad) zs_nil))
theorem ok_is_integer (T : Blt K mg) (D : DefAt K mg "is_integer" st_is_integer ["thing"])  :
    Def P w K mg base C "is_integer" ["thing"] 1 F_is_integer := defZ D sc_is_integer fun f cdv A outer s H E hg hr =>
  (zs_one (zs_ret (ze_and (ze_isi (by rfl) T.b_isinstance (by rfl) T.b_int (by decide +kernel) (ze_v (pv 0))) (ze_one (ze_not (ze_isi (by rfl) T.b_isinstance (by rfl) T.b_bool (by decide +kernel) (ze_v (pv 0))))))))
theorem ok_is_end (T : Blt K mg) (D : DefAt K mg "is_end" st_is_end ["thing"]) (D_is_integer : Def P w K mg base C "is_integer" ["thing"] 1 F_is_integer) :
    Def P w K mg base C "is_end" ["thing"] 2 F_is_end := defZ D sc_is_end fun f cdv A outer s H E hg hr =>
  (zs_one (zs_ret (ze_or (ze_cmp op_isN sem_is (ze_v (pv 0)) ze_non (nomark _)) (ze_one (ze_callD D_is_integer hg hr (by decide) (by rfl) (takes_of rfl rfl rfl rfl) (za_cons (ze_v (pv 0)) za_nil) (alen_cons alen_nil))))))
theorem ok_is_less (T : Blt K mg) (D : DefAt K mg "is_less" st_is_less ["end", "other"])  :
    Def P w K mg base C "is_less" ["end", "other"] 1 F_is_less := defZ D sc_is_less fun f cdv A outer s H E hg hr =>
  (zs_one (zs_ret (ze_and (ze_cmp op_notN sem_isnot (ze_v (pv 0)) ze_non (nomark _)) (ze_one (ze_or (ze_cmp op_isN sem_is (ze_v (pv 1)) ze_non (nomark _)) (ze_one (ze_cmp op_lt sem_lt (ze_v (pv 0)) (ze_v (pv 1)) (nomark _))))))))
theorem ok_first_bad_mark (T : Blt K mg) (D : DefAt K mg "first_bad_mark" st_first_bad_mark ["marks"]) (D_is_integer : Def P w K mg base C "is_integer" ["thing"] 1 F_is_integer) :
    Def P w K mg base C "first_bad_mark" ["marks"] 2 F_first_bad_mark := defZ D sc_first_bad_mark fun f cdv A outer s H E hg hr =>
  (zs_cons (zs_forE (passes_of rfl) rfl (sg_tup (sgs_cons sg_n (sgs_cons sg_n sgs_nil))) (by rfl) T.b_enumerate (za_cons (ze_v (pv 0)) za_nil) (pg_tup rfl (pgs_cons (pg_name (i := 1) sc_first_bad_mark.nd rfl (by first | exact Or.inl rfl | exact Or.inr rfl)) (pgs_cons (pg_name (i := 2) sc_first_bad_mark.nd rfl (by first | exact Or.inl rfl | exact Or.inr rfl)) pgs_nil))) (zs_one (zs_if (zp_t (zp_or (zt_not (zt_val (ze_callD D_is_integer hg hr (by decide) (by rfl) (takes_of rfl rfl rfl rfl) (za_cons (ze_v (pv 2)) za_nil) (alen_cons alen_nil)))) (zp_or1 (zp_t (zp_and (zt_cmp op_gt sem_gt (ze_v (pv 1)) ze_int (nomark _)) (zp_and1 (zt_cmp op_le sem_le (ze_v (pv 2)) (ze_ix (ze_v (pv 0)) (ze_op op_sub sem_sub (ze_v (pv 1)) ze_int) (fun _ _ => rfl)) (nomark _)))))))) (zs_one (zs_ret (ze_v (pv 1)))) zs_nil))) (zs_one (zs_ret ze_non)))
theorem ok_is_marks (T : Blt K mg) (D : DefAt K mg "is_marks" st_is_marks ["thing"]) (D_first_bad_mark : Def P w K mg base C "first_bad_mark" ["marks"] 2 F_first_bad_mark) :
    Def P w K mg base C "is_marks" ["thing"] 3 F_is_marks := defZ D sc_is_marks fun f cdv A outer s H E hg hr =>
  (zs_one (zs_ret (ze_and (ze_isi (by rfl) T.b_isinstance (by rfl) T.b_tuple (by decide +kernel) (ze_v (pv 0))) (ze_one (ze_cmp op_isN sem_is (ze_callD D_first_bad_mark hg hr (by decide) (by rfl) (takes_of rfl rfl rfl rfl) (za_cons (ze_v (pv 0)) za_nil) (alen_cons alen_nil)) ze_non (nomark _))))))
theorem ok_many_at_most (T : Blt K mg) (D : DefAt K mg "many_at_most" st_many_at_most ["marks", "x"])  :
    Def P w K mg base C "many_at_most" ["marks", "x"] 1 F_many_at_most := defZ D sc_many_at_most fun f cdv A outer s H E hg hr =>
  (zs_one (zs_ret (ze_bi call_len_seq sem_len (by rfl) T.b_len (by decide +kernel) (za_cons (ze_lc (own := [("mark", 2)]) rfl sc_many_at_most.nd (ze_v (pv 0)) (blkOk_by (N := ["marks", "x", "mark"]) (sc := defScope st_many_at_most) (by decide +kernel)) sg_n (by decide) (fun _ _ _ _ _ => (pg_name (i := 2) sc_many_at_most.nd rfl (Or.inl rfl))) (fun _ _ _ _ _ => (zts_one (zt_cmp op_le sem_le (ze_v (pv 2)) (ze_v (pv 1)) (nomark _)))) (fun _ _ _ _ _ => (ze_v (pv 2)))) za_nil))))
theorem ok_mark_above (T : Blt K mg) (D : DefAt K mg "mark_above" st_mark_above ["marks", "x"])  :
    Def P w K mg base C "mark_above" ["marks", "x"] 1 F_mark_above := defZ D sc_mark_above fun f cdv A outer s H E hg hr =>
  (zs_cons (zs_for (passes_of rfl) rfl sg_n (ze_v (pv 0)) (pg_name (i := 2) sc_mark_above.nd rfl (by first | exact Or.inl rfl | exact Or.inr rfl)) (zs_one (zs_if (zt_cmp op_gt sem_gt (ze_v (pv 2)) (ze_v (pv 1)) (nomark _)) (zs_one (zs_ret (ze_v (pv 2)))) zs_nil))) (zs_one (zs_ret ze_non)))
theorem ok_case_index (T : Blt K mg) (D : DefAt K mg "case_index" st_case_index ["marks", "x", "y"]) (D_mark_above : Def P w K mg base C "mark_above" ["marks", "x"] 1 F_mark_above) (D_is_less : Def P w K mg base C "is_less" ["end", "other"] 1 F_is_less) :
    Def P w K mg base C "case_index" ["marks", "x", "y"] 2 F_case_index := defZ D sc_case_index fun f cdv A outer s H E hg hr =>
  (zs_cons (zs_set (ps_set (i := 3) sc_case_index.nd rfl (by first | exact Or.inl rfl | exact Or.inr rfl) (ze_callD D_mark_above hg hr (by decide) (by rfl) (takes_of rfl rfl rfl rfl) (za_cons (ze_v (pv 0)) (za_cons (ze_v (pv 1)) za_nil)) (alen_cons (alen_cons alen_nil))))) (zs_cons (zs_if (zt_cmp op_isN sem_is (ze_v (pv 3)) ze_non (nomark _)) (zs_one (zs_ret (ze_if (zt_cmp op_isN sem_is (ze_v (pv 2)) ze_non (nomark _)) ze_int ze_int))) zs_nil) (zs_cons (zs_if (zt_cmp (op_eqZ hr.units) sem_eq (ze_v (pv 2)) (ze_v (pv 3)) (nomark _)) (zs_one (zs_ret ze_int)) zs_nil) (zs_one (zs_ret (ze_if (zt_val (ze_callD D_is_less hg hr (by decide) (by rfl) (takes_of rfl rfl rfl rfl) (za_cons (ze_v (pv 2)) (za_cons (ze_v (pv 3)) za_nil)) (alen_cons (alen_cons alen_nil)))) ze_int ze_int))))))
theorem ok_gap_of (T : Blt K mg) (D : DefAt K mg "gap_of" st_gap_of ["marks", "x"]) (D_is_marks : Def P w K mg base C "is_marks" ["thing"] 3 F_is_marks) (D_require : Def P w K mg base C "require" ["holds", "word"] 1 F_require) (D_is_integer : Def P w K mg base C "is_integer" ["thing"] 1 F_is_integer) (D_many_at_most : Def P w K mg base C "many_at_most" ["marks", "x"] 1 F_many_at_most) :
    Def P w K mg base C "gap_of" ["marks", "x"] 4 F_gap_of := defZ D sc_gap_of fun f cdv A outer s H E hg hr =>
  (zs_cons (zs_ex (ps_expr (ze_callD D_require hg hr (by decide) (by rfl) (takes_of rfl rfl rfl rfl) (za_cons (ze_callD D_is_marks hg hr (by decide) (by rfl) (takes_of rfl rfl rfl rfl) (za_cons (ze_v (pv 0)) za_nil) (alen_cons alen_nil)) (za_cons ze_str za_nil)) (alen_cons (alen_cons alen_nil))))) (zs_cons (zs_ex (ps_expr (ze_callD D_require hg hr (by decide) (by rfl) (takes_of rfl rfl rfl rfl) (za_cons (ze_callD D_is_integer hg hr (by decide) (by rfl) (takes_of rfl rfl rfl rfl) (za_cons (ze_v (pv 1)) za_nil) (alen_cons alen_nil)) (za_cons ze_str za_nil)) (alen_cons (alen_cons alen_nil))))) (zs_one (zs_ret (ze_callD D_many_at_most hg hr (by decide) (by rfl) (takes_of rfl rfl rfl rfl) (za_cons (ze_v (pv 0)) (za_cons (ze_v (pv 1)) za_nil)) (alen_cons (alen_cons alen_nil)))))))
theorem ok_upper_mark (T : Blt K mg) (D : DefAt K mg "upper_mark" st_upper_mark ["marks", "x"]) (D_is_marks : Def P w K mg base C "is_marks" ["thing"] 3 F_is_marks) (D_require : Def P w K mg base C "require" ["holds", "word"] 1 F_require) (D_is_integer : Def P w K mg base C "is_integer" ["thing"] 1 F_is_integer) (D_mark_above : Def P w K mg base C "mark_above" ["marks", "x"] 1 F_mark_above) :
    Def P w K mg base C "upper_mark" ["marks", "x"] 4 F_upper_mark := defZ D sc_upper_mark fun f cdv A outer s H E hg hr =>
  (zs_cons (zs_ex (ps_expr (ze_callD D_require hg hr (by decide) (by rfl) (takes_of rfl rfl rfl rfl) (za_cons (ze_callD D_is_marks hg hr (by decide) (by rfl) (takes_of rfl rfl rfl rfl) (za_cons (ze_v (pv 0)) za_nil) (alen_cons alen_nil)) (za_cons ze_str za_nil)) (alen_cons (alen_cons alen_nil))))) (zs_cons (zs_ex (ps_expr (ze_callD D_require hg hr (by decide) (by rfl) (takes_of rfl rfl rfl rfl) (za_cons (ze_callD D_is_integer hg hr (by decide) (by rfl) (takes_of rfl rfl rfl rfl) (za_cons (ze_v (pv 1)) za_nil) (alen_cons alen_nil)) (za_cons ze_str za_nil)) (alen_cons (alen_cons alen_nil))))) (zs_one (zs_ret (ze_callD D_mark_above hg hr (by decide) (by rfl) (takes_of rfl rfl rfl rfl) (za_cons (ze_v (pv 0)) (za_cons (ze_v (pv 1)) za_nil)) (alen_cons (alen_cons alen_nil)))))))
theorem ok_room_of (T : Blt K mg) (D : DefAt K mg "room_of" st_room_of ["marks", "x"]) (D_upper_mark : Def P w K mg base C "upper_mark" ["marks", "x"] 4 F_upper_mark) :
    Def P w K mg base C "room_of" ["marks", "x"] 5 F_room_of := defZ D sc_room_of fun f cdv A outer s H E hg hr =>
  (zs_cons (zs_set (ps_set (i := 2) sc_room_of.nd rfl (by first | exact Or.inl rfl | exact Or.inr rfl) (ze_callD D_upper_mark hg hr (by decide) (by rfl) (takes_of rfl rfl rfl rfl) (za_cons (ze_v (pv 0)) (za_cons (ze_v (pv 1)) za_nil)) (alen_cons (alen_cons alen_nil))))) (zs_one (zs_ret (ze_if (zt_cmp op_isN sem_is (ze_v (pv 2)) ze_non (nomark _)) ze_non (ze_op op_sub sem_sub (ze_op op_sub sem_sub (ze_v (pv 2)) (ze_v (pv 1))) ze_int)))))
theorem ok_case_of (T : Blt K mg) (D : DefAt K mg "case_of" st_case_of ["marks", "x", "y"]) (D_is_marks : Def P w K mg base C "is_marks" ["thing"] 3 F_is_marks) (D_require : Def P w K mg base C "require" ["holds", "word"] 1 F_require) (D_is_integer : Def P w K mg base C "is_integer" ["thing"] 1 F_is_integer) (D_is_end : Def P w K mg base C "is_end" ["thing"] 2 F_is_end) (D_is_less : Def P w K mg base C "is_less" ["end", "other"] 1 F_is_less) (D_case_index : Def P w K mg base C "case_index" ["marks", "x", "y"] 2 F_case_index) :
    Def P w K mg base C "case_of" ["marks", "x", "y"] 4 F_case_of := defZ D sc_case_of fun f cdv A outer s H E hg hr =>
  (zs_cons (zs_ex (ps_expr (ze_callD D_require hg hr (by decide) (by rfl) (takes_of rfl rfl rfl rfl) (za_cons (ze_callD D_is_marks hg hr (by decide) (by rfl) (takes_of rfl rfl rfl rfl) (za_cons (ze_v (pv 0)) za_nil) (alen_cons alen_nil)) (za_cons ze_str za_nil)) (alen_cons (alen_cons alen_nil))))) (zs_cons (zs_ex (ps_expr (ze_callD D_require hg hr (by decide) (by rfl) (takes_of rfl rfl rfl rfl) (za_cons (ze_callD D_is_integer hg hr (by decide) (by rfl) (takes_of rfl rfl rfl rfl) (za_cons (ze_v (pv 1)) za_nil) (alen_cons alen_nil)) (za_cons ze_str za_nil)) (alen_cons (alen_cons alen_nil))))) (zs_cons (zs_ex (ps_expr (ze_callD D_require hg hr (by decide) (by rfl) (takes_of rfl rfl rfl rfl) (za_cons (ze_callD D_is_end hg hr (by decide) (by rfl) (takes_of rfl rfl rfl rfl) (za_cons (ze_v (pv 2)) za_nil) (alen_cons alen_nil)) (za_cons ze_str za_nil)) (alen_cons (alen_cons alen_nil))))) (zs_one (zs_ret (ze_if (zt_val (ze_callD D_is_less hg hr (by decide) (by rfl) (takes_of rfl rfl rfl rfl) (za_cons (ze_v (pv 1)) (za_cons (ze_v (pv 2)) za_nil)) (alen_cons (alen_cons alen_nil)))) (ze_ix (ze_k (T.c_CASES) (by rfl)) (ze_callD D_case_index hg hr (by decide) (by rfl) (takes_of rfl rfl rfl rfl) (za_cons (ze_v (pv 0)) (za_cons (ze_v (pv 1)) (za_cons (ze_v (pv 2)) za_nil))) (alen_cons (alen_cons (alen_cons alen_nil)))) (fun _ _ => rfl)) ze_non))))))
theorem ok__law_feed (T : Blt K mg) (D : DefAt K mg "_law_feed" st__law_feed ["script"])  :
    Def P w K mg base C "_law_feed" ["script"] 1 F__law_feed := defZ D sc__law_feed fun f cdv A outer s H E hg hr =>
  (zs_one (zs_ret (ze_dictM (pps_cons pe_str (ze_lc (own := [("cell", 1)]) rfl sc__law_feed.nd (ze_sl (ze_v (pv 0)) zo_none (zo_some ze_int)) (blkOk_by (N := ["script", "cell"]) (sc := defScope st__law_feed) (by decide +kernel)) sg_n (by decide) (fun _ _ _ _ _ => (pg_name (i := 1) sc__law_feed.nd rfl (Or.inl rfl))) (fun _ _ _ _ _ => zts_nil) (fun _ _ _ _ _ => (ze_ty call_int1 sem_int (by rfl) T.b_int (by decide +kernel) (za_cons (ze_v (pv 1)) za_nil)))) (pps_cons pe_str ze_int (pps_cons pe_str ze_int (pps_cons pe_str ze_int pps_nil)))) rfl rfl rfl (by simp) (by decide))))
theorem ok__law_draw (T : Blt K mg) (D : DefAt K mg "_law_draw" st__law_draw ["feed", "size"])  :
    Def P w K mg base C "_law_draw" ["feed", "size"] 1 F__law_draw := defZ D sc__law_draw fun f cdv A outer s H E hg hr =>
  (zs_cons (zs_putD (hu_of hr) (ze_v (pv 0)) ze_str (ze_op op_addZ sem_add (ze_dget (hu_of hr) (ze_v (pv 0)) ze_str (fun _ _ => rfl)) ze_int)) (zs_cons (zs_if (zt_cmp op_gt sem_gt (ze_dget (hu_of hr) (ze_v (pv 0)) ze_str (fun _ _ => rfl)) ze_int (nomark _)) (zs_cons (zs_set (ps_set (i := 2) sc__law_draw.nd rfl (by first | exact Or.inl rfl | exact Or.inr rfl) (ze_op op_mod sem_mod (ze_ty call_int1 sem_int (by rfl) T.b_int (by decide +kernel) (za_cons (ze_dget (hu_of hr) (ze_v (pv 0)) ze_str (fun _ _ => rfl)) za_nil)) (ze_v (pv 1))))) (zs_cons (zs_putD (hu_of hr) (ze_v (pv 0)) ze_str (ze_op op_fdiv sem_fdiv (ze_dget (hu_of hr) (ze_v (pv 0)) ze_str (fun _ _ => rfl)) (ze_v (pv 1)))) (zs_one (zs_ret (ze_v (pv 2)))))) zs_nil) (zs_cons (zs_par (ps_par (i := 3) (j := 4) rfl sc__law_draw.nd rfl rfl (by decide) rfl rfl (za_cons (ze_dget (hu_of hr) (ze_v (pv 0)) ze_str (fun _ _ => rfl)) (za_cons (ze_dget (hu_of hr) (ze_v (pv 0)) ze_str (fun _ _ => rfl)) za_nil)) (by rfl))) (zs_cons (zs_putD (hu_of hr) (ze_v (pv 0)) ze_str (ze_op op_addZ sem_add (ze_v (pv 4)) ze_int)) (zs_cons (zs_set (ps_set (i := 5) sc__law_draw.nd rfl (by first | exact Or.inl rfl | exact Or.inr rfl) (ze_if (zt_cmp (op_neZ hr.units) sem_ne (ze_v (pv 3)) (ze_lst za_nil) (nomark _)) (ze_ix (ze_v (pv 3)) (ze_op op_mod sem_mod (ze_ty call_int1 sem_int (by rfl) T.b_int (by decide +kernel) (za_cons (ze_v (pv 4)) za_nil)) (ze_bi call_len_seq sem_len (by rfl) T.b_len (by decide +kernel) (za_cons (ze_v (pv 3)) za_nil))) (fun _ _ => rfl)) ze_int))) (zs_cons (zs_if (zp_t (zp_and (zt_cmp op_ge sem_ge (ze_v (pv 5)) (ze_op op_pow sem_pow ze_int ze_int) (nomark _)) (zp_and1 (zt_cmp op_lt sem_lt (ze_v (pv 4)) (ze_bi call_len_seq sem_len (by rfl) T.b_len (by decide +kernel) (za_cons (ze_v (pv 3)) za_nil)) (nomark _))))) (zs_cons (zs_putD (hu_of hr) (ze_v (pv 0)) ze_str (ze_op op_fdiv sem_fdiv (ze_v (pv 5)) (ze_v (pv 1)))) (zs_one (zs_ret (ze_op op_mod sem_mod (ze_ty call_int1 sem_int (by rfl) T.b_int (by decide +kernel) (za_cons (ze_v (pv 5)) za_nil)) (ze_v (pv 1)))))) zs_nil) (zs_cons (zs_set (ps_set (i := 6) sc__law_draw.nd rfl (by first | exact Or.inl rfl | exact Or.inr rfl) (ze_op op_mod sem_mod (ze_ty call_int1 sem_int (by rfl) T.b_int (by decide +kernel) (za_cons (ze_op op_addZ sem_add (ze_op op_addZ sem_add (ze_op op_mulZ sem_mul (ze_op op_mod sem_mod (ze_ty call_int1 sem_int (by rfl) T.b_int (by decide +kernel) (za_cons (ze_v (pv 5)) za_nil)) ze_int) ze_int) (ze_op op_mulZ sem_mul ze_int (ze_dget (hu_of hr) (ze_v (pv 0)) ze_str (fun _ _ => rfl)))) ze_int) za_nil)) ze_int))) (zs_cons (zs_set (ps_set (i := 6) sc__law_draw.nd rfl (by first | exact Or.inl rfl | exact Or.inr rfl) (ze_op op_mod sem_mod (ze_ty call_int1 sem_int (by rfl) T.b_int (by decide +kernel) (za_cons (ze_op op_addZ sem_add (ze_op op_addZ sem_add (ze_op op_mulZ sem_mul (ze_v (pv 6)) (ze_v (pv 6))) (ze_op op_mulZ sem_mul ze_int (ze_dget (hu_of hr) (ze_v (pv 0)) ze_str (fun _ _ => rfl)))) ze_int) za_nil)) ze_int))) (zs_one (zs_ret (ze_op op_mod sem_mod (ze_ty call_int1 sem_int (by rfl) T.b_int (by decide +kernel) (za_cons (ze_op op_fdiv sem_fdiv (ze_op op_mod sem_mod (ze_ty call_int1 sem_int (by rfl) T.b_int (by decide +kernel) (za_cons (ze_op op_addZ sem_add (ze_op op_mulZ sem_mul (ze_v (pv 6)) (ze_v (pv 6))) (ze_op op_mulZ sem_mul ze_int (ze_v (pv 6)))) za_nil)) ze_int) ze_int) za_nil)) (ze_v (pv 1)))))))))))))
theorem ok__law_pick (T : Blt K mg) (D : DefAt K mg "_law_pick" st__law_pick ["feed", "some"]) (D__law_draw : Def P w K mg base C "_law_draw" ["feed", "size"] 1 F__law_draw) :
    Def P w K mg base C "_law_pick" ["feed", "some"] 2 F__law_pick := defZ D sc__law_pick fun f cdv A outer s H E hg hr =>
  (zs_one (zs_ret (ze_ix (ze_v (pv 1)) (ze_callD D__law_draw hg hr (by decide) (by rfl) (takes_of rfl rfl rfl rfl) (za_cons (ze_v (pv 0)) (za_cons (ze_bi call_len_seq sem_len (by rfl) T.b_len (by decide +kernel) (za_cons (ze_v (pv 1)) za_nil)) za_nil)) (alen_cons (alen_cons alen_nil))) (fun _ _ => rfl))))
theorem ok__law_tops (T : Blt K mg) (D : DefAt K mg "_law_tops" st__law_tops ["feed", "most", "wide"]) (D__law_draw : Def P w K mg base C "_law_draw" ["feed", "size"] 1 F__law_draw) :
    Def P w K mg base C "_law_tops" ["feed", "most", "wide"] 2 F__law_tops := defZ D sc__law_tops fun f cdv A outer s H E hg hr =>
  (zs_cons (zs_parO (by decide) (ps_par (i := 3) (j := 4) rfl sc__law_tops.nd rfl rfl (by decide) rfl rfl (pa_cons (pe_lst pa_nil) (pa_cons (ze_op op_sub sem_sub (ze_callD D__law_draw hg hr (by decide) (by rfl) (takes_of rfl rfl rfl rfl) (za_cons (ze_v (pv 0)) (za_cons ze_int za_nil)) (alen_cons (alen_cons alen_nil))) ze_int) pa_nil)) (by rfl))) (zs_cons (zs_forR (passes_of rfl) rfl sg_n (zi_range1 (by rfl) T.b_range (za_cons (ze_callD D__law_draw hg hr (by decide) (by rfl) (takes_of rfl rfl rfl rfl) (za_cons (ze_v (pv 0)) (za_cons (ze_op op_addZ sem_add (ze_v (pv 1)) ze_int) za_nil)) (alen_cons (alen_cons alen_nil))) za_nil)) (pg_name (i := 5) sc__law_tops.nd rfl (by first | exact Or.inl rfl | exact Or.inr rfl)) (zs_cons (zs_app (x := "found") (pv 3) (ze_v (pv 4))) (zs_one (zs_set (ps_set (i := 4) sc__law_tops.nd rfl (by first | exact Or.inl rfl | exact Or.inr rfl) (ze_op op_addZ sem_add (ze_op op_addZ sem_add (ze_v (pv 4)) ze_int) (ze_callD D__law_draw hg hr (by decide) (by rfl) (takes_of rfl rfl rfl rfl) (za_cons (ze_v (pv 0)) (za_cons (ze_v (pv 2)) za_nil)) (alen_cons (alen_cons alen_nil))))))))) (zs_frz (zs_one (zs_ret (ze_ty call_tuple_of sem_tuple (by rfl) T.b_tuple (by decide +kernel) (za_cons (ze_v (pv 3)) za_nil)))))))
theorem ok__law_counted (T : Blt K mg) (D : DefAt K mg "_law_counted" st__law_counted ["tops", "at", "far"])  :
    Def P w K mg base C "_law_counted" ["tops", "at", "far"] 1 F__law_counted := defZ D sc__law_counted fun f cdv A outer s H E hg hr =>
  (zs_cons (zs_par (ps_par (i := 3) (j := 4) rfl sc__law_counted.nd rfl rfl (by decide) rfl rfl (za_cons ze_int (za_cons (ze_op op_addZ sem_add (ze_v (pv 1)) ze_int) za_nil)) (by rfl))) (zs_cons (zs_while 1000 (passes_of rfl) (zt_cmp op_le sem_le (ze_v (pv 4)) (ze_v (pv 2)) (nomark _)) (zs_cons (zs_if (zt_cmp op_in_seq sem_in (ze_v (pv 4)) (ze_v (pv 0)) (by rfl)) (zs_one (zs_ret (ze_v (pv 3)))) zs_nil) (zs_one (zs_par (ps_par (i := 3) (j := 4) rfl sc__law_counted.nd rfl rfl (by decide) rfl rfl (za_cons (ze_op op_addZ sem_add (ze_v (pv 3)) ze_int) (za_cons (ze_op op_addZ sem_add (ze_v (pv 4)) ze_int) za_nil)) (by rfl)))))) (zs_one (zs_ret ze_non))))
theorem ok__law_met (T : Blt K mg) (D : DefAt K mg "_law_met" st__law_met ["tops", "at", "late"])  :
    Def P w K mg base C "_law_met" ["tops", "at", "late"] 1 F__law_met := defZ D sc__law_met fun f cdv A outer s H E hg hr =>
  (zs_cons (zs_setLcR (own := [("spot", 4)]) (i := 3) rfl sc__law_met.nd rfl rfl (sw_true rfl rfl rfl (by decide +kernel)) (zi_range2 (by rfl) T.b_range (za_cons (ze_op op_addZ sem_add (ze_v (pv 1)) ze_int) (za_cons (ze_op op_addZ sem_add (ze_v (pv 2)) ze_int) za_nil))) (blkOk_by (N := ["tops", "at", "late", "met", "spot"]) (sc := defScope st__law_met) (by decide +kernel)) sg_n (by decide) (fun _ _ _ _ _ => (pg_name (i := 4) sc__law_met.nd rfl (Or.inl rfl))) (fun _ _ _ _ _ => (zts_one (zt_cmp op_in_seq sem_in (ze_v (pv 4)) (ze_v (pv 0)) (by rfl)))) (fun _ _ _ _ _ => (ze_v (pv 4)))) (zs_cons (zs_if (zt_cmp op_le sem_le (ze_v (pv 2)) (ze_v (pv 1)) (nomark _)) (zs_one (zs_ret ze_non)) zs_nil) (zs_cons (zs_if (zt_cmp (op_eqZ hr.units) sem_eq (ze_v (pv 3)) (ze_lst za_nil) (nomark _)) (zs_one (zs_ret ze_str)) zs_nil) (zs_one (zs_ret (ze_if (zt_cmp (op_eqZ hr.units) sem_eq (ze_v (pv 3)) (ze_lst (za_cons (ze_v (pv 2)) za_nil)) (nomark _)) ze_str ze_str))))))
theorem ok__law_are_right (T : Blt K mg) (D : DefAt K mg "_law_are_right" st__law_are_right ["tops", "by", "low", "high"]) (D__law_counted : Def P w K mg base C "_law_counted" ["tops", "at", "far"] 1 F__law_counted) (D_gap_of : Def P w K mg base C "gap_of" ["marks", "x"] 4 F_gap_of) (D_room_of : Def P w K mg base C "room_of" ["marks", "x"] 5 F_room_of) (D_upper_mark : Def P w K mg base C "upper_mark" ["marks", "x"] 4 F_upper_mark) (D_case_of : Def P w K mg base C "case_of" ["marks", "x", "y"] 4 F_case_of) (D__law_met : Def P w K mg base C "_law_met" ["tops", "at", "late"] 1 F__law_met) :
    Def P w K mg base C "_law_are_right" ["tops", "by", "low", "high"] 6 F__law_are_right := defZ D sc__law_are_right fun f cdv A outer s H E hg hr =>
  (zs_cons (zs_set (ps_set (i := 4) sc__law_are_right.nd rfl (by first | exact Or.inl rfl | exact Or.inr rfl) (ze_ty call_tuple_of sem_tuple (by rfl) T.b_tuple (by decide +kernel) (za_cons (ze_lc (own := [("top", 10)]) rfl sc__law_are_right.nd (ze_v (pv 0)) (blkOk_by (N := ["tops", "by", "low", "high", "late_tops", "gap_now", "at", "many", "told", "late", "top"]) (sc := defScope st__law_are_right) (by decide +kernel)) sg_n (by decide) (fun _ _ _ _ _ => (pg_name (i := 10) sc__law_are_right.nd rfl (Or.inl rfl))) (fun _ _ _ _ _ => zts_nil) (fun _ _ _ _ _ => (ze_op op_addZ sem_add (ze_v (pv 10)) (ze_v (pv 1))))) za_nil)))) (zs_cons (zs_set (ps_set (i := 5) sc__law_are_right.nd rfl (by first | exact Or.inl rfl | exact Or.inr rfl) ze_int)) (zs_cons (zs_forR (passes_of rfl) rfl sg_n (zi_range2 (by rfl) T.b_range (za_cons (ze_v (pv 2)) (za_cons (ze_op op_addZ sem_add (ze_v (pv 3)) ze_int) za_nil))) (pg_name (i := 6) sc__law_are_right.nd rfl (by first | exact Or.inl rfl | exact Or.inr rfl)) (zs_cons (zs_set (ps_set (i := 5) sc__law_are_right.nd rfl (by first | exact Or.inl rfl | exact Or.inr rfl) (ze_op op_addZ sem_add (ze_v (pv 5)) (ze_ty call_int1 sem_int (by rfl) T.b_int (by decide +kernel) (za_cons (ze_cmp op_in_seq sem_in (ze_v (pv 6)) (ze_v (pv 0)) (by rfl)) za_nil))))) (zs_cons (zs_set (ps_set (i := 7) sc__law_are_right.nd rfl (by first | exact Or.inl rfl | exact Or.inr rfl) (ze_callD D__law_counted hg hr (by decide) (by rfl) (takes_of rfl rfl rfl rfl) (za_cons (ze_v (pv 0)) (za_cons (ze_v (pv 6)) (za_cons (ze_v (pv 3)) za_nil))) (alen_cons (alen_cons (alen_cons alen_nil)))))) (zs_cons (zs_set (ps_set (i := 8) sc__law_are_right.nd rfl (by first | exact Or.inl rfl | exact Or.inr rfl) (ze_lst (za_cons (ze_callD D_gap_of hg hr (by decide) (by rfl) (takes_of rfl rfl rfl rfl) (za_cons (ze_v (pv 4)) (za_cons (ze_op op_addZ sem_add (ze_v (pv 6)) (ze_v (pv 1))) za_nil)) (alen_cons (alen_cons alen_nil))) (za_cons (ze_callD D_room_of hg hr (by decide) (by rfl) (takes_of rfl rfl rfl rfl) (za_cons (ze_v (pv 4)) (za_cons (ze_op op_addZ sem_add (ze_v (pv 6)) (ze_v (pv 1))) za_nil)) (alen_cons (alen_cons alen_nil))) (za_cons (ze_callD D_upper_mark hg hr (by decide) (by rfl) (takes_of rfl rfl rfl rfl) (za_cons (ze_v (pv 4)) (za_cons (ze_op op_addZ sem_add (ze_v (pv 6)) (ze_v (pv 1))) za_nil)) (alen_cons (alen_cons alen_nil))) za_nil)))))) (zs_cons (zs_if (zt_cmp (op_neZ hr.units) sem_ne (ze_bi (sem_repr hg hr.units) semc_repr (by rfl) T.b_repr (by decide +kernel) (za_cons (ze_v (pv 8)) za_nil)) (ze_bi (sem_repr hg hr.units) semc_repr (by rfl) T.b_repr (by decide +kernel) (za_cons (ze_lst (za_cons (ze_v (pv 5)) (za_cons (ze_v (pv 7)) (za_cons (ze_if (zt_cmp op_isN sem_is (ze_v (pv 7)) ze_non (nomark _)) ze_non (ze_op op_addZ sem_add (ze_op op_addZ sem_add (ze_op op_addZ sem_add (ze_v (pv 6)) (ze_v (pv 1))) (ze_v (pv 7))) ze_int)) za_nil)))) za_nil)) (nomark _)) (zs_one (zs_ret ze_bl)) zs_nil) (zs_cons (zs_if (zt_cmp (op_neZ hr.units) sem_ne (ze_callD D_case_of hg hr (by decide) (by rfl) (takes_of rfl rfl rfl rfl) (za_cons (ze_v (pv 4)) (za_cons (ze_op op_addZ sem_add (ze_v (pv 6)) (ze_v (pv 1))) (za_cons ze_non za_nil))) (alen_cons (alen_cons (alen_cons alen_nil)))) ze_str (nomark _)) (zs_one (zs_ret ze_bl)) zs_nil) (zs_one (zs_forR (passes_of rfl) rfl sg_n (zi_range2 (by rfl) T.b_range (za_cons (ze_v (pv 2)) (za_cons (ze_op op_addZ sem_add (ze_v (pv 3)) ze_int) za_nil))) (pg_name (i := 9) sc__law_are_right.nd rfl (by first | exact Or.inl rfl | exact Or.inr rfl)) (zs_one (zs_if (zt_cmp (op_neZ hr.units) sem_ne (ze_bi (sem_repr hg hr.units) semc_repr (by rfl) T.b_repr (by decide +kernel) (za_cons (ze_callD D_case_of hg hr (by decide) (by rfl) (takes_of rfl rfl rfl rfl) (za_cons (ze_v (pv 4)) (za_cons (ze_op op_addZ sem_add (ze_v (pv 6)) (ze_v (pv 1))) (za_cons (ze_op op_addZ sem_add (ze_v (pv 9)) (ze_v (pv 1))) za_nil))) (alen_cons (alen_cons (alen_cons alen_nil)))) za_nil)) (ze_bi (sem_repr hg hr.units) semc_repr (by rfl) T.b_repr (by decide +kernel) (za_cons (ze_callD D__law_met hg hr (by decide) (by rfl) (takes_of rfl rfl rfl rfl) (za_cons (ze_v (pv 0)) (za_cons (ze_v (pv 6)) (za_cons (ze_v (pv 9)) za_nil))) (alen_cons (alen_cons (alen_cons alen_nil)))) za_nil)) (nomark _)) (zs_one (zs_ret ze_bl)) zs_nil)))))))))) (zs_one (zs_ret ze_bl)))))
theorem ok_law {f : Addr} {fd : FuncData} (T : Blt K mg) (F : Fun K "law" "law" st_law f fd) (D__law_feed : Def P w K mg base C "_law_feed" ["script"] 1 F__law_feed) (D__law_pick : Def P w K mg base C "_law_pick" ["feed", "some"] 2 F__law_pick) (D__law_tops : Def P w K mg base C "_law_tops" ["feed", "most", "wide"] 2 F__law_tops) (D__law_are_right : Def P w K mg base C "_law_are_right" ["tops", "by", "low", "high"] 6 F__law_are_right) :
    FnG P w K mg base 7 f fd ["script"] (spZ C F_law 1 K) := fnZ F sc_law fun cdv A outer s H E hg hr =>
  (zs_cons (zs_set (ps_set (i := 1) sc_law.nd rfl (by first | exact Or.inl rfl | exact Or.inr rfl) (ze_callD D__law_feed hg hr (by decide) (by rfl) (takes_of rfl rfl rfl rfl) (za_cons (ze_v (pv 0)) za_nil) (alen_cons alen_nil)))) (zs_cons (zs_set (ps_set (i := 2) sc_law.nd rfl (by first | exact Or.inl rfl | exact Or.inr rfl) (ze_callD D__law_tops hg hr (by decide) (by rfl) (takes_of rfl rfl rfl rfl) (za_cons (ze_v (pv 1)) (za_cons ze_int (za_cons (ze_callD D__law_pick hg hr (by decide) (by rfl) (takes_of rfl rfl rfl rfl) (za_cons (ze_v (pv 1)) (za_cons (ze_lst (za_cons ze_int (za_cons ze_int (za_cons ze_int za_nil)))) za_nil)) (alen_cons (alen_cons alen_nil))) za_nil))) (alen_cons (alen_cons (alen_cons alen_nil)))))) (zs_cons (zs_set (ps_set (i := 3) sc_law.nd rfl (by first | exact Or.inl rfl | exact Or.inr rfl) (ze_callD D__law_pick hg hr (by decide) (by rfl) (takes_of rfl rfl rfl rfl) (za_cons (ze_v (pv 1)) (za_cons (ze_lst (za_cons ze_int (za_cons ze_int (za_cons (ze_un un_neg sem_neg ze_int) (za_cons (ze_op op_pow sem_pow ze_int ze_int) (za_cons (ze_un un_neg sem_neg (ze_op op_pow sem_pow ze_int ze_int)) za_nil)))))) za_nil)) (alen_cons (alen_cons alen_nil))))) (zs_cons (zs_asg (sg_tup (sgs_cons sg_n (sgs_cons sg_n sgs_nil))) (ze_if (zt_cmp (op_neZ hr.units) sem_ne (ze_v (pv 2)) (ze_tup za_nil) (nomark _)) (ze_tup (za_cons (ze_op op_sub sem_sub (ze_ix (ze_v (pv 2)) ze_int (fun _ _ => rfl)) ze_int) (za_cons (ze_op op_addZ sem_add (ze_ix (ze_v (pv 2)) (ze_un un_neg sem_neg ze_int) (fun _ _ => rfl)) ze_int) za_nil))) (ze_tup (za_cons (ze_un un_neg sem_neg ze_int) (za_cons ze_int za_nil)))) (pg_tup rfl (pgs_cons (pg_name (i := 4) sc_law.nd rfl (by first | exact Or.inl rfl | exact Or.inr rfl)) (pgs_cons (pg_name (i := 5) sc_law.nd rfl (by first | exact Or.inl rfl | exact Or.inr rfl)) pgs_nil)))) (zs_one (zs_ret (ze_and (ze_callD D__law_are_right hg hr (by decide) (by rfl) (takes_of rfl rfl rfl rfl) (za_cons (ze_v (pv 2)) (za_cons (ze_v (pv 3)) (za_cons (ze_v (pv 4)) (za_cons (ze_v (pv 5)) za_nil)))) (alen_cons (alen_cons (alen_cons (alen_cons alen_nil))))) (ze_one (ze_callD D__law_are_right hg hr (by decide) (by rfl) (takes_of rfl rfl rfl rfl) (za_cons (ze_tup za_nil) (za_cons (ze_v (pv 3)) (za_cons (ze_un un_neg sem_neg ze_int) (za_cons ze_int za_nil)))) (alen_cons (alen_cons (alen_cons (alen_cons alen_nil)))))))))))))
end
/-! ### all together -/
structure Txt (K : PySem.W.Frag) (mg : Str → Option Value) : Prop where
  T : Blt K mg
  D_require : DefAt K mg "require" st_require ["holds", "word"]
  D_is_integer : DefAt K mg "is_integer" st_is_integer ["thing"]
  D_is_end : DefAt K mg "is_end" st_is_end ["thing"]
  D_is_less : DefAt K mg "is_less" st_is_less ["end", "other"]
  D_first_bad_mark : DefAt K mg "first_bad_mark" st_first_bad_mark ["marks"]
  D_is_marks : DefAt K mg "is_marks" st_is_marks ["thing"]
  D_many_at_most : DefAt K mg "many_at_most" st_many_at_most ["marks", "x"]
  D_mark_above : DefAt K mg "mark_above" st_mark_above ["marks", "x"]
  D_case_index : DefAt K mg "case_index" st_case_index ["marks", "x", "y"]
  D_gap_of : DefAt K mg "gap_of" st_gap_of ["marks", "x"]
  D_upper_mark : DefAt K mg "upper_mark" st_upper_mark ["marks", "x"]
  D_room_of : DefAt K mg "room_of" st_room_of ["marks", "x"]
  D_case_of : DefAt K mg "case_of" st_case_of ["marks", "x", "y"]
  D__law_feed : DefAt K mg "_law_feed" st__law_feed ["script"]
  D__law_draw : DefAt K mg "_law_draw" st__law_draw ["feed", "size"]
  D__law_pick : DefAt K mg "_law_pick" st__law_pick ["feed", "some"]
  D__law_tops : DefAt K mg "_law_tops" st__law_tops ["feed", "most", "wide"]
  D__law_counted : DefAt K mg "_law_counted" st__law_counted ["tops", "at", "far"]
  D__law_met : DefAt K mg "_law_met" st__law_met ["tops", "at", "late"]
  D__law_are_right : DefAt K mg "_law_are_right" st__law_are_right ["tops", "by", "low", "high"]
theorem ok_all {P : Program} {w : World} {K : PySem.W.Frag} {mg : Str → Option Value} {base : Heap} {C : Str → Option Addr} {f : Addr} {fd : FuncData} (X : Txt K mg) (F : Fun K "law" "law" st_law f fd) : FnG P w K mg base 7 f fd ["script"] (spZ C F_law 1 K) := by
  have D_require := ok_require (P := P) (w := w) (base := base) (C := C) X.T X.D_require 
  have D_is_integer := ok_is_integer (P := P) (w := w) (base := base) (C := C) X.T X.D_is_integer 
  have D_is_end := ok_is_end (P := P) (w := w) (base := base) (C := C) X.T X.D_is_end D_is_integer
  have D_is_less := ok_is_less (P := P) (w := w) (base := base) (C := C) X.T X.D_is_less 
  have D_first_bad_mark := ok_first_bad_mark (P := P) (w := w) (base := base) (C := C) X.T X.D_first_bad_mark D_is_integer
  have D_is_marks := ok_is_marks (P := P) (w := w) (base := base) (C := C) X.T X.D_is_marks D_first_bad_mark
  have D_many_at_most := ok_many_at_most (P := P) (w := w) (base := base) (C := C) X.T X.D_many_at_most 
  have D_mark_above := ok_mark_above (P := P) (w := w) (base := base) (C := C) X.T X.D_mark_above 
  have D_case_index := ok_case_index (P := P) (w := w) (base := base) (C := C) X.T X.D_case_index D_mark_above D_is_less
  have D_gap_of := ok_gap_of (P := P) (w := w) (base := base) (C := C) X.T X.D_gap_of D_is_marks D_require D_is_integer D_many_at_most
  have D_upper_mark := ok_upper_mark (P := P) (w := w) (base := base) (C := C) X.T X.D_upper_mark D_is_marks D_require D_is_integer D_mark_above
  have D_room_of := ok_room_of (P := P) (w := w) (base := base) (C := C) X.T X.D_room_of D_upper_mark
  have D_case_of := ok_case_of (P := P) (w := w) (base := base) (C := C) X.T X.D_case_of D_is_marks D_require D_is_integer D_is_end D_is_less D_case_index
  have D__law_feed := ok__law_feed (P := P) (w := w) (base := base) (C := C) X.T X.D__law_feed 
  have D__law_draw := ok__law_draw (P := P) (w := w) (base := base) (C := C) X.T X.D__law_draw 
  have D__law_pick := ok__law_pick (P := P) (w := w) (base := base) (C := C) X.T X.D__law_pick D__law_draw
  have D__law_tops := ok__law_tops (P := P) (w := w) (base := base) (C := C) X.T X.D__law_tops D__law_draw
  have D__law_counted := ok__law_counted (P := P) (w := w) (base := base) (C := C) X.T X.D__law_counted 
  have D__law_met := ok__law_met (P := P) (w := w) (base := base) (C := C) X.T X.D__law_met 
  have D__law_are_right := ok__law_are_right (P := P) (w := w) (base := base) (C := C) X.T X.D__law_are_right D__law_counted D_gap_of D_room_of D_upper_mark D_case_of D__law_met
  exact ok_law (P := P) (w := w) (base := base) (C := C) X.T F D__law_feed D__law_pick D__law_tops D__law_are_right
theorem all_mk {w : World} {P : Program} {K : PySem.W.Frag} {h : Heap} {mg : Str → Option Value} {fa f0 f1 f2 f3 f4 f5 f6 f7 f8 f9 f10 f11 f12 f13 f14 f15 f16 f17 f18 f19 f20 e0 : Addr} (X : K.In h) (G : h.Ns mainGlobals mg) (hfa : mg "law" = some (.ref fa))
    {od0 an0 od1 an1 od2 an2 od3 an3 od4 an4 od5 an5 od6 an6 od7 an7 od8 an8 od9 an9 od10 an10 od11 an11 od12 an12 od13 an13 od14 an14 od15 an15 od16 an16 od17 an17 od18 an18 od19 an19 od20 an20 ed0 : Option Addr} {sl0 sl1 sl2 sl3 sl4 sl5 sl6 sl7 sl8 sl9 sl10 sl11 sl12 sl13 sl14 sl15 sl16 sl17 sl18 sl19 sl20 es0 : Array (Option Value)} {oc0 kV0 dc0 pm0 cd0 ct0 oc1 kV1 dc1 pm1 cd1 ct1 oc2 kV2 dc2 pm2 cd2 ct2 oc3 kV3 dc3 pm3 cd3 ct3 oc4 kV4 dc4 pm4 cd4 ct4 oc5 kV5 dc5 pm5 cd5 ct5 oc6 kV6 dc6 pm6 cd6 ct6 oc7 kV7 dc7 pm7 cd7 ct7 oc8 kV8 dc8 pm8 cd8 ct8 oc9 kV9 dc9 pm9 cd9 ct9 oc10 kV10 dc10 pm10 cd10 ct10 oc11 kV11 dc11 pm11 cd11 ct11 oc12 kV12 dc12 pm12 cd12 ct12 oc13 kV13 dc13 pm13 cd13 ct13 oc14 kV14 dc14 pm14 cd14 ct14 oc15 kV15 dc15 pm15 cd15 ct15 oc16 kV16 dc16 pm16 cd16 ct16 oc17 kV17 dc17 pm17 cd17 ct17 oc18 kV18 dc18 pm18 cd18 ct18 oc19 kV19 dc19 pm19 cd19 ct19 oc20 kV20 dc20 pm20 cd20 ct20  : Value} {ei0 : Array Value} {en0 : Nat}
    (a0 : PySem.W.nsIn K mainGlobals "require" = some (some (.ref f0))) (l0 : K.lookup f0 = some ⟨oc0, od0, .func (PySem.W.fnOf "require" "require" (defArgs st_require) (defBody st_require) (defScope st_require) .none kV0 dc0 pm0 an0 cd0 ct0), sl0⟩) (c0 : PySem.W.codeIn K cd0 "require" = true) (k0 : PySem.W.keepIn K (.ref f0) = true)
    (a1 : PySem.W.nsIn K mainGlobals "is_integer" = some (some (.ref f1))) (l1 : K.lookup f1 = some ⟨oc1, od1, .func (PySem.W.fnOf "is_integer" "is_integer" (defArgs st_is_integer) (defBody st_is_integer) (defScope st_is_integer) .none kV1 dc1 pm1 an1 cd1 ct1), sl1⟩) (c1 : PySem.W.codeIn K cd1 "is_integer" = true) (k1 : PySem.W.keepIn K (.ref f1) = true)
    (a2 : PySem.W.nsIn K mainGlobals "is_end" = some (some (.ref f2))) (l2 : K.lookup f2 = some ⟨oc2, od2, .func (PySem.W.fnOf "is_end" "is_end" (defArgs st_is_end) (defBody st_is_end) (defScope st_is_end) .none kV2 dc2 pm2 an2 cd2 ct2), sl2⟩) (c2 : PySem.W.codeIn K cd2 "is_end" = true) (k2 : PySem.W.keepIn K (.ref f2) = true)
    (a3 : PySem.W.nsIn K mainGlobals "is_less" = some (some (.ref f3))) (l3 : K.lookup f3 = some ⟨oc3, od3, .func (PySem.W.fnOf "is_less" "is_less" (defArgs st_is_less) (defBody st_is_less) (defScope st_is_less) .none kV3 dc3 pm3 an3 cd3 ct3), sl3⟩) (c3 : PySem.W.codeIn K cd3 "is_less" = true) (k3 : PySem.W.keepIn K (.ref f3) = true)
    (a4 : PySem.W.nsIn K mainGlobals "first_bad_mark" = some (some (.ref f4))) (l4 : K.lookup f4 = some ⟨oc4, od4, .func (PySem.W.fnOf "first_bad_mark" "first_bad_mark" (defArgs st_first_bad_mark) (defBody st_first_bad_mark) (defScope st_first_bad_mark) .none kV4 dc4 pm4 an4 cd4 ct4), sl4⟩) (c4 : PySem.W.codeIn K cd4 "first_bad_mark" = true) (k4 : PySem.W.keepIn K (.ref f4) = true)
    (a5 : PySem.W.nsIn K mainGlobals "is_marks" = some (some (.ref f5))) (l5 : K.lookup f5 = some ⟨oc5, od5, .func (PySem.W.fnOf "is_marks" "is_marks" (defArgs st_is_marks) (defBody st_is_marks) (defScope st_is_marks) .none kV5 dc5 pm5 an5 cd5 ct5), sl5⟩) (c5 : PySem.W.codeIn K cd5 "is_marks" = true) (k5 : PySem.W.keepIn K (.ref f5) = true)
    (a6 : PySem.W.nsIn K mainGlobals "many_at_most" = some (some (.ref f6))) (l6 : K.lookup f6 = some ⟨oc6, od6, .func (PySem.W.fnOf "many_at_most" "many_at_most" (defArgs st_many_at_most) (defBody st_many_at_most) (defScope st_many_at_most) .none kV6 dc6 pm6 an6 cd6 ct6), sl6⟩) (c6 : PySem.W.codeIn K cd6 "many_at_most" = true) (k6 : PySem.W.keepIn K (.ref f6) = true)
    (a7 : PySem.W.nsIn K mainGlobals "mark_above" = some (some (.ref f7))) (l7 : K.lookup f7 = some ⟨oc7, od7, .func (PySem.W.fnOf "mark_above" "mark_above" (defArgs st_mark_above) (defBody st_mark_above) (defScope st_mark_above) .none kV7 dc7 pm7 an7 cd7 ct7), sl7⟩) (c7 : PySem.W.codeIn K cd7 "mark_above" = true) (k7 : PySem.W.keepIn K (.ref f7) = true)
    (a8 : PySem.W.nsIn K mainGlobals "case_index" = some (some (.ref f8))) (l8 : K.lookup f8 = some ⟨oc8, od8, .func (PySem.W.fnOf "case_index" "case_index" (defArgs st_case_index) (defBody st_case_index) (defScope st_case_index) .none kV8 dc8 pm8 an8 cd8 ct8), sl8⟩) (c8 : PySem.W.codeIn K cd8 "case_index" = true) (k8 : PySem.W.keepIn K (.ref f8) = true)
    (a9 : PySem.W.nsIn K mainGlobals "gap_of" = some (some (.ref f9))) (l9 : K.lookup f9 = some ⟨oc9, od9, .func (PySem.W.fnOf "gap_of" "gap_of" (defArgs st_gap_of) (defBody st_gap_of) (defScope st_gap_of) .none kV9 dc9 pm9 an9 cd9 ct9), sl9⟩) (c9 : PySem.W.codeIn K cd9 "gap_of" = true) (k9 : PySem.W.keepIn K (.ref f9) = true)
    (a10 : PySem.W.nsIn K mainGlobals "upper_mark" = some (some (.ref f10))) (l10 : K.lookup f10 = some ⟨oc10, od10, .func (PySem.W.fnOf "upper_mark" "upper_mark" (defArgs st_upper_mark) (defBody st_upper_mark) (defScope st_upper_mark) .none kV10 dc10 pm10 an10 cd10 ct10), sl10⟩) (c10 : PySem.W.codeIn K cd10 "upper_mark" = true) (k10 : PySem.W.keepIn K (.ref f10) = true)
    (a11 : PySem.W.nsIn K mainGlobals "room_of" = some (some (.ref f11))) (l11 : K.lookup f11 = some ⟨oc11, od11, .func (PySem.W.fnOf "room_of" "room_of" (defArgs st_room_of) (defBody st_room_of) (defScope st_room_of) .none kV11 dc11 pm11 an11 cd11 ct11), sl11⟩) (c11 : PySem.W.codeIn K cd11 "room_of" = true) (k11 : PySem.W.keepIn K (.ref f11) = true)
    (a12 : PySem.W.nsIn K mainGlobals "case_of" = some (some (.ref f12))) (l12 : K.lookup f12 = some ⟨oc12, od12, .func (PySem.W.fnOf "case_of" "case_of" (defArgs st_case_of) (defBody st_case_of) (defScope st_case_of) .none kV12 dc12 pm12 an12 cd12 ct12), sl12⟩) (c12 : PySem.W.codeIn K cd12 "case_of" = true) (k12 : PySem.W.keepIn K (.ref f12) = true)
    (a13 : PySem.W.nsIn K mainGlobals "_law_feed" = some (some (.ref f13))) (l13 : K.lookup f13 = some ⟨oc13, od13, .func (PySem.W.fnOf "_law_feed" "_law_feed" (defArgs st__law_feed) (defBody st__law_feed) (defScope st__law_feed) .none kV13 dc13 pm13 an13 cd13 ct13), sl13⟩) (c13 : PySem.W.codeIn K cd13 "_law_feed" = true) (k13 : PySem.W.keepIn K (.ref f13) = true)
    (a14 : PySem.W.nsIn K mainGlobals "_law_draw" = some (some (.ref f14))) (l14 : K.lookup f14 = some ⟨oc14, od14, .func (PySem.W.fnOf "_law_draw" "_law_draw" (defArgs st__law_draw) (defBody st__law_draw) (defScope st__law_draw) .none kV14 dc14 pm14 an14 cd14 ct14), sl14⟩) (c14 : PySem.W.codeIn K cd14 "_law_draw" = true) (k14 : PySem.W.keepIn K (.ref f14) = true)
    (a15 : PySem.W.nsIn K mainGlobals "_law_pick" = some (some (.ref f15))) (l15 : K.lookup f15 = some ⟨oc15, od15, .func (PySem.W.fnOf "_law_pick" "_law_pick" (defArgs st__law_pick) (defBody st__law_pick) (defScope st__law_pick) .none kV15 dc15 pm15 an15 cd15 ct15), sl15⟩) (c15 : PySem.W.codeIn K cd15 "_law_pick" = true) (k15 : PySem.W.keepIn K (.ref f15) = true)
    (a16 : PySem.W.nsIn K mainGlobals "_law_tops" = some (some (.ref f16))) (l16 : K.lookup f16 = some ⟨oc16, od16, .func (PySem.W.fnOf "_law_tops" "_law_tops" (defArgs st__law_tops) (defBody st__law_tops) (defScope st__law_tops) .none kV16 dc16 pm16 an16 cd16 ct16), sl16⟩) (c16 : PySem.W.codeIn K cd16 "_law_tops" = true) (k16 : PySem.W.keepIn K (.ref f16) = true)
    (a17 : PySem.W.nsIn K mainGlobals "_law_counted" = some (some (.ref f17))) (l17 : K.lookup f17 = some ⟨oc17, od17, .func (PySem.W.fnOf "_law_counted" "_law_counted" (defArgs st__law_counted) (defBody st__law_counted) (defScope st__law_counted) .none kV17 dc17 pm17 an17 cd17 ct17), sl17⟩) (c17 : PySem.W.codeIn K cd17 "_law_counted" = true) (k17 : PySem.W.keepIn K (.ref f17) = true)
    (a18 : PySem.W.nsIn K mainGlobals "_law_met" = some (some (.ref f18))) (l18 : K.lookup f18 = some ⟨oc18, od18, .func (PySem.W.fnOf "_law_met" "_law_met" (defArgs st__law_met) (defBody st__law_met) (defScope st__law_met) .none kV18 dc18 pm18 an18 cd18 ct18), sl18⟩) (c18 : PySem.W.codeIn K cd18 "_law_met" = true) (k18 : PySem.W.keepIn K (.ref f18) = true)
    (a19 : PySem.W.nsIn K mainGlobals "_law_are_right" = some (some (.ref f19))) (l19 : K.lookup f19 = some ⟨oc19, od19, .func (PySem.W.fnOf "_law_are_right" "_law_are_right" (defArgs st__law_are_right) (defBody st__law_are_right) (defScope st__law_are_right) .none kV19 dc19 pm19 an19 cd19 ct19), sl19⟩) (c19 : PySem.W.codeIn K cd19 "_law_are_right" = true) (k19 : PySem.W.keepIn K (.ref f19) = true)
    (a20 : PySem.W.nsIn K mainGlobals "law" = some (some (.ref f20))) (l20 : K.lookup f20 = some ⟨oc20, od20, .func (PySem.W.fnOf "law" "law" (defArgs st_law) (defBody st_law) (defScope st_law) .none kV20 dc20 pm20 an20 cd20 ct20), sl20⟩) (c20 : PySem.W.codeIn K cd20 "law" = true) (k20 : PySem.W.keepIn K (.ref f20) = true)
    (z0 : PySem.W.nsIn K mainGlobals "bool" = some none)
    (z1 : PySem.W.nsIn K mainGlobals "enumerate" = some none)
    (z2 : PySem.W.nsIn K mainGlobals "int" = some none)
    (z3 : PySem.W.nsIn K mainGlobals "isinstance" = some none)
    (z4 : PySem.W.nsIn K mainGlobals "len" = some none)
    (z5 : PySem.W.nsIn K mainGlobals "range" = some none)
    (z6 : PySem.W.nsIn K mainGlobals "repr" = some none)
    (z7 : PySem.W.nsIn K mainGlobals "tuple" = some none)
    (q0 : PySem.W.nsIn K mainGlobals "CASES" = some (some (.ref e0))) (r0 : K.lookup e0 = some ⟨.type "tuple", ed0, .seq ei0 en0, es0⟩) (v0 : Vals ((["near", "at", "far"] : List Str).map V.str) ei0.toList) (w0 : ei0.size ≤ sizeLine)
    : ∃ fd : FuncData, (∀ (s : Shared) (v : Value), BindsTo s fd ⟨[v], []⟩ [("script", v)]) ∧ ∀ base : Heap, K.In base → base.Ns mainGlobals mg → FnG P w K mg base 7 fa fd ["script"] (spZ (fun _ => none) F_law 1 K) := by
  have e := hfa.symm.trans (PySem.W.mg_of X G a20)
  cases e
  have TX : Txt K mg := ⟨⟨PySem.W.mg_none_of X G z0, PySem.W.mg_none_of X G z1, PySem.W.mg_none_of X G z2, PySem.W.mg_none_of X G z3, PySem.W.mg_none_of X G z4, PySem.W.mg_none_of X G z5, PySem.W.mg_none_of X G z6, PySem.W.mg_none_of X G z7, kat_strs ["near", "at", "far"] (PySem.W.mg_of X G q0) r0 rfl rfl w0 v0⟩,
    ⟨⟨f0, _, PySem.W.mg_of X G a0, fun_mk (st := st_require) l0 c0 k0, (fun_mk (st := st_require) l0 c0 k0).binds (ps := ["holds", "word"]) fun _ _ _ _ _ _ us hl => match us, hl with | [_, _], _ => rfl⟩⟩,
    ⟨⟨f1, _, PySem.W.mg_of X G a1, fun_mk (st := st_is_integer) l1 c1 k1, (fun_mk (st := st_is_integer) l1 c1 k1).binds (ps := ["thing"]) fun _ _ _ _ _ _ us hl => match us, hl with | [_], _ => rfl⟩⟩,
    ⟨⟨f2, _, PySem.W.mg_of X G a2, fun_mk (st := st_is_end) l2 c2 k2, (fun_mk (st := st_is_end) l2 c2 k2).binds (ps := ["thing"]) fun _ _ _ _ _ _ us hl => match us, hl with | [_], _ => rfl⟩⟩,
    ⟨⟨f3, _, PySem.W.mg_of X G a3, fun_mk (st := st_is_less) l3 c3 k3, (fun_mk (st := st_is_less) l3 c3 k3).binds (ps := ["end", "other"]) fun _ _ _ _ _ _ us hl => match us, hl with | [_, _], _ => rfl⟩⟩,
    ⟨⟨f4, _, PySem.W.mg_of X G a4, fun_mk (st := st_first_bad_mark) l4 c4 k4, (fun_mk (st := st_first_bad_mark) l4 c4 k4).binds (ps := ["marks"]) fun _ _ _ _ _ _ us hl => match us, hl with | [_], _ => rfl⟩⟩,
    ⟨⟨f5, _, PySem.W.mg_of X G a5, fun_mk (st := st_is_marks) l5 c5 k5, (fun_mk (st := st_is_marks) l5 c5 k5).binds (ps := ["thing"]) fun _ _ _ _ _ _ us hl => match us, hl with | [_], _ => rfl⟩⟩,
    ⟨⟨f6, _, PySem.W.mg_of X G a6, fun_mk (st := st_many_at_most) l6 c6 k6, (fun_mk (st := st_many_at_most) l6 c6 k6).binds (ps := ["marks", "x"]) fun _ _ _ _ _ _ us hl => match us, hl with | [_, _], _ => rfl⟩⟩,
    ⟨⟨f7, _, PySem.W.mg_of X G a7, fun_mk (st := st_mark_above) l7 c7 k7, (fun_mk (st := st_mark_above) l7 c7 k7).binds (ps := ["marks", "x"]) fun _ _ _ _ _ _ us hl => match us, hl with | [_, _], _ => rfl⟩⟩,
    ⟨⟨f8, _, PySem.W.mg_of X G a8, fun_mk (st := st_case_index) l8 c8 k8, (fun_mk (st := st_case_index) l8 c8 k8).binds (ps := ["marks", "x", "y"]) fun _ _ _ _ _ _ us hl => match us, hl with | [_, _, _], _ => rfl⟩⟩,
    ⟨⟨f9, _, PySem.W.mg_of X G a9, fun_mk (st := st_gap_of) l9 c9 k9, (fun_mk (st := st_gap_of) l9 c9 k9).binds (ps := ["marks", "x"]) fun _ _ _ _ _ _ us hl => match us, hl with | [_, _], _ => rfl⟩⟩,
    ⟨⟨f10, _, PySem.W.mg_of X G a10, fun_mk (st := st_upper_mark) l10 c10 k10, (fun_mk (st := st_upper_mark) l10 c10 k10).binds (ps := ["marks", "x"]) fun _ _ _ _ _ _ us hl => match us, hl with | [_, _], _ => rfl⟩⟩,
    ⟨⟨f11, _, PySem.W.mg_of X G a11, fun_mk (st := st_room_of) l11 c11 k11, (fun_mk (st := st_room_of) l11 c11 k11).binds (ps := ["marks", "x"]) fun _ _ _ _ _ _ us hl => match us, hl with | [_, _], _ => rfl⟩⟩,
    ⟨⟨f12, _, PySem.W.mg_of X G a12, fun_mk (st := st_case_of) l12 c12 k12, (fun_mk (st := st_case_of) l12 c12 k12).binds (ps := ["marks", "x", "y"]) fun _ _ _ _ _ _ us hl => match us, hl with | [_, _, _], _ => rfl⟩⟩,
    ⟨⟨f13, _, PySem.W.mg_of X G a13, fun_mk (st := st__law_feed) l13 c13 k13, (fun_mk (st := st__law_feed) l13 c13 k13).binds (ps := ["script"]) fun _ _ _ _ _ _ us hl => match us, hl with | [_], _ => rfl⟩⟩,
    ⟨⟨f14, _, PySem.W.mg_of X G a14, fun_mk (st := st__law_draw) l14 c14 k14, (fun_mk (st := st__law_draw) l14 c14 k14).binds (ps := ["feed", "size"]) fun _ _ _ _ _ _ us hl => match us, hl with | [_, _], _ => rfl⟩⟩,
    ⟨⟨f15, _, PySem.W.mg_of X G a15, fun_mk (st := st__law_pick) l15 c15 k15, (fun_mk (st := st__law_pick) l15 c15 k15).binds (ps := ["feed", "some"]) fun _ _ _ _ _ _ us hl => match us, hl with | [_, _], _ => rfl⟩⟩,
    ⟨⟨f16, _, PySem.W.mg_of X G a16, fun_mk (st := st__law_tops) l16 c16 k16, (fun_mk (st := st__law_tops) l16 c16 k16).binds (ps := ["feed", "most", "wide"]) fun _ _ _ _ _ _ us hl => match us, hl with | [_, _, _], _ => rfl⟩⟩,
    ⟨⟨f17, _, PySem.W.mg_of X G a17, fun_mk (st := st__law_counted) l17 c17 k17, (fun_mk (st := st__law_counted) l17 c17 k17).binds (ps := ["tops", "at", "far"]) fun _ _ _ _ _ _ us hl => match us, hl with | [_, _, _], _ => rfl⟩⟩,
    ⟨⟨f18, _, PySem.W.mg_of X G a18, fun_mk (st := st__law_met) l18 c18 k18, (fun_mk (st := st__law_met) l18 c18 k18).binds (ps := ["tops", "at", "late"]) fun _ _ _ _ _ _ us hl => match us, hl with | [_, _, _], _ => rfl⟩⟩,
    ⟨⟨f19, _, PySem.W.mg_of X G a19, fun_mk (st := st__law_are_right) l19 c19 k19, (fun_mk (st := st__law_are_right) l19 c19 k19).binds (ps := ["tops", "by", "low", "high"]) fun _ _ _ _ _ _ us hl => match us, hl with | [_, _, _, _], _ => rfl⟩⟩⟩
  refine ⟨PySem.W.fnOf "law" "law" (defArgs st_law) (defBody st_law) (defScope st_law) .none kV20 dc20 pm20 an20 cd20 ct20, fun s v => .of_eq rfl, fun base _ _ => ?_⟩
  exact ok_all (P := P) (w := w) (base := base) (C := fun _ => none) TX (fun_mk (st := st_law) l20 c20 k20)
end K17

namespace K17
open PySem PySem.Spec PyProof.Rows L2 Zed
/-! ### the mathematics -/
def fd (cs : List Int) (s l t : Int) : MO := .dict [(.inr "cells", .list (zis cs)), (.inr "spot", .int s), (.inr "left", .int l), (.inr "turns", .int t)]
def Fd (μ : Mu) : Prop := ∃ cs s l t, μ = [fd cs s l t]
section
variable {μ : Mu} {cs : List Int} {s l t : Int}
theorem get_turns : getW (.m 0) (.d (.str "turns")) [fd cs s l t] = .ok (.d (.int t)) [fd cs s l t] := rfl
theorem get_left : getW (.m 0) (.d (.str "left")) [fd cs s l t] = .ok (.d (.int l)) [fd cs s l t] := rfl
theorem get_spot : getW (.m 0) (.d (.str "spot")) [fd cs s l t] = .ok (.d (.int s)) [fd cs s l t] := rfl
theorem get_cells : getW (.m 0) (.d (.str "cells")) [fd cs s l t] = .ok (.d (.list (zis cs))) [fd cs s l t] := rfl
theorem put_turns {x : Int} : putDW (.m 0) (.d (.str "turns")) (.d (.int x)) [fd cs s l t] = .ok () [fd cs s l x] := rfl
theorem put_left {x : Int} : putDW (.m 0) (.d (.str "left")) (.d (.int x)) [fd cs s l t] = .ok () [fd cs s x t] := rfl
theorem put_spot {x : Int} : putDW (.m 0) (.d (.str "spot")) (.d (.int x)) [fd cs s l t] = .ok () [fd cs x l t] := rfl
theorem draw_ok {size : Int} (h0 : 0 < size) (h1 : size < 1073741824) (F : Fd μ) : ∃ d μ', F__law_draw [.m 0, .d (.int size)] μ = .ok (.d (.int d)) μ' ∧ 0 ≤ d ∧ d < size ∧ Fd μ' := by
  obtain ⟨cs, s, l, t, rfl⟩ := F
  have hm : ∀ x : Int, 0 ≤ x % size ∧ x % size < size := fun x => ⟨Int.emod_nonneg _ (by omega), Int.emod_lt_of_pos _ h0⟩
  unfold F__law_draw g__law_draw
  simp only [q_bind, q_bindx, q_st, q_stx, q_c, q_v, q_getS, q_op, q_un, q_tv, q_asB, q_tand, q_tor, q_tnot, q_if, q_and, q_or, q_not, q_tY, q_anil, q_acons, q_lst, q_tup, q_fn, q_sl, q_pnone, q_psome, q_asI, q_lc, q_ls, q_lr, q_le, q_seqL, q_seqT, q_enumL, q_enumT, q_r1, q_r2, q_nil, q_seq, q_nx, q_rt, q_bk, q_ct, q_xc, q_run, q_onx, q_ort, q_oxc, q_set, q_ret, q_ex, q_pass, q_break, q_cont, q_sif, q_par, q_par2, q_parO, q_frz, q_frzK, q_app, q_appG, q_appK, q_own, q_asg, q_put, q_for, q_forKL, q_forKT, q_forR, q_forl, q_fornil, q_lnx, q_lct, q_lbk, q_lrt, q_wnx, q_wct, q_wbk, q_wrt, startE, List.map_cons, List.map_nil, List.length_cons, List.length_nil, Nat.reduceAdd, Nat.reduceSub, List.replicate_succ, List.replicate_zero, List.cons_append, List.nil_append, List.append_nil, List.getElem?_cons_succ, List.getElem?_cons_zero, List.set_cons_succ, List.set_cons_zero, wipeE, o_add, o_sub, o_neg, o_lt, o_le, o_gt, o_ge, o_int, o_intb, o_lenL, o_lenT, o_is, o_isnot, o_eqi, o_nei, o_eqs, o_nes, o_tupL, o_mkL0, o_mkT0, o_mkL1, o_mkT1, o_mkL2, o_mkT2, o_mkL3, o_mkT3, o_mkL4, o_mkT4, o_mkL5, o_mkT5, o_mkL6, o_mkT6, o_mulr, o_mull, o_mulm, o_mod, o_fdiv, o_pow, and_self, true_and, and_true, get_turns, get_left, put_turns]
  by_cases hl : 0 < l
  · simp only [hl, decide_true, if_true, q_bind, q_bindx, q_st, q_stx, q_c, q_v, q_getS, q_op, q_un, q_tv, q_asB, q_tand, q_tor, q_tnot, q_if, q_and, q_or, q_not, q_tY, q_anil, q_acons, q_lst, q_tup, q_fn, q_sl, q_pnone, q_psome, q_asI, q_lc, q_ls, q_lr, q_le, q_seqL, q_seqT, q_enumL, q_enumT, q_r1, q_r2, q_nil, q_seq, q_nx, q_rt, q_bk, q_ct, q_xc, q_run, q_onx, q_ort, q_oxc, q_set, q_ret, q_ex, q_pass, q_break, q_cont, q_sif, q_par, q_par2, q_parO, q_frz, q_frzK, q_app, q_appG, q_appK, q_own, q_asg, q_put, q_for, q_forKL, q_forKT, q_forR, q_forl, q_fornil, q_lnx, q_lct, q_lbk, q_lrt, q_wnx, q_wct, q_wbk, q_wrt, startE, List.map_cons, List.map_nil, List.length_cons, List.length_nil, Nat.reduceAdd, Nat.reduceSub, List.replicate_succ, List.replicate_zero, List.cons_append, List.nil_append, List.append_nil, List.getElem?_cons_succ, List.getElem?_cons_zero, List.set_cons_succ, List.set_cons_zero, wipeE, o_add, o_sub, o_neg, o_lt, o_le, o_gt, o_ge, o_int, o_intb, o_lenL, o_lenT, o_is, o_isnot, o_eqi, o_nei, o_eqs, o_nes, o_tupL, o_mkL0, o_mkT0, o_mkL1, o_mkT1, o_mkL2, o_mkT2, o_mkL3, o_mkT3, o_mkL4, o_mkT4, o_mkL5, o_mkT5, o_mkL6, o_mkT6, o_mulr, o_mull, o_mulm, o_mod, o_fdiv, o_pow, and_self, true_and, and_true, get_left, o_mod h0, put_left, o_fdiv ⟨h0, h1⟩]
    exact ⟨_, _, rfl, (hm _).1, (hm _).2, _, _, _, _, rfl⟩
  · simp only [hl, decide_false, if_false, Bool.false_eq_true, q_bind, q_bindx, q_st, q_stx, q_c, q_v, q_getS, q_op, q_un, q_tv, q_asB, q_tand, q_tor, q_tnot, q_if, q_and, q_or, q_not, q_tY, q_anil, q_acons, q_lst, q_tup, q_fn, q_sl, q_pnone, q_psome, q_asI, q_lc, q_ls, q_lr, q_le, q_seqL, q_seqT, q_enumL, q_enumT, q_r1, q_r2, q_nil, q_seq, q_nx, q_rt, q_bk, q_ct, q_xc, q_run, q_onx, q_ort, q_oxc, q_set, q_ret, q_ex, q_pass, q_break, q_cont, q_sif, q_par, q_par2, q_parO, q_frz, q_frzK, q_app, q_appG, q_appK, q_own, q_asg, q_put, q_for, q_forKL, q_forKT, q_forR, q_forl, q_fornil, q_lnx, q_lct, q_lbk, q_lrt, q_wnx, q_wct, q_wbk, q_wrt, startE, List.map_cons, List.map_nil, List.length_cons, List.length_nil, Nat.reduceAdd, Nat.reduceSub, List.replicate_succ, List.replicate_zero, List.cons_append, List.nil_append, List.append_nil, List.getElem?_cons_succ, List.getElem?_cons_zero, List.set_cons_succ, List.set_cons_zero, wipeE, o_add, o_sub, o_neg, o_lt, o_le, o_gt, o_ge, o_int, o_intb, o_lenL, o_lenT, o_is, o_isnot, o_eqi, o_nei, o_eqs, o_nes, o_tupL, o_mkL0, o_mkT0, o_mkL1, o_mkT1, o_mkL2, o_mkT2, o_mkL3, o_mkT3, o_mkL4, o_mkT4, o_mkL5, o_mkT5, o_mkL6, o_mkT6, o_mulr, o_mull, o_mulm, o_mod, o_fdiv, o_pow, and_self, true_and, and_true, get_cells, get_spot, put_spot, o_neL0]
    have hcell : ∃ c : Int, (cs = [] → c = 96017) ∧ (cs ≠ [] → atI (zis cs) (s % (cs.length : Int)) = some (.int c)) := by
      by_cases hc : cs = []
      · exact ⟨96017, fun _ => rfl, fun h => absurd hc h⟩
      · have hp : (0 : Int) < cs.length := by cases cs <;> simp_all
        obtain ⟨c, _, e⟩ := atI_ints (xs := cs) (modlt (x := s) hp).1 (modlt hp).2
        exact ⟨c, fun h => absurd h hc, fun _ => e⟩
    obtain ⟨c, hc1, hc2⟩ := hcell
    have hcell : ∀ μ : Mu, (if (!decide (cs = [])) = true then (modW (W.d (PyData.int s)) (W.d (PyData.int ↑(zis cs).length)) μ).bind fun y μ => ixW (W.d (PyData.list (zis cs))) y μ else R.ok (W.d (PyData.int 96017)) μ) = R.ok (.d (.int c)) μ := by
      intro μ
      by_cases hc : cs = []
      · rw [if_neg (by simp [hc]), hc1 hc]
      · have hp : (0 : Int) < (zis cs).length := by cases cs <;> simp_all
        rw [if_pos (by simp [hc]), o_mod hp, q_bind, o_ix rfl (by simpa using hc2 hc)]
    rw [hcell]
    simp only [q_bind, q_bindx, q_st, q_stx, q_c, q_v, q_getS, q_op, q_un, q_tv, q_asB, q_tand, q_tor, q_tnot, q_if, q_and, q_or, q_not, q_tY, q_anil, q_acons, q_lst, q_tup, q_fn, q_sl, q_pnone, q_psome, q_asI, q_lc, q_ls, q_lr, q_le, q_seqL, q_seqT, q_enumL, q_enumT, q_r1, q_r2, q_nil, q_seq, q_nx, q_rt, q_bk, q_ct, q_xc, q_run, q_onx, q_ort, q_oxc, q_set, q_ret, q_ex, q_pass, q_break, q_cont, q_sif, q_par, q_par2, q_parO, q_frz, q_frzK, q_app, q_appG, q_appK, q_own, q_asg, q_put, q_for, q_forKL, q_forKT, q_forR, q_forl, q_fornil, q_lnx, q_lct, q_lbk, q_lrt, q_wnx, q_wct, q_wbk, q_wrt, startE, List.map_cons, List.map_nil, List.length_cons, List.length_nil, Nat.reduceAdd, Nat.reduceSub, List.replicate_succ, List.replicate_zero, List.cons_append, List.nil_append, List.append_nil, List.getElem?_cons_succ, List.getElem?_cons_zero, List.set_cons_succ, List.set_cons_zero, wipeE, o_add, o_sub, o_neg, o_lt, o_le, o_gt, o_ge, o_int, o_intb, o_lenL, o_lenT, o_is, o_isnot, o_eqi, o_nei, o_eqs, o_nes, o_tupL, o_mkL0, o_mkT0, o_mkL1, o_mkT1, o_mkL2, o_mkT2, o_mkL3, o_mkT3, o_mkL4, o_mkT4, o_mkL5, o_mkT5, o_mkL6, o_mkT6, o_mulr, o_mull, o_mulm, o_mod, o_fdiv, o_pow, and_self, true_and, and_true, o_pow (a := 10) (b := 18) (by decide)]
    simp only [ifok, q_bind, q_bindx, q_st, q_stx, q_c, q_v, q_getS, q_op, q_un, q_tv, q_asB, q_tand, q_tor, q_tnot, q_if, q_and, q_or, q_not, q_tY, q_anil, q_acons, q_lst, q_tup, q_fn, q_sl, q_pnone, q_psome, q_asI, q_lc, q_ls, q_lr, q_le, q_seqL, q_seqT, q_enumL, q_enumT, q_r1, q_r2, q_nil, q_seq, q_nx, q_rt, q_bk, q_ct, q_xc, q_run, q_onx, q_ort, q_oxc, q_set, q_ret, q_ex, q_pass, q_break, q_cont, q_sif, q_par, q_par2, q_parO, q_frz, q_frzK, q_app, q_appG, q_appK, q_own, q_asg, q_put, q_for, q_forKL, q_forKT, q_forR, q_forl, q_fornil, q_lnx, q_lct, q_lbk, q_lrt, q_wnx, q_wct, q_wbk, q_wrt, startE, List.map_cons, List.map_nil, List.length_cons, List.length_nil, Nat.reduceAdd, Nat.reduceSub, List.replicate_succ, List.replicate_zero, List.cons_append, List.nil_append, List.append_nil, List.getElem?_cons_succ, List.getElem?_cons_zero, List.set_cons_succ, List.set_cons_zero, wipeE]
    generalize (if decide (10 ^ Int.toNat 18 ≤ c) = true then decide (s < ↑(zis cs).length) else false) = b
    cases b with
    | true =>
      simp (config := { decide := true }) only [if_true, if_false, q_bind, q_bindx, q_st, q_stx, q_c, q_v, q_getS, q_op, q_un, q_tv, q_asB, q_tand, q_tor, q_tnot, q_if, q_and, q_or, q_not, q_tY, q_anil, q_acons, q_lst, q_tup, q_fn, q_sl, q_pnone, q_psome, q_asI, q_lc, q_ls, q_lr, q_le, q_seqL, q_seqT, q_enumL, q_enumT, q_r1, q_r2, q_nil, q_seq, q_nx, q_rt, q_bk, q_ct, q_xc, q_run, q_onx, q_ort, q_oxc, q_set, q_ret, q_ex, q_pass, q_break, q_cont, q_sif, q_par, q_par2, q_parO, q_frz, q_frzK, q_app, q_appG, q_appK, q_own, q_asg, q_put, q_for, q_forKL, q_forKT, q_forR, q_forl, q_fornil, q_lnx, q_lct, q_lbk, q_lrt, q_wnx, q_wct, q_wbk, q_wrt, startE, List.map_cons, List.map_nil, List.length_cons, List.length_nil, Nat.reduceAdd, Nat.reduceSub, List.replicate_succ, List.replicate_zero, List.cons_append, List.nil_append, List.append_nil, List.getElem?_cons_succ, List.getElem?_cons_zero, List.set_cons_succ, List.set_cons_zero, wipeE, o_add, o_sub, o_neg, o_lt, o_le, o_gt, o_ge, o_int, o_intb, o_lenL, o_lenT, o_is, o_isnot, o_eqi, o_nei, o_eqs, o_nes, o_tupL, o_mkL0, o_mkT0, o_mkL1, o_mkT1, o_mkL2, o_mkT2, o_mkL3, o_mkT3, o_mkL4, o_mkT4, o_mkL5, o_mkT5, o_mkL6, o_mkT6, o_mulr, o_mull, o_mulm, o_mod, o_fdiv, o_pow, and_self, true_and, and_true, h0, h1, put_left]
      exact ⟨_, _, rfl, (hm _).1, (hm _).2, _, _, _, _, rfl⟩
    | false =>
      simp (config := { decide := true }) only [if_true, if_false, q_bind, q_bindx, q_st, q_stx, q_c, q_v, q_getS, q_op, q_un, q_tv, q_asB, q_tand, q_tor, q_tnot, q_if, q_and, q_or, q_not, q_tY, q_anil, q_acons, q_lst, q_tup, q_fn, q_sl, q_pnone, q_psome, q_asI, q_lc, q_ls, q_lr, q_le, q_seqL, q_seqT, q_enumL, q_enumT, q_r1, q_r2, q_nil, q_seq, q_nx, q_rt, q_bk, q_ct, q_xc, q_run, q_onx, q_ort, q_oxc, q_set, q_ret, q_ex, q_pass, q_break, q_cont, q_sif, q_par, q_par2, q_parO, q_frz, q_frzK, q_app, q_appG, q_appK, q_own, q_asg, q_put, q_for, q_forKL, q_forKT, q_forR, q_forl, q_fornil, q_lnx, q_lct, q_lbk, q_lrt, q_wnx, q_wct, q_wbk, q_wrt, startE, List.map_cons, List.map_nil, List.length_cons, List.length_nil, Nat.reduceAdd, Nat.reduceSub, List.replicate_succ, List.replicate_zero, List.cons_append, List.nil_append, List.append_nil, List.getElem?_cons_succ, List.getElem?_cons_zero, List.set_cons_succ, List.set_cons_zero, wipeE, o_add, o_sub, o_neg, o_lt, o_le, o_gt, o_ge, o_int, o_intb, o_lenL, o_lenT, o_is, o_isnot, o_eqi, o_nei, o_eqs, o_nes, o_tupL, o_mkL0, o_mkT0, o_mkL1, o_mkT1, o_mkL2, o_mkT2, o_mkL3, o_mkT3, o_mkL4, o_mkT4, o_mkL5, o_mkT5, o_mkL6, o_mkT6, o_mulr, o_mull, o_mulm, o_mod, o_fdiv, o_pow, and_self, true_and, and_true, h0, h1, get_turns]
      exact ⟨_, _, rfl, (hm _).1, (hm _).2, _, _, _, _, rfl⟩
theorem pick_ok {xs : List PyData} (h : xs ≠ []) (hl : xs.length < 1073741824) (F : Fd μ) : ∃ x ∈ xs, ∃ μ', F__law_pick [.m 0, .d (.list xs)] μ = .ok (.d x) μ' ∧ Fd μ' := by
  have hp : (0 : Int) < (xs.length : Nat) := by cases xs <;> simp_all
  obtain ⟨d, μ', e, d0, d1, F'⟩ := draw_ok (μ := μ) hp (by omega) F
  obtain ⟨x, hx, ex⟩ := atI_ex (xs := xs) d0 d1
  refine ⟨x, hx, μ', ?_, F'⟩
  unfold F__law_pick g__law_pick
  simp only [q_bind, q_bindx, q_st, q_stx, q_c, q_v, q_getS, q_op, q_un, q_tv, q_asB, q_tand, q_tor, q_tnot, q_if, q_and, q_or, q_not, q_tY, q_anil, q_acons, q_lst, q_tup, q_fn, q_sl, q_pnone, q_psome, q_asI, q_lc, q_ls, q_lr, q_le, q_seqL, q_seqT, q_enumL, q_enumT, q_r1, q_r2, q_nil, q_seq, q_nx, q_rt, q_bk, q_ct, q_xc, q_run, q_onx, q_ort, q_oxc, q_set, q_ret, q_ex, q_pass, q_break, q_cont, q_sif, q_par, q_par2, q_parO, q_frz, q_frzK, q_app, q_appG, q_appK, q_own, q_asg, q_put, q_for, q_forKL, q_forKT, q_forR, q_forl, q_fornil, q_lnx, q_lct, q_lbk, q_lrt, q_wnx, q_wct, q_wbk, q_wrt, startE, List.map_cons, List.map_nil, List.length_cons, List.length_nil, Nat.reduceAdd, Nat.reduceSub, List.replicate_succ, List.replicate_zero, List.cons_append, List.nil_append, List.append_nil, List.getElem?_cons_succ, List.getElem?_cons_zero, List.set_cons_succ, List.set_cons_zero, wipeE, o_add, o_sub, o_neg, o_lt, o_le, o_gt, o_ge, o_int, o_intb, o_lenL, o_lenT, o_is, o_isnot, o_eqi, o_nei, o_eqs, o_nes, o_tupL, o_mkL0, o_mkT0, o_mkL1, o_mkT1, o_mkL2, o_mkT2, o_mkL3, o_mkT3, o_mkL4, o_mkT4, o_mkL5, o_mkT5, o_mkL6, o_mkT6, o_mulr, o_mull, o_mulm, o_mod, o_fdiv, o_pow, and_self, true_and, and_true, e, o_ix (x := .list xs) rfl ex]
theorem feed_ok {ns : List Int} (h : ns.length ≤ 63) : ∃ μ, F__law_feed [.s ns] [] = .ok (.m 0) μ ∧ Fd μ := by
  unfold F__law_feed g__law_feed
  have hc : ∀ (env : Ev) (ds : List PyData), (∀ d ∈ ds, ∃ i, d = .int i) → ds.length ≤ szl → lcL (b_n 1) tY (e_fn intW (a_cons (e_v 1) a_nil)) ds [] [some (.w (.s ns)), none] [] = .ok ds [] := by
    intro env ds hd hl
    rw [lc_map (p := fun _ => true) (h := id) ds [] (fun d hm => ?_) (by simpa using hl)]
    · simp
    · obtain ⟨i, rfl⟩ := hd d hm
      exact ⟨_, rfl, rfl, fun _ => rfl⟩
  have hcut : ∃ cs, Zed.cutD (ns.map PyData.int) none (some 63) = zis cs ∧ cs.length ≤ 63 := by
    refine ⟨(ns.drop (HT.sIx ns.length 0 none)).take (HT.sIx ns.length ns.length (some 63) - HT.sIx ns.length 0 none), ?_, ?_⟩
    · unfold Zed.cutD
      rw [List.length_map, ← List.map_drop, ← List.map_take]
    · rw [List.length_take, List.length_drop]
      omega
  obtain ⟨cs, ec, hl⟩ := hcut
  have hz : (zis cs).length ≤ szl := by rw [List.length_map]; exact Nat.le_trans hl (by decide)
  refine ⟨[fd cs 0 0 0], ?_, _, _, _, _, rfl⟩
  simp only [q_bind, q_bindx, q_st, q_stx, q_c, q_v, q_getS, q_op, q_un, q_tv, q_asB, q_tand, q_tor, q_tnot, q_if, q_and, q_or, q_not, q_tY, q_anil, q_acons, q_lst, q_tup, q_fn, q_sl, q_pnone, q_psome, q_asI, q_lc, q_ls, q_lr, q_le, q_seqL, q_seqT, q_enumL, q_enumT, q_r1, q_r2, q_nil, q_seq, q_nx, q_rt, q_bk, q_ct, q_xc, q_run, q_onx, q_ort, q_oxc, q_set, q_ret, q_ex, q_pass, q_break, q_cont, q_sif, q_par, q_par2, q_parO, q_frz, q_frzK, q_app, q_appG, q_appK, q_own, q_asg, q_put, q_for, q_forKL, q_forKT, q_forR, q_forl, q_fornil, q_lnx, q_lct, q_lbk, q_lrt, q_wnx, q_wct, q_wbk, q_wrt, startE, List.map_cons, List.map_nil, List.length_cons, List.length_nil, Nat.reduceAdd, Nat.reduceSub, List.replicate_succ, List.replicate_zero, List.cons_append, List.nil_append, List.append_nil, List.getElem?_cons_succ, List.getElem?_cons_zero, List.set_cons_succ, List.set_cons_zero, wipeE, o_add, o_sub, o_neg, o_lt, o_le, o_gt, o_ge, o_int, o_intb, o_lenL, o_lenT, o_is, o_isnot, o_eqi, o_nei, o_eqs, o_nes, o_tupL, o_mkL0, o_mkT0, o_mkL1, o_mkT1, o_mkL2, o_mkT2, o_mkL3, o_mkT3, o_mkL4, o_mkT4, o_mkL5, o_mkT5, o_mkL6, o_mkT6, o_mulr, o_mull, o_mulm, o_mod, o_fdiv, o_pow, and_self, true_and, and_true, e_dictM, a_of, slW, ec]
  rw [hc [] _ (fun d hd => by obtain ⟨i, _, e⟩ := List.mem_map.mp hd; exact ⟨i, e.symm⟩) hz]
  rfl
/-- the marks that are drawn -/
structure Tops (most : Int) (ts : List Int) : Prop where
  up : ts.Pairwise (· < ·)
  few : (ts.length : Int) ≤ most
  lo : ∀ t ∈ ts, -4 ≤ t
  hi : ∀ t ∈ ts, t ≤ 4 + 200 * most
theorem tops_ok {most wide : Int} (h0 : 0 ≤ most) (h1 : most ≤ 100) (h2 : 0 < wide) (h3 : wide ≤ 100) (F : Fd μ) : ∃ ts μ', F__law_tops [.m 0, .d (.int most), .d (.int wide)] μ = .ok (.d (.tuple (zis ts))) μ' ∧ Fd μ' ∧ Tops most ts := by
  unfold F__law_tops g__law_tops
  obtain ⟨a, μ1, e1, a0, a1, F1⟩ := draw_ok (μ := μ) (size := 9) (by decide) (by decide) F
  obtain ⟨n, μ2, e2, n0, n1, F2⟩ := draw_ok (μ := μ1) (size := most + 1) (by omega) (by omega) F1
  simp only [q_bind, q_bindx, q_st, q_stx, q_c, q_v, q_getS, q_op, q_un, q_tv, q_asB, q_tand, q_tor, q_tnot, q_if, q_and, q_or, q_not, q_tY, q_anil, q_acons, q_lst, q_tup, q_fn, q_sl, q_pnone, q_psome, q_asI, q_lc, q_ls, q_lr, q_le, q_seqL, q_seqT, q_enumL, q_enumT, q_r1, q_r2, q_nil, q_seq, q_nx, q_rt, q_bk, q_ct, q_xc, q_run, q_onx, q_ort, q_oxc, q_set, q_ret, q_ex, q_pass, q_break, q_cont, q_sif, q_par, q_par2, q_parO, q_frz, q_frzK, q_app, q_appG, q_appK, q_own, q_asg, q_put, q_for, q_forKL, q_forKT, q_forR, q_forl, q_fornil, q_lnx, q_lct, q_lbk, q_lrt, q_wnx, q_wct, q_wbk, q_wrt, startE, List.map_cons, List.map_nil, List.length_cons, List.length_nil, Nat.reduceAdd, Nat.reduceSub, List.replicate_succ, List.replicate_zero, List.cons_append, List.nil_append, List.append_nil, List.getElem?_cons_succ, List.getElem?_cons_zero, List.set_cons_succ, List.set_cons_zero, wipeE, o_add, o_sub, o_neg, o_lt, o_le, o_gt, o_ge, o_int, o_intb, o_lenL, o_lenT, o_is, o_isnot, o_eqi, o_nei, o_eqs, o_nes, o_tupL, o_mkL0, o_mkT0, o_mkL1, o_mkT1, o_mkL2, o_mkT2, o_mkL3, o_mkT3, o_mkL4, o_mkT4, o_mkL5, o_mkT5, o_mkL6, o_mkT6, o_mulr, o_mull, o_mulm, o_mod, o_fdiv, o_pow, and_self, true_and, and_true, e1, e2, o_r1 (n := n) (by omega)]
  -- the loop
  have hs := for_inv (b := b_n 5) (g := s_seq (s_app 3 (e_v 4)) (s_set 4 (e_op addW (e_op addW (e_v 4) (e_c (.int 1))) (e_fn F__law_draw (a_cons (e_v 0) (a_cons (e_v 2) a_nil))))))
    (fun i env μ => Fd μ ∧ ∃ ts at' sl, env = [some (.w (.m 0)), some (.w (.d (.int most))), some (.w (.d (.int wide))), some (.own (zis ts)), some (.w (.d (.int at'))), sl] ∧
      ts.Pairwise (· < ·) ∧ ts.length = i ∧ (∀ t ∈ ts, t < at') ∧ (∀ t ∈ ts, -4 ≤ t) ∧ -4 ≤ at' ∧ at' ≤ 4 + 200 * (i : Int)) (rangeD 0 n) 0 [some (.w (.m 0)), some (.w (.d (.int most))), some (.w (.d (.int wide))), some (.own []), some (.w (.d (.int (a - 4)))), none] μ2
  obtain ⟨env', μ', hL, hJ⟩ := hs (by
    rintro i d env μ hi ⟨F, ts, at', sl, rfl, up, len, lt, lo, at0, at1⟩
    have hi' : i < (n - 0).toNat := by rw [← rangeD_len]; exact (List.getElem?_eq_some_iff.mp hi).1
    obtain ⟨k, μ', e, k0, k1, F'⟩ := draw_ok (μ := μ) (size := wide) h2 (by omega) F
    refine ⟨_, _, μ', rfl, .inl ?_, F', ts ++ [at'], at' + 1 + k, some (.w (.d d)), rfl, ?_, by simp; omega, ?_, ?_, by omega, by omega⟩
    · have hz : (zis ts).length < szl := by rw [List.length_map, len]; exact Nat.lt_of_lt_of_le (m := 1000) (by omega) (by decide)
      simp only [q_bind, q_bindx, q_st, q_stx, q_c, q_v, q_getS, q_op, q_un, q_tv, q_asB, q_tand, q_tor, q_tnot, q_if, q_and, q_or, q_not, q_tY, q_anil, q_acons, q_lst, q_tup, q_fn, q_sl, q_pnone, q_psome, q_asI, q_lc, q_ls, q_lr, q_le, q_seqL, q_seqT, q_enumL, q_enumT, q_r1, q_r2, q_nil, q_seq, q_nx, q_rt, q_bk, q_ct, q_xc, q_run, q_onx, q_ort, q_oxc, q_set, q_ret, q_ex, q_pass, q_break, q_cont, q_sif, q_par, q_par2, q_parO, q_frz, q_frzK, q_app, q_appG, q_appK, q_own, q_asg, q_put, q_for, q_forKL, q_forKT, q_forR, q_forl, q_fornil, q_lnx, q_lct, q_lbk, q_lrt, q_wnx, q_wct, q_wbk, q_wrt, startE, List.map_cons, List.map_nil, List.length_cons, List.length_nil, Nat.reduceAdd, Nat.reduceSub, List.replicate_succ, List.replicate_zero, List.cons_append, List.nil_append, List.append_nil, List.getElem?_cons_succ, List.getElem?_cons_zero, List.set_cons_succ, List.set_cons_zero, wipeE, o_add, o_sub, o_neg, o_lt, o_le, o_gt, o_ge, o_int, o_intb, o_lenL, o_lenT, o_is, o_isnot, o_eqi, o_nei, o_eqs, o_nes, o_tupL, o_mkL0, o_mkT0, o_mkL1, o_mkT1, o_mkL2, o_mkT2, o_mkL3, o_mkT3, o_mkL4, o_mkT4, o_mkL5, o_mkT5, o_mkL6, o_mkT6, o_mulr, o_mull, o_mulm, o_mod, o_fdiv, o_pow, and_self, true_and, and_true, hz, if_true, e]
      simp [zis]
    · refine List.pairwise_append.mpr ⟨up, by simp, fun x hx y hy => ?_⟩
      rw [List.mem_singleton.mp hy]
      exact lt x hx
    · intro t ht
      rcases List.mem_append.mp ht with ht | ht
      · have := lt t ht; omega
      · rw [List.mem_singleton.mp ht]; omega
    · intro t ht
      rcases List.mem_append.mp ht with ht | ht
      · exact lo t ht
      · rw [List.mem_singleton.mp ht]; omega) ⟨F2, [], a - 4, none, rfl, .nil, rfl, by simp, by simp, by omega, by omega⟩
  rw [hL]
  obtain ⟨F', ts, at', sl, rfl, up, len, lt, lo, at0, at1⟩ := hJ
  simp only [q_bind, q_bindx, q_st, q_stx, q_c, q_v, q_getS, q_op, q_un, q_tv, q_asB, q_tand, q_tor, q_tnot, q_if, q_and, q_or, q_not, q_tY, q_anil, q_acons, q_lst, q_tup, q_fn, q_sl, q_pnone, q_psome, q_asI, q_lc, q_ls, q_lr, q_le, q_seqL, q_seqT, q_enumL, q_enumT, q_r1, q_r2, q_nil, q_seq, q_nx, q_rt, q_bk, q_ct, q_xc, q_run, q_onx, q_ort, q_oxc, q_set, q_ret, q_ex, q_pass, q_break, q_cont, q_sif, q_par, q_par2, q_parO, q_frz, q_frzK, q_app, q_appG, q_appK, q_own, q_asg, q_put, q_for, q_forKL, q_forKT, q_forR, q_forl, q_fornil, q_lnx, q_lct, q_lbk, q_lrt, q_wnx, q_wct, q_wbk, q_wrt, startE, List.map_cons, List.map_nil, List.length_cons, List.length_nil, Nat.reduceAdd, Nat.reduceSub, List.replicate_succ, List.replicate_zero, List.cons_append, List.nil_append, List.append_nil, List.getElem?_cons_succ, List.getElem?_cons_zero, List.set_cons_succ, List.set_cons_zero, wipeE, o_add, o_sub, o_neg, o_lt, o_le, o_gt, o_ge, o_int, o_intb, o_lenL, o_lenT, o_is, o_isnot, o_eqi, o_nei, o_eqs, o_nes, o_tupL, o_mkL0, o_mkT0, o_mkL1, o_mkT1, o_mkL2, o_mkT2, o_mkL3, o_mkT3, o_mkL4, o_mkT4, o_mkL5, o_mkT5, o_mkL6, o_mkT6, o_mulr, o_mull, o_mulm, o_mod, o_fdiv, o_pow, and_self, true_and, and_true]
  have hn : (rangeD 0 n).length = (n - 0).toNat := rangeD_len
  refine ⟨ts, μ', rfl, F', up, by omega, fun t ht => ?_, fun t ht => ?_⟩
  · have := lo t ht; omega
  · have := lt t ht; omega
/-! the program's own -/
theorem isi_ii {i : Int} : isiW "int" [.d (.int i)] μ = .ok (.d (.bool true)) μ := by
  have e : isiD (.int i) "int" = some true := by show kitB "int" "int" = _; decide +kernel
  unfold isiW
  simp only [e]
theorem isi_ib {i : Int} : isiW "bool" [.d (.int i)] μ = .ok (.d (.bool false)) μ := by
  have e : isiD (.int i) "bool" = some false := by show kitB "int" "bool" = _; decide +kernel
  unfold isiW
  simp only [e]
theorem isint_ok {i : Int} : F_is_integer [.d (.int i)] μ = .ok (.d (.bool true)) μ := by
  unfold F_is_integer g_is_integer
  simp only [q_bind, q_bindx, q_st, q_stx, q_c, q_v, q_getS, q_op, q_un, q_tv, q_asB, q_tand, q_tor, q_tnot, q_if, q_and, q_or, q_not, q_tY, q_anil, q_acons, q_lst, q_tup, q_fn, q_sl, q_pnone, q_psome, q_asI, q_lc, q_ls, q_lr, q_le, q_seqL, q_seqT, q_enumL, q_enumT, q_r1, q_r2, q_nil, q_seq, q_nx, q_rt, q_bk, q_ct, q_xc, q_run, q_onx, q_ort, q_oxc, q_set, q_ret, q_ex, q_pass, q_break, q_cont, q_sif, q_par, q_par2, q_parO, q_frz, q_frzK, q_app, q_appG, q_appK, q_own, q_asg, q_put, q_for, q_forKL, q_forKT, q_forR, q_forl, q_fornil, q_lnx, q_lct, q_lbk, q_lrt, q_wnx, q_wct, q_wbk, q_wrt, startE, List.map_cons, List.map_nil, List.length_cons, List.length_nil, Nat.reduceAdd, Nat.reduceSub, List.replicate_succ, List.replicate_zero, List.cons_append, List.nil_append, List.append_nil, List.getElem?_cons_succ, List.getElem?_cons_zero, List.set_cons_succ, List.set_cons_zero, wipeE, o_add, o_sub, o_neg, o_lt, o_le, o_gt, o_ge, o_int, o_intb, o_lenL, o_lenT, o_is, o_isnot, o_eqi, o_nei, o_eqs, o_nes, o_tupL, o_mkL0, o_mkT0, o_mkL1, o_mkT1, o_mkL2, o_mkT2, o_mkL3, o_mkT3, o_mkL4, o_mkT4, o_mkL5, o_mkT5, o_mkL6, o_mkT6, o_mulr, o_mull, o_mulm, o_mod, o_fdiv, o_pow, and_self, true_and, and_true, isi_ii, isi_ib, if_true, Bool.not_false]
theorem require_ok {x : W} : F_require [.d (.bool true), x] μ = .ok (.d .none) μ := rfl
theorem isend_int {i : Int} : F_is_end [.d (.int i)] μ = .ok (.d (.bool true)) μ := by
  unfold F_is_end g_is_end
  simp only [q_bind, q_bindx, q_st, q_stx, q_c, q_v, q_getS, q_op, q_un, q_tv, q_asB, q_tand, q_tor, q_tnot, q_if, q_and, q_or, q_not, q_tY, q_anil, q_acons, q_lst, q_tup, q_fn, q_sl, q_pnone, q_psome, q_asI, q_lc, q_ls, q_lr, q_le, q_seqL, q_seqT, q_enumL, q_enumT, q_r1, q_r2, q_nil, q_seq, q_nx, q_rt, q_bk, q_ct, q_xc, q_run, q_onx, q_ort, q_oxc, q_set, q_ret, q_ex, q_pass, q_break, q_cont, q_sif, q_par, q_par2, q_parO, q_frz, q_frzK, q_app, q_appG, q_appK, q_own, q_asg, q_put, q_for, q_forKL, q_forKT, q_forR, q_forl, q_fornil, q_lnx, q_lct, q_lbk, q_lrt, q_wnx, q_wct, q_wbk, q_wrt, startE, List.map_cons, List.map_nil, List.length_cons, List.length_nil, Nat.reduceAdd, Nat.reduceSub, List.replicate_succ, List.replicate_zero, List.cons_append, List.nil_append, List.append_nil, List.getElem?_cons_succ, List.getElem?_cons_zero, List.set_cons_succ, List.set_cons_zero, wipeE, o_add, o_sub, o_neg, o_lt, o_le, o_gt, o_ge, o_int, o_intb, o_lenL, o_lenT, o_is, o_isnot, o_eqi, o_nei, o_eqs, o_nes, o_tupL, o_mkL0, o_mkT0, o_mkL1, o_mkT1, o_mkL2, o_mkT2, o_mkL3, o_mkT3, o_mkL4, o_mkT4, o_mkL5, o_mkT5, o_mkL6, o_mkT6, o_mulr, o_mull, o_mulm, o_mod, o_fdiv, o_pow, and_self, true_and, and_true, noneD, isint_ok, if_false, Bool.false_eq_true]
theorem isend_none : F_is_end [.d .none] μ = .ok (.d (.bool true)) μ := by
  unfold F_is_end g_is_end
  simp only [q_bind, q_bindx, q_st, q_stx, q_c, q_v, q_getS, q_op, q_un, q_tv, q_asB, q_tand, q_tor, q_tnot, q_if, q_and, q_or, q_not, q_tY, q_anil, q_acons, q_lst, q_tup, q_fn, q_sl, q_pnone, q_psome, q_asI, q_lc, q_ls, q_lr, q_le, q_seqL, q_seqT, q_enumL, q_enumT, q_r1, q_r2, q_nil, q_seq, q_nx, q_rt, q_bk, q_ct, q_xc, q_run, q_onx, q_ort, q_oxc, q_set, q_ret, q_ex, q_pass, q_break, q_cont, q_sif, q_par, q_par2, q_parO, q_frz, q_frzK, q_app, q_appG, q_appK, q_own, q_asg, q_put, q_for, q_forKL, q_forKT, q_forR, q_forl, q_fornil, q_lnx, q_lct, q_lbk, q_lrt, q_wnx, q_wct, q_wbk, q_wrt, startE, List.map_cons, List.map_nil, List.length_cons, List.length_nil, Nat.reduceAdd, Nat.reduceSub, List.replicate_succ, List.replicate_zero, List.cons_append, List.nil_append, List.append_nil, List.getElem?_cons_succ, List.getElem?_cons_zero, List.set_cons_succ, List.set_cons_zero, wipeE, o_add, o_sub, o_neg, o_lt, o_le, o_gt, o_ge, o_int, o_intb, o_lenL, o_lenT, o_is, o_isnot, o_eqi, o_nei, o_eqs, o_nes, o_tupL, o_mkL0, o_mkT0, o_mkL1, o_mkT1, o_mkL2, o_mkT2, o_mkL3, o_mkT3, o_mkL4, o_mkT4, o_mkL5, o_mkT5, o_mkL6, o_mkT6, o_mulr, o_mull, o_mulm, o_mod, o_fdiv, o_pow, and_self, true_and, and_true, noneD, if_true]
theorem isless_ii {i j : Int} : F_is_less [.d (.int i), .d (.int j)] μ = .ok (.d (.bool (decide (i < j)))) μ := by
  unfold F_is_less g_is_less
  simp only [q_bind, q_bindx, q_st, q_stx, q_c, q_v, q_getS, q_op, q_un, q_tv, q_asB, q_tand, q_tor, q_tnot, q_if, q_and, q_or, q_not, q_tY, q_anil, q_acons, q_lst, q_tup, q_fn, q_sl, q_pnone, q_psome, q_asI, q_lc, q_ls, q_lr, q_le, q_seqL, q_seqT, q_enumL, q_enumT, q_r1, q_r2, q_nil, q_seq, q_nx, q_rt, q_bk, q_ct, q_xc, q_run, q_onx, q_ort, q_oxc, q_set, q_ret, q_ex, q_pass, q_break, q_cont, q_sif, q_par, q_par2, q_parO, q_frz, q_frzK, q_app, q_appG, q_appK, q_own, q_asg, q_put, q_for, q_forKL, q_forKT, q_forR, q_forl, q_fornil, q_lnx, q_lct, q_lbk, q_lrt, q_wnx, q_wct, q_wbk, q_wrt, startE, List.map_cons, List.map_nil, List.length_cons, List.length_nil, Nat.reduceAdd, Nat.reduceSub, List.replicate_succ, List.replicate_zero, List.cons_append, List.nil_append, List.append_nil, List.getElem?_cons_succ, List.getElem?_cons_zero, List.set_cons_succ, List.set_cons_zero, wipeE, o_add, o_sub, o_neg, o_lt, o_le, o_gt, o_ge, o_int, o_intb, o_lenL, o_lenT, o_is, o_isnot, o_eqi, o_nei, o_eqs, o_nes, o_tupL, o_mkL0, o_mkT0, o_mkL1, o_mkT1, o_mkL2, o_mkT2, o_mkL3, o_mkT3, o_mkL4, o_mkT4, o_mkL5, o_mkT5, o_mkL6, o_mkT6, o_mulr, o_mull, o_mulm, o_mod, o_fdiv, o_pow, and_self, true_and, and_true, noneD, Bool.not_false, if_true, if_false, Bool.false_eq_true]
theorem isless_in {i : Int} : F_is_less [.d (.int i), .d .none] μ = .ok (.d (.bool true)) μ := by
  unfold F_is_less g_is_less
  simp only [q_bind, q_bindx, q_st, q_stx, q_c, q_v, q_getS, q_op, q_un, q_tv, q_asB, q_tand, q_tor, q_tnot, q_if, q_and, q_or, q_not, q_tY, q_anil, q_acons, q_lst, q_tup, q_fn, q_sl, q_pnone, q_psome, q_asI, q_lc, q_ls, q_lr, q_le, q_seqL, q_seqT, q_enumL, q_enumT, q_r1, q_r2, q_nil, q_seq, q_nx, q_rt, q_bk, q_ct, q_xc, q_run, q_onx, q_ort, q_oxc, q_set, q_ret, q_ex, q_pass, q_break, q_cont, q_sif, q_par, q_par2, q_parO, q_frz, q_frzK, q_app, q_appG, q_appK, q_own, q_asg, q_put, q_for, q_forKL, q_forKT, q_forR, q_forl, q_fornil, q_lnx, q_lct, q_lbk, q_lrt, q_wnx, q_wct, q_wbk, q_wrt, startE, List.map_cons, List.map_nil, List.length_cons, List.length_nil, Nat.reduceAdd, Nat.reduceSub, List.replicate_succ, List.replicate_zero, List.cons_append, List.nil_append, List.append_nil, List.getElem?_cons_succ, List.getElem?_cons_zero, List.set_cons_succ, List.set_cons_zero, wipeE, o_add, o_sub, o_neg, o_lt, o_le, o_gt, o_ge, o_int, o_intb, o_lenL, o_lenT, o_is, o_isnot, o_eqi, o_nei, o_eqs, o_nes, o_tupL, o_mkL0, o_mkT0, o_mkL1, o_mkT1, o_mkL2, o_mkT2, o_mkL3, o_mkT3, o_mkL4, o_mkT4, o_mkL5, o_mkT5, o_mkL6, o_mkT6, o_mulr, o_mull, o_mulm, o_mod, o_fdiv, o_pow, and_self, true_and, and_true, noneD, Bool.not_false, if_true, if_false, Bool.false_eq_true]
theorem isless_n {x : W} : F_is_less [.d .none, x] μ = .ok (.d (.bool false)) μ := by
  unfold F_is_less g_is_less
  simp only [q_bind, q_bindx, q_st, q_stx, q_c, q_v, q_getS, q_op, q_un, q_tv, q_asB, q_tand, q_tor, q_tnot, q_if, q_and, q_or, q_not, q_tY, q_anil, q_acons, q_lst, q_tup, q_fn, q_sl, q_pnone, q_psome, q_asI, q_lc, q_ls, q_lr, q_le, q_seqL, q_seqT, q_enumL, q_enumT, q_r1, q_r2, q_nil, q_seq, q_nx, q_rt, q_bk, q_ct, q_xc, q_run, q_onx, q_ort, q_oxc, q_set, q_ret, q_ex, q_pass, q_break, q_cont, q_sif, q_par, q_par2, q_parO, q_frz, q_frzK, q_app, q_appG, q_appK, q_own, q_asg, q_put, q_for, q_forKL, q_forKT, q_forR, q_forl, q_fornil, q_lnx, q_lct, q_lbk, q_lrt, q_wnx, q_wct, q_wbk, q_wrt, startE, List.map_cons, List.map_nil, List.length_cons, List.length_nil, Nat.reduceAdd, Nat.reduceSub, List.replicate_succ, List.replicate_zero, List.cons_append, List.nil_append, List.append_nil, List.getElem?_cons_succ, List.getElem?_cons_zero, List.set_cons_succ, List.set_cons_zero, wipeE, o_add, o_sub, o_neg, o_lt, o_le, o_gt, o_ge, o_int, o_intb, o_lenL, o_lenT, o_is, o_isnot, o_eqi, o_nei, o_eqs, o_nes, o_tupL, o_mkL0, o_mkT0, o_mkL1, o_mkT1, o_mkL2, o_mkT2, o_mkL3, o_mkT3, o_mkL4, o_mkT4, o_mkL5, o_mkT5, o_mkL6, o_mkT6, o_mulr, o_mull, o_mulm, o_mod, o_fdiv, o_pow, and_self, true_and, and_true, noneD, Bool.not_true, if_true, if_false, Bool.false_eq_true]
theorem enum_get {ds : List PyData} {i : Nat} {e : PyData} (h : (enumFrom 0 ds)[i]? = some e) : ∃ d, ds[i]? = some d ∧ e = .tuple [.int (i : Nat), d] := by
  have hl : i < ds.length := by
    have := (List.getElem?_eq_some_iff.mp h).1
    rwa [enumFrom_len] at this
  have h2 := enumFrom_get (k := 0) (List.getElem?_eq_getElem hl)
  rw [h] at h2
  exact ⟨_, List.getElem?_eq_getElem hl, by simpa using h2⟩
theorem bad_ok {ts : List Int} (h : ts.Pairwise (· < ·)) : F_first_bad_mark [.d (.tuple (zis ts))] μ = .ok (.d .none) μ := by
  unfold F_first_bad_mark g_first_bad_mark
  simp only [q_bind, q_bindx, q_st, q_stx, q_c, q_v, q_getS, q_op, q_un, q_tv, q_asB, q_tand, q_tor, q_tnot, q_if, q_and, q_or, q_not, q_tY, q_anil, q_acons, q_lst, q_tup, q_fn, q_sl, q_pnone, q_psome, q_asI, q_lc, q_ls, q_lr, q_le, q_seqL, q_seqT, q_enumL, q_enumT, q_r1, q_r2, q_nil, q_seq, q_nx, q_rt, q_bk, q_ct, q_xc, q_run, q_onx, q_ort, q_oxc, q_set, q_ret, q_ex, q_pass, q_break, q_cont, q_sif, q_par, q_par2, q_parO, q_frz, q_frzK, q_app, q_appG, q_appK, q_own, q_asg, q_put, q_for, q_forKL, q_forKT, q_forR, q_forl, q_fornil, q_lnx, q_lct, q_lbk, q_lrt, q_wnx, q_wct, q_wbk, q_wrt, startE, List.map_cons, List.map_nil, List.length_cons, List.length_nil, Nat.reduceAdd, Nat.reduceSub, List.replicate_succ, List.replicate_zero, List.cons_append, List.nil_append, List.append_nil, List.getElem?_cons_succ, List.getElem?_cons_zero, List.set_cons_succ, List.set_cons_zero, wipeE, o_add, o_sub, o_neg, o_lt, o_le, o_gt, o_ge, o_int, o_intb, o_lenL, o_lenT, o_is, o_isnot, o_eqi, o_nei, o_eqs, o_nes, o_tupL, o_mkL0, o_mkT0, o_mkL1, o_mkT1, o_mkL2, o_mkT2, o_mkL3, o_mkT3, o_mkL4, o_mkT4, o_mkL5, o_mkT5, o_mkL6, o_mkT6, o_mulr, o_mull, o_mulm, o_mod, o_fdiv, o_pow, and_self, true_and, and_true]
  have hs := for_inv (b := b_tup 2 (b_cons (b_n 1) (b_cons (b_n 2) b_nil)))
    (g := s_if (t_or (t_not (t_v (e_fn F_is_integer (a_cons (e_v 2) a_nil)))) (t_and (t_v (e_op gtW (e_v 1) (e_c (.int 0)))) (t_v (e_op leW (e_v 2) (e_op ixW (e_v 0) (e_op subW (e_v 1) (e_c (.int 1)))))))) (s_ret (e_v 1)) s_nil)
    (fun i env μ' => μ' = μ ∧ ∃ a b, env = [some (.w (.d (.tuple (zis ts)))), a, b]) (enumFrom 0 (zis ts)) 0 [some (.w (.d (.tuple (zis ts)))), none, none] μ
  obtain ⟨env', μ', hL, rfl, a, b, rfl⟩ := hs (by
    rintro i e env μ' hi ⟨rfl, a, b, rfl⟩
    obtain ⟨d, hd, rfl⟩ := enum_get hi
    rw [List.getElem?_map] at hd
    cases ht : ts[i]? with
    | none => rw [ht] at hd; cases hd
    | some t =>
      rw [ht] at hd
      cases hd
      refine ⟨_, _, _, rfl, .inl ?_, rfl, some (.w (.d (.int i))), some (.w (.d (.int t))), rfl⟩
      simp only [q_bind, q_bindx, q_st, q_stx, q_c, q_v, q_getS, q_op, q_un, q_tv, q_asB, q_tand, q_tor, q_tnot, q_if, q_and, q_or, q_not, q_tY, q_anil, q_acons, q_lst, q_tup, q_fn, q_sl, q_pnone, q_psome, q_asI, q_lc, q_ls, q_lr, q_le, q_seqL, q_seqT, q_enumL, q_enumT, q_r1, q_r2, q_nil, q_seq, q_nx, q_rt, q_bk, q_ct, q_xc, q_run, q_onx, q_ort, q_oxc, q_set, q_ret, q_ex, q_pass, q_break, q_cont, q_sif, q_par, q_par2, q_parO, q_frz, q_frzK, q_app, q_appG, q_appK, q_own, q_asg, q_put, q_for, q_forKL, q_forKT, q_forR, q_forl, q_fornil, q_lnx, q_lct, q_lbk, q_lrt, q_wnx, q_wct, q_wbk, q_wrt, startE, List.map_cons, List.map_nil, List.length_cons, List.length_nil, Nat.reduceAdd, Nat.reduceSub, List.replicate_succ, List.replicate_zero, List.cons_append, List.nil_append, List.append_nil, List.getElem?_cons_succ, List.getElem?_cons_zero, List.set_cons_succ, List.set_cons_zero, wipeE, o_add, o_sub, o_neg, o_lt, o_le, o_gt, o_ge, o_int, o_intb, o_lenL, o_lenT, o_is, o_isnot, o_eqi, o_nei, o_eqs, o_nes, o_tupL, o_mkL0, o_mkT0, o_mkL1, o_mkT1, o_mkL2, o_mkT2, o_mkL3, o_mkT3, o_mkL4, o_mkT4, o_mkL5, o_mkT5, o_mkL6, o_mkT6, o_mulr, o_mull, o_mulm, o_mod, o_fdiv, o_pow, and_self, true_and, and_true, isint_ok, Bool.not_true, Bool.false_eq_true, if_false]
      by_cases h0 : 0 < ((i : Nat) : Int)
      · have hp : ∃ u, ts[i - 1]? = some u ∧ u < t := by
          have hl := (List.getElem?_eq_some_iff.mp ht).1
          refine ⟨ts[i - 1], List.getElem?_eq_getElem (by omega), ?_⟩
          have := List.pairwise_iff_getElem.mp h (i - 1) i (by omega) hl (by omega)
          rwa [(List.getElem?_eq_some_iff.mp ht).2] at this
        obtain ⟨u, hu, hlt⟩ := hp
        have hx : atI (zis ts) ((i : Nat) - 1 : Int) = some (.int u) := atI_nat (by omega) (by rw [show ((i : Nat) - 1 : Int).toNat = i - 1 by omega, List.getElem?_map, hu]; rfl)
        simp only [h0, decide_true, if_true, q_bind, q_bindx, q_st, q_stx, q_c, q_v, q_getS, q_op, q_un, q_tv, q_asB, q_tand, q_tor, q_tnot, q_if, q_and, q_or, q_not, q_tY, q_anil, q_acons, q_lst, q_tup, q_fn, q_sl, q_pnone, q_psome, q_asI, q_lc, q_ls, q_lr, q_le, q_seqL, q_seqT, q_enumL, q_enumT, q_r1, q_r2, q_nil, q_seq, q_nx, q_rt, q_bk, q_ct, q_xc, q_run, q_onx, q_ort, q_oxc, q_set, q_ret, q_ex, q_pass, q_break, q_cont, q_sif, q_par, q_par2, q_parO, q_frz, q_frzK, q_app, q_appG, q_appK, q_own, q_asg, q_put, q_for, q_forKL, q_forKT, q_forR, q_forl, q_fornil, q_lnx, q_lct, q_lbk, q_lrt, q_wnx, q_wct, q_wbk, q_wrt, startE, List.map_cons, List.map_nil, List.length_cons, List.length_nil, Nat.reduceAdd, Nat.reduceSub, List.replicate_succ, List.replicate_zero, List.cons_append, List.nil_append, List.append_nil, List.getElem?_cons_succ, List.getElem?_cons_zero, List.set_cons_succ, List.set_cons_zero, wipeE, o_add, o_sub, o_neg, o_lt, o_le, o_gt, o_ge, o_int, o_intb, o_lenL, o_lenT, o_is, o_isnot, o_eqi, o_nei, o_eqs, o_nes, o_tupL, o_mkL0, o_mkT0, o_mkL1, o_mkT1, o_mkL2, o_mkT2, o_mkL3, o_mkT3, o_mkL4, o_mkT4, o_mkL5, o_mkT5, o_mkL6, o_mkT6, o_mulr, o_mull, o_mulm, o_mod, o_fdiv, o_pow, and_self, true_and, and_true, o_ix (x := .tuple (zis ts)) rfl hx, show ¬ t ≤ u by omega, decide_false, Bool.false_eq_true, if_false]
      · simp only [h0, decide_false, Bool.false_eq_true, if_false, q_bind, q_bindx, q_st, q_stx, q_c, q_v, q_getS, q_op, q_un, q_tv, q_asB, q_tand, q_tor, q_tnot, q_if, q_and, q_or, q_not, q_tY, q_anil, q_acons, q_lst, q_tup, q_fn, q_sl, q_pnone, q_psome, q_asI, q_lc, q_ls, q_lr, q_le, q_seqL, q_seqT, q_enumL, q_enumT, q_r1, q_r2, q_nil, q_seq, q_nx, q_rt, q_bk, q_ct, q_xc, q_run, q_onx, q_ort, q_oxc, q_set, q_ret, q_ex, q_pass, q_break, q_cont, q_sif, q_par, q_par2, q_parO, q_frz, q_frzK, q_app, q_appG, q_appK, q_own, q_asg, q_put, q_for, q_forKL, q_forKT, q_forR, q_forl, q_fornil, q_lnx, q_lct, q_lbk, q_lrt, q_wnx, q_wct, q_wbk, q_wrt, startE, List.map_cons, List.map_nil, List.length_cons, List.length_nil, Nat.reduceAdd, Nat.reduceSub, List.replicate_succ, List.replicate_zero, List.cons_append, List.nil_append, List.append_nil, List.getElem?_cons_succ, List.getElem?_cons_zero, List.set_cons_succ, List.set_cons_zero, wipeE]) ⟨rfl, _, _, rfl⟩
  rw [hL]
  rfl
theorem ismarks_ok {ts : List Int} (h : ts.Pairwise (· < ·)) : F_is_marks [.d (.tuple (zis ts))] μ = .ok (.d (.bool true)) μ := by
  unfold F_is_marks g_is_marks
  have e : isiW "tuple" [.d (.tuple (zis ts))] μ = .ok (.d (.bool true)) μ := by
    have e : isiD (.tuple (zis ts)) "tuple" = some true := by show kitB "tuple" "tuple" = _; decide +kernel
    unfold isiW
    simp only [e]
  simp only [q_bind, q_bindx, q_st, q_stx, q_c, q_v, q_getS, q_op, q_un, q_tv, q_asB, q_tand, q_tor, q_tnot, q_if, q_and, q_or, q_not, q_tY, q_anil, q_acons, q_lst, q_tup, q_fn, q_sl, q_pnone, q_psome, q_asI, q_lc, q_ls, q_lr, q_le, q_seqL, q_seqT, q_enumL, q_enumT, q_r1, q_r2, q_nil, q_seq, q_nx, q_rt, q_bk, q_ct, q_xc, q_run, q_onx, q_ort, q_oxc, q_set, q_ret, q_ex, q_pass, q_break, q_cont, q_sif, q_par, q_par2, q_parO, q_frz, q_frzK, q_app, q_appG, q_appK, q_own, q_asg, q_put, q_for, q_forKL, q_forKT, q_forR, q_forl, q_fornil, q_lnx, q_lct, q_lbk, q_lrt, q_wnx, q_wct, q_wbk, q_wrt, startE, List.map_cons, List.map_nil, List.length_cons, List.length_nil, Nat.reduceAdd, Nat.reduceSub, List.replicate_succ, List.replicate_zero, List.cons_append, List.nil_append, List.append_nil, List.getElem?_cons_succ, List.getElem?_cons_zero, List.set_cons_succ, List.set_cons_zero, wipeE, o_add, o_sub, o_neg, o_lt, o_le, o_gt, o_ge, o_int, o_intb, o_lenL, o_lenT, o_is, o_isnot, o_eqi, o_nei, o_eqs, o_nes, o_tupL, o_mkL0, o_mkT0, o_mkL1, o_mkT1, o_mkL2, o_mkT2, o_mkL3, o_mkT3, o_mkL4, o_mkT4, o_mkL5, o_mkT5, o_mkL6, o_mkT6, o_mulr, o_mull, o_mulm, o_mod, o_fdiv, o_pow, and_self, true_and, and_true, e, if_true, bad_ok h, noneD]
def many (ts : List Int) (x : Int) : Nat := (ts.filter fun t => decide (t ≤ x)).length
def above (ts : List Int) (x : Int) : Option Int := ts.find? fun t => decide (x < t)
def optI : Option Int → PyData
  | none => .none
  | some i => .int i
theorem many_ok {ts : List Int} {x : Int} (h : ts.length ≤ 1000) : F_many_at_most [.d (.tuple (zis ts)), .d (.int x)] μ = .ok (.d (.int (many ts x))) μ := by
  unfold F_many_at_most g_many_at_most
  simp only [q_bind, q_bindx, q_st, q_stx, q_c, q_v, q_getS, q_op, q_un, q_tv, q_asB, q_tand, q_tor, q_tnot, q_if, q_and, q_or, q_not, q_tY, q_anil, q_acons, q_lst, q_tup, q_fn, q_sl, q_pnone, q_psome, q_asI, q_lc, q_ls, q_lr, q_le, q_seqL, q_seqT, q_enumL, q_enumT, q_r1, q_r2, q_nil, q_seq, q_nx, q_rt, q_bk, q_ct, q_xc, q_run, q_onx, q_ort, q_oxc, q_set, q_ret, q_ex, q_pass, q_break, q_cont, q_sif, q_par, q_par2, q_parO, q_frz, q_frzK, q_app, q_appG, q_appK, q_own, q_asg, q_put, q_for, q_forKL, q_forKT, q_forR, q_forl, q_fornil, q_lnx, q_lct, q_lbk, q_lrt, q_wnx, q_wct, q_wbk, q_wrt, startE, List.map_cons, List.map_nil, List.length_cons, List.length_nil, Nat.reduceAdd, Nat.reduceSub, List.replicate_succ, List.replicate_zero, List.cons_append, List.nil_append, List.append_nil, List.getElem?_cons_succ, List.getElem?_cons_zero, List.set_cons_succ, List.set_cons_zero, wipeE, o_add, o_sub, o_neg, o_lt, o_le, o_gt, o_ge, o_int, o_intb, o_lenL, o_lenT, o_is, o_isnot, o_eqi, o_nei, o_eqs, o_nes, o_tupL, o_mkL0, o_mkT0, o_mkL1, o_mkT1, o_mkL2, o_mkT2, o_mkL3, o_mkT3, o_mkL4, o_mkT4, o_mkL5, o_mkT5, o_mkL6, o_mkT6, o_mulr, o_mull, o_mulm, o_mod, o_fdiv, o_pow, and_self, true_and, and_true]
  rw [lc_map (p := fun d => match d with | .int t => decide (t ≤ x) | _ => false) (h := id) _ [] (fun d hd => ?_) (by rw [List.length_map]; exact Nat.le_trans (m := 1000) (by simpa using h) (by decide))]
  · simp only [q_bind, q_bindx, q_st, q_stx, q_c, q_v, q_getS, q_op, q_un, q_tv, q_asB, q_tand, q_tor, q_tnot, q_if, q_and, q_or, q_not, q_tY, q_anil, q_acons, q_lst, q_tup, q_fn, q_sl, q_pnone, q_psome, q_asI, q_lc, q_ls, q_lr, q_le, q_seqL, q_seqT, q_enumL, q_enumT, q_r1, q_r2, q_nil, q_seq, q_nx, q_rt, q_bk, q_ct, q_xc, q_run, q_onx, q_ort, q_oxc, q_set, q_ret, q_ex, q_pass, q_break, q_cont, q_sif, q_par, q_par2, q_parO, q_frz, q_frzK, q_app, q_appG, q_appK, q_own, q_asg, q_put, q_for, q_forKL, q_forKT, q_forR, q_forl, q_fornil, q_lnx, q_lct, q_lbk, q_lrt, q_wnx, q_wct, q_wbk, q_wrt, startE, List.map_cons, List.map_nil, List.length_cons, List.length_nil, Nat.reduceAdd, Nat.reduceSub, List.replicate_succ, List.replicate_zero, List.cons_append, List.nil_append, List.append_nil, List.getElem?_cons_succ, List.getElem?_cons_zero, List.set_cons_succ, List.set_cons_zero, wipeE, o_add, o_sub, o_neg, o_lt, o_le, o_gt, o_ge, o_int, o_intb, o_lenL, o_lenT, o_is, o_isnot, o_eqi, o_nei, o_eqs, o_nes, o_tupL, o_mkL0, o_mkT0, o_mkL1, o_mkT1, o_mkL2, o_mkT2, o_mkL3, o_mkT3, o_mkL4, o_mkT4, o_mkL5, o_mkT5, o_mkL6, o_mkT6, o_mulr, o_mull, o_mulm, o_mod, o_fdiv, o_pow, and_self, true_and, and_true]
    have e : (List.map id ((zis ts).filter fun d => match d with | .int t => decide (t ≤ x) | _ => false)).length = many ts x := by
      unfold many
      rw [List.length_map, List.filter_map, List.length_map]
      rfl
    rw [e]
  · obtain ⟨t, _, rfl⟩ := List.mem_map.mp hd
    exact ⟨_, rfl, rfl, fun _ => rfl⟩
theorem above_ok {ts : List Int} {x : Int} : F_mark_above [.d (.tuple (zis ts)), .d (.int x)] μ = .ok (.d (optI (above ts x))) μ := by
  unfold F_mark_above g_mark_above
  simp only [q_bind, q_bindx, q_st, q_stx, q_c, q_v, q_getS, q_op, q_un, q_tv, q_asB, q_tand, q_tor, q_tnot, q_if, q_and, q_or, q_not, q_tY, q_anil, q_acons, q_lst, q_tup, q_fn, q_sl, q_pnone, q_psome, q_asI, q_lc, q_ls, q_lr, q_le, q_seqL, q_seqT, q_enumL, q_enumT, q_r1, q_r2, q_nil, q_seq, q_nx, q_rt, q_bk, q_ct, q_xc, q_run, q_onx, q_ort, q_oxc, q_set, q_ret, q_ex, q_pass, q_break, q_cont, q_sif, q_par, q_par2, q_parO, q_frz, q_frzK, q_app, q_appG, q_appK, q_own, q_asg, q_put, q_for, q_forKL, q_forKT, q_forR, q_forl, q_fornil, q_lnx, q_lct, q_lbk, q_lrt, q_wnx, q_wct, q_wbk, q_wrt, startE, List.map_cons, List.map_nil, List.length_cons, List.length_nil, Nat.reduceAdd, Nat.reduceSub, List.replicate_succ, List.replicate_zero, List.cons_append, List.nil_append, List.append_nil, List.getElem?_cons_succ, List.getElem?_cons_zero, List.set_cons_succ, List.set_cons_zero, wipeE, o_add, o_sub, o_neg, o_lt, o_le, o_gt, o_ge, o_int, o_intb, o_lenL, o_lenT, o_is, o_isnot, o_eqi, o_nei, o_eqs, o_nes, o_tupL, o_mkL0, o_mkT0, o_mkL1, o_mkT1, o_mkL2, o_mkT2, o_mkL3, o_mkT3, o_mkL4, o_mkT4, o_mkL5, o_mkT5, o_mkL6, o_mkT6, o_mulr, o_mull, o_mulm, o_mod, o_fdiv, o_pow, and_self, true_and, and_true]
  have gen : ∀ (us : List Int) (tp : PyData) (sl : Option Sl), ((forL (b_n 2) (s_if (t_v (e_op gtW (e_v 2) (e_v 1))) (s_ret (e_v 2)) s_nil) (zis us) [some (.w (.d tp)), some (.w (.d (.int x))), sl] μ).then (s_ret (e_c .none))).out = .ok (.d (optI (above us x))) μ := by
    intro us tp
    induction us with
    | nil => intro sl; rfl
    | cons u us ih =>
      intro sl
      rw [show zis (u :: us) = .int u :: zis us from rfl, q_forcons (env1 := [some (.w (.d tp)), some (.w (.d (.int x))), some (.w (.d (.int u)))]) rfl]
      simp only [q_bind, q_bindx, q_st, q_stx, q_c, q_v, q_getS, q_op, q_un, q_tv, q_asB, q_tand, q_tor, q_tnot, q_if, q_and, q_or, q_not, q_tY, q_anil, q_acons, q_lst, q_tup, q_fn, q_sl, q_pnone, q_psome, q_asI, q_lc, q_ls, q_lr, q_le, q_seqL, q_seqT, q_enumL, q_enumT, q_r1, q_r2, q_nil, q_seq, q_nx, q_rt, q_bk, q_ct, q_xc, q_run, q_onx, q_ort, q_oxc, q_set, q_ret, q_ex, q_pass, q_break, q_cont, q_sif, q_par, q_par2, q_parO, q_frz, q_frzK, q_app, q_appG, q_appK, q_own, q_asg, q_put, q_for, q_forKL, q_forKT, q_forR, q_forl, q_fornil, q_lnx, q_lct, q_lbk, q_lrt, q_wnx, q_wct, q_wbk, q_wrt, startE, List.map_cons, List.map_nil, List.length_cons, List.length_nil, Nat.reduceAdd, Nat.reduceSub, List.replicate_succ, List.replicate_zero, List.cons_append, List.nil_append, List.append_nil, List.getElem?_cons_succ, List.getElem?_cons_zero, List.set_cons_succ, List.set_cons_zero, wipeE, o_add, o_sub, o_neg, o_lt, o_le, o_gt, o_ge, o_int, o_intb, o_lenL, o_lenT, o_is, o_isnot, o_eqi, o_nei, o_eqs, o_nes, o_tupL, o_mkL0, o_mkT0, o_mkL1, o_mkT1, o_mkL2, o_mkT2, o_mkL3, o_mkT3, o_mkL4, o_mkT4, o_mkL5, o_mkT5, o_mkL6, o_mkT6, o_mulr, o_mull, o_mulm, o_mod, o_fdiv, o_pow, and_self, true_and, and_true]
      by_cases h : x < u
      · simp only [h, decide_true, if_true, q_bind, q_bindx, q_st, q_stx, q_c, q_v, q_getS, q_op, q_un, q_tv, q_asB, q_tand, q_tor, q_tnot, q_if, q_and, q_or, q_not, q_tY, q_anil, q_acons, q_lst, q_tup, q_fn, q_sl, q_pnone, q_psome, q_asI, q_lc, q_ls, q_lr, q_le, q_seqL, q_seqT, q_enumL, q_enumT, q_r1, q_r2, q_nil, q_seq, q_nx, q_rt, q_bk, q_ct, q_xc, q_run, q_onx, q_ort, q_oxc, q_set, q_ret, q_ex, q_pass, q_break, q_cont, q_sif, q_par, q_par2, q_parO, q_frz, q_frzK, q_app, q_appG, q_appK, q_own, q_asg, q_put, q_for, q_forKL, q_forKT, q_forR, q_forl, q_fornil, q_lnx, q_lct, q_lbk, q_lrt, q_wnx, q_wct, q_wbk, q_wrt, startE, List.map_cons, List.map_nil, List.length_cons, List.length_nil, Nat.reduceAdd, Nat.reduceSub, List.replicate_succ, List.replicate_zero, List.cons_append, List.nil_append, List.append_nil, List.getElem?_cons_succ, List.getElem?_cons_zero, List.set_cons_succ, List.set_cons_zero, wipeE, o_add, o_sub, o_neg, o_lt, o_le, o_gt, o_ge, o_int, o_intb, o_lenL, o_lenT, o_is, o_isnot, o_eqi, o_nei, o_eqs, o_nes, o_tupL, o_mkL0, o_mkT0, o_mkL1, o_mkT1, o_mkL2, o_mkT2, o_mkL3, o_mkT3, o_mkL4, o_mkT4, o_mkL5, o_mkT5, o_mkL6, o_mkT6, o_mulr, o_mull, o_mulm, o_mod, o_fdiv, o_pow, and_self, true_and, and_true, above, List.find?_cons, optI]
      · simp only [h, decide_false, Bool.false_eq_true, if_false, q_bind, q_bindx, q_st, q_stx, q_c, q_v, q_getS, q_op, q_un, q_tv, q_asB, q_tand, q_tor, q_tnot, q_if, q_and, q_or, q_not, q_tY, q_anil, q_acons, q_lst, q_tup, q_fn, q_sl, q_pnone, q_psome, q_asI, q_lc, q_ls, q_lr, q_le, q_seqL, q_seqT, q_enumL, q_enumT, q_r1, q_r2, q_nil, q_seq, q_nx, q_rt, q_bk, q_ct, q_xc, q_run, q_onx, q_ort, q_oxc, q_set, q_ret, q_ex, q_pass, q_break, q_cont, q_sif, q_par, q_par2, q_parO, q_frz, q_frzK, q_app, q_appG, q_appK, q_own, q_asg, q_put, q_for, q_forKL, q_forKT, q_forR, q_forl, q_fornil, q_lnx, q_lct, q_lbk, q_lrt, q_wnx, q_wct, q_wbk, q_wrt, startE, List.map_cons, List.map_nil, List.length_cons, List.length_nil, Nat.reduceAdd, Nat.reduceSub, List.replicate_succ, List.replicate_zero, List.cons_append, List.nil_append, List.append_nil, List.getElem?_cons_succ, List.getElem?_cons_zero, List.set_cons_succ, List.set_cons_zero, wipeE]
        have e : above (u :: us) x = above us x := by simp only [above, List.find?_cons, h, decide_false]
        rw [e]
        exact ih _
  exact gen ts _ _
theorem gap_ok {ts : List Int} {x : Int} (h : ts.Pairwise (· < ·)) (hl : ts.length ≤ 1000) : F_gap_of [.d (.tuple (zis ts)), .d (.int x)] μ = .ok (.d (.int (many ts x))) μ := by
  unfold F_gap_of g_gap_of
  simp only [q_bind, q_bindx, q_st, q_stx, q_c, q_v, q_getS, q_op, q_un, q_tv, q_asB, q_tand, q_tor, q_tnot, q_if, q_and, q_or, q_not, q_tY, q_anil, q_acons, q_lst, q_tup, q_fn, q_sl, q_pnone, q_psome, q_asI, q_lc, q_ls, q_lr, q_le, q_seqL, q_seqT, q_enumL, q_enumT, q_r1, q_r2, q_nil, q_seq, q_nx, q_rt, q_bk, q_ct, q_xc, q_run, q_onx, q_ort, q_oxc, q_set, q_ret, q_ex, q_pass, q_break, q_cont, q_sif, q_par, q_par2, q_parO, q_frz, q_frzK, q_app, q_appG, q_appK, q_own, q_asg, q_put, q_for, q_forKL, q_forKT, q_forR, q_forl, q_fornil, q_lnx, q_lct, q_lbk, q_lrt, q_wnx, q_wct, q_wbk, q_wrt, startE, List.map_cons, List.map_nil, List.length_cons, List.length_nil, Nat.reduceAdd, Nat.reduceSub, List.replicate_succ, List.replicate_zero, List.cons_append, List.nil_append, List.append_nil, List.getElem?_cons_succ, List.getElem?_cons_zero, List.set_cons_succ, List.set_cons_zero, wipeE, o_add, o_sub, o_neg, o_lt, o_le, o_gt, o_ge, o_int, o_intb, o_lenL, o_lenT, o_is, o_isnot, o_eqi, o_nei, o_eqs, o_nes, o_tupL, o_mkL0, o_mkT0, o_mkL1, o_mkT1, o_mkL2, o_mkT2, o_mkL3, o_mkT3, o_mkL4, o_mkT4, o_mkL5, o_mkT5, o_mkL6, o_mkT6, o_mulr, o_mull, o_mulm, o_mod, o_fdiv, o_pow, and_self, true_and, and_true, ismarks_ok h, require_ok, isint_ok, many_ok hl]
theorem upper_ok {ts : List Int} {x : Int} (h : ts.Pairwise (· < ·)) : F_upper_mark [.d (.tuple (zis ts)), .d (.int x)] μ = .ok (.d (optI (above ts x))) μ := by
  unfold F_upper_mark g_upper_mark
  simp only [q_bind, q_bindx, q_st, q_stx, q_c, q_v, q_getS, q_op, q_un, q_tv, q_asB, q_tand, q_tor, q_tnot, q_if, q_and, q_or, q_not, q_tY, q_anil, q_acons, q_lst, q_tup, q_fn, q_sl, q_pnone, q_psome, q_asI, q_lc, q_ls, q_lr, q_le, q_seqL, q_seqT, q_enumL, q_enumT, q_r1, q_r2, q_nil, q_seq, q_nx, q_rt, q_bk, q_ct, q_xc, q_run, q_onx, q_ort, q_oxc, q_set, q_ret, q_ex, q_pass, q_break, q_cont, q_sif, q_par, q_par2, q_parO, q_frz, q_frzK, q_app, q_appG, q_appK, q_own, q_asg, q_put, q_for, q_forKL, q_forKT, q_forR, q_forl, q_fornil, q_lnx, q_lct, q_lbk, q_lrt, q_wnx, q_wct, q_wbk, q_wrt, startE, List.map_cons, List.map_nil, List.length_cons, List.length_nil, Nat.reduceAdd, Nat.reduceSub, List.replicate_succ, List.replicate_zero, List.cons_append, List.nil_append, List.append_nil, List.getElem?_cons_succ, List.getElem?_cons_zero, List.set_cons_succ, List.set_cons_zero, wipeE, o_add, o_sub, o_neg, o_lt, o_le, o_gt, o_ge, o_int, o_intb, o_lenL, o_lenT, o_is, o_isnot, o_eqi, o_nei, o_eqs, o_nes, o_tupL, o_mkL0, o_mkT0, o_mkL1, o_mkT1, o_mkL2, o_mkT2, o_mkL3, o_mkT3, o_mkL4, o_mkT4, o_mkL5, o_mkT5, o_mkL6, o_mkT6, o_mulr, o_mull, o_mulm, o_mod, o_fdiv, o_pow, and_self, true_and, and_true, ismarks_ok h, require_ok, isint_ok, above_ok]
def roomD (ts : List Int) (x : Int) : PyData := optI ((above ts x).map fun t => t - x - 1)
theorem room_ok {ts : List Int} {x : Int} (h : ts.Pairwise (· < ·)) : F_room_of [.d (.tuple (zis ts)), .d (.int x)] μ = .ok (.d (roomD ts x)) μ := by
  unfold F_room_of g_room_of roomD
  simp only [q_bind, q_bindx, q_st, q_stx, q_c, q_v, q_getS, q_op, q_un, q_tv, q_asB, q_tand, q_tor, q_tnot, q_if, q_and, q_or, q_not, q_tY, q_anil, q_acons, q_lst, q_tup, q_fn, q_sl, q_pnone, q_psome, q_asI, q_lc, q_ls, q_lr, q_le, q_seqL, q_seqT, q_enumL, q_enumT, q_r1, q_r2, q_nil, q_seq, q_nx, q_rt, q_bk, q_ct, q_xc, q_run, q_onx, q_ort, q_oxc, q_set, q_ret, q_ex, q_pass, q_break, q_cont, q_sif, q_par, q_par2, q_parO, q_frz, q_frzK, q_app, q_appG, q_appK, q_own, q_asg, q_put, q_for, q_forKL, q_forKT, q_forR, q_forl, q_fornil, q_lnx, q_lct, q_lbk, q_lrt, q_wnx, q_wct, q_wbk, q_wrt, startE, List.map_cons, List.map_nil, List.length_cons, List.length_nil, Nat.reduceAdd, Nat.reduceSub, List.replicate_succ, List.replicate_zero, List.cons_append, List.nil_append, List.append_nil, List.getElem?_cons_succ, List.getElem?_cons_zero, List.set_cons_succ, List.set_cons_zero, wipeE, o_add, o_sub, o_neg, o_lt, o_le, o_gt, o_ge, o_int, o_intb, o_lenL, o_lenT, o_is, o_isnot, o_eqi, o_nei, o_eqs, o_nes, o_tupL, o_mkL0, o_mkT0, o_mkL1, o_mkT1, o_mkL2, o_mkT2, o_mkL3, o_mkT3, o_mkL4, o_mkT4, o_mkL5, o_mkT5, o_mkL6, o_mkT6, o_mulr, o_mull, o_mulm, o_mod, o_fdiv, o_pow, and_self, true_and, and_true, upper_ok h]
  cases above ts x with
  | none => simp only [optI, Option.map, noneD, q_bind, q_bindx, q_st, q_stx, q_c, q_v, q_getS, q_op, q_un, q_tv, q_asB, q_tand, q_tor, q_tnot, q_if, q_and, q_or, q_not, q_tY, q_anil, q_acons, q_lst, q_tup, q_fn, q_sl, q_pnone, q_psome, q_asI, q_lc, q_ls, q_lr, q_le, q_seqL, q_seqT, q_enumL, q_enumT, q_r1, q_r2, q_nil, q_seq, q_nx, q_rt, q_bk, q_ct, q_xc, q_run, q_onx, q_ort, q_oxc, q_set, q_ret, q_ex, q_pass, q_break, q_cont, q_sif, q_par, q_par2, q_parO, q_frz, q_frzK, q_app, q_appG, q_appK, q_own, q_asg, q_put, q_for, q_forKL, q_forKT, q_forR, q_forl, q_fornil, q_lnx, q_lct, q_lbk, q_lrt, q_wnx, q_wct, q_wbk, q_wrt, startE, List.map_cons, List.map_nil, List.length_cons, List.length_nil, Nat.reduceAdd, Nat.reduceSub, List.replicate_succ, List.replicate_zero, List.cons_append, List.nil_append, List.append_nil, List.getElem?_cons_succ, List.getElem?_cons_zero, List.set_cons_succ, List.set_cons_zero, wipeE, o_add, o_sub, o_neg, o_lt, o_le, o_gt, o_ge, o_int, o_intb, o_lenL, o_lenT, o_is, o_isnot, o_eqi, o_nei, o_eqs, o_nes, o_tupL, o_mkL0, o_mkT0, o_mkL1, o_mkT1, o_mkL2, o_mkT2, o_mkL3, o_mkT3, o_mkL4, o_mkT4, o_mkL5, o_mkT5, o_mkL6, o_mkT6, o_mulr, o_mull, o_mulm, o_mod, o_fdiv, o_pow, and_self, true_and, and_true, if_true]
  | some t => simp only [optI, Option.map, noneD, q_bind, q_bindx, q_st, q_stx, q_c, q_v, q_getS, q_op, q_un, q_tv, q_asB, q_tand, q_tor, q_tnot, q_if, q_and, q_or, q_not, q_tY, q_anil, q_acons, q_lst, q_tup, q_fn, q_sl, q_pnone, q_psome, q_asI, q_lc, q_ls, q_lr, q_le, q_seqL, q_seqT, q_enumL, q_enumT, q_r1, q_r2, q_nil, q_seq, q_nx, q_rt, q_bk, q_ct, q_xc, q_run, q_onx, q_ort, q_oxc, q_set, q_ret, q_ex, q_pass, q_break, q_cont, q_sif, q_par, q_par2, q_parO, q_frz, q_frzK, q_app, q_appG, q_appK, q_own, q_asg, q_put, q_for, q_forKL, q_forKT, q_forR, q_forl, q_fornil, q_lnx, q_lct, q_lbk, q_lrt, q_wnx, q_wct, q_wbk, q_wrt, startE, List.map_cons, List.map_nil, List.length_cons, List.length_nil, Nat.reduceAdd, Nat.reduceSub, List.replicate_succ, List.replicate_zero, List.cons_append, List.nil_append, List.append_nil, List.getElem?_cons_succ, List.getElem?_cons_zero, List.set_cons_succ, List.set_cons_zero, wipeE, o_add, o_sub, o_neg, o_lt, o_le, o_gt, o_ge, o_int, o_intb, o_lenL, o_lenT, o_is, o_isnot, o_eqi, o_nei, o_eqs, o_nes, o_tupL, o_mkL0, o_mkT0, o_mkL1, o_mkT1, o_mkL2, o_mkT2, o_mkL3, o_mkT3, o_mkL4, o_mkT4, o_mkL5, o_mkT5, o_mkL6, o_mkT6, o_mulr, o_mull, o_mulm, o_mod, o_fdiv, o_pow, and_self, true_and, and_true, if_false, Bool.false_eq_true]
def caseI (o : Option Int) : Option Int → Str
  | none => "far"
  | some y => match o with
    | none => "near"
    | some t => if y = t then "at" else if y < t then "near" else "far"
theorem case_ok {ts : List Int} {x : Int} {y : Option Int} (h : ts.Pairwise (· < ·)) (hy : ∀ z, y = some z → x < z) : F_case_of [.d (.tuple (zis ts)), .d (.int x), .d (optI y)] μ = .ok (.d (.str (caseI (above ts x) y))) μ := by
  unfold F_case_of g_case_of F_case_index g_case_index
  have c0 : ∀ μ : Mu, ixW (.d d_CASES) (.d (.int 0)) μ = .ok (.d (.str "near")) μ := fun _ => rfl
  have c1 : ∀ μ : Mu, ixW (.d d_CASES) (.d (.int 1)) μ = .ok (.d (.str "at")) μ := fun _ => rfl
  have c2 : ∀ μ : Mu, ixW (.d d_CASES) (.d (.int 2)) μ = .ok (.d (.str "far")) μ := fun _ => rfl
  cases y with
  | none =>
    simp only [q_bind, q_bindx, q_st, q_stx, q_c, q_v, q_getS, q_op, q_un, q_tv, q_asB, q_tand, q_tor, q_tnot, q_if, q_and, q_or, q_not, q_tY, q_anil, q_acons, q_lst, q_tup, q_fn, q_sl, q_pnone, q_psome, q_asI, q_lc, q_ls, q_lr, q_le, q_seqL, q_seqT, q_enumL, q_enumT, q_r1, q_r2, q_nil, q_seq, q_nx, q_rt, q_bk, q_ct, q_xc, q_run, q_onx, q_ort, q_oxc, q_set, q_ret, q_ex, q_pass, q_break, q_cont, q_sif, q_par, q_par2, q_parO, q_frz, q_frzK, q_app, q_appG, q_appK, q_own, q_asg, q_put, q_for, q_forKL, q_forKT, q_forR, q_forl, q_fornil, q_lnx, q_lct, q_lbk, q_lrt, q_wnx, q_wct, q_wbk, q_wrt, startE, List.map_cons, List.map_nil, List.length_cons, List.length_nil, Nat.reduceAdd, Nat.reduceSub, List.replicate_succ, List.replicate_zero, List.cons_append, List.nil_append, List.append_nil, List.getElem?_cons_succ, List.getElem?_cons_zero, List.set_cons_succ, List.set_cons_zero, wipeE, o_add, o_sub, o_neg, o_lt, o_le, o_gt, o_ge, o_int, o_intb, o_lenL, o_lenT, o_is, o_isnot, o_eqi, o_nei, o_eqs, o_nes, o_tupL, o_mkL0, o_mkT0, o_mkL1, o_mkT1, o_mkL2, o_mkT2, o_mkL3, o_mkT3, o_mkL4, o_mkT4, o_mkL5, o_mkT5, o_mkL6, o_mkT6, o_mulr, o_mull, o_mulm, o_mod, o_fdiv, o_pow, and_self, true_and, and_true, ismarks_ok h, require_ok, isint_ok, optI, isend_none, isless_in, if_true, above_ok]
    cases above ts x with
    | none => simp only [optI, noneD, q_bind, q_bindx, q_st, q_stx, q_c, q_v, q_getS, q_op, q_un, q_tv, q_asB, q_tand, q_tor, q_tnot, q_if, q_and, q_or, q_not, q_tY, q_anil, q_acons, q_lst, q_tup, q_fn, q_sl, q_pnone, q_psome, q_asI, q_lc, q_ls, q_lr, q_le, q_seqL, q_seqT, q_enumL, q_enumT, q_r1, q_r2, q_nil, q_seq, q_nx, q_rt, q_bk, q_ct, q_xc, q_run, q_onx, q_ort, q_oxc, q_set, q_ret, q_ex, q_pass, q_break, q_cont, q_sif, q_par, q_par2, q_parO, q_frz, q_frzK, q_app, q_appG, q_appK, q_own, q_asg, q_put, q_for, q_forKL, q_forKT, q_forR, q_forl, q_fornil, q_lnx, q_lct, q_lbk, q_lrt, q_wnx, q_wct, q_wbk, q_wrt, startE, List.map_cons, List.map_nil, List.length_cons, List.length_nil, Nat.reduceAdd, Nat.reduceSub, List.replicate_succ, List.replicate_zero, List.cons_append, List.nil_append, List.append_nil, List.getElem?_cons_succ, List.getElem?_cons_zero, List.set_cons_succ, List.set_cons_zero, wipeE, o_add, o_sub, o_neg, o_lt, o_le, o_gt, o_ge, o_int, o_intb, o_lenL, o_lenT, o_is, o_isnot, o_eqi, o_nei, o_eqs, o_nes, o_tupL, o_mkL0, o_mkT0, o_mkL1, o_mkT1, o_mkL2, o_mkT2, o_mkL3, o_mkT3, o_mkL4, o_mkT4, o_mkL5, o_mkT5, o_mkL6, o_mkT6, o_mulr, o_mull, o_mulm, o_mod, o_fdiv, o_pow, and_self, true_and, and_true, if_true, c2, caseI]
    | some t => simp only [optI, noneD, q_bind, q_bindx, q_st, q_stx, q_c, q_v, q_getS, q_op, q_un, q_tv, q_asB, q_tand, q_tor, q_tnot, q_if, q_and, q_or, q_not, q_tY, q_anil, q_acons, q_lst, q_tup, q_fn, q_sl, q_pnone, q_psome, q_asI, q_lc, q_ls, q_lr, q_le, q_seqL, q_seqT, q_enumL, q_enumT, q_r1, q_r2, q_nil, q_seq, q_nx, q_rt, q_bk, q_ct, q_xc, q_run, q_onx, q_ort, q_oxc, q_set, q_ret, q_ex, q_pass, q_break, q_cont, q_sif, q_par, q_par2, q_parO, q_frz, q_frzK, q_app, q_appG, q_appK, q_own, q_asg, q_put, q_for, q_forKL, q_forKT, q_forR, q_forl, q_fornil, q_lnx, q_lct, q_lbk, q_lrt, q_wnx, q_wct, q_wbk, q_wrt, startE, List.map_cons, List.map_nil, List.length_cons, List.length_nil, Nat.reduceAdd, Nat.reduceSub, List.replicate_succ, List.replicate_zero, List.cons_append, List.nil_append, List.append_nil, List.getElem?_cons_succ, List.getElem?_cons_zero, List.set_cons_succ, List.set_cons_zero, wipeE, o_add, o_sub, o_neg, o_lt, o_le, o_gt, o_ge, o_int, o_intb, o_lenL, o_lenT, o_is, o_isnot, o_eqi, o_nei, o_eqs, o_nes, o_tupL, o_mkL0, o_mkT0, o_mkL1, o_mkT1, o_mkL2, o_mkT2, o_mkL3, o_mkT3, o_mkL4, o_mkT4, o_mkL5, o_mkT5, o_mkL6, o_mkT6, o_mulr, o_mull, o_mulm, o_mod, o_fdiv, o_pow, and_self, true_and, and_true, if_true, if_false, Bool.false_eq_true, show ∀ μ, eqW (.d .none) (.d (.int t)) μ = .ok (.d (.bool false)) μ from fun _ => rfl, isless_n, c2, caseI]
  | some y =>
    have hxy := hy y rfl
    simp only [q_bind, q_bindx, q_st, q_stx, q_c, q_v, q_getS, q_op, q_un, q_tv, q_asB, q_tand, q_tor, q_tnot, q_if, q_and, q_or, q_not, q_tY, q_anil, q_acons, q_lst, q_tup, q_fn, q_sl, q_pnone, q_psome, q_asI, q_lc, q_ls, q_lr, q_le, q_seqL, q_seqT, q_enumL, q_enumT, q_r1, q_r2, q_nil, q_seq, q_nx, q_rt, q_bk, q_ct, q_xc, q_run, q_onx, q_ort, q_oxc, q_set, q_ret, q_ex, q_pass, q_break, q_cont, q_sif, q_par, q_par2, q_parO, q_frz, q_frzK, q_app, q_appG, q_appK, q_own, q_asg, q_put, q_for, q_forKL, q_forKT, q_forR, q_forl, q_fornil, q_lnx, q_lct, q_lbk, q_lrt, q_wnx, q_wct, q_wbk, q_wrt, startE, List.map_cons, List.map_nil, List.length_cons, List.length_nil, Nat.reduceAdd, Nat.reduceSub, List.replicate_succ, List.replicate_zero, List.cons_append, List.nil_append, List.append_nil, List.getElem?_cons_succ, List.getElem?_cons_zero, List.set_cons_succ, List.set_cons_zero, wipeE, o_add, o_sub, o_neg, o_lt, o_le, o_gt, o_ge, o_int, o_intb, o_lenL, o_lenT, o_is, o_isnot, o_eqi, o_nei, o_eqs, o_nes, o_tupL, o_mkL0, o_mkT0, o_mkL1, o_mkT1, o_mkL2, o_mkT2, o_mkL3, o_mkT3, o_mkL4, o_mkT4, o_mkL5, o_mkT5, o_mkL6, o_mkT6, o_mulr, o_mull, o_mulm, o_mod, o_fdiv, o_pow, and_self, true_and, and_true, ismarks_ok h, require_ok, isint_ok, optI, isend_int, isless_ii, hxy, decide_true, if_true, above_ok]
    cases above ts x with
    | none => simp only [optI, noneD, q_bind, q_bindx, q_st, q_stx, q_c, q_v, q_getS, q_op, q_un, q_tv, q_asB, q_tand, q_tor, q_tnot, q_if, q_and, q_or, q_not, q_tY, q_anil, q_acons, q_lst, q_tup, q_fn, q_sl, q_pnone, q_psome, q_asI, q_lc, q_ls, q_lr, q_le, q_seqL, q_seqT, q_enumL, q_enumT, q_r1, q_r2, q_nil, q_seq, q_nx, q_rt, q_bk, q_ct, q_xc, q_run, q_onx, q_ort, q_oxc, q_set, q_ret, q_ex, q_pass, q_break, q_cont, q_sif, q_par, q_par2, q_parO, q_frz, q_frzK, q_app, q_appG, q_appK, q_own, q_asg, q_put, q_for, q_forKL, q_forKT, q_forR, q_forl, q_fornil, q_lnx, q_lct, q_lbk, q_lrt, q_wnx, q_wct, q_wbk, q_wrt, startE, List.map_cons, List.map_nil, List.length_cons, List.length_nil, Nat.reduceAdd, Nat.reduceSub, List.replicate_succ, List.replicate_zero, List.cons_append, List.nil_append, List.append_nil, List.getElem?_cons_succ, List.getElem?_cons_zero, List.set_cons_succ, List.set_cons_zero, wipeE, o_add, o_sub, o_neg, o_lt, o_le, o_gt, o_ge, o_int, o_intb, o_lenL, o_lenT, o_is, o_isnot, o_eqi, o_nei, o_eqs, o_nes, o_tupL, o_mkL0, o_mkT0, o_mkL1, o_mkT1, o_mkL2, o_mkT2, o_mkL3, o_mkT3, o_mkL4, o_mkT4, o_mkL5, o_mkT5, o_mkL6, o_mkT6, o_mulr, o_mull, o_mulm, o_mod, o_fdiv, o_pow, and_self, true_and, and_true, if_true, if_false, Bool.false_eq_true, c0, caseI]
    | some t =>
      simp only [optI, noneD, q_bind, q_bindx, q_st, q_stx, q_c, q_v, q_getS, q_op, q_un, q_tv, q_asB, q_tand, q_tor, q_tnot, q_if, q_and, q_or, q_not, q_tY, q_anil, q_acons, q_lst, q_tup, q_fn, q_sl, q_pnone, q_psome, q_asI, q_lc, q_ls, q_lr, q_le, q_seqL, q_seqT, q_enumL, q_enumT, q_r1, q_r2, q_nil, q_seq, q_nx, q_rt, q_bk, q_ct, q_xc, q_run, q_onx, q_ort, q_oxc, q_set, q_ret, q_ex, q_pass, q_break, q_cont, q_sif, q_par, q_par2, q_parO, q_frz, q_frzK, q_app, q_appG, q_appK, q_own, q_asg, q_put, q_for, q_forKL, q_forKT, q_forR, q_forl, q_fornil, q_lnx, q_lct, q_lbk, q_lrt, q_wnx, q_wct, q_wbk, q_wrt, startE, List.map_cons, List.map_nil, List.length_cons, List.length_nil, Nat.reduceAdd, Nat.reduceSub, List.replicate_succ, List.replicate_zero, List.cons_append, List.nil_append, List.append_nil, List.getElem?_cons_succ, List.getElem?_cons_zero, List.set_cons_succ, List.set_cons_zero, wipeE, o_add, o_sub, o_neg, o_lt, o_le, o_gt, o_ge, o_int, o_intb, o_lenL, o_lenT, o_is, o_isnot, o_eqi, o_nei, o_eqs, o_nes, o_tupL, o_mkL0, o_mkT0, o_mkL1, o_mkT1, o_mkL2, o_mkT2, o_mkL3, o_mkT3, o_mkL4, o_mkT4, o_mkL5, o_mkT5, o_mkL6, o_mkT6, o_mulr, o_mull, o_mulm, o_mod, o_fdiv, o_pow, and_self, true_and, and_true, if_false, Bool.false_eq_true, caseI]
      by_cases h1 : y = t
      · simp only [h1, decide_true, if_true, q_bind, q_bindx, q_st, q_stx, q_c, q_v, q_getS, q_op, q_un, q_tv, q_asB, q_tand, q_tor, q_tnot, q_if, q_and, q_or, q_not, q_tY, q_anil, q_acons, q_lst, q_tup, q_fn, q_sl, q_pnone, q_psome, q_asI, q_lc, q_ls, q_lr, q_le, q_seqL, q_seqT, q_enumL, q_enumT, q_r1, q_r2, q_nil, q_seq, q_nx, q_rt, q_bk, q_ct, q_xc, q_run, q_onx, q_ort, q_oxc, q_set, q_ret, q_ex, q_pass, q_break, q_cont, q_sif, q_par, q_par2, q_parO, q_frz, q_frzK, q_app, q_appG, q_appK, q_own, q_asg, q_put, q_for, q_forKL, q_forKT, q_forR, q_forl, q_fornil, q_lnx, q_lct, q_lbk, q_lrt, q_wnx, q_wct, q_wbk, q_wrt, startE, List.map_cons, List.map_nil, List.length_cons, List.length_nil, Nat.reduceAdd, Nat.reduceSub, List.replicate_succ, List.replicate_zero, List.cons_append, List.nil_append, List.append_nil, List.getElem?_cons_succ, List.getElem?_cons_zero, List.set_cons_succ, List.set_cons_zero, wipeE, o_add, o_sub, o_neg, o_lt, o_le, o_gt, o_ge, o_int, o_intb, o_lenL, o_lenT, o_is, o_isnot, o_eqi, o_nei, o_eqs, o_nes, o_tupL, o_mkL0, o_mkT0, o_mkL1, o_mkT1, o_mkL2, o_mkT2, o_mkL3, o_mkT3, o_mkL4, o_mkT4, o_mkL5, o_mkT5, o_mkL6, o_mkT6, o_mulr, o_mull, o_mulm, o_mod, o_fdiv, o_pow, and_self, true_and, and_true, c1]
      · by_cases h2 : y < t
        · simp only [h1, h2, decide_true, decide_false, if_true, if_false, Bool.false_eq_true, q_bind, q_bindx, q_st, q_stx, q_c, q_v, q_getS, q_op, q_un, q_tv, q_asB, q_tand, q_tor, q_tnot, q_if, q_and, q_or, q_not, q_tY, q_anil, q_acons, q_lst, q_tup, q_fn, q_sl, q_pnone, q_psome, q_asI, q_lc, q_ls, q_lr, q_le, q_seqL, q_seqT, q_enumL, q_enumT, q_r1, q_r2, q_nil, q_seq, q_nx, q_rt, q_bk, q_ct, q_xc, q_run, q_onx, q_ort, q_oxc, q_set, q_ret, q_ex, q_pass, q_break, q_cont, q_sif, q_par, q_par2, q_parO, q_frz, q_frzK, q_app, q_appG, q_appK, q_own, q_asg, q_put, q_for, q_forKL, q_forKT, q_forR, q_forl, q_fornil, q_lnx, q_lct, q_lbk, q_lrt, q_wnx, q_wct, q_wbk, q_wrt, startE, List.map_cons, List.map_nil, List.length_cons, List.length_nil, Nat.reduceAdd, Nat.reduceSub, List.replicate_succ, List.replicate_zero, List.cons_append, List.nil_append, List.append_nil, List.getElem?_cons_succ, List.getElem?_cons_zero, List.set_cons_succ, List.set_cons_zero, wipeE, o_add, o_sub, o_neg, o_lt, o_le, o_gt, o_ge, o_int, o_intb, o_lenL, o_lenT, o_is, o_isnot, o_eqi, o_nei, o_eqs, o_nes, o_tupL, o_mkL0, o_mkT0, o_mkL1, o_mkT1, o_mkL2, o_mkT2, o_mkL3, o_mkT3, o_mkL4, o_mkT4, o_mkL5, o_mkT5, o_mkL6, o_mkT6, o_mulr, o_mull, o_mulm, o_mod, o_fdiv, o_pow, and_self, true_and, and_true, isless_ii, c0]
        · simp only [h1, h2, decide_true, decide_false, if_true, if_false, Bool.false_eq_true, q_bind, q_bindx, q_st, q_stx, q_c, q_v, q_getS, q_op, q_un, q_tv, q_asB, q_tand, q_tor, q_tnot, q_if, q_and, q_or, q_not, q_tY, q_anil, q_acons, q_lst, q_tup, q_fn, q_sl, q_pnone, q_psome, q_asI, q_lc, q_ls, q_lr, q_le, q_seqL, q_seqT, q_enumL, q_enumT, q_r1, q_r2, q_nil, q_seq, q_nx, q_rt, q_bk, q_ct, q_xc, q_run, q_onx, q_ort, q_oxc, q_set, q_ret, q_ex, q_pass, q_break, q_cont, q_sif, q_par, q_par2, q_parO, q_frz, q_frzK, q_app, q_appG, q_appK, q_own, q_asg, q_put, q_for, q_forKL, q_forKT, q_forR, q_forl, q_fornil, q_lnx, q_lct, q_lbk, q_lrt, q_wnx, q_wct, q_wbk, q_wrt, startE, List.map_cons, List.map_nil, List.length_cons, List.length_nil, Nat.reduceAdd, Nat.reduceSub, List.replicate_succ, List.replicate_zero, List.cons_append, List.nil_append, List.append_nil, List.getElem?_cons_succ, List.getElem?_cons_zero, List.set_cons_succ, List.set_cons_zero, wipeE, o_add, o_sub, o_neg, o_lt, o_le, o_gt, o_ge, o_int, o_intb, o_lenL, o_lenT, o_is, o_isnot, o_eqi, o_nei, o_eqs, o_nes, o_tupL, o_mkL0, o_mkT0, o_mkL1, o_mkT1, o_mkL2, o_mkT2, o_mkL3, o_mkT3, o_mkL4, o_mkT4, o_mkL5, o_mkT5, o_mkL6, o_mkT6, o_mulr, o_mull, o_mulm, o_mod, o_fdiv, o_pow, and_self, true_and, and_true, isless_ii, c2]
theorem case_no {ts : List Int} {x y : Int} (h : ts.Pairwise (· < ·)) (hy : y ≤ x) : F_case_of [.d (.tuple (zis ts)), .d (.int x), .d (.int y)] μ = .ok (.d .none) μ := by
  unfold F_case_of g_case_of
  simp only [q_bind, q_bindx, q_st, q_stx, q_c, q_v, q_getS, q_op, q_un, q_tv, q_asB, q_tand, q_tor, q_tnot, q_if, q_and, q_or, q_not, q_tY, q_anil, q_acons, q_lst, q_tup, q_fn, q_sl, q_pnone, q_psome, q_asI, q_lc, q_ls, q_lr, q_le, q_seqL, q_seqT, q_enumL, q_enumT, q_r1, q_r2, q_nil, q_seq, q_nx, q_rt, q_bk, q_ct, q_xc, q_run, q_onx, q_ort, q_oxc, q_set, q_ret, q_ex, q_pass, q_break, q_cont, q_sif, q_par, q_par2, q_parO, q_frz, q_frzK, q_app, q_appG, q_appK, q_own, q_asg, q_put, q_for, q_forKL, q_forKT, q_forR, q_forl, q_fornil, q_lnx, q_lct, q_lbk, q_lrt, q_wnx, q_wct, q_wbk, q_wrt, startE, List.map_cons, List.map_nil, List.length_cons, List.length_nil, Nat.reduceAdd, Nat.reduceSub, List.replicate_succ, List.replicate_zero, List.cons_append, List.nil_append, List.append_nil, List.getElem?_cons_succ, List.getElem?_cons_zero, List.set_cons_succ, List.set_cons_zero, wipeE, o_add, o_sub, o_neg, o_lt, o_le, o_gt, o_ge, o_int, o_intb, o_lenL, o_lenT, o_is, o_isnot, o_eqi, o_nei, o_eqs, o_nes, o_tupL, o_mkL0, o_mkT0, o_mkL1, o_mkT1, o_mkL2, o_mkT2, o_mkL3, o_mkT3, o_mkL4, o_mkT4, o_mkL5, o_mkT5, o_mkL6, o_mkT6, o_mulr, o_mull, o_mulm, o_mod, o_fdiv, o_pow, and_self, true_and, and_true, ismarks_ok h, require_ok, isint_ok, isend_int, isless_ii, show ¬ x < y by omega, decide_false, if_false, Bool.false_eq_true]
/-! the law's own -/
theorem counted_some {ts : List Int} {at' far t : Int} (ht : t ∈ ts) (hf : t ≤ far) : ∀ (n : Nat) (spot k : Int), spot ≤ t → (∀ s, spot ≤ s → s < t → s ∉ ts) → (t - spot).toNat < n →
    s_while (t_v (e_op leW (e_v 4) (e_v 2))) (s_seq (s_if (t_v (e_op (inW false) (e_v 4) (e_v 0))) (s_ret (e_v 3)) s_nil) (s_par 3 4 (a_cons (e_op addW (e_v 3) (e_c (.int 1))) (a_cons (e_op addW (e_v 4) (e_c (.int 1))) a_nil)))) n
      [some (.w (.d (.tuple (zis ts)))), some (.w (.d (.int at'))), some (.w (.d (.int far))), some (.w (.d (.int k))), some (.w (.d (.int spot)))] μ = .rt (.d (.int (k + (t - spot)))) μ
  | 0, _, _, _, _, h => by omega
  | n + 1, spot, k, hs, hno, hn => by
    rw [while_eq]
    simp only [q_bind, q_bindx, q_st, q_stx, q_c, q_v, q_getS, q_op, q_un, q_tv, q_asB, q_tand, q_tor, q_tnot, q_if, q_and, q_or, q_not, q_tY, q_anil, q_acons, q_lst, q_tup, q_fn, q_sl, q_pnone, q_psome, q_asI, q_lc, q_ls, q_lr, q_le, q_seqL, q_seqT, q_enumL, q_enumT, q_r1, q_r2, q_nil, q_seq, q_nx, q_rt, q_bk, q_ct, q_xc, q_run, q_onx, q_ort, q_oxc, q_set, q_ret, q_ex, q_pass, q_break, q_cont, q_sif, q_par, q_par2, q_parO, q_frz, q_frzK, q_app, q_appG, q_appK, q_own, q_asg, q_put, q_for, q_forKL, q_forKT, q_forR, q_forl, q_fornil, q_lnx, q_lct, q_lbk, q_lrt, q_wnx, q_wct, q_wbk, q_wrt, startE, List.map_cons, List.map_nil, List.length_cons, List.length_nil, Nat.reduceAdd, Nat.reduceSub, List.replicate_succ, List.replicate_zero, List.cons_append, List.nil_append, List.append_nil, List.getElem?_cons_succ, List.getElem?_cons_zero, List.set_cons_succ, List.set_cons_zero, wipeE, o_add, o_sub, o_neg, o_lt, o_le, o_gt, o_ge, o_int, o_intb, o_lenL, o_lenT, o_is, o_isnot, o_eqi, o_nei, o_eqs, o_nes, o_tupL, o_mkL0, o_mkT0, o_mkL1, o_mkT1, o_mkL2, o_mkT2, o_mkL3, o_mkT3, o_mkL4, o_mkT4, o_mkL5, o_mkT5, o_mkL6, o_mkT6, o_mulr, o_mull, o_mulm, o_mod, o_fdiv, o_pow, and_self, true_and, and_true, show spot ≤ far by omega, decide_true, if_true, o_inT]
    by_cases h : spot ∈ ts
    · have e : spot = t := by
        by_cases e : spot < t
        · exact absurd h (hno spot (Int.le_refl _) e)
        · omega
      simp only [h, decide_true, if_true, q_bind, q_bindx, q_st, q_stx, q_c, q_v, q_getS, q_op, q_un, q_tv, q_asB, q_tand, q_tor, q_tnot, q_if, q_and, q_or, q_not, q_tY, q_anil, q_acons, q_lst, q_tup, q_fn, q_sl, q_pnone, q_psome, q_asI, q_lc, q_ls, q_lr, q_le, q_seqL, q_seqT, q_enumL, q_enumT, q_r1, q_r2, q_nil, q_seq, q_nx, q_rt, q_bk, q_ct, q_xc, q_run, q_onx, q_ort, q_oxc, q_set, q_ret, q_ex, q_pass, q_break, q_cont, q_sif, q_par, q_par2, q_parO, q_frz, q_frzK, q_app, q_appG, q_appK, q_own, q_asg, q_put, q_for, q_forKL, q_forKT, q_forR, q_forl, q_fornil, q_lnx, q_lct, q_lbk, q_lrt, q_wnx, q_wct, q_wbk, q_wrt, startE, List.map_cons, List.map_nil, List.length_cons, List.length_nil, Nat.reduceAdd, Nat.reduceSub, List.replicate_succ, List.replicate_zero, List.cons_append, List.nil_append, List.append_nil, List.getElem?_cons_succ, List.getElem?_cons_zero, List.set_cons_succ, List.set_cons_zero, wipeE]
      rw [e, Int.sub_self, Int.add_zero]
    · have e : spot ≠ t := fun z => h (z ▸ ht)
      simp only [h, decide_false, Bool.false_eq_true, if_false, q_bind, q_bindx, q_st, q_stx, q_c, q_v, q_getS, q_op, q_un, q_tv, q_asB, q_tand, q_tor, q_tnot, q_if, q_and, q_or, q_not, q_tY, q_anil, q_acons, q_lst, q_tup, q_fn, q_sl, q_pnone, q_psome, q_asI, q_lc, q_ls, q_lr, q_le, q_seqL, q_seqT, q_enumL, q_enumT, q_r1, q_r2, q_nil, q_seq, q_nx, q_rt, q_bk, q_ct, q_xc, q_run, q_onx, q_ort, q_oxc, q_set, q_ret, q_ex, q_pass, q_break, q_cont, q_sif, q_par, q_par2, q_parO, q_frz, q_frzK, q_app, q_appG, q_appK, q_own, q_asg, q_put, q_for, q_forKL, q_forKT, q_forR, q_forl, q_fornil, q_lnx, q_lct, q_lbk, q_lrt, q_wnx, q_wct, q_wbk, q_wrt, startE, List.map_cons, List.map_nil, List.length_cons, List.length_nil, Nat.reduceAdd, Nat.reduceSub, List.replicate_succ, List.replicate_zero, List.cons_append, List.nil_append, List.append_nil, List.getElem?_cons_succ, List.getElem?_cons_zero, List.set_cons_succ, List.set_cons_zero, wipeE, o_add, o_sub, o_neg, o_lt, o_le, o_gt, o_ge, o_int, o_intb, o_lenL, o_lenT, o_is, o_isnot, o_eqi, o_nei, o_eqs, o_nes, o_tupL, o_mkL0, o_mkT0, o_mkL1, o_mkT1, o_mkL2, o_mkT2, o_mkL3, o_mkT3, o_mkL4, o_mkT4, o_mkL5, o_mkT5, o_mkL6, o_mkT6, o_mulr, o_mull, o_mulm, o_mod, o_fdiv, o_pow, and_self, true_and, and_true]
      rw [counted_some ht hf n (spot + 1) (k + 1) (by omega) (fun s h1 h2 => hno s (by omega) h2) (by omega)]
      rw [show k + 1 + (t - (spot + 1)) = k + (t - spot) by omega]
theorem counted_none {ts : List Int} {at' far : Int} : ∀ (n : Nat) (spot k : Int), (∀ s, spot ≤ s → s ≤ far → s ∉ ts) → (far + 1 - spot).toNat < n →
    ∃ env', s_while (t_v (e_op leW (e_v 4) (e_v 2))) (s_seq (s_if (t_v (e_op (inW false) (e_v 4) (e_v 0))) (s_ret (e_v 3)) s_nil) (s_par 3 4 (a_cons (e_op addW (e_v 3) (e_c (.int 1))) (a_cons (e_op addW (e_v 4) (e_c (.int 1))) a_nil)))) n
      [some (.w (.d (.tuple (zis ts)))), some (.w (.d (.int at'))), some (.w (.d (.int far))), some (.w (.d (.int k))), some (.w (.d (.int spot)))] μ = .nx env' μ
  | 0, _, _, _, h => by omega
  | n + 1, spot, k, hno, hn => by
    rw [while_eq]
    by_cases h : spot ≤ far
    · simp only [q_bind, q_bindx, q_st, q_stx, q_c, q_v, q_getS, q_op, q_un, q_tv, q_asB, q_tand, q_tor, q_tnot, q_if, q_and, q_or, q_not, q_tY, q_anil, q_acons, q_lst, q_tup, q_fn, q_sl, q_pnone, q_psome, q_asI, q_lc, q_ls, q_lr, q_le, q_seqL, q_seqT, q_enumL, q_enumT, q_r1, q_r2, q_nil, q_seq, q_nx, q_rt, q_bk, q_ct, q_xc, q_run, q_onx, q_ort, q_oxc, q_set, q_ret, q_ex, q_pass, q_break, q_cont, q_sif, q_par, q_par2, q_parO, q_frz, q_frzK, q_app, q_appG, q_appK, q_own, q_asg, q_put, q_for, q_forKL, q_forKT, q_forR, q_forl, q_fornil, q_lnx, q_lct, q_lbk, q_lrt, q_wnx, q_wct, q_wbk, q_wrt, startE, List.map_cons, List.map_nil, List.length_cons, List.length_nil, Nat.reduceAdd, Nat.reduceSub, List.replicate_succ, List.replicate_zero, List.cons_append, List.nil_append, List.append_nil, List.getElem?_cons_succ, List.getElem?_cons_zero, List.set_cons_succ, List.set_cons_zero, wipeE, o_add, o_sub, o_neg, o_lt, o_le, o_gt, o_ge, o_int, o_intb, o_lenL, o_lenT, o_is, o_isnot, o_eqi, o_nei, o_eqs, o_nes, o_tupL, o_mkL0, o_mkT0, o_mkL1, o_mkT1, o_mkL2, o_mkT2, o_mkL3, o_mkT3, o_mkL4, o_mkT4, o_mkL5, o_mkT5, o_mkL6, o_mkT6, o_mulr, o_mull, o_mulm, o_mod, o_fdiv, o_pow, and_self, true_and, and_true, h, decide_true, if_true, o_inT, hno spot (Int.le_refl _) h, decide_false, Bool.false_eq_true, if_false]
      exact counted_none n (spot + 1) (k + 1) (fun s h1 h2 => hno s (by omega) h2) (by omega)
    · simp only [q_bind, q_bindx, q_st, q_stx, q_c, q_v, q_getS, q_op, q_un, q_tv, q_asB, q_tand, q_tor, q_tnot, q_if, q_and, q_or, q_not, q_tY, q_anil, q_acons, q_lst, q_tup, q_fn, q_sl, q_pnone, q_psome, q_asI, q_lc, q_ls, q_lr, q_le, q_seqL, q_seqT, q_enumL, q_enumT, q_r1, q_r2, q_nil, q_seq, q_nx, q_rt, q_bk, q_ct, q_xc, q_run, q_onx, q_ort, q_oxc, q_set, q_ret, q_ex, q_pass, q_break, q_cont, q_sif, q_par, q_par2, q_parO, q_frz, q_frzK, q_app, q_appG, q_appK, q_own, q_asg, q_put, q_for, q_forKL, q_forKT, q_forR, q_forl, q_fornil, q_lnx, q_lct, q_lbk, q_lrt, q_wnx, q_wct, q_wbk, q_wrt, startE, List.map_cons, List.map_nil, List.length_cons, List.length_nil, Nat.reduceAdd, Nat.reduceSub, List.replicate_succ, List.replicate_zero, List.cons_append, List.nil_append, List.append_nil, List.getElem?_cons_succ, List.getElem?_cons_zero, List.set_cons_succ, List.set_cons_zero, wipeE, o_add, o_sub, o_neg, o_lt, o_le, o_gt, o_ge, o_int, o_intb, o_lenL, o_lenT, o_is, o_isnot, o_eqi, o_nei, o_eqs, o_nes, o_tupL, o_mkL0, o_mkT0, o_mkL1, o_mkT1, o_mkL2, o_mkT2, o_mkL3, o_mkT3, o_mkL4, o_mkT4, o_mkL5, o_mkT5, o_mkL6, o_mkT6, o_mulr, o_mull, o_mulm, o_mod, o_fdiv, o_pow, and_self, true_and, and_true, h, decide_false, Bool.false_eq_true, if_false]
      exact ⟨_, rfl⟩
theorem above_some {ts : List Int} {x t : Int} (h : ts.Pairwise (· < ·)) (e : above ts x = some t) : t ∈ ts ∧ x < t ∧ ∀ s, x < s → s < t → s ∉ ts := by
  unfold above at e
  induction ts with
  | nil => cases e
  | cons u us ih =>
    rw [List.find?_cons] at e
    by_cases hu : x < u
    · simp only [hu, decide_true] at e
      cases e
      refine ⟨by simp, hu, fun s h1 h2 hm => ?_⟩
      rcases List.mem_cons.mp hm with z | z
      · omega
      · have := (List.pairwise_cons.mp h).1 s z; omega
    · simp only [hu, decide_false] at e
      obtain ⟨h1, h2, h3⟩ := ih (List.pairwise_cons.mp h).2 e
      refine ⟨List.mem_cons_of_mem _ h1, h2, fun s a b hm => ?_⟩
      rcases List.mem_cons.mp hm with z | z
      · omega
      · exact h3 s a b z
theorem above_none {ts : List Int} {x : Int} (e : above ts x = none) : ∀ s ∈ ts, s ≤ x := by
  intro s hs
  have := List.find?_eq_none.mp e s hs
  simpa using this
theorem counted_ok {ts : List Int} {at' far : Int} (h : ts.Pairwise (· < ·)) (hf : ∀ t ∈ ts, t ≤ far) (hn : far - at' < 990) : F__law_counted [.d (.tuple (zis ts)), .d (.int at'), .d (.int far)] μ = .ok (.d (roomD ts at')) μ := by
  unfold F__law_counted g__law_counted roomD
  simp only [q_bind, q_bindx, q_st, q_stx, q_c, q_v, q_getS, q_op, q_un, q_tv, q_asB, q_tand, q_tor, q_tnot, q_if, q_and, q_or, q_not, q_tY, q_anil, q_acons, q_lst, q_tup, q_fn, q_sl, q_pnone, q_psome, q_asI, q_lc, q_ls, q_lr, q_le, q_seqL, q_seqT, q_enumL, q_enumT, q_r1, q_r2, q_nil, q_seq, q_nx, q_rt, q_bk, q_ct, q_xc, q_run, q_onx, q_ort, q_oxc, q_set, q_ret, q_ex, q_pass, q_break, q_cont, q_sif, q_par, q_par2, q_parO, q_frz, q_frzK, q_app, q_appG, q_appK, q_own, q_asg, q_put, q_for, q_forKL, q_forKT, q_forR, q_forl, q_fornil, q_lnx, q_lct, q_lbk, q_lrt, q_wnx, q_wct, q_wbk, q_wrt, startE, List.map_cons, List.map_nil, List.length_cons, List.length_nil, Nat.reduceAdd, Nat.reduceSub, List.replicate_succ, List.replicate_zero, List.cons_append, List.nil_append, List.append_nil, List.getElem?_cons_succ, List.getElem?_cons_zero, List.set_cons_succ, List.set_cons_zero, wipeE, o_add, o_sub, o_neg, o_lt, o_le, o_gt, o_ge, o_int, o_intb, o_lenL, o_lenT, o_is, o_isnot, o_eqi, o_nei, o_eqs, o_nes, o_tupL, o_mkL0, o_mkT0, o_mkL1, o_mkT1, o_mkL2, o_mkT2, o_mkL3, o_mkT3, o_mkL4, o_mkT4, o_mkL5, o_mkT5, o_mkL6, o_mkT6, o_mulr, o_mull, o_mulm, o_mod, o_fdiv, o_pow, and_self, true_and, and_true]
  cases e : above ts at' with
  | some t =>
    obtain ⟨h1, h2, h3⟩ := above_some h e
    have := hf t h1
    rw [counted_some h1 (hf t h1) 1000 (at' + 1) 0 (by omega) (fun s a b => h3 s (by omega) b) (by omega)]
    simp only [q_bind, q_bindx, q_st, q_stx, q_c, q_v, q_getS, q_op, q_un, q_tv, q_asB, q_tand, q_tor, q_tnot, q_if, q_and, q_or, q_not, q_tY, q_anil, q_acons, q_lst, q_tup, q_fn, q_sl, q_pnone, q_psome, q_asI, q_lc, q_ls, q_lr, q_le, q_seqL, q_seqT, q_enumL, q_enumT, q_r1, q_r2, q_nil, q_seq, q_nx, q_rt, q_bk, q_ct, q_xc, q_run, q_onx, q_ort, q_oxc, q_set, q_ret, q_ex, q_pass, q_break, q_cont, q_sif, q_par, q_par2, q_parO, q_frz, q_frzK, q_app, q_appG, q_appK, q_own, q_asg, q_put, q_for, q_forKL, q_forKT, q_forR, q_forl, q_fornil, q_lnx, q_lct, q_lbk, q_lrt, q_wnx, q_wct, q_wbk, q_wrt, startE, List.map_cons, List.map_nil, List.length_cons, List.length_nil, Nat.reduceAdd, Nat.reduceSub, List.replicate_succ, List.replicate_zero, List.cons_append, List.nil_append, List.append_nil, List.getElem?_cons_succ, List.getElem?_cons_zero, List.set_cons_succ, List.set_cons_zero, wipeE, optI, Option.map]
    rw [show (0 : Int) + (t - (at' + 1)) = t - at' - 1 by omega]
  | none =>
    obtain ⟨env', hE⟩ := counted_none (μ := μ) (ts := ts) (at' := at') (far := far) 1000 (at' + 1) 0 (fun s a b hm => by have := above_none e s hm; omega) (by omega)
    rw [hE]
    rfl
def metL (ts : List Int) (x y : Int) : List Int := ((List.range (y - x).toNat).map fun k => x + 1 + (k : Nat)).filter fun s => decide (s ∈ ts)
theorem metL_nil {ts : List Int} {x y : Int} (h : ∀ s, x < s → s ≤ y → s ∉ ts) : metL ts x y = [] := by
  unfold metL
  refine List.filter_eq_nil_iff.mpr fun s hs => ?_
  obtain ⟨k, hk, rfl⟩ := List.mem_map.mp hs
  have := List.mem_range.mp hk
  simpa using h _ (by omega) (by omega)
theorem metL_one {ts : List Int} {x y : Int} (hxy : x < y) (hy : y ∈ ts) (h : ∀ s, x < s → s < y → s ∉ ts) : metL ts x y = [y] := by
  obtain ⟨n, hn⟩ : ∃ n : Nat, (y - x).toNat = n + 1 := ⟨(y - x).toNat - 1, by omega⟩
  have e0 : metL ts x (y - 1) = [] := metL_nil fun s a b => h s a (by omega)
  unfold metL at e0 ⊢
  rw [hn, List.range_succ, List.map_append, List.filter_append]
  rw [show (y - 1 - x).toNat = n by omega] at e0
  rw [e0]
  have e1 : x + 1 + (n : Int) = y := by omega
  simp [e1, hy]
theorem metL_mem {ts : List Int} {x y t : Int} (h1 : x < t) (h2 : t ≤ y) (h3 : t ∈ ts) : t ∈ metL ts x y := by
  unfold metL
  refine List.mem_filter.mpr ⟨List.mem_map.mpr ⟨(t - x - 1).toNat, List.mem_range.mpr (by omega), by omega⟩, by simpa using h3⟩
theorem met_list {ts : List Int} {x y : Int} (env : Ev) (hl : env.length = 5) (h0 : env[0]? = some (some (.w (.d (.tuple (zis ts)))))) (hn : y - x < 990) : lcL (b_n 4) (t_v (e_op (inW false) (e_v 4) (e_v 0))) (e_v 4) (rangeD (x + 1) (y + 1)) [] env μ = .ok (zis (metL ts x y)) μ := by
  rw [lc_map (p := fun d => match d with | .int t => decide (t ∈ ts) | _ => false) (h := id) _ [] (fun d hd => ?_) (by rw [rangeD_len]; exact Nat.le_trans (m := 1000) (by simp; omega) (by decide))]
  · rw [List.nil_append, List.map_id]
    unfold metL rangeD
    rw [show y + 1 - (x + 1) = y - x by omega]
    rw [List.filter_map, zis, List.filter_map, List.map_map]
    rfl
  · unfold rangeD at hd
    obtain ⟨k, _, rfl⟩ := List.mem_map.mp hd
    refine ⟨env.set 4 (some (.w (.d (.int (x + 1 + (k : Nat)))))), rfl, ?_, fun _ => ?_⟩
    · have e4 : (env.set 4 (some (Sl.w (W.d (PyData.int (x + 1 + (k : Nat)))))))[4]? = some (some (.w (.d (.int (x + 1 + (k : Nat)))))) := by rw [List.getElem?_set_self (by omega)]
      have e0 : (env.set 4 (some (Sl.w (W.d (PyData.int (x + 1 + (k : Nat)))))))[0]? = some (some (.w (.d (.tuple (zis ts))))) := by rw [List.getElem?_set_ne (by decide)]; exact h0
      simp only [q_tv, q_op, q_v, e4, e0, q_getS, q_bind, o_inT, q_asB]
    · have e4 : (env.set 4 (some (Sl.w (W.d (PyData.int (x + 1 + (k : Nat)))))))[4]? = some (some (.w (.d (.int (x + 1 + (k : Nat)))))) := by rw [List.getElem?_set_self (by omega)]
      simp only [q_v, e4, q_getS]
      rfl
def metD (ts : List Int) (x y : Int) : PyData := if y ≤ x then .none else .str (caseI (above ts x) (some y))
theorem met_ok {ts : List Int} {x y : Int} (h : ts.Pairwise (· < ·)) (hx : -5000 ≤ x ∧ x ≤ 5000) (hy : -5000 ≤ y ∧ y ≤ 5000) (hn : y - x < 990) : F__law_met [.d (.tuple (zis ts)), .d (.int x), .d (.int y)] μ = .ok (.d (metD ts x y)) μ := by
  unfold F__law_met g__law_met metD
  simp only [q_bind, q_bindx, q_st, q_stx, q_c, q_v, q_getS, q_op, q_un, q_tv, q_asB, q_tand, q_tor, q_tnot, q_if, q_and, q_or, q_not, q_tY, q_anil, q_acons, q_lst, q_tup, q_fn, q_sl, q_pnone, q_psome, q_asI, q_lc, q_ls, q_lr, q_le, q_seqL, q_seqT, q_enumL, q_enumT, q_r1, q_r2, q_nil, q_seq, q_nx, q_rt, q_bk, q_ct, q_xc, q_run, q_onx, q_ort, q_oxc, q_set, q_ret, q_ex, q_pass, q_break, q_cont, q_sif, q_par, q_par2, q_parO, q_frz, q_frzK, q_app, q_appG, q_appK, q_own, q_asg, q_put, q_for, q_forKL, q_forKT, q_forR, q_forl, q_fornil, q_lnx, q_lct, q_lbk, q_lrt, q_wnx, q_wct, q_wbk, q_wrt, startE, List.map_cons, List.map_nil, List.length_cons, List.length_nil, Nat.reduceAdd, Nat.reduceSub, List.replicate_succ, List.replicate_zero, List.cons_append, List.nil_append, List.append_nil, List.getElem?_cons_succ, List.getElem?_cons_zero, List.set_cons_succ, List.set_cons_zero, wipeE, o_add, o_sub, o_neg, o_lt, o_le, o_gt, o_ge, o_int, o_intb, o_lenL, o_lenT, o_is, o_isnot, o_eqi, o_nei, o_eqs, o_nes, o_tupL, o_mkL0, o_mkT0, o_mkL1, o_mkT1, o_mkL2, o_mkT2, o_mkL3, o_mkT3, o_mkL4, o_mkT4, o_mkL5, o_mkT5, o_mkL6, o_mkT6, o_mulr, o_mull, o_mulm, o_mod, o_fdiv, o_pow, and_self, true_and, and_true, o_r2 (a := x + 1) (b := y + 1) (by omega), met_list (ts := ts) (x := x) (y := y) (μ := μ) [some (.w (.d (.tuple (zis ts)))), some (.w (.d (.int x))), some (.w (.d (.int y))), none, none] rfl rfl hn, o_eqL0, o_eqL1]
  by_cases hyx : y ≤ x
  · simp only [hyx, decide_true, if_true, q_bind, q_bindx, q_st, q_stx, q_c, q_v, q_getS, q_op, q_un, q_tv, q_asB, q_tand, q_tor, q_tnot, q_if, q_and, q_or, q_not, q_tY, q_anil, q_acons, q_lst, q_tup, q_fn, q_sl, q_pnone, q_psome, q_asI, q_lc, q_ls, q_lr, q_le, q_seqL, q_seqT, q_enumL, q_enumT, q_r1, q_r2, q_nil, q_seq, q_nx, q_rt, q_bk, q_ct, q_xc, q_run, q_onx, q_ort, q_oxc, q_set, q_ret, q_ex, q_pass, q_break, q_cont, q_sif, q_par, q_par2, q_parO, q_frz, q_frzK, q_app, q_appG, q_appK, q_own, q_asg, q_put, q_for, q_forKL, q_forKT, q_forR, q_forl, q_fornil, q_lnx, q_lct, q_lbk, q_lrt, q_wnx, q_wct, q_wbk, q_wrt, startE, List.map_cons, List.map_nil, List.length_cons, List.length_nil, Nat.reduceAdd, Nat.reduceSub, List.replicate_succ, List.replicate_zero, List.cons_append, List.nil_append, List.append_nil, List.getElem?_cons_succ, List.getElem?_cons_zero, List.set_cons_succ, List.set_cons_zero, wipeE]
  · simp only [hyx, decide_false, if_false, Bool.false_eq_true, q_bind, q_bindx, q_st, q_stx, q_c, q_v, q_getS, q_op, q_un, q_tv, q_asB, q_tand, q_tor, q_tnot, q_if, q_and, q_or, q_not, q_tY, q_anil, q_acons, q_lst, q_tup, q_fn, q_sl, q_pnone, q_psome, q_asI, q_lc, q_ls, q_lr, q_le, q_seqL, q_seqT, q_enumL, q_enumT, q_r1, q_r2, q_nil, q_seq, q_nx, q_rt, q_bk, q_ct, q_xc, q_run, q_onx, q_ort, q_oxc, q_set, q_ret, q_ex, q_pass, q_break, q_cont, q_sif, q_par, q_par2, q_parO, q_frz, q_frzK, q_app, q_appG, q_appK, q_own, q_asg, q_put, q_for, q_forKL, q_forKT, q_forR, q_forl, q_fornil, q_lnx, q_lct, q_lbk, q_lrt, q_wnx, q_wct, q_wbk, q_wrt, startE, List.map_cons, List.map_nil, List.length_cons, List.length_nil, Nat.reduceAdd, Nat.reduceSub, List.replicate_succ, List.replicate_zero, List.cons_append, List.nil_append, List.append_nil, List.getElem?_cons_succ, List.getElem?_cons_zero, List.set_cons_succ, List.set_cons_zero, wipeE, o_add, o_sub, o_neg, o_lt, o_le, o_gt, o_ge, o_int, o_intb, o_lenL, o_lenT, o_is, o_isnot, o_eqi, o_nei, o_eqs, o_nes, o_tupL, o_mkL0, o_mkT0, o_mkL1, o_mkT1, o_mkL2, o_mkT2, o_mkL3, o_mkT3, o_mkL4, o_mkT4, o_mkL5, o_mkT5, o_mkL6, o_mkT6, o_mulr, o_mull, o_mulm, o_mod, o_fdiv, o_pow, and_self, true_and, and_true, o_eqL0, o_eqL1]
    cases e : above ts x with
    | none =>
      have e1 : metL ts x y = [] := metL_nil fun s a b hm => by have := above_none e s hm; omega
      simp only [e1, decide_true, if_true, q_bind, q_bindx, q_st, q_stx, q_c, q_v, q_getS, q_op, q_un, q_tv, q_asB, q_tand, q_tor, q_tnot, q_if, q_and, q_or, q_not, q_tY, q_anil, q_acons, q_lst, q_tup, q_fn, q_sl, q_pnone, q_psome, q_asI, q_lc, q_ls, q_lr, q_le, q_seqL, q_seqT, q_enumL, q_enumT, q_r1, q_r2, q_nil, q_seq, q_nx, q_rt, q_bk, q_ct, q_xc, q_run, q_onx, q_ort, q_oxc, q_set, q_ret, q_ex, q_pass, q_break, q_cont, q_sif, q_par, q_par2, q_parO, q_frz, q_frzK, q_app, q_appG, q_appK, q_own, q_asg, q_put, q_for, q_forKL, q_forKT, q_forR, q_forl, q_fornil, q_lnx, q_lct, q_lbk, q_lrt, q_wnx, q_wct, q_wbk, q_wrt, startE, List.map_cons, List.map_nil, List.length_cons, List.length_nil, Nat.reduceAdd, Nat.reduceSub, List.replicate_succ, List.replicate_zero, List.cons_append, List.nil_append, List.append_nil, List.getElem?_cons_succ, List.getElem?_cons_zero, List.set_cons_succ, List.set_cons_zero, wipeE, caseI]
    | some t =>
      obtain ⟨h1, h2, h3⟩ := above_some h e
      simp only [caseI]
      by_cases c1 : y = t
      · subst c1
        have e1 : metL ts x y = [y] := metL_one h2 h1 h3
        have e2 : ¬ ([y] : List Int) = [] := by simp
        have q : ∀ μ, eqW (.d (.list [.int y])) (.d (.list [.int y])) μ = .ok (.d (.bool true)) μ := fun μ => by simpa using o_eqL (μ := μ) (xs := [y]) (ys := [y])
        simp only [e1, e2, decide_true, decide_false, if_true, if_false, Bool.false_eq_true, q_bind, q_bindx, q_st, q_stx, q_c, q_v, q_getS, q_op, q_un, q_tv, q_asB, q_tand, q_tor, q_tnot, q_if, q_and, q_or, q_not, q_tY, q_anil, q_acons, q_lst, q_tup, q_fn, q_sl, q_pnone, q_psome, q_asI, q_lc, q_ls, q_lr, q_le, q_seqL, q_seqT, q_enumL, q_enumT, q_r1, q_r2, q_nil, q_seq, q_nx, q_rt, q_bk, q_ct, q_xc, q_run, q_onx, q_ort, q_oxc, q_set, q_ret, q_ex, q_pass, q_break, q_cont, q_sif, q_par, q_par2, q_parO, q_frz, q_frzK, q_app, q_appG, q_appK, q_own, q_asg, q_put, q_for, q_forKL, q_forKT, q_forR, q_forl, q_fornil, q_lnx, q_lct, q_lbk, q_lrt, q_wnx, q_wct, q_wbk, q_wrt, startE, List.map_cons, List.map_nil, List.length_cons, List.length_nil, Nat.reduceAdd, Nat.reduceSub, List.replicate_succ, List.replicate_zero, List.cons_append, List.nil_append, List.append_nil, List.getElem?_cons_succ, List.getElem?_cons_zero, List.set_cons_succ, List.set_cons_zero, wipeE, o_add, o_sub, o_neg, o_lt, o_le, o_gt, o_ge, o_int, o_intb, o_lenL, o_lenT, o_is, o_isnot, o_eqi, o_nei, o_eqs, o_nes, o_tupL, o_mkL0, o_mkT0, o_mkL1, o_mkT1, o_mkL2, o_mkT2, o_mkL3, o_mkT3, o_mkL4, o_mkT4, o_mkL5, o_mkT5, o_mkL6, o_mkT6, o_mulr, o_mull, o_mulm, o_mod, o_fdiv, o_pow, and_self, true_and, and_true, o_eqL1, q]
      · by_cases c2 : y < t
        · have e1 : metL ts x y = [] := metL_nil fun s a b => h3 s a (by omega)
          simp only [e1, decide_true, if_true, q_bind, q_bindx, q_st, q_stx, q_c, q_v, q_getS, q_op, q_un, q_tv, q_asB, q_tand, q_tor, q_tnot, q_if, q_and, q_or, q_not, q_tY, q_anil, q_acons, q_lst, q_tup, q_fn, q_sl, q_pnone, q_psome, q_asI, q_lc, q_ls, q_lr, q_le, q_seqL, q_seqT, q_enumL, q_enumT, q_r1, q_r2, q_nil, q_seq, q_nx, q_rt, q_bk, q_ct, q_xc, q_run, q_onx, q_ort, q_oxc, q_set, q_ret, q_ex, q_pass, q_break, q_cont, q_sif, q_par, q_par2, q_parO, q_frz, q_frzK, q_app, q_appG, q_appK, q_own, q_asg, q_put, q_for, q_forKL, q_forKT, q_forR, q_forl, q_fornil, q_lnx, q_lct, q_lbk, q_lrt, q_wnx, q_wct, q_wbk, q_wrt, startE, List.map_cons, List.map_nil, List.length_cons, List.length_nil, Nat.reduceAdd, Nat.reduceSub, List.replicate_succ, List.replicate_zero, List.cons_append, List.nil_append, List.append_nil, List.getElem?_cons_succ, List.getElem?_cons_zero, List.set_cons_succ, List.set_cons_zero, wipeE, c1, c2, if_false]
        · have hm := metL_mem (ts := ts) (x := x) (y := y) h2 (by omega) h1
          have e1 : ¬ metL ts x y = [] := fun z => by rw [z] at hm; cases hm
          have e2 : ¬ metL ts x y = [y] := fun z => by rw [z] at hm; exact c1 (List.mem_singleton.mp hm).symm
          simp only [e1, e2, decide_false, if_false, Bool.false_eq_true, q_bind, q_bindx, q_st, q_stx, q_c, q_v, q_getS, q_op, q_un, q_tv, q_asB, q_tand, q_tor, q_tnot, q_if, q_and, q_or, q_not, q_tY, q_anil, q_acons, q_lst, q_tup, q_fn, q_sl, q_pnone, q_psome, q_asI, q_lc, q_ls, q_lr, q_le, q_seqL, q_seqT, q_enumL, q_enumT, q_r1, q_r2, q_nil, q_seq, q_nx, q_rt, q_bk, q_ct, q_xc, q_run, q_onx, q_ort, q_oxc, q_set, q_ret, q_ex, q_pass, q_break, q_cont, q_sif, q_par, q_par2, q_parO, q_frz, q_frzK, q_app, q_appG, q_appK, q_own, q_asg, q_put, q_for, q_forKL, q_forKT, q_forR, q_forl, q_fornil, q_lnx, q_lct, q_lbk, q_lrt, q_wnx, q_wct, q_wbk, q_wrt, startE, List.map_cons, List.map_nil, List.length_cons, List.length_nil, Nat.reduceAdd, Nat.reduceSub, List.replicate_succ, List.replicate_zero, List.cons_append, List.nil_append, List.append_nil, List.getElem?_cons_succ, List.getElem?_cons_zero, List.set_cons_succ, List.set_cons_zero, wipeE, o_add, o_sub, o_neg, o_lt, o_le, o_gt, o_ge, o_int, o_intb, o_lenL, o_lenT, o_is, o_isnot, o_eqi, o_nei, o_eqs, o_nes, o_tupL, o_mkL0, o_mkT0, o_mkL1, o_mkT1, o_mkL2, o_mkT2, o_mkL3, o_mkT3, o_mkL4, o_mkT4, o_mkL5, o_mkT5, o_mkL6, o_mkT6, o_mulr, o_mull, o_mulm, o_mod, o_fdiv, o_pow, and_self, true_and, and_true, o_eqL1, c1, c2]
/-! all of it -/
theorem shift_up {ts : List Int} (by' : Int) (h : ts.Pairwise (· < ·)) : (ts.map (· + by')).Pairwise (· < ·) := by
  rw [List.pairwise_map]
  exact h.imp fun h => by omega
theorem shift_many (ts : List Int) (x by' : Int) : many (ts.map (· + by')) (x + by') = many ts x := by
  unfold many
  rw [List.filter_map, List.length_map]
  congr 1
  refine List.filter_congr fun t _ => ?_
  simp only [Function.comp]
  exact decide_eq_decide.mpr (by omega)
theorem shift_above (ts : List Int) (x by' : Int) : above (ts.map (· + by')) (x + by') = (above ts x).map (· + by') := by
  unfold above
  rw [List.find?_map]
  congr 1
  congr 1
  funext t
  simp only [Function.comp]
  exact decide_eq_decide.mpr (by omega)
theorem shift_case (o : Option Int) (y by' : Int) : caseI (o.map (· + by')) (some (y + by')) = caseI o (some y) := by
  cases o with
  | none => rfl
  | some t =>
    simp only [caseI, Option.map]
    by_cases h : y = t
    · rw [if_pos h, if_pos (by omega)]
    · rw [if_neg h, if_neg (by omega)]
      by_cases h2 : y < t
      · rw [if_pos h2, if_pos (by omega)]
      · rw [if_neg h2, if_neg (by omega)]
theorem many_step {ts : List Int} (h : ts.Pairwise (· < ·)) (x : Int) : ((many ts x : Nat) : Int) = (many ts (x - 1) : Nat) + (if x ∈ ts then 1 else 0) := by
  induction ts with
  | nil => simp [many]
  | cons t ts ih =>
    have ih := ih (List.pairwise_cons.mp h).2
    have hn := (List.pairwise_cons.mp h).1
    have e : ∀ z, ((many (t :: ts) z : Nat) : Int) = (if t ≤ z then 1 else 0) + (many ts z : Nat) := by
      intro z
      unfold many
      by_cases c : t ≤ z
      · simp [List.filter_cons, c]; omega
      · simp [List.filter_cons, c]
    rw [e, e, ih]
    by_cases c : x = t
    · subst c
      have : x ∉ ts := fun hm => by have := hn x hm; omega
      simp [this]
      omega
    · have hm : x ∈ t :: ts ↔ x ∈ ts := by simp [c]
      simp only [hm]
      by_cases c2 : t ≤ x
      · rw [if_pos c2, if_pos (show t ≤ x - 1 by omega)]; omega
      · rw [if_neg c2, if_neg (show ¬ t ≤ x - 1 by omega)]; omega
theorem many_zero {ts : List Int} {x : Int} (h : ∀ t ∈ ts, x < t) : many ts x = 0 := by
  unfold many
  rw [List.length_eq_zero_iff]
  exact List.filter_eq_nil_iff.mpr fun t ht => by have := h t ht; simp; omega
theorem int_shows {i : Int} (h : -(10 ^ 60) < i ∧ i < 10 ^ 60) : (PyData.int i).showable = true := by
  have e : (PyData.int i).showable = decide (i.natAbs.log2 < 1920) := by simp only [PyData.showable]
  rw [e, decide_eq_true_eq]
  by_cases z : i.natAbs = 0
  · rw [z]; decide
  · rw [Nat.log2_lt z]
    have h1 : i.natAbs < 10 ^ 60 := by
      have : (10 ^ 60 : Int) = ((10 ^ 60 : Nat) : Int) := by decide
      rw [this] at h
      omega
    exact Nat.lt_of_lt_of_le h1 (by decide)
theorem opt_shows {o : Option Int} (h : ∀ i, o = some i → -(10 ^ 60) < i ∧ i < 10 ^ 60) : (optI o).showable = true := by
  cases o with
  | none => simp only [optI, PyData.showable]
  | some i => exact int_shows (h i rfl)
theorem opt_flat (o : Option Int) : (optI o).hasDict = false ∧ (optI o).depth = 0 ∧ lenD (optI o) ≤ 1921 := by
  cases o <;> simp [optI, PyData.hasDict, PyData.depth, lenD]
theorem three_repr {a b c : Option Int} (ha : ∀ i, a = some i → -(10 ^ 60) < i ∧ i < 10 ^ 60) (hb : ∀ i, b = some i → -(10 ^ 60) < i ∧ i < 10 ^ 60) (hc : ∀ i, c = some i → -(10 ^ 60) < i ∧ i < 10 ^ 60) : ∃ t, reprD (.list [optI a, optI b, optI c]) = some t := by
  obtain ⟨a1, a2, a3⟩ := opt_flat a
  obtain ⟨b1, b2, b3⟩ := opt_flat b
  obtain ⟨c1, c2, c3⟩ := opt_flat c
  refine ⟨_, reprD_ok ?_ ?_ ?_ ?_⟩
  · simp only [PyData.showable, PyData.showableAll, opt_shows ha, opt_shows hb, opt_shows hc, Bool.and_self]
  · simp only [PyData.hasDict, PyData.hasDictAll, a1, b1, c1, Bool.or_self]
  · simp [PyData.depth, PyData.depthAll, a2, b2, c2]
  · simp only [lenD, lenDs]
    exact Nat.le_trans (m := 10000) (by omega) (by decide)
theorem met_repr (ts : List Int) (x y : Int) : ∃ t, reprD (metD ts x y) = some t := by
  have hn : ∃ t, reprD (.str "near") = some t := ⟨_, reprD_ok (by simp [PyData.showable]) (by simp [PyData.hasDict]) (by simp [PyData.depth]) (by simp only [lenD]; decide +kernel)⟩
  have hf : ∃ t, reprD (.str "far") = some t := ⟨_, reprD_ok (by simp [PyData.showable]) (by simp [PyData.hasDict]) (by simp [PyData.depth]) (by simp only [lenD]; decide +kernel)⟩
  have ha : ∃ t, reprD (.str "at") = some t := ⟨_, reprD_ok (by simp [PyData.showable]) (by simp [PyData.hasDict]) (by simp [PyData.depth]) (by simp only [lenD]; decide +kernel)⟩
  have hN : ∃ t, reprD .none = some t := ⟨_, reprD_ok (by simp [PyData.showable]) (by simp [PyData.hasDict]) (by simp [PyData.depth]) (by simp only [lenD]; decide +kernel)⟩
  unfold metD
  split
  · exact hN
  · unfold caseI
    split
    · exact hf
    · split
      · exact hn
      · split
        · exact ha
        · split
          · exact hn
          · exact hf
theorem right_ok {ts : List Int} {by' low high : Int} (h : ts.Pairwise (· < ·)) (hl : ts.length ≤ 1000) (ht : ∀ t ∈ ts, low ≤ t ∧ t ≤ high) (hb : -(10 ^ 59) < by' ∧ by' < 10 ^ 59) (h0 : -2000 ≤ low ∧ low ≤ 2000) (h1 : -2000 ≤ high ∧ high ≤ 2000) (hn : high - low < 980) :
    F__law_are_right [.d (.tuple (zis ts)), .d (.int by'), .d (.int low), .d (.int high)] μ = .ok (.d (.bool true)) μ := by
  have hlate : ∀ env : Ev, env.length = 11 → env[1]? = some (some (.w (.d (.int by')))) → lcL (b_n 10) tY (e_op addW (e_v 10) (e_v 1)) (zis ts) [] env μ = .ok (zis (ts.map (· + by'))) μ := by
    intro env hl2 he
    rw [lc_map (p := fun _ => true) (h := fun d => match d with | .int t => .int (t + by') | d => d) _ [] (fun d hd => ?_) (by rw [List.length_map]; exact Nat.le_trans (m := 1000) (by simpa using hl) (by decide))]
    · have e : (zis ts).filter (fun _ => true) = zis ts := List.filter_eq_self.mpr fun _ _ => rfl
      rw [e, List.nil_append]
      simp only [zis, List.map_map]
      rfl
    · obtain ⟨t, _, rfl⟩ := List.mem_map.mp hd
      refine ⟨env.set 10 (some (.w (.d (.int t)))), rfl, rfl, fun _ => ?_⟩
      have e10 : (env.set 10 (some (Sl.w (W.d (PyData.int t)))))[10]? = some (some (.w (.d (.int t)))) := by rw [List.getElem?_set_self (by omega)]
      have e1 : (env.set 10 (some (Sl.w (W.d (PyData.int t)))))[1]? = some (some (.w (.d (.int by')))) := by rw [List.getElem?_set_ne (by decide)]; exact he
      simp only [q_op, q_v, e10, e1, q_getS, q_bind, o_add]
  have hup := shift_up by' h
  have hll : (ts.map (· + by')).length ≤ 1000 := by simpa using hl
  have hmany : ∀ x, ((many ts x : Nat) : Int) ≤ 1000 := fun x => by
    have : many ts x ≤ ts.length := List.length_filter_le _ _
    omega
  unfold F__law_are_right g__law_are_right
  simp only [q_bind, q_bindx, q_st, q_stx, q_c, q_v, q_getS, q_op, q_un, q_tv, q_asB, q_tand, q_tor, q_tnot, q_if, q_and, q_or, q_not, q_tY, q_anil, q_acons, q_lst, q_tup, q_fn, q_sl, q_pnone, q_psome, q_asI, q_lc, q_ls, q_lr, q_le, q_seqL, q_seqT, q_enumL, q_enumT, q_r1, q_r2, q_nil, q_seq, q_nx, q_rt, q_bk, q_ct, q_xc, q_run, q_onx, q_ort, q_oxc, q_set, q_ret, q_ex, q_pass, q_break, q_cont, q_sif, q_par, q_par2, q_parO, q_frz, q_frzK, q_app, q_appG, q_appK, q_own, q_asg, q_put, q_for, q_forKL, q_forKT, q_forR, q_forl, q_fornil, q_lnx, q_lct, q_lbk, q_lrt, q_wnx, q_wct, q_wbk, q_wrt, startE, List.map_cons, List.map_nil, List.length_cons, List.length_nil, Nat.reduceAdd, Nat.reduceSub, List.replicate_succ, List.replicate_zero, List.cons_append, List.nil_append, List.append_nil, List.getElem?_cons_succ, List.getElem?_cons_zero, List.set_cons_succ, List.set_cons_zero, wipeE, o_add, o_sub, o_neg, o_lt, o_le, o_gt, o_ge, o_int, o_intb, o_lenL, o_lenT, o_is, o_isnot, o_eqi, o_nei, o_eqs, o_nes, o_tupL, o_mkL0, o_mkT0, o_mkL1, o_mkT1, o_mkL2, o_mkT2, o_mkL3, o_mkT3, o_mkL4, o_mkT4, o_mkL5, o_mkT5, o_mkL6, o_mkT6, o_mulr, o_mull, o_mulm, o_mod, o_fdiv, o_pow, and_self, true_and, and_true]
  rw [hlate _ rfl rfl]
  simp only [q_bind, q_bindx, q_st, q_stx, q_c, q_v, q_getS, q_op, q_un, q_tv, q_asB, q_tand, q_tor, q_tnot, q_if, q_and, q_or, q_not, q_tY, q_anil, q_acons, q_lst, q_tup, q_fn, q_sl, q_pnone, q_psome, q_asI, q_lc, q_ls, q_lr, q_le, q_seqL, q_seqT, q_enumL, q_enumT, q_r1, q_r2, q_nil, q_seq, q_nx, q_rt, q_bk, q_ct, q_xc, q_run, q_onx, q_ort, q_oxc, q_set, q_ret, q_ex, q_pass, q_break, q_cont, q_sif, q_par, q_par2, q_parO, q_frz, q_frzK, q_app, q_appG, q_appK, q_own, q_asg, q_put, q_for, q_forKL, q_forKT, q_forR, q_forl, q_fornil, q_lnx, q_lct, q_lbk, q_lrt, q_wnx, q_wct, q_wbk, q_wrt, startE, List.map_cons, List.map_nil, List.length_cons, List.length_nil, Nat.reduceAdd, Nat.reduceSub, List.replicate_succ, List.replicate_zero, List.cons_append, List.nil_append, List.append_nil, List.getElem?_cons_succ, List.getElem?_cons_zero, List.set_cons_succ, List.set_cons_zero, wipeE, o_add, o_sub, o_neg, o_lt, o_le, o_gt, o_ge, o_int, o_intb, o_lenL, o_lenT, o_is, o_isnot, o_eqi, o_nei, o_eqs, o_nes, o_tupL, o_mkL0, o_mkT0, o_mkL1, o_mkT1, o_mkL2, o_mkT2, o_mkL3, o_mkT3, o_mkL4, o_mkT4, o_mkL5, o_mkT5, o_mkL6, o_mkT6, o_mulr, o_mull, o_mulm, o_mod, o_fdiv, o_pow, and_self, true_and, and_true, o_r2 (a := low) (b := high + 1) (by omega)]
  generalize hbody : (s_seq (s_set 5 (e_op addW (e_v 5) (e_fn intW (a_cons (e_op (inW false) (e_v 6) (e_v 0)) a_nil)))) _) = body
  have hs := for_inv (b := b_n 6) (g := body)
    (fun i env μ' => μ' = μ ∧ ∃ a b c d e, env = [some (.w (.d (.tuple (zis ts)))), some (.w (.d (.int by'))), some (.w (.d (.int low))), some (.w (.d (.int high))), some (.w (.d (.tuple (zis (ts.map (· + by')))))), some (.w (.d (.int (many ts (low + (i : Nat) - 1))))), a, b, c, d, e])
    (rangeD low (high + 1)) 0 [some (.w (.d (.tuple (zis ts)))), some (.w (.d (.int by'))), some (.w (.d (.int low))), some (.w (.d (.int high))), some (.w (.d (.tuple (zis (ts.map (· + by')))))), some (.w (.d (.int 0))), none, none, none, none, none] μ
  obtain ⟨env', μ', hL, rfl, a, b, c, d, e, rfl⟩ := hs (by
    rintro i x env μ' hi ⟨rfl, a, b, c, d, e, rfl⟩
    have hi1 : i < (high + 1 - low).toNat := by rw [← rangeD_len]; exact (List.getElem?_eq_some_iff.mp hi).1
    rw [rangeD_get hi1] at hi
    cases hi
    generalize hat : low + (i : Int) = at'
    have ha1 : low ≤ at' ∧ at' ≤ high := by omega
    rw [show low + ((0 + i : Nat) : Int) - 1 = at' - 1 by omega, show low + ((0 + i + 1 : Nat) : Int) - 1 = at' by omega]
    obtain ⟨tx, htx⟩ := three_repr (a := some ((many ts at' : Nat) : Int)) (b := (above ts at').map fun t => t - at' - 1) (c := (above ts at').map (· + by'))
      (fun i e => by have := hmany at'; cases e; omega)
      (fun i e => by
        cases ea : above ts at' with
        | none => rw [ea] at e; cases e
        | some t =>
          rw [ea] at e
          simp only [Option.map_some, Option.some.injEq] at e
          subst e
          have := ht t (above_some h ea).1
          have := (above_some h ea).2.1
          omega)
      (fun i e => by
        cases ea : above ts at' with
        | none => rw [ea] at e; cases e
        | some t =>
          rw [ea] at e
          simp only [Option.map_some, Option.some.injEq] at e
          subst e
          have := ht t (above_some h ea).1
          omega)
    have hroom : roomD (ts.map (· + by')) (at' + by') = optI ((above ts at').map fun t => t - at' - 1) := by
      unfold roomD
      rw [shift_above, Option.map_map]
      congr 2
      funext t
      simp only [Function.comp]
      omega
    have hstep : ((many ts (at' - 1) : Nat) : Int) + (if decide (at' ∈ ts) = true then 1 else 0) = (many ts at' : Nat) := by
      rw [many_step h at']
      by_cases c : at' ∈ ts <;> simp [c]
    have hc0 : ∀ μ, F_case_of [.d (.tuple (zis (ts.map (· + by')))), .d (.int (at' + by')), .d .none] μ = .ok (.d (.str "far")) μ := fun μ => case_ok (y := none) hup (by intro z h; cases h)
    have hcm : ∀ y μ, F_case_of [.d (.tuple (zis (ts.map (· + by')))), .d (.int (at' + by')), .d (.int (y + by'))] μ = .ok (.d (metD ts at' y)) μ := by
      intro y μ
      unfold metD
      by_cases c : y ≤ at'
      · rw [if_pos c]
        exact case_no hup (by omega)
      · rw [if_neg c]
        have q := case_ok (μ := μ) (y := some (y + by')) (x := at' + by') hup (by intro z h; cases h; omega)
        rw [shift_above, shift_case] at q
        exact q
    have key : ∃ p q r s : Option Sl, body [some (.w (.d (.tuple (zis ts)))), some (.w (.d (.int by'))), some (.w (.d (.int low))), some (.w (.d (.int high))), some (.w (.d (.tuple (zis (ts.map (· + by')))))), some (.w (.d (.int (many ts (at' - 1))))), some (.w (.d (.int at'))), b, c, d, e] μ' =
        .nx [some (.w (.d (.tuple (zis ts)))), some (.w (.d (.int by'))), some (.w (.d (.int low))), some (.w (.d (.int high))), some (.w (.d (.tuple (zis (ts.map (· + by')))))), some (.w (.d (.int (many ts at')))), some (.w (.d (.int at'))), p, q, r, s] μ' := by
      have inner : ∀ (p q r s : Option Sl), ∃ r' : Option Sl, forL (b_n 9) (s_if (t_v (e_op neW (e_fn reprW (a_cons (e_fn F_case_of (a_cons (e_v 4) (a_cons (e_op addW (e_v 6) (e_v 1)) (a_cons (e_op addW (e_v 9) (e_v 1)) a_nil)))) a_nil)) (e_fn reprW (a_cons (e_fn F__law_met (a_cons (e_v 0) (a_cons (e_v 6) (a_cons (e_v 9) a_nil)))) a_nil)))) (s_ret (e_c (.bool false))) s_nil) (rangeD low (high + 1))
          [some (.w (.d (.tuple (zis ts)))), some (.w (.d (.int by'))), some (.w (.d (.int low))), some (.w (.d (.int high))), some (.w (.d (.tuple (zis (ts.map (· + by')))))), some (.w (.d (.int (many ts at')))), some (.w (.d (.int at'))), p, q, r, s] μ' =
          .nx [some (.w (.d (.tuple (zis ts)))), some (.w (.d (.int by'))), some (.w (.d (.int low))), some (.w (.d (.int high))), some (.w (.d (.tuple (zis (ts.map (· + by')))))), some (.w (.d (.int (many ts at')))), some (.w (.d (.int at'))), p, q, r', s] μ' := by
        intro p q r s
        have hs2 := for_inv (b := b_n 9) (g := s_if (t_v (e_op neW (e_fn reprW (a_cons (e_fn F_case_of (a_cons (e_v 4) (a_cons (e_op addW (e_v 6) (e_v 1)) (a_cons (e_op addW (e_v 9) (e_v 1)) a_nil)))) a_nil)) (e_fn reprW (a_cons (e_fn F__law_met (a_cons (e_v 0) (a_cons (e_v 6) (a_cons (e_v 9) a_nil)))) a_nil)))) (s_ret (e_c (.bool false))) s_nil)
          (fun _ env μ2 => μ2 = μ' ∧ ∃ r' : Option Sl, env = [some (.w (.d (.tuple (zis ts)))), some (.w (.d (.int by'))), some (.w (.d (.int low))), some (.w (.d (.int high))), some (.w (.d (.tuple (zis (ts.map (· + by')))))), some (.w (.d (.int (many ts at')))), some (.w (.d (.int at'))), p, q, r', s])
          (rangeD low (high + 1)) 0 [some (.w (.d (.tuple (zis ts)))), some (.w (.d (.int by'))), some (.w (.d (.int low))), some (.w (.d (.int high))), some (.w (.d (.tuple (zis (ts.map (· + by')))))), some (.w (.d (.int (many ts at')))), some (.w (.d (.int at'))), p, q, r, s] μ'
        obtain ⟨e2, m2, hL2, rfl, r', rfl⟩ := hs2 (by
          rintro k x env μ2 hk ⟨rfl, r', rfl⟩
          have hk1 : k < (high + 1 - low).toNat := by rw [← rangeD_len]; exact (List.getElem?_eq_some_iff.mp hk).1
          rw [rangeD_get hk1] at hk
          cases hk
          generalize hy : low + (k : Int) = y
          obtain ⟨tm, htm⟩ := met_repr ts at' y
          refine ⟨_, _, _, rfl, .inl ?_, rfl, some (.w (.d (.int y))), rfl⟩
          simp only [q_bind, q_bindx, q_st, q_stx, q_c, q_v, q_getS, q_op, q_un, q_tv, q_asB, q_tand, q_tor, q_tnot, q_if, q_and, q_or, q_not, q_tY, q_anil, q_acons, q_lst, q_tup, q_fn, q_sl, q_pnone, q_psome, q_asI, q_lc, q_ls, q_lr, q_le, q_seqL, q_seqT, q_enumL, q_enumT, q_r1, q_r2, q_nil, q_seq, q_nx, q_rt, q_bk, q_ct, q_xc, q_run, q_onx, q_ort, q_oxc, q_set, q_ret, q_ex, q_pass, q_break, q_cont, q_sif, q_par, q_par2, q_parO, q_frz, q_frzK, q_app, q_appG, q_appK, q_own, q_asg, q_put, q_for, q_forKL, q_forKT, q_forR, q_forl, q_fornil, q_lnx, q_lct, q_lbk, q_lrt, q_wnx, q_wct, q_wbk, q_wrt, startE, List.map_cons, List.map_nil, List.length_cons, List.length_nil, Nat.reduceAdd, Nat.reduceSub, List.replicate_succ, List.replicate_zero, List.cons_append, List.nil_append, List.append_nil, List.getElem?_cons_succ, List.getElem?_cons_zero, List.set_cons_succ, List.set_cons_zero, wipeE, o_add, o_sub, o_neg, o_lt, o_le, o_gt, o_ge, o_int, o_intb, o_lenL, o_lenT, o_is, o_isnot, o_eqi, o_nei, o_eqs, o_nes, o_tupL, o_mkL0, o_mkT0, o_mkL1, o_mkT1, o_mkL2, o_mkT2, o_mkL3, o_mkT3, o_mkL4, o_mkT4, o_mkL5, o_mkT5, o_mkL6, o_mkT6, o_mulr, o_mull, o_mulm, o_mod, o_fdiv, o_pow, and_self, true_and, and_true, hcm, met_ok h (show -5000 ≤ at' ∧ at' ≤ 5000 by omega) (show -5000 ≤ y ∧ y ≤ 5000 by omega) (show y - at' < 990 by omega), o_repr htm, decide_true, Bool.not_true, Bool.false_eq_true, if_false]) ⟨rfl, r, rfl⟩
        exact ⟨r', hL2⟩
      have hct := fun μ => counted_ok (μ := μ) (at' := at') (far := high) h (fun t hm => (ht t hm).2) (by omega)
      rw [← hbody]
      cases ea : above ts at' with
      | none =>
        rw [ea] at htx hroom
        simp only [Option.map_none, optI] at htx hroom
        obtain ⟨r', hr⟩ := inner (some (.w (.d .none))) (some (.w (.d (.list [.int (many ts at' : Nat), .none, .none])))) d e
        refine ⟨some (.w (.d .none)), some (.w (.d (.list [.int (many ts at' : Nat), .none, .none]))), r', e, ?_⟩
        simp only [q_bind, q_bindx, q_st, q_stx, q_c, q_v, q_getS, q_op, q_un, q_tv, q_asB, q_tand, q_tor, q_tnot, q_if, q_and, q_or, q_not, q_tY, q_anil, q_acons, q_lst, q_tup, q_fn, q_sl, q_pnone, q_psome, q_asI, q_lc, q_ls, q_lr, q_le, q_seqL, q_seqT, q_enumL, q_enumT, q_r1, q_r2, q_nil, q_seq, q_nx, q_rt, q_bk, q_ct, q_xc, q_run, q_onx, q_ort, q_oxc, q_set, q_ret, q_ex, q_pass, q_break, q_cont, q_sif, q_par, q_par2, q_parO, q_frz, q_frzK, q_app, q_appG, q_appK, q_own, q_asg, q_put, q_for, q_forKL, q_forKT, q_forR, q_forl, q_fornil, q_lnx, q_lct, q_lbk, q_lrt, q_wnx, q_wct, q_wbk, q_wrt, startE, List.map_cons, List.map_nil, List.length_cons, List.length_nil, Nat.reduceAdd, Nat.reduceSub, List.replicate_succ, List.replicate_zero, List.cons_append, List.nil_append, List.append_nil, List.getElem?_cons_succ, List.getElem?_cons_zero, List.set_cons_succ, List.set_cons_zero, wipeE, o_add, o_sub, o_neg, o_lt, o_le, o_gt, o_ge, o_int, o_intb, o_lenL, o_lenT, o_is, o_isnot, o_eqi, o_nei, o_eqs, o_nes, o_tupL, o_mkL0, o_mkT0, o_mkL1, o_mkT1, o_mkL2, o_mkT2, o_mkL3, o_mkT3, o_mkL4, o_mkT4, o_mkL5, o_mkT5, o_mkL6, o_mkT6, o_mulr, o_mull, o_mulm, o_mod, o_fdiv, o_pow, and_self, true_and, and_true, o_inT, hstep, hct, gap_ok hup hll, room_ok hup, upper_ok hup, hroom, shift_many, shift_above, ea, roomD, Option.map_none, optI, noneD, if_true, o_repr htx, decide_true, Bool.not_true, Bool.false_eq_true, if_false, hc0, o_r2 (a := low) (b := high + 1) (by omega), hr]
      | some t =>
        rw [ea] at htx hroom
        simp only [Option.map_some, optI] at htx hroom
        obtain ⟨r', hr⟩ := inner (some (.w (.d (.int (t - at' - 1))))) (some (.w (.d (.list [.int (many ts at' : Nat), .int (t - at' - 1), .int (t + by')])))) d e
        refine ⟨some (.w (.d (.int (t - at' - 1)))), some (.w (.d (.list [.int (many ts at' : Nat), .int (t - at' - 1), .int (t + by')]))), r', e, ?_⟩
        have hrt : roomD ts at' = .int (t - at' - 1) := by unfold roomD; rw [ea]; rfl
        simp only [q_bind, q_bindx, q_st, q_stx, q_c, q_v, q_getS, q_op, q_un, q_tv, q_asB, q_tand, q_tor, q_tnot, q_if, q_and, q_or, q_not, q_tY, q_anil, q_acons, q_lst, q_tup, q_fn, q_sl, q_pnone, q_psome, q_asI, q_lc, q_ls, q_lr, q_le, q_seqL, q_seqT, q_enumL, q_enumT, q_r1, q_r2, q_nil, q_seq, q_nx, q_rt, q_bk, q_ct, q_xc, q_run, q_onx, q_ort, q_oxc, q_set, q_ret, q_ex, q_pass, q_break, q_cont, q_sif, q_par, q_par2, q_parO, q_frz, q_frzK, q_app, q_appG, q_appK, q_own, q_asg, q_put, q_for, q_forKL, q_forKT, q_forR, q_forl, q_fornil, q_lnx, q_lct, q_lbk, q_lrt, q_wnx, q_wct, q_wbk, q_wrt, startE, List.map_cons, List.map_nil, List.length_cons, List.length_nil, Nat.reduceAdd, Nat.reduceSub, List.replicate_succ, List.replicate_zero, List.cons_append, List.nil_append, List.append_nil, List.getElem?_cons_succ, List.getElem?_cons_zero, List.set_cons_succ, List.set_cons_zero, wipeE, o_add, o_sub, o_neg, o_lt, o_le, o_gt, o_ge, o_int, o_intb, o_lenL, o_lenT, o_is, o_isnot, o_eqi, o_nei, o_eqs, o_nes, o_tupL, o_mkL0, o_mkT0, o_mkL1, o_mkT1, o_mkL2, o_mkT2, o_mkL3, o_mkT3, o_mkL4, o_mkT4, o_mkL5, o_mkT5, o_mkL6, o_mkT6, o_mulr, o_mull, o_mulm, o_mod, o_fdiv, o_pow, and_self, true_and, and_true, o_inT, hstep, hct, hrt, gap_ok hup hll, room_ok hup, upper_ok hup, hroom, shift_many, shift_above, ea, Option.map_some, optI, noneD, o_repr htx, decide_true, Bool.not_true, Bool.false_eq_true, if_false, show at' + by' + (t - at' - 1) + 1 = t + by' by omega, hc0, o_r2 (a := low) (b := high + 1) (by omega), hr]
    obtain ⟨p, q, r, s, hk⟩ := key
    exact ⟨_, _, μ', rfl, .inl hk, rfl, some (.w (.d (.int at'))), p, q, r, s, rfl⟩) ⟨rfl, none, none, none, none, none, by rw [many_zero (x := low + ((0 : Nat) : Int) - 1) fun t hm => by have := (ht t hm).1; omega]; rfl⟩
  rw [hL]
  rfl
theorem math : ∀ ns : List Int, ns.length ≤ 63 → ∃ μ, F_law [.s ns] [] = .ok (.d (.bool true)) μ := by
  intro ns hns
  obtain ⟨μ1, e1, f1⟩ := feed_ok hns
  obtain ⟨wd, hw, μ2, e2, f2⟩ := pick_ok (μ := μ1) (xs := [.int 1, .int 3, .int 5]) (by simp) (by simp) f1
  obtain ⟨wide, rfl, hw1⟩ : ∃ wide : Int, wd = .int wide ∧ 0 < wide ∧ wide ≤ 100 := by
    simp only [List.mem_cons, List.not_mem_nil, or_false] at hw
    rcases hw with rfl | rfl | rfl
    · exact ⟨1, rfl, by decide⟩
    · exact ⟨3, rfl, by decide⟩
    · exact ⟨5, rfl, by decide⟩
  obtain ⟨ts, μ3, e3, f3, T⟩ := tops_ok (μ := μ2) (most := 4) (wide := wide) (by decide) (by decide) hw1.1 hw1.2 f2
  obtain ⟨bd, hb, μ4, e4, f4⟩ := pick_ok (μ := μ3) (xs := [.int 0, .int 0, .int (-7), .int (10 ^ Int.toNat 30), .int (-10 ^ Int.toNat 58)]) (by simp) (by simp) f3
  obtain ⟨by', rfl, hb1⟩ : ∃ by' : Int, bd = .int by' ∧ -(10 ^ 59) < by' ∧ by' < 10 ^ 59 := by
    simp only [List.mem_cons, List.not_mem_nil, or_false] at hb
    rcases hb with rfl | rfl | rfl | rfl | rfl
    · exact ⟨_, rfl, by decide⟩
    · exact ⟨_, rfl, by decide⟩
    · exact ⟨_, rfl, by decide⟩
    · exact ⟨_, rfl, by decide⟩
    · exact ⟨_, rfl, by decide⟩
  have few : ts.length ≤ 1000 := by have := T.few; omega
  have hr0 : F__law_are_right [.d (.tuple []), .d (.int by'), .d (.int (-2)), .d (.int 2)] μ4 = .ok (.d (.bool true)) μ4 :=
    right_ok (ts := []) .nil (by simp) (by simp) hb1 (by decide) (by decide) (by decide)
  refine ⟨μ4, ?_⟩
  unfold F_law g_law
  by_cases h : ts = []
  · subst h
    have hr1 : F__law_are_right [.d (.tuple []), .d (.int by'), .d (.int (-4)), .d (.int 4)] μ4 = .ok (.d (.bool true)) μ4 :=
      right_ok (ts := []) .nil (by simp) (by simp) hb1 (by decide) (by decide) (by decide)
    have hq : ∀ μ, neW (.d (.tuple [])) (.d (.tuple [])) μ = .ok (.d (.bool false)) μ := fun μ => by simpa using o_neT (μ := μ) (xs := []) (ys := [])
    simp (config := { decide := true }) only [q_bind, q_bindx, q_st, q_stx, q_c, q_v, q_getS, q_op, q_un, q_tv, q_asB, q_tand, q_tor, q_tnot, q_if, q_and, q_or, q_not, q_tY, q_anil, q_acons, q_lst, q_tup, q_fn, q_sl, q_pnone, q_psome, q_asI, q_lc, q_ls, q_lr, q_le, q_seqL, q_seqT, q_enumL, q_enumT, q_r1, q_r2, q_nil, q_seq, q_nx, q_rt, q_bk, q_ct, q_xc, q_run, q_onx, q_ort, q_oxc, q_set, q_ret, q_ex, q_pass, q_break, q_cont, q_sif, q_par, q_par2, q_parO, q_frz, q_frzK, q_app, q_appG, q_appK, q_own, q_asg, q_put, q_for, q_forKL, q_forKT, q_forR, q_forl, q_fornil, q_lnx, q_lct, q_lbk, q_lrt, q_wnx, q_wct, q_wbk, q_wrt, startE, List.map_cons, List.map_nil, List.length_cons, List.length_nil, Nat.reduceAdd, Nat.reduceSub, List.replicate_succ, List.replicate_zero, List.cons_append, List.nil_append, List.append_nil, List.getElem?_cons_succ, List.getElem?_cons_zero, List.set_cons_succ, List.set_cons_zero, wipeE, o_add, o_sub, o_neg, o_lt, o_le, o_gt, o_ge, o_int, o_intb, o_lenL, o_lenT, o_is, o_isnot, o_eqi, o_nei, o_eqs, o_nes, o_tupL, o_mkL0, o_mkT0, o_mkL1, o_mkT1, o_mkL2, o_mkT2, o_mkL3, o_mkT3, o_mkL4, o_mkT4, o_mkL5, o_mkT5, o_mkL6, o_mkT6, o_mulr, o_mull, o_mulm, o_mod, o_fdiv, o_pow, and_self, true_and, and_true, e1, e2, e3, e4, List.map_nil, hq, Bool.false_eq_true, if_false, if_true,
      q_asgK (b := b_tup 2 (b_cons (b_n 4) (b_cons (b_n 5) b_nil))) (d := .tuple [.int (-4), .int 4]) rfl, hr0, hr1]
  · obtain ⟨t0, us, rfl⟩ : ∃ t0 us, ts = t0 :: us := by cases ts with | nil => exact absurd rfl h | cons a b => exact ⟨a, b, rfl⟩
    have hx0 : atI (zis (t0 :: us)) 0 = some (.int t0) := atI_nat (by decide) rfl
    have hx1 : atI (zis (t0 :: us)) (-1) = some (.int ((t0 :: us).getLast h)) := by
      rw [atI_last (by simp), List.getLast_map]
    have b0 := up_head T.up
    have b1 := up_last T.up h
    have l0 := T.lo t0 (by simp)
    have l1 := T.hi _ (List.getLast_mem h)
    have l2 := b0 _ (List.getLast_mem h)
    generalize (t0 :: us).getLast h = la at hx1 b1 l1 l2
    have hr1 : F__law_are_right [.d (.tuple (zis (t0 :: us))), .d (.int by'), .d (.int (t0 - 3)), .d (.int (la + 3))] μ4 = .ok (.d (.bool true)) μ4 :=
      right_ok T.up few (fun t ht => by have := b0 t ht; have := b1 t ht; omega) hb1 (by omega) (by omega) (by omega)
    generalize hz : zis (t0 :: us) = z at *
    have hq : ∀ μ, neW (.d (.tuple z)) (.d (.tuple [])) μ = .ok (.d (.bool true)) μ := fun μ => by rw [← hz]; simpa using o_neT0 (μ := μ) (xs := t0 :: us)
    simp (config := { decide := true }) only [q_bind, q_bindx, q_st, q_stx, q_c, q_v, q_getS, q_op, q_un, q_tv, q_asB, q_tand, q_tor, q_tnot, q_if, q_and, q_or, q_not, q_tY, q_anil, q_acons, q_lst, q_tup, q_fn, q_sl, q_pnone, q_psome, q_asI, q_lc, q_ls, q_lr, q_le, q_seqL, q_seqT, q_enumL, q_enumT, q_r1, q_r2, q_nil, q_seq, q_nx, q_rt, q_bk, q_ct, q_xc, q_run, q_onx, q_ort, q_oxc, q_set, q_ret, q_ex, q_pass, q_break, q_cont, q_sif, q_par, q_par2, q_parO, q_frz, q_frzK, q_app, q_appG, q_appK, q_own, q_asg, q_put, q_for, q_forKL, q_forKT, q_forR, q_forl, q_fornil, q_lnx, q_lct, q_lbk, q_lrt, q_wnx, q_wct, q_wbk, q_wrt, startE, List.map_cons, List.map_nil, List.length_cons, List.length_nil, Nat.reduceAdd, Nat.reduceSub, List.replicate_succ, List.replicate_zero, List.cons_append, List.nil_append, List.append_nil, List.getElem?_cons_succ, List.getElem?_cons_zero, List.set_cons_succ, List.set_cons_zero, wipeE, o_add, o_sub, o_neg, o_lt, o_le, o_gt, o_ge, o_int, o_intb, o_lenL, o_lenT, o_is, o_isnot, o_eqi, o_nei, o_eqs, o_nes, o_tupL, o_mkL0, o_mkT0, o_mkL1, o_mkT1, o_mkL2, o_mkT2, o_mkL3, o_mkT3, o_mkL4, o_mkT4, o_mkL5, o_mkT5, o_mkL6, o_mkT6, o_mulr, o_mull, o_mulm, o_mod, o_fdiv, o_pow, and_self, true_and, and_true, e1, e2, e3, e4, hq, Bool.false_eq_true, if_false, if_true, o_ix (x := .tuple z) rfl hx0, o_ix (x := .tuple z) rfl hx1,
      q_asgK (b := b_tup 2 (b_cons (b_n 4) (b_cons (b_n 5) b_nil))) (d := .tuple [.int (t0 - 3), .int (la + 3)]) rfl, hr0, hr1]
end
end K17

namespace K17
open PySem PySem.Spec PyProof.Rows L2 Zed
theorem walk {l : PySem.W.OpenLaw} {q : Program} {loose : List Str} {XP : (Str → Option Value) → Heap → Prop} {YP : World → Heap → Prop} {d : DefRec} {K : Params → PySem.W.Frag} (math : ∀ ns : List Int, ns.length ≤ 63 → ∃ μ, F_law [.s ns] [] = .ok (.d (.bool true)) μ)
    (hn : l.most = some 63) (hdf : d.params.defaults = []) (hY : ∀ (w : World) (h : Heap), YP w h → (K w.params).In h)
    (F : ∀ (w : World) (mg : Str → Option Value) (fa : Addr) (h : Heap), (K w.params).In h → h.Ns mainGlobals mg → mg d.name = some (.ref fa) → ∃ fd : FuncData, (∀ (s : Shared) (u : Value), BindsTo s fd ⟨[u], []⟩ [("script", u)]) ∧
      ∀ base : Heap, (K w.params).In base → base.Ns mainGlobals mg → FnG l.prog w (K w.params) mg base 7 fa fd ["script"] (spZ (fun _ => none) F_law 1 (K w.params))) :
    PySem.W.WalkO q loose XP YP l.row.toRowW d [] (fun f vs => PySem.call f vs) :=
  walkG_of (n := 63) (k := 7) (x := "script") (sp := spZ (fun _ => none) F_law 1) hn (by decide) hdf ⟨rfl, by decide, by decide⟩ hY F fun K H a ns hl hO hS => law_end F_law (math ns hl) hO hS
end K17
open PySem PySem.W PyProof.Rows
set_option maxRecDepth 100000 in
set_option maxHeartbeats 0 in
theorem PySem.Challenge.cw_endclimbs_k17_whole_rooms_by_counting_holds : PySem.Challenge.rw_endclimbs_k17_whole_rooms_by_counting.Holds := by
  w_on; o_law; k_head; (case hw => w_witness2)
  k_fill
  refine K17.walk (l := PySem.Challenge.rw_endclimbs_k17_whole_rooms_by_counting) K17.math rfl rfl (fun w h Y => PySem.W.kIn_of Y) ?F
  case F =>
    intro w mg fa h KX G hmg
    refine' K17.all_mk KX G hmg ?a0 ?l0 ?c0 ?k0 ?a1 ?l1 ?c1 ?k1 ?a2 ?l2 ?c2 ?k2 ?a3 ?l3 ?c3 ?k3 ?a4 ?l4 ?c4 ?k4 ?a5 ?l5 ?c5 ?k5 ?a6 ?l6 ?c6 ?k6 ?a7 ?l7 ?c7 ?k7 ?a8 ?l8 ?c8 ?k8 ?a9 ?l9 ?c9 ?k9 ?a10 ?l10 ?c10 ?k10 ?a11 ?l11 ?c11 ?k11 ?a12 ?l12 ?c12 ?k12 ?a13 ?l13 ?c13 ?k13 ?a14 ?l14 ?c14 ?k14 ?a15 ?l15 ?c15 ?k15 ?a16 ?l16 ?c16 ?k16 ?a17 ?l17 ?c17 ?k17 ?a18 ?l18 ?c18 ?k18 ?a19 ?l19 ?c19 ?k19 ?a20 ?l20 ?c20 ?k20 ?z0 ?z1 ?z2 ?z3 ?z4 ?z5 ?z6 ?z7 ?q0 ?r0 ?v0 ?w0
    (case a0 => k_is)
    (case l0 => k_is)
    (case c0 => k_is)
    (case k0 => k_is)
    (case a1 => k_is)
    (case l1 => k_is)
    (case c1 => k_is)
    (case k1 => k_is)
    (case a2 => k_is)
    (case l2 => k_is)
    (case c2 => k_is)
    (case k2 => k_is)
    (case a3 => k_is)
    (case l3 => k_is)
    (case c3 => k_is)
    (case k3 => k_is)
    (case a4 => k_is)
    (case l4 => k_is)
    (case c4 => k_is)
    (case k4 => k_is)
    (case a5 => k_is)
    (case l5 => k_is)
    (case c5 => k_is)
    (case k5 => k_is)
    (case a6 => k_is)
    (case l6 => k_is)
    (case c6 => k_is)
    (case k6 => k_is)
    (case a7 => k_is)
    (case l7 => k_is)
    (case c7 => k_is)
    (case k7 => k_is)
    (case a8 => k_is)
    (case l8 => k_is)
    (case c8 => k_is)
    (case k8 => k_is)
    (case a9 => k_is)
    (case l9 => k_is)
    (case c9 => k_is)
    (case k9 => k_is)
    (case a10 => k_is)
    (case l10 => k_is)
    (case c10 => k_is)
    (case k10 => k_is)
    (case a11 => k_is)
    (case l11 => k_is)
    (case c11 => k_is)
    (case k11 => k_is)
    (case a12 => k_is)
    (case l12 => k_is)
    (case c12 => k_is)
    (case k12 => k_is)
    (case a13 => k_is)
    (case l13 => k_is)
    (case c13 => k_is)
    (case k13 => k_is)
    (case a14 => k_is)
    (case l14 => k_is)
    (case c14 => k_is)
    (case k14 => k_is)
    (case a15 => k_is)
    (case l15 => k_is)
    (case c15 => k_is)
    (case k15 => k_is)
    (case a16 => k_is)
    (case l16 => k_is)
    (case c16 => k_is)
    (case k16 => k_is)
    (case a17 => k_is)
    (case l17 => k_is)
    (case c17 => k_is)
    (case k17 => k_is)
    (case a18 => k_is)
    (case l18 => k_is)
    (case c18 => k_is)
    (case k18 => k_is)
    (case a19 => k_is)
    (case l19 => k_is)
    (case c19 => k_is)
    (case k19 => k_is)
    (case a20 => k_is)
    (case l20 => k_is)
    (case c20 => k_is)
    (case k20 => k_is)
    (case z0 => k_is)
    (case z1 => k_is)
    (case z2 => k_is)
    (case z3 => k_is)
    (case z4 => k_is)
    (case z5 => k_is)
    (case z6 => k_is)
    (case z7 => k_is)
    (case q0 => k_is)
    (case r0 => k_is)
    (case v0 => exact (.cons ⟨_, rfl⟩ (.cons ⟨_, rfl⟩ (.cons ⟨_, rfl⟩ .nil))))
    (case w0 => decide)
